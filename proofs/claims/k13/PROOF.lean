import PyProof.Rows.All
import Wide.All
import OpenK.AllK
import Wide.FinOn
import HandS.Base
import HandS.Call
import HandS.List
import HandS.ForMost
import HandS.Flow
import HandS.IsInst
import HandS.Star
import HandS.Steps
import HandS.RaiseMore
import HandS.Walk
import HandS.Text
import HandS.Iter
import HandS.Conv
import HandS.Exc
import HandS.ExcInit
import HandS.FStr
import KE.KExcSuper
import HandS.ExcSuper
import HandS.ExcField
import HandS.ExcIs
import HandS.ExcOwn
import HandS.WordsExc
import HandS.SetFor
import KE.KExcIs
import PyProof.ListStr
import PyProof.StrLawsChain
import PySem.Challenge.RW_stridewell_k13_texts_that_tell_no_guesse
set_option Elab.async false
set_option linter.all false
set_option maxRecDepth 100000
/-! match over tuples: patterns that are written texts, names, `_`, sequences of such -/
namespace SwX
open PySem PySem.Spec PyProof.Rows L2
abbrev TM := V → L2.St → Hp → (Option (List V) → Hp → Prop) → Prop
abbrev TMs := List V → L2.St → Hp → (Option (List V) → Hp → Prop) → Prop
/-- what a pattern captures: the names in order, their values -/
def Capt (ns : List Str) : Option (List V) → Option (List (Str × Value)) → Prop
  | some vs, some bs => bs.map (·.1) = ns ∧ Vals vs (bs.map (·.2))
  | none, none => True
  | _, _ => False
def MP (X : Cx) (pins : List (Addr × Obj)) (σ : L2.St) (ns : List Str) (Q : Option (List V) → Hp → Prop) (r : Option (List (Str × Value))) (s' : Shared) : Prop :=
  ∃ ro H', Inv X pins σ H' s' ∧ Capt ns ro r ∧ Q ro H'
structure PM (X : Cx) (p : Pattern) (ns : List Str) (t : TM) : Prop where
  run : ∀ (pins : List (Addr × Obj)) (s : Shared) (σ : L2.St) (H : Hp) (v : V) (u : Value) (Q : Option (List V) → Hp → Prop), Inv X pins σ H s → RelV v u → t v σ H Q →
    wpAny (model X.prog X.w) X.A (matchPattern p X.env u) (MP X pins σ ns Q) X.xe s
structure PMs (X : Cx) (ps : List Pattern) (ns : List Str) (t : TMs) : Prop where
  run : ∀ (pins : List (Addr × Obj)) (s : Shared) (σ : L2.St) (H : Hp) (vs : List V) (us : List Value) (Q : Option (List V) → Hp → Prop), Inv X pins σ H s → Vals vs us → t vs σ H Q →
    wpAny (model X.prog X.w) X.A (matchEach ps X.env us) (MP X pins σ ns Q) X.xe s
section
variable {X : Cx} {pos : Pos}
def mCap : TM := fun v _ H Q => Q (some [v]) H
def mAny : TM := fun _ _ H Q => Q (some []) H
def mVal (w : V) : TM := fun v _ H Q => scal v w = true ∧ Q (if decide (v = w) = true then some [] else none) H
theorem pm_cap {x : Str} : PM X (.MatchAs none (some x) pos) [x] mCap :=
  ⟨fun _ _ _ H v u _ I r h => wpAny_matchPattern_Capture ⟨some [v], H, I, ⟨rfl, .cons r .nil⟩, h⟩⟩
theorem pm_any : PM X (.MatchAs none none pos) [] mAny :=
  ⟨fun _ _ _ H _ _ _ I _ h => wpAny_matchPattern_Capture ⟨some [], H, I, ⟨rfl, .nil⟩, h⟩⟩
theorem pm_val {e : Expr} {w : V} (he : PE X e (tC w)) : PM X (.MatchValue e pos) [] (mVal w) := by
  refine ⟨fun pins s σ H v u Q I r h => ?_⟩
  obtain ⟨hs, h⟩ := h
  refine wpAny_matchPattern_Value (thn (he.run pins s σ H (fun x H1 => x = w ∧ H1 = H) I ⟨rfl, rfl⟩) fun y s1 ⟨x, H1, I1, r1, ex, eH⟩ => ?_)
  subst ex
  subst eH
  refine thn (op_eq pins s1 σ H1 v x u y (fun z H2 => z = .bl (decide (v = x)) ∧ H2 = H1) I1 r r1 ⟨hs, rfl, rfl⟩) fun z s2 ⟨zv, H2, I2, r2, ez, eH⟩ => ?_
  subst ez
  subst eH
  cases r2
  refine wpAny_truthy_bool ?_
  cases hd : decide (v = x) with
  | true =>
    rw [if_pos rfl]
    rw [hd, if_pos rfl] at h
    exact ⟨some [], H2, I2, ⟨rfl, .nil⟩, h⟩
  | false =>
    rw [if_neg (by decide)]
    rw [hd, if_neg (by decide)] at h
    exact ⟨none, H2, I2, trivial, h⟩
def msNil : TMs := fun vs _ H Q => vs = [] ∧ Q (some []) H
def msCons (t : TM) (u : TMs) : TMs := fun vs σ H Q => ∃ v r, vs = v :: r ∧ t v σ H fun ro H1 => match ro with
  | none => Q none H1
  | some a => u r σ H1 fun ro2 H2 => match ro2 with
    | none => Q none H2
    | some b => Q (some (a ++ b)) H2
theorem pms_nil : PMs X [] [] msNil := by
  refine ⟨fun pins s σ H vs us Q I r h => ?_⟩
  obtain ⟨e, h⟩ := h
  subst e
  cases r
  exact wpAny_matchEach_nil ⟨some [], H, I, ⟨rfl, .nil⟩, h⟩
theorem pms_cons {p : Pattern} {ps : List Pattern} {n1 n2 : List Str} {t : TM} {u : TMs} (h1 : PM X p n1 t) (h2 : PMs X ps n2 u) (hp : p.isStar = false := by rfl) : PMs X (p :: ps) (n1 ++ n2) (msCons t u) := by
  refine ⟨fun pins s σ H vs us Q I r h => ?_⟩
  obtain ⟨v, vr, e, h⟩ := h
  subst e
  cases r with
  | cons r rr =>
    refine wpAny_matchEach_cons (thn (h1.run pins s σ H _ _ _ I r h) fun ra s1 ⟨ro, H1, I1, c1, q1⟩ => ?_) hp
    cases ra with
    | none =>
      cases ro with
      | some _ => exact c1.elim
      | none => exact ⟨none, H1, I1, trivial, q1⟩
    | some bs =>
      cases ro with
      | none => exact c1.elim
      | some a =>
        refine thn (h2.run pins s1 σ H1 _ _ _ I1 rr q1) fun rb s2 ⟨ro2, H2, I2, c2, q2⟩ => ?_
        cases rb with
        | none =>
          cases ro2 with
          | some _ => exact c2.elim
          | none => exact ⟨none, H2, I2, trivial, q2⟩
        | some cs =>
          cases ro2 with
          | none => exact c2.elim
          | some b =>
            refine ⟨some (a ++ b), H2, I2, ⟨?_, ?_⟩, q2⟩
            · rw [List.map_append, c1.1, c2.1]
            · rw [List.map_append]
              exact c1.2.append c2.2
/-- a sequence pattern over a tuple -/
def mSeq (K : PySem.W.Frag) (n : Nat) (t : TMs) : TM := fun v σ H Q => ∃ a xs, v = .ref a ∧ SqT K H a xs ∧ if xs.length = n then t xs σ H Q else Q none H
theorem pm_seq {ps : List Pattern} {ns : List Str} {t : TMs} {n : Nat} (hc : X.calm = true) (h : PMs X ps ns t) (hn : ps.length = n := by rfl) (hstar : ps.findIdx? (·.isStar) = none := by rfl)
    (hwild : (ps.all fun p => p.isWildcard || (p.isStar && p.names.isEmpty)) = false := by rfl) : PM X (.MatchSequence ps pos) ns (mSeq X.K n t) := by
  refine ⟨fun pins s σ H v u Q I r hw => ?_⟩
  obtain ⟨a, xs, e, hx, hw⟩ := hw
  subst e
  obtain rfl : u = Value.ref a := r
  obtain ⟨its, rv, ht, hz⟩ := I.tuple hx
  have hfit : (its.toArray.size : Int) < 2 ^ 63 := by
    have e1 := rv.length
    have e2 : its.toArray.size = its.length := by simp
    have e3 : sizeLine < 2 ^ 62 := by decide
    omega
  by_cases hl : xs.length = n
  · rw [if_pos hl] at hw
    have hsz : its.toArray.size = ps.length := by
      have e1 := rv.length
      have e2 : its.toArray.size = its.length := by simp
      omega
    refine matchSeq_tuple_hit ht hfit hsz ?_ hstar hwild
    rw [← hsz]
    refine unpackItems_tuple (I.ok.hd hc) ht fun h' hx' => ?_
    have I1 : Inv X pins σ H { s with toks := s.toks + 1 + 1, heap := h' } := I.kept (t' := s.toks + 1 + 1) fun b o e => hx' b o (Nat.ne_of_lt (Heap.lt_size e)) e
    exact h.run pins _ σ H xs its.toArray.toList Q I1 (by simpa using rv) hw
  · rw [if_neg hl] at hw
    have hsz : its.toArray.size ≠ ps.length := by
      have e1 := rv.length
      have e2 : its.toArray.size = its.length := by simp
      omega
    refine matchSeq_tuple_miss ht hfit hsz ?_ hstar hwild
    exact ⟨none, H, I.tok _, trivial, hw⟩
/-- the captured values go to their slots, in order -/
def setAll : L2.St → List Nat → List V → L2.St
  | σ, i :: is, v :: vs => setAll (σ.set i (some v)) is vs
  | σ, _, _ => σ
structure SlotOk (X : Cx) (i : Nat) (x : Str) : Prop where
  at_ : X.N[i]? = some x
  loc : Loc X.env.scope x
  fn : X.fn x = true ∨ X.env.scope.names.lookup x = some .local
theorem bind_all {M : Model} {A : Around} {E : Value → Shared → Prop} (hN : X.N.Nodup) {pins : List (Addr × Obj)} {H : Hp} {Q : Unit → Shared → Prop} : ∀ (ns : List Str) (is : List Nat) (bs : List (Str × Value)) (vs : List V) (σ : L2.St) (s : Shared), Paired (SlotOk X) is ns → bs.map (·.1) = ns → Vals vs (bs.map (·.2)) → Inv X pins σ H s →
    (∀ s', Inv X pins (setAll σ is vs) H s' → Q () s') → wpAny M A (assignInOrder (bs.map fun (n, _) => bindName X.env n) (bs.map (·.2))) Q E s
  | ns, is, [], vs, σ, s, hp, en, hv, I, k => by
    cases hv
    have e : setAll σ is [] = σ := by cases is <;> rfl
    rw [e] at k
    exact wpAny_assignInOrder_none (k s I)
  | ns, is, (y, u) :: bs, vs, σ, s, hp, en, hv, I, k => by
    cases hp with
    | nil => cases en
    | cons h1 hr =>
      cases hv with
      | cons r rr =>
        injection en with en1 en2
        have en1 : y = _ := en1
        subst en1
        exact wpAny_assignInOrder_more (wpAny_bindName (store_ok I hN h1.at_ h1.loc r (fun s1 I1 => bind_all hN _ _ bs _ _ s1 hr en2 rr I1 k) h1.fn))
abbrev TCs := V → Ends → L2.St → Hp → Prop
structure PCs (X : Cx) (cs : List MatchCase) (t : TCs) : Prop where
  run : ∀ (first : Bool) (pins : List (Addr × Obj)) (s : Shared) (σ : L2.St) (H : Hp) (v : V) (u : Value) (D : Ends), Inv X pins σ H s → RelV v u → t v D σ H →
    wpAny (model X.prog X.w) X.A (matchCases cs X.env u first) (SP X pins D) X.xe s
def csNil : TCs := fun _ D σ H => D.nx σ H
def csCons (t : TM) (is : List Nat) (b : TS) (r : TCs) : TCs := fun v D σ H => t v σ H fun ro H1 => match ro with
  | none => r v D σ H1
  | some vs => b D (setAll σ is vs) H1
theorem pcs_nil : PCs X [] csNil := ⟨fun _ _ _ σ H _ _ _ I _ h => wpAny_matchCases_nil ⟨σ, H, I, h⟩⟩
theorem pcs_cons {p : Pattern} {ns : List Str} {is : List Nat} {body : List Stmt} {rest : List MatchCase} {t : TM} {b : TS} {r : TCs} (hN : X.N.Nodup) (hp : PM X p ns t) (hs : Paired (SlotOk X) is ns) (hb : PSs X body b) (hr : PCs X rest r) :
    PCs X (⟨p, none, body⟩ :: rest) (csCons t is b r) := by
  refine ⟨fun first pins s σ H v u D I rv h => ?_⟩
  refine wpAny_matchCases_cons (thn (hp.run pins s σ H v u _ I rv h) fun ra s1 ⟨ro, H1, I1, c1, q1⟩ => ?_)
  cases ra with
  | none =>
    cases ro with
    | some _ => exact c1.elim
    | none => exact hr.run false pins s1 σ H1 v u D I1 rv q1
  | some bs =>
    cases ro with
    | none => exact c1.elim
    | some vs => exact bind_all hN ns is bs vs σ s1 hs c1.1 c1.2 I1 fun s2 I2 => hb.run pins s2 _ H1 D I2 q1
def tMatch (te : TE) (tc : TCs) : TS := fun D σ H => te σ H fun v H1 => tc v D σ H1
theorem ps_match {e : Expr} {cs : List MatchCase} {te : TE} {tc : TCs} (he : PE X e te) (hc : PCs X cs tc) : PS X (.Match e cs pos) (tMatch te tc) := by
  refine ⟨fun pins s σ H D I h => ?_⟩
  exact wpAny_Match (thn (he.run pins s σ H _ I h) fun u s1 ⟨v, H1, I1, r1, q1⟩ => hc.run true pins s1 σ H1 v u D I1 r1 q1)
end

/-! ### a method of an object whose class is one of several -/
section
variable {X : Cx}
structure Of (X : Cx) (CX : CXT) (E : XK) (m : Str) (sp : Sp) (C : Addr) : Prop where
  ex : ∃ (f : Addr) (fd : FuncData) (k : Nat) (ps : List Str), Cls X.K C ∧ Meth X.K C m f ∧ FnOk X.prog X.w X.K X.mg X.base CX k f fd ps sp ∧ Room k X.A ∧ Binds X.K fd ps [] ∧ Passes CX X E
def tOneOf {ι : Type} (R : ι → Addr) (m : Str) (sp : ι → Sp) (E : XK) (ta : TE) (t : TA) : TE := fun σ H Q => ta σ H fun x H1 => ∃ a i dx fs, x = .ref a ∧ H1 a = some (.ins (R i) dx fs) ∧ fs.lookup m = none ∧
  t σ H1 fun vs H2 => sp i (x :: vs) H2 Q E
theorem pe_methOf {CX : CXT} {ι : Type} {R : ι → Addr} {E : XK} {m : Str} {sp : ι → Sp} {pos apos : Pos} {e o : Expr} {es : List Expr} {ta : TE} {t : TA} {pl : Sem Bool} (hR : ∀ i, Of X CX E m (sp i) (R i)) (he : PE X o ta) (ha : PA X (e :: es) t)
    (hst : starEach (e :: es) X.env = (false, eval e X.env) :: starEach es X.env := by rfl) (hpl : (backTo pos (starEach es X.env)).any (·.1) = false := by rfl)
    (ht : eval (.Call (.Attribute o m apos) (e :: es) [] pos) X.env = (do
      let ov ← eval o X.env
      standAt apos.atName
      let (f, first) ← holding [ov] (getMethod ov m pl)
      callWith pos f first (backTo pos (starEach (e :: es) X.env)) (backToKw pos (keywordEach [] X.env))) := by rfl) :
    PE X (.Call (.Attribute o m apos) (e :: es) [] pos) (tOneOf R m sp E ta t) := by
  refine ⟨fun pins s σ H Q I h => ?_⟩
  refine PySem.W.methodCall_KW (pl := pl) (thn (he.run pins s σ H _ I h) fun u s1 ⟨x, H1, I1, rx, a, i, dx, fs, ex, ea, l, q⟩ => ?_) ht
  subst ex
  obtain rfl : u = Value.ref a := rx
  obtain ⟨f, fd, k, ps, c, hm, F, hr, hb, hx⟩ := (hR i).ex
  refine getmeth_ok I1 ea c hm l ?_
  refine PySem.W.callWith_K (first := [.ref a]) (h₀ := X.base) I.ok.mod.kin hm.kp (thn (ha.run pos pins s1 σ H1 _ I1 q) fun us s2 ⟨vs, H2, I2, r, q2⟩ => ⟨I2.kIn, ?_⟩) hst hpl
  exact run_fn (us := .ref a :: us) (vs := .ref a :: vs) (dvs := []) F hr hb .nil hx I2 (.cons rfl r) (by rw [List.append_nil]; exact q2)
end
/-! ### C() of a class whose __init__ is object's -/
section
variable {X : Cx}
def tMakeN (C : Addr) : TE := fun _ H Q => ∀ x dx, H x = none → H dx = none → dx ≠ x → Q (.ref x) (upd (upd H dx (.own x)) x (.ins C dx []))
structure MkN (K : PySem.W.Frag) (C : Addr) : Prop where
  makes : PySem.W.makesIn K C = true
  init : PySem.W.findIn K (.ref C) "__init__" = some (some (.builtin "object.__init__"))
  kp : PySem.W.keepIn K (.ref C) = true
theorem pe_makeN {C : Addr} {x : Str} {p pos : Pos} (M : MkN X.K C) (hg : Gl X x) (hm : X.mg x = some (.ref C)) (hdb : (x == ("__debug__" : Str)) = false := by decide) : PE X (.Call (.Name x p) [] [] pos) (tMakeN C) := by
  refine ⟨fun pins s σ H Q I h => ?_⟩
  refine wpAny_Call_Name_kw (ld_glob I hg hm ?_ hdb)
  refine PySem.W.callWith_K0 I.kIn M.kp (wpAny_call ?_)
  have hq := h (s.heap.objs.size + 1) s.heap.objs.size (I.hok.fresh (Nat.le_succ _)) (I.hok.fresh (Nat.le_refl _)) (Nat.ne_of_lt (Nat.lt_succ_self _))
  have I2 := Inv.made (C := C) I
  have Y := PySem.W.makes_of (M := model X.prog X.w) I.kIn M.makes
  refine make_map0 I.kIn M.makes M.init (fun self => PySem.W.Looks.of_pure (PySem.W.oi_bind self)) ?_
  have e2 : ((s.heap.push PySem.W.emptyDict).push (PySem.W.instObj C s.heap.objs.size)).get? (s.heap.objs.size + 1) = some (PySem.W.instObj C s.heap.objs.size) := by
    have := Heap.get?_push_size (s.heap.push PySem.W.emptyDict) (o := PySem.W.instObj C s.heap.objs.size) rfl
    rwa [Heap.size_push] at this
  have t1 : PySem.W.Looks (model X.prog X.w) ((s.heap.push PySem.W.emptyDict).push (PySem.W.instObj C s.heap.objs.size)) (typeOf (.ref (s.heap.objs.size + 1))) (.ref C) := (PySem.W.Looks.ld e2).andThen .now
  have t2 : PySem.W.Looks (model X.prog X.w) ((s.heap.push PySem.W.emptyDict).push (PySem.W.instObj C s.heap.objs.size)) (isInstance (.ref (s.heap.objs.size + 1)) (.type "object")) true := t1.andThen (Y.top.keeps fun b o e => Heap.get?_push_of_some _ (Heap.get?_push_of_some _ e))
  refine codeAny_call_builtin PySem.W.oi_plain PySem.W.entry_oi (@PySem.W.check_slot (model X.prog X.w) _ _ _ "object.__init__" "object" "__init__" (.ref (s.heap.objs.size + 1)) [] [] _ PySem.W.oi_kind PySem.W.oi_split t2 (PySem.W.oi_args (.ref (s.heap.objs.size + 1))) ?_)
  rw [PySem.W.oi_run]
  exact wpAny_pure (And.intro rfl ⟨V.ref (s.heap.objs.size + 1), _, I2, rfl, hq⟩)
end
end SwX
set_option Elab.async false
set_option linter.all false
set_option maxRecDepth 100000
set_option maxHeartbeats 2000000
namespace SwX
open PySem PySem.Spec PyProof.Rows L2 StX
/-! ### the readings' short names -/
abbrev rAddI : R2 := rI0 fun i j => .int (i + j)
abbrev rSubI : R2 := rI0 fun i j => .int (i - j)
abbrev rMulI : R2 := rI CMul fun i j => .int (i * j)
abbrev rDivI : R2 := rI CDiv fun i j => .int (i / j)
abbrev rModI : R2 := rI (fun _ j => 0 < j) fun i j => .int (i % j)
abbrev rPowI : R2 := rI CPow fun i j => .int (i ^ j.toNat)
abbrev rLtI : R2 := rI0 fun i j => .bl (decide (i < j))
abbrev rLeI : R2 := rI0 fun i j => .bl (decide (i ≤ j))
abbrev rGtI : R2 := rI0 fun i j => .bl (decide (j < i))
abbrev rGeI : R2 := rI0 fun i j => .bl (decide (j ≤ i))
abbrev rNegI : V → Hp → VK → Prop := rU fun i => .int (-i)
abbrev RCall := List V → Hp → VK → Prop
abbrev rLenQ (K : PySem.W.Frag) : RCall := fun xs H Q => ∃ p ys, xs = [.ref p] ∧ (SqL K H p ys ∨ SqT K H p ys) ∧ Q (.int ys.length) H
abbrev rInt1 : RCall := fun xs H Q => (∃ i, xs = [.int i] ∧ Q (.int i) H) ∨ ∃ k, xs = [.bl k] ∧ Q (.int (if k then 1 else 0)) H
abbrev rListOf (K : PySem.W.Frag) : RCall := fun xs H Q => ∃ p ys, xs = [.ref p] ∧ (SqL K H p ys ∨ SqT K H p ys) ∧ ∀ l, H l = none → Q (.ref l) (upd H l (.lst ys))
abbrev rTupleOf (K : PySem.W.Frag) : RCall := fun xs H Q => ∃ p ys, xs = [.ref p] ∧ ((SqL K H p ys ∧ ∀ l, H l = none → Q (.ref l) (upd H l (.tup ys))) ∨ (SqT K H p ys ∧ Q (.ref p) H))
abbrev rMax2I : RCall := fun xs H Q => ∃ i j, xs = [.int i, .int j] ∧ Q (.int (if j > i then j else i)) H
abbrev rMin2I : RCall := fun xs H Q => ∃ i j, xs = [.int i, .int j] ∧ Q (.int (if j < i then j else i)) H
/-! ### what stays -/
theorem same_upd {H : Hp} {p : Addr} {o : HO} (h : H p = none) : Same H (upd H p o) := fun b u q => by
  rw [upd_ne (ne_of_none q h)]
  exact q
/-- all that was there and is not in M is as it was -/
def Out (M : Addr → Prop) (H H' : Hp) : Prop := ∀ b o, H b = some o → ¬ M b → H' b = some o
theorem same_out {M : Addr → Prop} {H H' : Hp} (e : Same H H') : Out M H H' := fun b o h _ => e b o h
theorem Out.refl {M : Addr → Prop} {H : Hp} : Out M H H := fun _ _ h _ => h
theorem Out.trans {M : Addr → Prop} {H H1 H2 : Hp} (a : Out M H H1) (b : Out M H1 H2) : Out M H H2 := fun c o h m => b c o (a c o h m) m
theorem Out.mono {M M' : Addr → Prop} {H H1 : Hp} (a : Out M H H1) (h : ∀ b, M b → M' b) : Out M' H H1 := fun c o e m => a c o e fun z => m (h c z)
theorem Out.at {M : Addr → Prop} {H H' : Hp} {b : Addr} {o : HO} (a : Out M H H') (h : H b = some o) (m : ¬ M b) : H' b = some o := a b o h m
theorem Out.trans2 {M M' : Addr → Prop} {H H1 H2 : Hp} (a : Out M H H1) (b : Out M' H1 H2) (m : ∀ x, M' x → M x ∨ H x = none) : Out M H H2 := fun c o e z => b c o (a c o e z) fun w => by
  rcases m c w with q | q
  · exact z q
  · rw [e] at q
    cases q
/-- one address alone -/
def Is (a : Addr) : Addr → Prop := fun b => b = a
theorem out_upd {a : Addr} {H : Hp} {o : HO} : Out (Is a) H (upd H a o) := fun b u h m => by
  rw [upd_ne m]
  exact h
theorem rd_out {M : Addr → Prop} {H H' : Hp} {a : Addr} {u : HO} (e : Out M H H') (m : ¬ M a) (h : Rd H a u) : Rd H' a u := by
  rcases h with h | ⟨o, h⟩
  · exact .inl (e _ _ h m)
  · exact .inr ⟨o, e _ _ h m⟩
theorem sql_out {K : PySem.W.Frag} {M : Addr → Prop} {H H' : Hp} {a : Addr} {xs : List V} (e : Out M H H') (m : ¬ M a) (h : SqL K H a xs) : SqL K H' a xs := by
  rcases h with h | h
  · exact .inl (rd_out e m h)
  · exact .inr h
theorem free_back {H H' : Hp} {p : Addr} (e : Same H H') (h : H' p = none) : H p = none := e.free h
theorem out_free {M : Addr → Prop} {H H' : Hp} {p : Addr} (e : Out M H H') (h : H' p = none) (m : ¬ M p) : H p = none := by
  cases q : H p with
  | none => rfl
  | some o =>
    rw [e p o q m] at h
    cases h
/-- what is wanted of a new object -/
def New (Q : VK) (H : Hp) (o : HO) : Prop := ∀ p, H p = none → Q (.ref p) (upd H p o)
/-! ### attributes by name -/
theorem lk_at {k : Str} {v : V} {r : List (Str × V)} : List.lookup k ((k, v) :: r) = some v := by
  have e : (k == k) = true := beq_self_eq_true k
  simp only [List.lookup, e]
theorem lk_by {k g : Str} {v : V} {r : List (Str × V)} {o : Option V} (h : (k == g) = false) (q : List.lookup k r = o) : List.lookup k ((g, v) :: r) = o := by
  simp only [List.lookup, h]
  exact q
theorem lk_no {k : Str} : List.lookup k ([] : List (Str × V)) = none := rfl
theorem pf_at {f : Str} {v x : V} {r : List (Str × V)} : L2.putF f v ((f, x) :: r) = (f, v) :: r := if_pos rfl
theorem pf_by {f g : Str} {v x : V} {r r' : List (Str × V)} (h : ¬ g = f) (q : L2.putF f v r = r') : L2.putF f v ((g, x) :: r) = (g, x) :: r' := (if_neg h).trans (congrArg _ q)
theorem pf_nil {f : Str} {v : V} : L2.putF f v [] = [(f, v)] := rfl
local macro_rules | `(tactic| walk_at "lk") => `(tactic| first | exact lk_at | exact lk_no | ((refine' lk_by (by decide +kernel) ?wq); (case wq => walk_at "lk")))
local macro_rules | `(tactic| walk_at "pf") => `(tactic| first | exact pf_at | exact pf_nil | ((refine' pf_by (by decide +kernel) ?wq); (case wq => walk_at "pf")))
section
variable {K : PySem.W.Frag} {σ : L2.St} {H : Hp} {Q : VK} {D : Ends} {ta tb te : TE} {t u : TS} {v : V} {i : Nat}
/-! ### what is to be shown of a reading, by its head -/
theorem w_var (h : σ[i]? = some (some v)) (k : Q v H) : tVar i σ H Q := ⟨v, h, k⟩
theorem w_c (k : Q v H) : tC v σ H Q := k
theorem w_op {r : R2} (k : ta σ H fun x H1 => tb σ H1 fun y H2 => r x y H2 Q) : tOp r ta tb σ H Q := k
theorem w_un {r : V → Hp → VK → Prop} (k : ta σ H fun x H1 => r x H1 Q) : tUn r ta σ H Q := k
theorem w_i0 {g : Int → Int → V} {a b : Int} (k : Q (g a b) H) : rI0 g (.int a) (.int b) H Q := ⟨a, b, rfl, rfl, k⟩
theorem w_i {C : Int → Int → Prop} {g : Int → Int → V} {a b : Int} (h : C a b) (k : Q (g a b) H) : rI C g (.int a) (.int b) H Q := ⟨a, b, rfl, rfl, h, k⟩
theorem w_neg {g : Int → V} {a : Int} (k : Q (g a) H) : rU g (.int a) H Q := ⟨a, rfl, k⟩
theorem w_eq {x y : V} (h : scal x y = true) (k : Q (.bl (decide (x = y))) H) : rEq x y H Q := ⟨h, k⟩
theorem w_ne {x y : V} (h : scal x y = true) (k : Q (.bl (!decide (x = y))) H) : rNe x y H Q := ⟨h, k⟩
theorem w_tup {t : TA} (k : t σ H fun xs H1 => xs.length ≤ sizeLine ∧ New Q H1 (.tup xs)) : tTup t σ H Q := k
theorem w_lst {t : TA} (k : t σ H fun xs H1 => xs.length ≤ sizeLine ∧ New Q H1 (.lst xs)) : tLst t σ H Q := k
/-- a new object -/
theorem w_new {o : HO} (k : ∀ p H', H p = none → Same H H' → H' p = some o → Q (.ref p) H') : New Q H o := fun p h => k p _ h (same_upd h) upd_same
theorem w_sll {a : Addr} {xs : List V} {lo hi : Option Int} (h : SqL K H a xs) (k : New Q H (.lst (cutV xs lo hi))) : rSlL K (.ref a) lo hi H Q := ⟨a, xs, rfl, h, k⟩
theorem w_listof {a : Addr} {xs : List V} (h : SqL K H a xs) (k : New Q H (.lst xs)) : rListOf K [.ref a] H Q := ⟨a, xs, rfl, .inl h, k⟩
theorem w_cat {a b : Addr} {xs ys : List V} (h : H a = some (.lst xs)) (h' : H b = some (.lst ys)) (z : xs.length + ys.length ≤ sizeLine) (k : New Q H (.lst (xs ++ ys))) : rCat (.ref a) (.ref b) H Q := ⟨a, b, xs, ys, rfl, rfl, h, h', z, k⟩
theorem w_rep {a : Addr} {xs : List V} {n : Int} (h : H a = some (.lst xs)) (h0 : -(2 ^ 63) ≤ n) (h1 : n < 2 ^ 63) (z : xs.length * n.toNat ≤ sizeLine) (k : New Q H (.lst (List.replicate n.toNat xs).flatten)) : rRep (.ref a) (.int n) H Q := ⟨a, n, xs, rfl, rfl, h, h0, h1, z, k⟩
theorem w_nil {Q : List V → Hp → Prop} (k : Q [] H) : tNil σ H Q := k
theorem w_cons {t : TA} {Q : List V → Hp → Prop} (k : ta σ H fun x H1 => t σ H1 fun xs H2 => Q (x :: xs) H2) : tCons ta t σ H Q := k
theorem w_cb {r : RCall} {t : TA} (k : t σ H fun xs H1 => r xs H1 Q) : tCB r t σ H Q := k
theorem w_call {sp : Sp} {dvs : List V} {E : XK} {t : TA} (k : t σ H fun xs H1 => sp (xs ++ dvs) H1 Q E) : tCall sp dvs E t σ H Q := k
theorem w_seq (k : t { D with nx := u D } σ H) : tSeq t u D σ H := k
theorem w_asg {g : TG} (k : te σ H fun x H1 => g x σ H1 D.nx) : tAsg te g D σ H := k
theorem w_name {P : L2.St → Hp → Prop} (k : P (σ.set i (some v)) H) : gName i v σ H P := k
theorem w_ret (k : te σ H D.rt) : tRet te D σ H := k
theorem w_retN (k : D.rt .non H) : tRetN D σ H := k
theorem w_drop (k : te σ H fun _ H1 => D.nx σ H1) : tDrop te D σ H := k
theorem w_next (k : D.nx σ H) : tNext D σ H := k
theorem w_if {c : TT} (k : c σ H fun b H1 => if b = true then t D σ H1 else u D σ H1) : tIfS c t u D σ H := k
theorem w_ifE {c : TT} (k : c σ H fun b H1 => if b = true then ta σ H1 Q else tb σ H1 Q) : tIf c ta tb σ H Q := k
theorem w_test {P : Bool → Hp → Prop} (k : te σ H fun x H1 => ∃ c, x = .bl c ∧ P c H1) : tTest te σ H P := k
theorem w_B {P : Bool → Hp → Prop} (k : te σ H fun x H1 => ∃ c, x = .bl c ∧ P c H1) : tB te σ H P := k
theorem w_bl {c : Bool} {P : Bool → Prop} (k : P c) : ∃ d, V.bl c = .bl d ∧ P d := ⟨c, rfl, k⟩
theorem w_not {c : TT} {P : Bool → Hp → Prop} (k : c σ H fun b H1 => P (!b) H1) : tNot c σ H P := k
theorem w_and {c d : TT} {P : Bool → Hp → Prop} (k : c σ H fun b H1 => if b = true then d σ H1 P else P false H1) : tAnd c d σ H P := k
theorem w_or {c d : TT} {P : Bool → Hp → Prop} (k : c σ H fun b H1 => if b = true then P true H1 else d σ H1 P) : tOr c d σ H P := k
theorem w_andV (k : ta σ H fun x H1 => ∃ c, x = .bl c ∧ if c = true then tb σ H1 Q else Q (.bl false) H1) : tAndV ta tb σ H Q := k
theorem w_orV (k : ta σ H fun x H1 => ∃ c, x = .bl c ∧ if c = true then Q (.bl true) H1 else tb σ H1 Q) : tOrV ta tb σ H Q := k
theorem w_notV (k : ta σ H fun x H1 => ∃ c, x = .bl c ∧ Q (.bl (!c)) H1) : tNotV ta σ H Q := k
theorem w_isN (k : ta σ H fun x H1 => Q (.bl (decide (x = .non))) H1) : tIsN ta σ H Q := k
theorem w_notN (k : ta σ H fun x H1 => Q (.bl (!decide (x = .non))) H1) : tNotN ta σ H Q := k
theorem w_yes {P : Bool → Hp → Prop} (k : P true H) : tYes σ H P := k
theorem w_fld {f : Str} (k : ta σ H fun x H1 => ∃ a C dx fs v, x = .ref a ∧ H1 a = some (.ins C dx fs) ∧ Cls K C ∧ NoAttr K C f ∧ fs.lookup f = some v ∧ Q v H1) : tFld K ta f σ H Q := k
theorem w_fldA {P : V → Prop} {f : Str} {a C dx : Addr} {fs : List (Str × V)} (h : H a = some (.ins C dx fs)) (c : Cls K C) (n : NoAttr K C f) (l : fs.lookup f = some v) (k : P v) :
    ∃ a' C dx fs v, V.ref a = .ref a' ∧ H a' = some (.ins C dx fs) ∧ Cls K C ∧ NoAttr K C f ∧ fs.lookup f = some v ∧ P v := ⟨a, C, dx, fs, v, rfl, h, c, n, l, k⟩
theorem w_sfld {f : Str} (k : tb σ H fun y H1 => ta σ H1 fun x H2 => ∃ a C dx fs, x = .ref a ∧ H2 a = some (.ins C dx fs) ∧ Cls K C ∧ NoAttr K C f ∧ fs.length < 1000 ∧ D.nx σ (upd H2 a (.ins C dx (L2.putF f y fs)))) : sFld K ta tb f D σ H := k
theorem w_sfldA {P : Hp → Prop} {f : Str} {a C dx : Addr} {fs fs' : List (Str × V)} (h : H a = some (.ins C dx fs)) (c : Cls K C) (n : NoAttr K C f) (z : fs.length < 1000) (l : L2.putF f v fs = fs') (k : P (upd H a (.ins C dx fs'))) :
    ∃ a' C dx fs, V.ref a = .ref a' ∧ H a' = some (.ins C dx fs) ∧ Cls K C ∧ NoAttr K C f ∧ fs.length < 1000 ∧ P (upd H a' (.ins C dx (L2.putF f v fs))) := ⟨a, C, dx, fs, rfl, h, c, n, z, by rw [l]; exact k⟩
theorem w_sfldB {P : Hp → Prop} {f : Str} {a C dx : Addr} {fs fs' : List (Str × V)} (c : Cls K C) (n : NoAttr K C f) (z : fs.length < 1000) (l : L2.putF f v fs = fs') (k : P (upd H a (.ins C dx fs'))) :
    ∃ a' C' dx' gs, V.ref a = .ref a' ∧ upd H a (.ins C dx fs) a' = some (.ins C' dx' gs) ∧ Cls K C' ∧ NoAttr K C' f ∧ gs.length < 1000 ∧ P (upd (upd H a (.ins C dx fs)) a' (.ins C' dx' (L2.putF f v gs))) := ⟨a, C, dx, fs, rfl, upd_same, c, n, z, by rw [l, upd_upd]; exact k⟩
theorem w_meth {C : Addr} {m : Str} {sp : Sp} {dvs : List V} {E : XK} {t : TA} (k : ta σ H fun x H1 => ∃ a dx fs, x = .ref a ∧ H1 a = some (.ins C dx fs) ∧ fs.lookup m = none ∧ t σ H1 fun vs H2 => sp (x :: (vs ++ dvs)) H2 Q E) : tMeth C m sp dvs E ta t σ H Q := k
theorem w_methA {P : Prop} {C a dx : Addr} {m : Str} {fs : List (Str × V)} (h : H a = some (.ins C dx fs)) (l : fs.lookup m = none) (k : P) : ∃ a' dx fs, V.ref a = .ref a' ∧ H a' = some (.ins C dx fs) ∧ fs.lookup m = none ∧ P := ⟨a, dx, fs, rfl, h, l, k⟩
theorem w_oneOf {ι : Type} {R : ι → Addr} {m : Str} {sp : ι → Sp} {E : XK} {t : TA} (k : ta σ H fun x H1 => ∃ a i dx fs, x = .ref a ∧ H1 a = some (.ins (R i) dx fs) ∧ fs.lookup m = none ∧ t σ H1 fun vs H2 => sp i (x :: vs) H2 Q E) : tOneOf R m sp E ta t σ H Q := k
theorem w_make {C : Addr} {sp : Sp} {dvs : List V} {E : XK} {t : TA} (k : t σ H fun vs H1 => ∀ x dx, H1 x = none → H1 dx = none → dx ≠ x → sp (.ref x :: (vs ++ dvs)) (upd (upd H1 dx (.own x)) x (.ins C dx [])) (fun v H2 => v = .non ∧ Q (.ref x) H2) E) : tMake C sp dvs E t σ H Q := k
theorem w_dget2 {ty tx : TE} (k : ta σ H fun x H1 => ∃ a, x = .ref a ∧ IsD H1 a ∧ ty σ H1 fun y H2 => tx σ H2 fun z H3 => ∃ o, DGet H3 a y o ∧ Q (o.getD z) H3) : tDGet2 ta ty tx σ H Q := k
theorem w_star {t : TA} {P : List V → Hp → Prop} (k : ta σ H fun x H1 => ∃ p xs, x = V.ref p ∧ (SqT K H1 p xs ∨ SqL K H1 p xs) ∧ t σ H1 fun ys H2 => P (xs ++ ys) H2) : tStar K ta t σ H P := k
theorem w_dput {td ty : TE} (k : tb σ H fun v H1 => td σ H1 fun x H2 => ty σ H2 fun y H3 => ∃ a H4, x = .ref a ∧ DPut H3 a y v H4 ∧ D.nx σ H4) : sDPut td ty tb D σ H := k
theorem w_dnewK (k : New Q H (.dK [])) : tDNewK σ H Q := k
theorem w_match {tc : TCs} (k : te σ H fun v H1 => tc v D σ H1) : tMatch te tc D σ H := k
theorem w_case {tm : TM} {is : List Nat} {b : TS} {r : TCs} (k : tm v σ H fun ro H1 => match ro with | none => r v D σ H1 | some vs => b D (setAll σ is vs) H1) : csCons tm is b r v D σ H := k
theorem w_mhit {n : Nat} {t : TMs} {a : Addr} {xs : List V} {P : Option (List V) → Hp → Prop} (h : SqT K H a xs) (l : xs.length = n) (k : t xs σ H P) : mSeq K n t (.ref a) σ H P := ⟨a, xs, rfl, h, by rw [if_pos l]; exact k⟩
theorem w_mmiss {n : Nat} {t : TMs} {a : Addr} {xs : List V} {P : Option (List V) → Hp → Prop} (h : SqT K H a xs) (l : xs.length ≠ n) (k : P none H) : mSeq K n t (.ref a) σ H P := ⟨a, xs, rfl, h, by rw [if_neg l]; exact k⟩
theorem w_mcons {t : TM} {u : TMs} {r : List V} {P : Option (List V) → Hp → Prop} (k : t v σ H fun ro H1 => match ro with
    | none => P none H1
    | some a => u r σ H1 fun ro2 H2 => match ro2 with
      | none => P none H2
      | some b => P (some (a ++ b)) H2) : msCons t u (v :: r) σ H P := ⟨v, r, rfl, k⟩
theorem w_mnil {P : Option (List V) → Hp → Prop} (k : P (some []) H) : msNil [] σ H P := ⟨rfl, k⟩
theorem w_mcap {P : Option (List V) → Hp → Prop} (k : P (some [v]) H) : mCap v σ H P := k
theorem w_many {P : Option (List V) → Hp → Prop} (k : P (some []) H) : mAny v σ H P := k
theorem w_myes {s : Str} {P : Option (List V) → Hp → Prop} (k : P (some []) H) : mVal (.str s) (.str s) σ H P := ⟨rfl, by rw [decide_eq_true rfl, if_pos rfl]; exact k⟩
theorem w_mno {s r : Str} {P : Option (List V) → Hp → Prop} (h : decide (V.str r = V.str s) = false) (k : P none H) : mVal (.str s) (.str r) σ H P := ⟨rfl, by rw [h, if_neg (by decide)]; exact k⟩
/-! ### lists, tuples -/
theorem w_ixl {a : Addr} {xs : List V} {n : Int} (h : SqL K H a xs) (e : atI xs n = some v) (k : Q v H) : rIxL K (.ref a) (.int n) H Q := ⟨a, xs, n, v, rfl, rfl, h, e, k⟩
theorem w_ixt {a : Addr} {xs : List V} {n : Int} (h : SqT K H a xs) (e : atI xs n = some v) (k : Q v H) : rIxT K (.ref a) (.int n) H Q := ⟨a, xs, n, v, rfl, rfl, h, e, k⟩
theorem w_len {a : Addr} {xs : List V} (h : SqL K H a xs ∨ SqT K H a xs) (k : Q (.int (xs.length : Int)) H) : rLenQ K [.ref a] H Q := ⟨a, xs, rfl, h, k⟩
theorem w_sub {to ti : TE} {ts : TSet} {P : L2.St → Hp → Prop} (k : to σ H fun o H1 => ti σ H1 fun i H2 => ts o i v H2 fun H3 => P σ H3) : gSub to ti ts v σ H P := k
theorem w_setl {a : Addr} {xs ys : List V} {n : Int} {j : Nat} {P : Hp → Prop} (h : H a = some (.lst xs)) (e : ixN xs.length n = some j) (l : xs.set j v = ys) (k : P (upd H a (.lst ys))) : rSetL (.ref a) (.int n) v H P := ⟨a, xs, n, j, rfl, rfl, h, e, by rw [l]; exact k⟩
theorem w_app {a : Addr} {xs : List V} (h : H a = some (.lst xs)) (z : xs.length < sizeLine) (k : Q .non (upd H a (.lst (xs ++ [v])))) : rAppend (.ref a) [v] H Q := ⟨a, xs, v, rfl, rfl, h, z, k⟩
theorem w_bm {T : String} {r : V → List V → Hp → VK → Prop} {t : TA} (k : ta σ H fun x H1 => tyV K T x H1 ∧ t σ H1 fun xs H2 => r x xs H2 Q) : tBM K T r ta t σ H Q := k
theorem w_sl {r : V → Option Int → Option Int → Hp → VK → Prop} {tl th : TO} (k : ta σ H fun x H1 => tl σ H1 fun l H2 => th σ H2 fun u H3 => r x l u H3 Q) : tSl r ta tl th σ H Q := k
theorem w_nopart {P : Option Int → Hp → Prop} (k : P none H) : tNoPart σ H P := k
theorem w_part {P : Option Int → Hp → Prop} (k : te σ H fun x H1 => ∃ i, x = .int i ∧ P (some i) H1) : tPart te σ H P := k
theorem w_int {n : Int} {P : Int → Prop} (k : P n) : ∃ i, V.int n = .int i ∧ P i := ⟨n, rfl, k⟩
theorem w_isi {x : V} {ty' u : Value} {b : Bool} {n : String} (e : u = .type n) (t : TyX K H x ty') (h : PySem.W.kitOne K ty' u = some b) (k : Q (.bl b) H) : rIsi K [x, .ty n] H Q := ⟨x, .ty n, ty', u, b, rfl, by rw [e]; exact .ty n, t, h, k⟩
/-- a test whose answer is known -/
theorem w_ifT {c : Prop} [Decidable c] {A B : Prop} (h : c) (k : A) : if decide c = true then A else B := by
  rw [decide_eq_true h, if_pos rfl]
  exact k
theorem w_ifF {c : Prop} [Decidable c] {A B : Prop} (h : ¬ c) (k : B) : if decide c = true then A else B := by
  rw [decide_eq_false h, if_neg (by decide)]
  exact k
theorem w_if2 {c : Prop} [Decidable c] {A B : Prop} (k1 : c → A) (k2 : ¬ c → B) : if decide c = true then A else B := by
  by_cases h : c
  · exact w_ifT h (k1 h)
  · exact w_ifF h (k2 h)
theorem w_ifn {c : Bool} {A B : Prop} (k : if c = true then B else A) : if (!c) = true then A else B := by
  cases c with
  | true =>
    rw [if_pos rfl] at k
    rw [if_neg (by decide)]
    exact k
  | false =>
    rw [if_neg (by decide)] at k
    rw [if_pos (by decide)]
    exact k
theorem w_ift {A B : Prop} (k : A) : if true = true then A else B := by
  rw [if_pos rfl]
  exact k
theorem w_iff {A B : Prop} (k : B) : if false = true then A else B := by
  rw [if_neg (by decide)]
  exact k
end
theorem inV_int (i : Int) (l : List Int) : inV (.int i) (l.map V.int) = decide (i ∈ l) := by
  unfold inV
  rw [List.any_map]
  have e : ((fun y => eqV y (V.int i)) ∘ V.int) = fun (y : Int) => y == i := by
    funext y
    rfl
  rw [e, Bool.eq_iff_iff, List.any_eq_true, decide_eq_true_iff]
  constructor
  · rintro ⟨y, hy, e⟩
    rw [← eq_of_beq e]
    exact hy
  · intro h
    exact ⟨i, h, beq_self_eq_true i⟩
theorem flat_ints (l : List Int) : (l.map V.int).all flatV = true := by
  rw [List.all_map]
  exact List.all_eq_true.mpr fun _ _ => rfl
theorem w_inl {K : PySem.W.Frag} {H : Hp} {Q : VK} {neg : Bool} {a : Addr} {i : Int} {l : List Int} (h : SqL K H a (l.map V.int)) (k : Q (.bl (if neg then !decide (i ∈ l) else decide (i ∈ l))) H) : rIn K neg (.int i) (.ref a) H Q :=
  ⟨a, _, rfl, .inl h, rfl, flat_ints l, by rw [inV_int]; exact k⟩
theorem w_inT {K : PySem.W.Frag} {H : Hp} {Q : VK} {neg : Bool} {a : Addr} {i : Int} {l : List Int} (h : SqT K H a (l.map V.int)) (k : Q (.bl (if neg then !decide (i ∈ l) else decide (i ∈ l))) H) : rIn K neg (.int i) (.ref a) H Q :=
  ⟨a, _, rfl, .inr h, rfl, flat_ints l, by rw [inV_int]; exact k⟩
theorem w_isiB {K : PySem.W.Frag} {H : Hp} {Q : VK} {x : V} {a b : String} {r : Bool} (t : TyOf K H x (.type a)) (h : kitB a b = some r) (k : Q (.bl r) H) : rIsi K [x, .ty b] H Q := ⟨x, .ty b, .type a, .type b, r, rfl, .ty b, .base t, kit_ty h, k⟩
theorem at_getD {ls : List Int} {n : Int} (h0 : 0 ≤ n) (h1 : n < (ls.length : Int)) : atI (ls.map V.int) n = some (.int (ls.getD n.toNat 0)) := by
  have hj : n.toNat < ls.length := by omega
  have e : n = ((n.toNat : Nat) : Int) := by omega
  have q := atI_nat (xs := ls.map V.int) (j := n.toNat) (v := .int ls[n.toNat]) (by rw [List.getElem?_map, List.getElem?_eq_getElem hj]; rfl)
  rw [← e] at q
  rw [q, List.getD_eq_getElem?_getD, List.getElem?_eq_getElem hj]
  rfl
theorem w_max2 {H : Hp} {Q : VK} {i j : Int} (k : Q (.int (if j > i then j else i)) H) : rMax2I [.int i, .int j] H Q := ⟨i, j, rfl, k⟩
theorem w_isiY {K : PySem.W.Frag} {H : Hp} {Q : VK} {x : V} {a b : String} (t : TyOf K H x (.type a)) (h : kitB a b = some true) (k : Q (.bl true) H) : rIsi K [x, .ty b] H Q := w_isiB t h k
theorem w_isiN {K : PySem.W.Frag} {H : Hp} {Q : VK} {x : V} {a b : String} (t : TyOf K H x (.type a)) (h : kitB a b = some false) (k : Q (.bl false) H) : rIsi K [x, .ty b] H Q := w_isiB t h k
theorem kit_tl1 {K : PySem.W.Frag} : PySem.W.kitAny K (.type "list") [.type "tuple", .type "list"] = some true := by
  unfold PySem.W.kitAny
  rw [kit_ty (show kitB "list" "tuple" = some false by decide +kernel)]
  show PySem.W.kitAny K (.type "list") [.type "list"] = some true
  unfold PySem.W.kitAny
  rw [kit_ty (show kitB "list" "list" = some true by decide +kernel)]
theorem kit_tl2 {K : PySem.W.Frag} : PySem.W.kitAny K (.type "tuple") [.type "tuple", .type "list"] = some true := by
  unfold PySem.W.kitAny
  rw [kit_ty (show kitB "tuple" "tuple" = some true by decide +kernel)]
theorem w_isiTL {K : PySem.W.Frag} {H : Hp} {Q : VK} {x : V} {p : Addr} {t : Value} (hp : H p = some (.tup [.ty "tuple", .ty "list"])) (ty' : TyOf K H x t) (h : PySem.W.kitAny K t [.type "tuple", .type "list"] = some true) (k : Q (.bl true) H) : rIsiT K [x, .ref p] H Q :=
  ⟨x, p, _, t, _, true, rfl, hp, .cons (.ty _) (.cons (.ty _) .nil), .base ty', h, k⟩
theorem small_le {n : Nat} (h : n ≤ 1000000) : n ≤ sizeLine := Nat.le_trans h (by decide)
theorem small_lt {n : Nat} (h : n ≤ 1000000) : n < sizeLine := Nat.lt_of_le_of_lt h (by decide)
/-! ### comprehensions -/
def lcK (J : It) (g : TG) (tt : TT) (te : TE) (vs : List Nat) (σ : L2.St) (H1 : Hp) (Q : VK) : Prop := ∀ D, H1 D = none → ∃ W : Nat → Nat → Hp → Prop, (∃ m, W 0 m (upd H1 D (.lst []))) ∧ ∀ i m H, W i m H →
  (J.stop i H ∧ Q (.ref D) H) ∨ (J.go i H ∧ ∃ Nx : Hp → Prop, (∀ H', Nx H' → ∃ m', m' < m ∧ W (i + 1) m' H') ∧ ∀ x H', J.yld i H x H' → g x (wipe σ vs) H' fun σ2 H2 => wipe σ2 vs = wipe σ vs ∧ tt σ2 H2 fun b H3 =>
    if b = true then te σ2 H3 fun y H4 => ∃ acc, H4 D = some (.lst acc) ∧ acc.length < sizeLine ∧ Nx (upd H4 D (.lst (acc ++ [y]))) else Nx H3)
def forK (J : It) (g : TG) (tb : TS) (D : Ends) (σ : L2.St) (H1 : Hp) : Prop := ∃ W : Nat → Nat → L2.St → Hp → Prop, (∃ m, W 0 m σ H1) ∧ ∀ i m σ H, W i m σ H →
  (J.stop i H ∧ D.nx σ H) ∨ (J.go i H ∧ ∃ N : L2.St → Hp → Prop, (∀ σ' H', N σ' H' → ∃ m', m' < m ∧ W (i + 1) m' σ' H') ∧ ∀ x H', J.yld i H x H' → g x σ H' fun σ2 H2 => tb { D with nx := N, ct := N, bk := D.nx } σ2 H2)
theorem take_more {α : Type} : ∀ {l : List α} {i : Nat} {x : α}, l[i]? = some x → l.take (i + 1) = l.take i ++ [x]
  | [], i, x, h => by simp at h
  | a :: l, 0, x, h => by
    have e : a = x := Option.some.inj h
    subst e
    rfl
  | a :: l, i + 1, x, h => by
    have ih := take_more (l := l) (i := i) (x := x) h
    show a :: l.take (i + 1) = a :: l.take i ++ [x]
    rw [ih]
    rfl
section
variable {K : PySem.W.Frag} {σ : L2.St} {H : Hp} {Q : VK} {D : Ends} {te : TE} {tt : TT} {tb : TS} {g : TG} {vs : List Nat} {j : Nat}
theorem w_lc {wi : TI} (k : wi σ H fun J H1 => lcK J g tt te vs σ H1 Q) : tLc wi g tt te vs σ H Q := k
theorem w_for {wi : TI} (k : wi σ H fun J H1 => forK J g tb D σ H1) : tFor wi g tb D σ H := k
theorem w_ilist {tl : TE} {R : It → Hp → Prop} (k : tl σ H fun x H1 => ∃ a, x = .ref a ∧ (∃ xs, SqL K H1 a xs) ∧ R (Itl K a) H1) : iList K tl σ H R := k
theorem w_irng1 {ta : TA} {R : It → Hp → Prop} (k : ta σ H fun vs H1 => ∃ j : Int, vs = [.int j] ∧ -(2 ^ 62) ≤ j ∧ j < 2 ^ 62 ∧ R (Itr 0 j.toNat) H1) : iRng1 ta σ H R := k
theorem w_irng2 {ta : TA} {R : It → Hp → Prop} (k : ta σ H fun vs H1 => ∃ i j : Int, vs = [.int i, .int j] ∧ (-(2 ^ 62) ≤ i ∧ i < 2 ^ 62 ∧ -(2 ^ 62) ≤ j ∧ j < 2 ^ 62) ∧ R (Itr i (j - i).toNat) H1) : iRng2 ta σ H R := k
theorem w_irng3 {ta : TA} {R : It → Hp → Prop} (k : ta σ H fun vs H1 => ∃ (i j c : Int) (n : Nat), vs = [.int i, .int j, .int c] ∧ RgC i j c n ∧ R (Itc i c n) H1) : iRng3 ta σ H R := k
/-- what a turn of a comprehension adds -/
def added (f : V → Bool) (g : V → V) (l : List V) : List V := (l.filter f).map g
theorem added_len (f : V → Bool) (g : V → V) (l : List V) : (added f g l).length ≤ l.length := by
  unfold added
  rw [List.length_map]
  exact List.length_filter_le _ _
theorem added_more (f : V → Bool) (g : V → V) {l : List V} {i : Nat} {x : V} (h : l[i]? = some x) : added f g (l.take (i + 1)) = if f x = true then added f g (l.take i) ++ [g x] else added f g (l.take i) := by
  unfold added
  rw [take_more h, List.filter_append, List.map_append, List.filter_cons]
  by_cases c : f x = true
  · rw [if_pos c, if_pos c]
    rfl
  · rw [if_neg c, if_neg c]
    simp
theorem lc_turn {f : V → Bool} {gv : V → V} {src : List V} {i : Nat} {x : V} {Dl : Addr} {H0 H' : Hp} {σ2 : L2.St} (hi : src[i]? = some x) (hz : src.length < sizeLine)
    (ht : ∀ H', Same H0 H' → ∀ R : Bool → Hp → Prop, (∀ H2, Same H' H2 → R (f x) H2) → tt σ2 H' R) (he : f x = true → ∀ H', Same H0 H' → ∀ R : VK, (∀ H2, Same H' H2 → R (gv x) H2) → te σ2 H' R)
    (p : H0 Dl = none ∧ Same H0 H' ∧ H' Dl = some (.lst (added f gv (src.take i)))) :
    tt σ2 H' fun b H3 => if b = true then te σ2 H3 fun y H4 => ∃ acc, H4 Dl = some (.lst acc) ∧ acc.length < sizeLine ∧ (H0 Dl = none ∧ Same H0 (upd H4 Dl (.lst (acc ++ [y]))) ∧ upd H4 Dl (.lst (acc ++ [y])) Dl = some (.lst (added f gv (src.take (i + 1)))))
      else (H0 Dl = none ∧ Same H0 H3 ∧ H3 Dl = some (.lst (added f gv (src.take (i + 1))))) := by
  obtain ⟨p1, p2, p3⟩ := p
  refine ht H' p2 _ fun H3 e3 => ?_
  have hl : (added f gv (src.take i)).length < sizeLine := by
    have h1 := added_len f gv (src.take i)
    have h2 : (src.take i).length ≤ src.length := List.length_take_le' _ _
    omega
  cases c : f x with
  | true =>
    rw [if_pos rfl]
    refine he c H3 (p2.trans e3) _ fun H4 e4 => ⟨_, e4 _ _ (e3 _ _ p3), hl, p1, fun b o hb => ?_, ?_⟩
    · rw [upd_ne (fun z => by rw [z, p1] at hb; cases hb)]
      exact e4 _ _ (e3 _ _ (p2 b o hb))
    · rw [upd_same, added_more f gv hi, if_pos c]
  | false =>
    rw [if_neg (by decide)]
    refine ⟨p1, p2.trans e3, ?_⟩
    rw [added_more f gv hi, if_neg (by rw [c]; decide)]
    exact e3 _ _ p3
theorem w_lcl {a : Addr} {src : List V} (f : V → Bool) (gv : V → V) (hx : SqL K H a src) (hz : src.length < sizeLine) (hw : ∀ x, wipe ((wipe σ vs).set j (some x)) vs = wipe σ vs)
    (ht : ∀ x, x ∈ src → ∀ H', Same H H' → ∀ R : Bool → Hp → Prop, (∀ H2, Same H' H2 → R (f x) H2) → tt ((wipe σ vs).set j (some x)) H' R) (he : ∀ x, x ∈ src → f x = true → ∀ H', Same H H' → ∀ R : VK, (∀ H2, Same H' H2 → R (gv x) H2) → te ((wipe σ vs).set j (some x)) H' R)
    (k : ∀ p H', H p = none → Same H H' → H' p = some (.lst (added f gv src)) → Q (.ref p) H') : ∃ a', V.ref a = .ref a' ∧ (∃ xs, SqL K H a' xs) ∧ lcK (Itl K a') (gName j) tt te vs σ H Q :=
  ⟨a, rfl, ⟨src, hx⟩, fun Dl hD => lc_list (xs := src) (fun i H' => H Dl = none ∧ Same H H' ∧ H' Dl = some (.lst (added f gv (src.take i)))) ⟨hD, same_upd hD, upd_same⟩ (fun i H' _ p => p.2.1.seq hx)
    (fun i x H' hi p => ⟨hw x, lc_turn hi hz (fun H1 => ht x (List.mem_of_getElem? hi) H1) (fun c H1 => he x (List.mem_of_getElem? hi) c H1) p⟩)
    (fun H' p => k Dl H' p.1 p.2.1 (by rw [← List.take_length (l := src)]; exact p.2.2))⟩
/-- the ints lo, lo + 1, .. -/
def rangeV (lo : Int) (n : Nat) : List V := (List.range n).map fun (i : Nat) => V.int (lo + (i : Int))
theorem rangeV_at {lo : Int} {n i : Nat} (h : i < n) : (rangeV lo n)[i]? = some (.int (lo + (i : Int))) := by
  unfold rangeV
  rw [List.getElem?_map, List.getElem?_range h]
  rfl
theorem rangeV_len (lo : Int) (n : Nat) : (rangeV lo n).length = n := by
  unfold rangeV
  rw [List.length_map, List.length_range]
theorem lcr {lo : Int} {n : Nat} (f : V → Bool) (gv : V → V) (hz : n < sizeLine) (hw : ∀ x, wipe ((wipe σ vs).set j (some x)) vs = wipe σ vs)
    (ht : ∀ i : Nat, i < n → ∀ H', Same H H' → ∀ R : Bool → Hp → Prop, (∀ H2, Same H' H2 → R (f (.int (lo + (i : Int)))) H2) → tt ((wipe σ vs).set j (some (.int (lo + (i : Int))))) H' R)
    (he : ∀ i : Nat, i < n → f (.int (lo + (i : Int))) = true → ∀ H', Same H H' → ∀ R : VK, (∀ H2, Same H' H2 → R (gv (.int (lo + (i : Int)))) H2) → te ((wipe σ vs).set j (some (.int (lo + (i : Int))))) H' R)
    (k : ∀ p H', H p = none → Same H H' → H' p = some (.lst (added f gv (rangeV lo n))) → Q (.ref p) H') : lcK (Itr lo n) (gName j) tt te vs σ H Q := fun Dl hD =>
  lc_range (lo := lo) (n := n) (fun i H' => H Dl = none ∧ Same H H' ∧ H' Dl = some (.lst (added f gv ((rangeV lo n).take i)))) ⟨hD, same_upd hD, upd_same⟩
    (fun i H' hi p => ⟨hw _, lc_turn (rangeV_at hi) (by rw [rangeV_len]; exact hz) (fun H1 => ht i hi H1) (fun c H1 => he i hi c H1) p⟩)
    (fun H' p => k Dl H' p.1 p.2.1 (by have e := p.2.2; rw [List.take_of_length_le (by rw [rangeV_len]; exact Nat.le_refl n)] at e; exact e))
theorem w_lcr1 {n : Int} (f : V → Bool) (gv : V → V) (h0 : -1000000 ≤ n) (h1 : n ≤ 1000000) (hw : ∀ x, wipe ((wipe σ vs).set j (some x)) vs = wipe σ vs)
    (ht : ∀ i : Nat, (i : Int) < n → ∀ H', Same H H' → ∀ R : Bool → Hp → Prop, (∀ H2, Same H' H2 → R (f (.int (i : Int))) H2) → tt ((wipe σ vs).set j (some (.int (i : Int)))) H' R)
    (he : ∀ i : Nat, (i : Int) < n → f (.int (i : Int)) = true → ∀ H', Same H H' → ∀ R : VK, (∀ H2, Same H' H2 → R (gv (.int (i : Int))) H2) → te ((wipe σ vs).set j (some (.int (i : Int)))) H' R)
    (k : ∀ p H', H p = none → Same H H' → H' p = some (.lst (added f gv (rangeV 0 n.toNat))) → Q (.ref p) H') : ∃ m : Int, [V.int n] = [.int m] ∧ -(2 ^ 62) ≤ m ∧ m < 2 ^ 62 ∧ lcK (Itr 0 m.toNat) (gName j) tt te vs σ H Q :=
  ⟨n, rfl, by omega, by omega, lcr f gv (Nat.lt_of_le_of_lt (show n.toNat ≤ 1000000 by omega) (by decide)) hw (fun i hi H1 s R r => by
      have e : (0 : Int) + (i : Int) = (i : Int) := Int.zero_add _
      simp only [e] at r ⊢
      exact ht i (by omega) H1 s R r) (fun i hi c H1 s R r => by
      have e : (0 : Int) + (i : Int) = (i : Int) := Int.zero_add _
      simp only [e] at c r ⊢
      exact he i (by omega) c H1 s R r) k⟩
theorem w_lcr2 {lo n : Int} (f : V → Bool) (gv : V → V) (h0 : -1000000 ≤ lo ∧ lo ≤ 1000000) (h1 : -1000000 ≤ n ∧ n ≤ 1000000) (hw : ∀ x, wipe ((wipe σ vs).set j (some x)) vs = wipe σ vs)
    (ht : ∀ i : Nat, lo + (i : Int) < n → ∀ H', Same H H' → ∀ R : Bool → Hp → Prop, (∀ H2, Same H' H2 → R (f (.int (lo + (i : Int)))) H2) → tt ((wipe σ vs).set j (some (.int (lo + (i : Int))))) H' R)
    (he : ∀ i : Nat, lo + (i : Int) < n → f (.int (lo + (i : Int))) = true → ∀ H', Same H H' → ∀ R : VK, (∀ H2, Same H' H2 → R (gv (.int (lo + (i : Int)))) H2) → te ((wipe σ vs).set j (some (.int (lo + (i : Int))))) H' R)
    (k : ∀ p H', H p = none → Same H H' → H' p = some (.lst (added f gv (rangeV lo (n - lo).toNat))) → Q (.ref p) H') :
    ∃ i m : Int, [V.int lo, V.int n] = [.int i, .int m] ∧ (-(2 ^ 62) ≤ i ∧ i < 2 ^ 62 ∧ -(2 ^ 62) ≤ m ∧ m < 2 ^ 62) ∧ lcK (Itr i (m - i).toNat) (gName j) tt te vs σ H Q :=
  ⟨lo, n, rfl, ⟨by omega, by omega, by omega, by omega⟩, lcr f gv (Nat.lt_of_le_of_lt (show (n - lo).toNat ≤ 2000000 by omega) (by decide)) hw (fun i hi H1 s R r => ht i (by omega) H1 s R r) (fun i hi c H1 s R r => he i (by omega) c H1 s R r) k⟩
theorem w_forl {a : Addr} {xs : List V} (Pv : Nat → L2.St → Hp → Prop) (hx : SqL K H a xs) (h0 : Pv 0 σ H) (hl : ∀ i σ H, i ≤ xs.length → Pv i σ H → SqL K H a xs)
    (hs : ∀ i x σ H, xs[i]? = some x → Pv i σ H → g x σ H fun σ2 H2 => tb { D with nx := Pv (i + 1), ct := Pv (i + 1), bk := D.nx } σ2 H2) (hd : ∀ σ H, Pv xs.length σ H → D.nx σ H) :
    ∃ a', V.ref a = .ref a' ∧ (∃ xs, SqL K H a' xs) ∧ forK (Itl K a') g tb D σ H := ⟨a, rfl, ⟨xs, hx⟩, for_list Pv h0 hl hs hd⟩
theorem w_forr1 {n : Int} (Pv : Nat → L2.St → Hp → Prop) (hn : -1000000 ≤ n ∧ n ≤ 1000000) (h0 : Pv 0 σ H)
    (hs : ∀ (i : Nat) σ H, (i : Int) < n → Pv i σ H → g (.int (i : Int)) σ H fun σ2 H2 => tb { D with nx := Pv (i + 1), ct := Pv (i + 1), bk := D.nx } σ2 H2) (hd : ∀ σ H, Pv n.toNat σ H → D.nx σ H) :
    ∃ m : Int, [V.int n] = [.int m] ∧ -(2 ^ 62) ≤ m ∧ m < 2 ^ 62 ∧ forK (Itr 0 m.toNat) g tb D σ H :=
  ⟨n, rfl, by omega, by omega, for_range (lo := 0) (n := n.toNat) Pv h0 (fun i σ H hi p => by
    have e : (0 : Int) + (i : Int) = (i : Int) := Int.zero_add _
    rw [e]
    exact hs i σ H (by omega) p) hd⟩
theorem w_forr3 {lo hi c : Int} {n : Nat} (hr : RgC lo hi c n) (Pv : Nat → L2.St → Hp → Prop) (h0 : Pv 0 σ H)
    (hs : ∀ (i : Nat) σ H, i < n → Pv i σ H → g (.int (lo + (i : Nat) * c)) σ H fun σ2 H2 => tb { D with nx := Pv (i + 1), ct := Pv (i + 1), bk := D.nx } σ2 H2) (hd : ∀ σ H, Pv n σ H → D.nx σ H) :
    ∃ (i j c' : Int) (n' : Nat), [V.int lo, V.int hi, V.int c] = [.int i, .int j, .int c'] ∧ RgC i j c' n' ∧ forK (Itc i c' n') g tb D σ H := ⟨lo, hi, c, n, rfl, hr, for_rangeC Pv h0 hs hd⟩
end
/-- one step, where nothing is to be chosen -/
local macro_rules | `(tactic| walk_at "w1") => `(tactic| with_reducible first
  | refine w_seq ?_ | refine w_asg ?_ | refine w_name ?_ | refine w_ret ?_ | refine w_retN ?_ | refine w_drop ?_ | refine w_next ?_ | refine w_if ?_ | refine w_ifE ?_ | refine w_test ?_ | refine w_B ?_ | refine w_bl ?_
  | refine w_not ?_ | refine w_and ?_ | refine w_or ?_ | refine w_andV ?_ | refine w_orV ?_ | refine w_notV ?_ | refine w_isN ?_ | refine w_notN ?_ | refine w_yes ?_
  | refine w_c ?_ | refine w_op ?_ | refine w_un ?_ | refine w_i0 ?_ | refine w_neg ?_ | refine w_nil ?_ | refine w_cons ?_ | refine w_cb ?_ | refine w_call ?_ | refine w_tup ?_ | refine w_lst ?_
  | refine w_fld ?_ | refine w_sfld ?_ | refine w_match ?_ | refine w_case ?_ | refine w_mcons ?_ | refine w_mnil ?_ | refine w_mcap ?_ | refine w_many ?_ | refine w_myes ?_
  | refine w_sub ?_ | refine w_bm ?_ | refine w_sl ?_ | refine w_nopart ?_ | refine w_part ?_ | refine w_int ?_ | refine w_ift ?_ | refine w_iff ?_ | refine w_ifn ?_ | refine w_dget2 ?_ | refine w_star ?_ | refine w_dput ?_ | refine w_dnewK ?_ | refine w_meth ?_ | refine w_oneOf ?_ | refine w_make ?_ | refine w_lc ?_ | refine w_for ?_ | refine w_ilist ?_ | refine w_irng1 ?_ | refine w_irng2 ?_ | refine w_irng3 ?_)
local macro_rules | `(tactic| walk_at "w2") => `(tactic| first
  | ((with_reducible refine' w_var ?wh ?_); (case wh => rfl))
  | ((with_reducible refine' w_eq ?wh ?_); (case wh => rfl))
  | ((with_reducible refine' w_ne ?wh ?_); (case wh => rfl))
  | ((with_reducible refine' w_mno ?wh ?_); (case wh => decide +kernel))
  | ((with_reducible refine' w_mhit ?wh ?wl ?_); (case wh => assumption); (case wl => rfl))
  | ((with_reducible refine' w_mmiss ?wh ?wl ?_); (case wh => assumption); (case wl => simp))
  | ((with_reducible refine' w_fldA ?wh ?wc ?wn ?wl ?_); (case wh => first | assumption | exact upd_same); (case wc => assumption); (case wn => assumption); (case wl => walk_at "lk"))
  | ((with_reducible refine' w_ixl ?wh ?we ?_); (case wh => exact SqL.of (by first | assumption | exact upd_same)); (case we => rfl))
  | ((with_reducible refine' w_ixt ?wh ?we ?_); (case wh => assumption); (case we => rfl))
  | ((with_reducible refine' w_ifT ?wh ?_); (case wh => (with_reducible exact Eq.refl _)))
  | ((with_reducible refine' w_ifF ?wh ?_); (case wh => decide +kernel))
  | ((with_reducible refine' w_isiY ?wh ?wk ?_); (case wh => first | exact .int _ | exact .str _ | exact .lst (by assumption) | exact .tup (by assumption)); (case wk => decide +kernel))
  | ((with_reducible refine' w_isiN ?wh ?wk ?_); (case wh => first | exact .int _ | exact .str _ | exact .lst (by assumption) | exact .tup (by assumption)); (case wk => decide +kernel))
  | ((with_reducible refine' w_ifF ?wh ?_); (case wh => (intro z; cases z; done)))
  | ((with_reducible refine' w_setl ?wh ?we ?wl ?_); (case wh => first | assumption | exact upd_same); (case we => rfl); (case wl => rfl))
  | ((with_reducible refine' w_methA ?wh ?wl ?_); (case wh => first | assumption | exact upd_same); (case wl => walk_at "lk"))
  | ((with_reducible refine' w_sfldB ?wc ?wn ?wz ?wl ?_); (case wc => assumption); (case wn => assumption); (case wz => simp); (case wl => walk_at "pf"))
  | ((with_reducible refine' w_sfldA ?wh ?wc ?wn ?wz ?wl ?_); (case wh => assumption); (case wc => assumption); (case wn => assumption); (case wz => simp); (case wl => walk_at "pf")))
local macro_rules | `(tactic| walk_at "w") => `(tactic| repeat (first | walk_at "w1" | walk_at "w2" | (dsimp only [List.set, setAll, List.append, List.cons_append, List.nil_append])))
end SwX
set_option autoImplicit false
namespace Sw
/-- a guesser as it is told -/
inductive G where
  | non
  | next (n : Int)
  | stride (n : Int)
  | pairs (n : Int)
  | both (a b : G)
def G.depth : G → Nat
  | .both a b => max a.depth b.depth + 1
  | _ => 0
def G.ok : G → Prop
  | .non => True
  | .next n => 1 ≤ n ∧ n ≤ 3
  | .stride n => 1 ≤ n ∧ n ≤ 3
  | .pairs n => 1 ≤ n ∧ n ≤ 2
  | .both a b => a.ok ∧ b.ok
/-- the state of a guesser that is told places -/
inductive S where
  | silent
  | neigh (many : Int)
  | strid (times : Int) (last : Option Int) (stride same : Int)
  | pairs (many : Int) (last : Option Int) (fol : Int → List Int)
  | both (a b : S)
def begun : G → S
  | .non => .silent
  | .next n => .neigh n
  | .stride n => .strid n none 0 0
  | .pairs n => .pairs n none fun _ => []
  | .both a b => .both (begun a) (begun b)
def nexts (p m : Int) : List Int := (List.range m.toNat).map fun (i : Nat) => p + (1 + (i : Int))
/-- the stride and how many were the same, behind one place more -/
def strideOf (last : Option Int) (s c p : Int) : Int × Int := match last with
  | none => (s, c)
  | some q => (p - q, if p - q = s then c + 1 else 1)
def behind (fol : Int → List Int) (m q p : Int) : List Int := (p :: (fol q).filter (fun x => decide (x ≠ p))).take m.toNat
def putF (fol : Int → List Int) (m q p : Int) : Int → List Int := fun k => if k = q then behind fol m q p else fol k
def folOf (last : Option Int) (fol : Int → List Int) (m p : Int) : Int → List Int := match last with
  | none => fol
  | some q => putF fol m q p
def strideSays (t p : Int) (sc : Int × Int) : List Int := if sc.1 = 0 ∨ sc.2 < t then [] else [p + sc.1]
def joined (x y : List Int) : List Int := x ++ y.filter (fun v => decide (v ∉ x))
def S.next : S → Int → S
  | .silent, _ => .silent
  | .neigh m, _ => .neigh m
  | .strid t l s c, p => .strid t (some p) (strideOf l s c p).1 (strideOf l s c p).2
  | .pairs m l f, p => .pairs m (some p) (folOf l f m p)
  | .both a b, p => .both (a.next p) (b.next p)
def S.says : S → Int → List Int
  | .silent, _ => []
  | .neigh m, p => nexts p m
  | .strid t l s c, p => strideSays t p (strideOf l s c p)
  | .pairs m l f, p => folOf l f m p p
  | .both a b, p => joined (a.says p) (b.says p)
def S.after (s : S) (l : List Int) : S := l.foldl S.next s
theorem after_nil (s : S) : s.after [] = s := rfl
theorem after_snoc (s : S) (l : List Int) (p : Int) : s.after (l ++ [p]) = (s.after l).next p := by
  unfold S.after
  rw [List.foldl_append]; rfl
def told (g : G) (l : List Int) : List (List Int) := (List.range l.length).map fun k => ((begun g).after (l.take k)).says (l.getD k 0)

/-! ### looking back -/
/-- the first of each, in order -/
def firsts : List Int → List Int
  | [] => []
  | x :: r => x :: (firsts r).filter (fun y => decide (y ≠ x))
theorem mem_firsts : ∀ {l : List Int} {x : Int}, x ∈ firsts l ↔ x ∈ l
  | [], _ => Iff.rfl
  | a :: r, x => by
    unfold firsts
    rw [List.mem_cons, List.mem_cons, List.mem_filter, mem_firsts]
    by_cases h : x = a
    · simp [h]
    · simp [h]
theorem firsts_nodup : ∀ l : List Int, (firsts l).Nodup
  | [] => List.nodup_nil
  | a :: r => by
    unfold firsts
    refine List.nodup_cons.mpr ⟨fun h => ?_, (firsts_nodup r).filter _⟩
    have := (List.mem_filter.mp h).2
    simp at this
/-- one more behind: taken if it is not there -/
def more (acc : List Int) (x : Int) : List Int := if x ∈ acc then acc else acc ++ [x]
theorem firsts_snoc : ∀ (l : List Int) (x : Int), firsts (l ++ [x]) = more (firsts l) x
  | [], x => rfl
  | a :: r, x => by
    show a :: (firsts (r ++ [x])).filter _ = more (a :: (firsts r).filter _) x
    rw [firsts_snoc r x]
    unfold more
    by_cases hx : x ∈ firsts r
    · rw [if_pos hx]
      by_cases e : x = a
      · rw [if_pos (by rw [e]; exact List.mem_cons_self)]
      · rw [if_pos (List.mem_cons_of_mem _ (List.mem_filter.mpr ⟨hx, by simp [e]⟩))]
    · rw [if_neg hx, List.filter_append]
      by_cases e : x = a
      · rw [if_pos (by rw [e]; exact List.mem_cons_self)]
        simp [e]
      · have : x ∉ a :: (firsts r).filter (fun y => decide (y ≠ a)) := by
          rw [List.mem_cons]
          rintro (h | h)
          · exact e h
          · exact hx (List.mem_filter.mp h).1
        rw [if_neg this]
        simp [e]
/-- what came behind k, the latest first: of the places, the last one first -/
def followers (k : Int) : List Int → List Int
  | p :: q :: r => if q = k then p :: followers k (q :: r) else followers k (q :: r)
  | _ => []
/-- the strides, the last one first, of the places, the last one first -/
def strides : List Int → List Int
  | p :: q :: r => (p - q) :: strides (q :: r)
  | _ => []
theorem strides_length : ∀ l : List Int, (strides l).length = l.length - 1
  | [] => rfl
  | [_] => rfl
  | p :: q :: r => by
    show (strides (q :: r)).length + 1 = _
    rw [strides_length (q :: r)]
    simp
def run : List Int → Int × Nat
  | [] => (0, 0)
  | d :: r => (d, if d = (run r).1 then (run r).2 + 1 else 1)
/-- so many strides, the last ones, are the same -/
theorem run_ge : ∀ (l : List Int) (t : Nat), 1 ≤ t → (t ≤ (run l).2 ↔ t ≤ l.length ∧ l.take t = List.replicate t (run l).1)
  | [], t, h => by
    constructor
    · intro q
      have : t ≤ 0 := q
      omega
    · rintro ⟨q, _⟩
      exact q
  | d :: r, t, h => by
    obtain ⟨u, rfl⟩ : ∃ u, t = u + 1 := ⟨t - 1, by omega⟩
    show u + 1 ≤ (if d = (run r).1 then (run r).2 + 1 else 1) ↔ u + 1 ≤ r.length + 1 ∧ d :: r.take u = d :: List.replicate u d
    by_cases hu : u = 0
    · subst hu
      constructor
      · intro _
        exact ⟨by omega, by simp⟩
      · intro _
        split <;> omega
    · have ih := run_ge r u (by omega)
      by_cases e : d = (run r).1
      · rw [if_pos e]
        rw [← e] at ih
        constructor
        · intro q
          have z := ih.mp (by omega)
          exact ⟨by omega, by rw [z.2]⟩
        · rintro ⟨q1, q2⟩
          have z := ih.mpr ⟨by omega, (List.cons.inj q2).2⟩
          omega
      · rw [if_neg e]
        constructor
        · intro q
          omega
        · rintro ⟨q1, q2⟩
          exfalso
          cases r with
          | nil =>
            have : u + 1 ≤ 1 := q1
            omega
          | cons a r =>
            obtain ⟨v, rfl⟩ : ∃ v, u = v + 1 := ⟨u - 1, by omega⟩
            have z := (List.cons.inj q2).2
            have : a = d := (List.cons.inj z).1
            exact e this.symm
/-- the law's look back: of the places, the last one first -/
def looked : G → List Int → List Int
  | _, [] => []
  | .non, _ => []
  | .next n, p :: _ => nexts p n
  | .stride n, p :: r => if n.toNat ≤ (strides (p :: r)).length ∧ (strides (p :: r)).take n.toNat = List.replicate n.toNat ((strides (p :: r)).headD 0) ∧ (strides (p :: r)).headD 0 ≠ 0 then [p + (strides (p :: r)).headD 0] else []
  | .pairs n, p :: r => (firsts (followers p (p :: r))).take n.toNat
  | .both a b, p :: r => joined (looked a (p :: r)) (looked b (p :: r))
theorem run_head : ∀ l : List Int, (run l).1 = l.headD 0
  | [] => rfl
  | _ :: _ => rfl
theorem filter_take {l : List Int} (nd : l.Nodup) (p : Int) : ∀ m : Nat, ((p :: (l.take m).filter (fun x => decide (x ≠ p))).take m) = (p :: l.filter (fun x => decide (x ≠ p))).take m := by
  have key : ∀ (l : List Int), l.Nodup → ∀ m : Nat, ((l.take (m + 1)).filter (fun x => decide (x ≠ p))).take m = (l.filter (fun x => decide (x ≠ p))).take m := by
    intro l
    induction l with
    | nil => intro _ m; simp
    | cons a r ih =>
      intro nd m
      obtain ⟨na, nr⟩ := List.nodup_cons.mp nd
      show ((a :: r.take m).filter _).take m = _
      rw [List.filter_cons, List.filter_cons]
      by_cases e : a = p
      · subst e
        rw [if_neg (by simp), if_neg (by simp)]
        have h1 : r.filter (fun x => decide (x ≠ a)) = r := List.filter_eq_self.mpr fun x hx => by
          have : x ≠ a := fun z => na (z ▸ hx)
          simp [this]
        have h2 : (r.take m).filter (fun x => decide (x ≠ a)) = r.take m := List.filter_eq_self.mpr fun x hx => by
          have : x ≠ a := fun z => na (z ▸ List.mem_of_mem_take hx)
          simp [this]
        rw [h1, h2, List.take_take, Nat.min_self]
      · rw [if_pos (by simp [e]), if_pos (by simp [e])]
        cases m with
        | zero => rfl
        | succ m =>
          rw [List.take_succ_cons, List.take_succ_cons, ih nr m]
  intro m
  cases m with
  | zero => rfl
  | succ m => rw [List.take_succ_cons, List.take_succ_cons, key l nd m]
/-- the guesser's state behind places, the last one first -/
def Stands : G → List Int → S → Prop
  | .non, _, s => s = .silent
  | .next n, _, s => s = .neigh n
  | .stride n, l, s => s = .strid n l.head? (run (strides l)).1 ((run (strides l)).2 : Int)
  | .pairs n, l, s => ∃ f, s = .pairs n l.head? f ∧ ∀ k, f k = (firsts (followers k l)).take n.toNat
  | .both a b, l, s => ∃ x y, s = .both x y ∧ Stands a l x ∧ Stands b l y
theorem stands_begun : ∀ g : G, Stands g [] (begun g)
  | .non => rfl
  | .next _ => rfl
  | .stride _ => rfl
  | .pairs _ => ⟨_, rfl, fun k => by simp [followers, firsts]⟩
  | .both a b => ⟨_, _, rfl, stands_begun a, stands_begun b⟩
theorem stride_step (l : List Int) (p : Int) : strideOf l.head? (run (strides l)).1 ((run (strides l)).2 : Int) p = ((run (strides (p :: l))).1, ((run (strides (p :: l))).2 : Int)) := by
  cases l with
  | nil => rfl
  | cons q r =>
    show (p - q, if p - q = (run (strides (q :: r))).1 then ((run (strides (q :: r))).2 : Int) + 1 else 1) = (p - q, ((if p - q = (run (strides (q :: r))).1 then (run (strides (q :: r))).2 + 1 else 1 : Nat) : Int))
    split <;> simp
theorem fol_step {n : Int} {l : List Int} {f : Int → List Int} (h : ∀ k, f k = (firsts (followers k l)).take n.toNat) (p k : Int) : folOf l.head? f n p k = (firsts (followers k (p :: l))).take n.toNat := by
  cases l with
  | nil =>
    show f k = _
    rw [h k]
    rfl
  | cons q r =>
    show (if k = q then behind f n q p else f k) = (firsts (if q = k then p :: followers k (q :: r) else followers k (q :: r))).take n.toNat
    by_cases e : k = q
    · subst e
      rw [if_pos rfl, if_pos rfl]
      unfold behind
      rw [h k]
      exact filter_take (firsts_nodup _) p n.toNat
    · rw [if_neg e, if_neg (fun z => e z.symm), h k]
theorem stands_next : ∀ {g : G} {l : List Int} {s : S} (p : Int), Stands g l s → Stands g (p :: l) (s.next p)
  | .non, _, _, _, h => by cases h; rfl
  | .next _, _, _, _, h => by cases h; rfl
  | .stride n, l, _, p, h => by
    cases h
    show S.strid _ _ _ _ = S.strid _ _ _ _
    rw [stride_step]
    rfl
  | .pairs n, l, _, p, h => by
    obtain ⟨f, rfl, hf⟩ := h
    exact ⟨_, rfl, fun k => fol_step hf p k⟩
  | .both a b, l, _, p, h => by
    obtain ⟨x, y, rfl, hx, hy⟩ := h
    exact ⟨_, _, rfl, stands_next p hx, stands_next p hy⟩
theorem stands_says : ∀ {g : G} {l : List Int} {s : S} (p : Int), g.ok → Stands g l s → s.says p = looked g (p :: l)
  | .non, _, _, _, _, h => by cases h; rfl
  | .next _, _, _, _, _, h => by cases h; rfl
  | .stride n, l, _, p, ok, h => by
    cases h
    show strideSays n p (strideOf l.head? _ _ p) = if _ then _ else _
    rw [stride_step]
    have z := run_ge (strides (p :: l)) n.toNat (by have := ok.1; omega)
    rw [run_head] at z
    unfold strideSays
    rw [run_head]
    show (if (strides (p :: l)).headD 0 = 0 ∨ ((run (strides (p :: l))).2 : Int) < n then [] else [p + (strides (p :: l)).headD 0]) = _
    have hn : 1 ≤ n := ok.1
    by_cases c : (strides (p :: l)).headD 0 = 0 ∨ ((run (strides (p :: l))).2 : Int) < n
    · rw [if_pos c, if_neg]
      rintro ⟨h1, h2, h3⟩
      have := z.mpr ⟨h1, h2⟩
      rcases c with c | c
      · exact h3 c
      · omega
    · rw [if_neg c, if_pos]
      have c1 : ¬ (strides (p :: l)).headD 0 = 0 := fun q => c (.inl q)
      have c2 : ¬ ((run (strides (p :: l))).2 : Int) < n := fun q => c (.inr q)
      have := z.mp (by omega)
      exact ⟨this.1, this.2, c1⟩
  | .pairs n, l, _, p, _, h => by
    obtain ⟨f, rfl, hf⟩ := h
    exact fol_step hf p p
  | .both a b, l, _, p, ok, h => by
    obtain ⟨x, y, rfl, hx, hy⟩ := h
    show joined _ _ = joined _ _
    rw [stands_says p ok.1 hx, stands_says p ok.2 hy]
theorem stands_after (g : G) : ∀ (l : List Int) (m : List Int) (s : S), Stands g m s → Stands g (l.reverse ++ m) (s.after l)
  | [], m, s, h => h
  | p :: r, m, s, h => by
    have := stands_after g r (p :: m) (s.next p) (stands_next p h)
    rw [List.reverse_cons, List.append_assoc]
    exact this
theorem says_looked {g : G} (ok : g.ok) (l : List Int) (p : Int) : ((begun g).after l).says p = looked g (l ++ [p]).reverse := by
  have h := stands_after g l [] (begun g) (stands_begun g)
  rw [List.append_nil] at h
  rw [stands_says p ok h, List.reverse_append]
  rfl
end Sw
set_option Elab.async false
set_option linter.all false
set_option maxRecDepth 100000
set_option maxHeartbeats 4000000
namespace SwD
open PySem PySem.Spec PyProof.Rows L2 SwX StX Sw
local macro_rules | `(tactic| walk_at "lk") => `(tactic| first | exact lk_at | exact lk_no | ((refine' lk_by (by decide +kernel) ?wq); (case wq => walk_at "lk")))
local macro_rules | `(tactic| walk_at "pf") => `(tactic| first | exact pf_at | exact pf_nil | ((refine' pf_by (by decide +kernel) ?wq); (case wq => walk_at "pf")))
local macro_rules | `(tactic| walk_at "w1") => `(tactic| with_reducible first
  | refine w_seq ?_ | refine w_asg ?_ | refine w_name ?_ | refine w_ret ?_ | refine w_retN ?_ | refine w_drop ?_ | refine w_next ?_ | refine w_if ?_ | refine w_ifE ?_ | refine w_test ?_ | refine w_B ?_ | refine w_bl ?_
  | refine w_not ?_ | refine w_and ?_ | refine w_or ?_ | refine w_andV ?_ | refine w_orV ?_ | refine w_notV ?_ | refine w_isN ?_ | refine w_notN ?_ | refine w_yes ?_
  | refine w_c ?_ | refine w_op ?_ | refine w_un ?_ | refine w_i0 ?_ | refine w_neg ?_ | refine w_nil ?_ | refine w_cons ?_ | refine w_cb ?_ | refine w_call ?_ | refine w_tup ?_ | refine w_lst ?_
  | refine w_fld ?_ | refine w_sfld ?_ | refine w_match ?_ | refine w_case ?_ | refine w_mcons ?_ | refine w_mnil ?_ | refine w_mcap ?_ | refine w_many ?_ | refine w_myes ?_
  | refine w_sub ?_ | refine w_bm ?_ | refine w_sl ?_ | refine w_nopart ?_ | refine w_part ?_ | refine w_int ?_ | refine w_ift ?_ | refine w_iff ?_ | refine w_ifn ?_ | refine w_dget2 ?_ | refine w_star ?_ | refine w_dput ?_ | refine w_dnewK ?_ | refine w_meth ?_ | refine w_oneOf ?_ | refine w_make ?_ | refine w_lc ?_ | refine w_for ?_ | refine w_ilist ?_ | refine w_irng1 ?_ | refine w_irng2 ?_ | refine w_irng3 ?_)
local macro_rules | `(tactic| walk_at "w2") => `(tactic| first
  | ((with_reducible refine' w_var ?wh ?_); (case wh => rfl))
  | ((with_reducible refine' w_eq ?wh ?_); (case wh => rfl))
  | ((with_reducible refine' w_ne ?wh ?_); (case wh => rfl))
  | ((with_reducible refine' w_mno ?wh ?_); (case wh => decide +kernel))
  | ((with_reducible refine' w_mhit ?wh ?wl ?_); (case wh => assumption); (case wl => rfl))
  | ((with_reducible refine' w_mmiss ?wh ?wl ?_); (case wh => assumption); (case wl => simp))
  | ((with_reducible refine' w_fldA ?wh ?wc ?wn ?wl ?_); (case wh => first | assumption | exact upd_same); (case wc => assumption); (case wn => assumption); (case wl => walk_at "lk"))
  | ((with_reducible refine' w_ixl ?wh ?we ?_); (case wh => exact SqL.of (by first | assumption | exact upd_same)); (case we => rfl))
  | ((with_reducible refine' w_ixt ?wh ?we ?_); (case wh => assumption); (case we => rfl))
  | ((with_reducible refine' w_ifT ?wh ?_); (case wh => (with_reducible exact Eq.refl _)))
  | ((with_reducible refine' w_ifF ?wh ?_); (case wh => decide +kernel))
  | ((with_reducible refine' w_isiY ?wh ?wk ?_); (case wh => first | exact .int _ | exact .str _ | exact .lst (by assumption) | exact .tup (by assumption)); (case wk => decide +kernel))
  | ((with_reducible refine' w_isiN ?wh ?wk ?_); (case wh => first | exact .int _ | exact .str _ | exact .lst (by assumption) | exact .tup (by assumption)); (case wk => decide +kernel))
  | ((with_reducible refine' w_ifF ?wh ?_); (case wh => (intro z; cases z; done)))
  | ((with_reducible refine' w_setl ?wh ?we ?wl ?_); (case wh => first | assumption | exact upd_same); (case we => rfl); (case wl => rfl))
  | ((with_reducible refine' w_methA ?wh ?wl ?_); (case wh => first | assumption | exact upd_same); (case wl => walk_at "lk"))
  | ((with_reducible refine' w_sfldB ?wc ?wn ?wz ?wl ?_); (case wc => assumption); (case wn => assumption); (case wz => simp); (case wl => walk_at "pf"))
  | ((with_reducible refine' w_sfldA ?wh ?wc ?wn ?wz ?wl ?_); (case wh => assumption); (case wc => assumption); (case wn => assumption); (case wz => simp); (case wl => walk_at "pf")))
local macro_rules | `(tactic| walk_at "w") => `(tactic| repeat (first | walk_at "w1" | walk_at "w2" | (dsimp only [List.set, setAll, List.append, List.cons_append, List.nil_append])))
/-! ### where the classes stand -/
structure CA where
  Silent : Addr
  Neighbours : Addr
  Strides : Addr
  Pairs : Addr
  Both : Addr
structure GF (K : PySem.W.Frag) (c : CA) : Prop where
  cN : Cls K c.Neighbours
  cS : Cls K c.Strides
  cP : Cls K c.Pairs
  cB : Cls K c.Both
  nN1 : NoAttr K c.Neighbours "many"
  nS1 : NoAttr K c.Strides "times"
  nS2 : NoAttr K c.Strides "last"
  nS3 : NoAttr K c.Strides "stride"
  nS4 : NoAttr K c.Strides "same"
  nP1 : NoAttr K c.Pairs "many"
  nP2 : NoAttr K c.Pairs "last"
  nP3 : NoAttr K c.Pairs "followers"
  nB1 : NoAttr K c.Both "one"
  nB2 : NoAttr K c.Both "other"
def optV : Option Int → V
  | none => .non
  | some i => .int i
/-! ### how a guesser's state lies in the heap: M holds all of its addresses -/
def Fol (H : Hp) (M : Addr → Prop) (o : Option V) (xs : List Int) : Prop := match o with
  | none => xs = []
  | some v => ∃ l, v = .ref l ∧ H l = some (.lst (xs.map V.int)) ∧ M l
def GAt (c : CA) (H : Hp) (N : Nat) : S → Addr → (Addr → Prop) → Prop
  | .silent, p, M => ∃ dx, H p = some (.ins c.Silent dx []) ∧ M p
  | .neigh m, p, M => ∃ dx, H p = some (.ins c.Neighbours dx [("many", .int m)]) ∧ M p
  | .strid t l s k, p, M => ∃ dx, H p = some (.ins c.Strides dx [("times", .int t), ("last", optV l), ("stride", .int s), ("same", .int k)]) ∧ M p
  | .pairs m l f, p, M => ∃ dx d kvs, H p = some (.ins c.Pairs dx [("many", .int m), ("last", optV l), ("followers", .ref d)]) ∧ M p ∧ H d = some (.dK kvs) ∧ M d ∧ kvs.length ≤ N ∧ ∀ k, Fol H M (valV kvs (Sum.inl k)) (f k)
  | .both a b, p, M => ∃ dx pa pb A B, H p = some (.ins c.Both dx [("one", .ref pa), ("other", .ref pb)]) ∧ M p ∧ GAt c H N a pa A ∧ GAt c H N b pb B ∧ (∀ x, A x → M x) ∧ (∀ x, B x → M x) ∧ (∀ x, A x → ¬ B x) ∧ ¬ A p ∧ ¬ B p
def Dom (M : Addr → Prop) (H : Hp) : Prop := ∀ a, M a → ∃ o, H a = some o
theorem fol_keep {H H' : Hp} {M : Addr → Prop} {o : Option V} {xs : List Int} (k : ∀ a, M a → H' a = H a) (h : Fol H M o xs) : Fol H' M o xs := by
  cases o with
  | none => exact h
  | some v =>
    obtain ⟨l, e, hl, m⟩ := h
    exact ⟨l, e, by rw [k l m]; exact hl, m⟩
theorem gat_keep {c : CA} {H H' : Hp} {N : Nat} : ∀ {s : S} {p : Addr} {M : Addr → Prop}, (∀ a, M a → H' a = H a) → GAt c H N s p M → GAt c H' N s p M
  | .silent, p, M, k, ⟨dx, h, m⟩ => ⟨dx, by rw [k p m]; exact h, m⟩
  | .neigh _, p, M, k, ⟨dx, h, m⟩ => ⟨dx, by rw [k p m]; exact h, m⟩
  | .strid _ _ _ _, p, M, k, ⟨dx, h, m⟩ => ⟨dx, by rw [k p m]; exact h, m⟩
  | .pairs _ _ _, p, M, k, ⟨dx, d, kvs, h, m, hd, md, hl, hf⟩ => ⟨dx, d, kvs, by rw [k p m]; exact h, m, by rw [k d md]; exact hd, md, hl, fun q => fol_keep k (hf q)⟩
  | .both _ _, p, M, k, ⟨dx, pa, pb, A, B, h, m, ha, hb, iA, iB, dj, nA, nB⟩ =>
    ⟨dx, pa, pb, A, B, by rw [k p m]; exact h, m, gat_keep (fun a q => k a (iA a q)) ha, gat_keep (fun a q => k a (iB a q)) hb, iA, iB, dj, nA, nB⟩
theorem gat_more {c : CA} {H : Hp} {N N' : Nat} (hn : N ≤ N') : ∀ {s : S} {p : Addr} {M : Addr → Prop}, GAt c H N s p M → GAt c H N' s p M
  | .silent, _, _, h => h
  | .neigh _, _, _, h => h
  | .strid _ _ _ _, _, _, h => h
  | .pairs _ _ _, _, _, ⟨dx, d, kvs, h, m, hd, md, hl, hf⟩ => ⟨dx, d, kvs, h, m, hd, md, Nat.le_trans hl hn, hf⟩
  | .both _ _, _, _, ⟨dx, pa, pb, A, B, h, m, ha, hb, r⟩ => ⟨dx, pa, pb, A, B, h, m, gat_more hn ha, gat_more hn hb, r⟩
theorem gat_own {c : CA} {H : Hp} {N : Nat} : ∀ {s : S} {p : Addr} {M : Addr → Prop}, GAt c H N s p M → M p
  | .silent, _, _, ⟨_, _, m⟩ => m
  | .neigh _, _, _, ⟨_, _, m⟩ => m
  | .strid _ _ _ _, _, _, ⟨_, _, m⟩ => m
  | .pairs _ _ _, _, _, ⟨_, _, _, _, m, _⟩ => m
  | .both _ _, _, _, ⟨_, _, _, _, _, _, m, _⟩ => m
/-- a wider M -/
theorem fol_wide {H : Hp} {M M' : Addr → Prop} {o : Option V} {xs : List Int} (k : ∀ a, M a → M' a) (h : Fol H M o xs) : Fol H M' o xs := by
  cases o with
  | none => exact h
  | some v =>
    obtain ⟨l, e, hl, m⟩ := h
    exact ⟨l, e, hl, k l m⟩
/-! ### the sizes of what is told -/
def Good : S → Prop
  | .silent => True
  | .neigh m => 0 ≤ m ∧ m ≤ 100
  | .strid _ _ _ _ => True
  | .pairs m _ f => 0 ≤ m ∧ m ≤ 100 ∧ ∀ k, (f k).length ≤ 100
  | .both a b => Good a ∧ Good b
def deep : S → Nat
  | .both a b => max (deep a) (deep b) + 1
  | _ => 0
theorem deep_next : ∀ (s : S) (x : Int), deep (s.next x) = deep s
  | .silent, _ => rfl
  | .neigh _, _ => rfl
  | .strid _ _ _ _, _ => rfl
  | .pairs _ _ _, _ => rfl
  | .both a b, x => by
    show max (deep (a.next x)) (deep (b.next x)) + 1 = max (deep a) (deep b) + 1
    rw [deep_next a x, deep_next b x]
theorem behind_le (f : Int → List Int) {m : Int} (h0 : 0 ≤ m) (h1 : m ≤ 100) (q p : Int) : (behind f m q p).length ≤ 100 := by
  unfold behind
  rw [List.length_take]
  omega
theorem good_next : ∀ {s : S} (x : Int), Good s → Good (s.next x)
  | .silent, _, h => h
  | .neigh _, _, h => h
  | .strid _ _ _ _, _, _ => trivial
  | .pairs m l f, x, ⟨h0, h1, h2⟩ => by
    refine ⟨h0, h1, fun k => ?_⟩
    cases l with
    | none => exact h2 k
    | some q =>
      show (if k = q then behind f m q x else f k).length ≤ 100
      split
      · exact behind_le f h0 h1 q x
      · exact h2 k
  | .both a b, x, h => ⟨good_next x h.1, good_next x h.2⟩
theorem says_le : ∀ {s : S} (x : Int), Good s → (s.says x).length ≤ 100 * 2 ^ deep s
  | .silent, _, _ => by show 0 ≤ _; omega
  | .neigh m, x, h => by
    show (nexts x m).length ≤ 100 * 2 ^ 0
    unfold nexts
    rw [List.length_map, List.length_range]
    have := h.2
    have := h.1
    omega
  | .strid t l s k, x, _ => by
    show (strideSays t x _).length ≤ 100 * 2 ^ 0
    unfold strideSays
    split
    · show 0 ≤ _
      omega
    · show 1 ≤ _
      omega
  | .pairs m l f, x, ⟨h0, h1, h2⟩ => by
    show (folOf l f m x x).length ≤ 100 * 2 ^ 0
    cases l with
    | none => exact h2 x
    | some q =>
      show (if x = q then behind f m q x else f x).length ≤ 100
      split
      · exact behind_le f h0 h1 q x
      · exact h2 x
  | .both a b, x, h => by
    show (joined (a.says x) (b.says x)).length ≤ 100 * 2 ^ (max (deep a) (deep b) + 1)
    unfold joined
    rw [List.length_append]
    have h1 := says_le x h.1
    have h2 := says_le x h.2
    have h3 := List.length_filter_le (fun v => decide (v ∉ a.says x)) (b.says x)
    have h4 : 2 ^ deep a ≤ 2 ^ max (deep a) (deep b) := Nat.pow_le_pow_right (by decide) (Nat.le_max_left _ _)
    have h5 : 2 ^ deep b ≤ 2 ^ max (deep a) (deep b) := Nat.pow_le_pow_right (by decide) (Nat.le_max_right _ _)
    rw [Nat.pow_succ]
    omega
theorem good_begun : ∀ {g : G}, g.ok → Good (begun g)
  | .non, _ => trivial
  | .next _, h => ⟨by have := h.1; omega, by have := h.2; omega⟩
  | .stride _, _ => trivial
  | .pairs _, h => ⟨by have := h.1; omega, by have := h.2; omega, fun _ => Nat.zero_le _⟩
  | .both _ _, h => ⟨good_begun h.1, good_begun h.2⟩
theorem deep_begun : ∀ g : G, deep (begun g) = g.depth
  | .non => rfl
  | .next _ => rfl
  | .stride _ => rfl
  | .pairs _ => rfl
  | .both a b => by
    show max (deep (begun a)) (deep (begun b)) + 1 = max a.depth b.depth + 1
    rw [deep_begun a, deep_begun b]
/-! ### promises of the guessers' defs -/
/-- an __init__: the attributes are laid -/
def spMade (C : Addr) (args : List V) (fs : List (Str × V)) : Sp := fun vs H Q _ => ∃ p dx, vs = .ref p :: args ∧ H p = some (.ins C dx []) ∧ ∀ H', H' p = some (.ins C dx fs) → Out (Is p) H H' → Q .non H'
/-- guess of an object of at most so many both within -/
def spGuess (c : CA) (n : Nat) : Sp := fun vs H Q _ => ∃ p x s M N, vs = [.ref p, .int x] ∧ GAt c H N s p M ∧ Dom M H ∧ deep s ≤ n ∧ Good s ∧ N < 100000 ∧
  ∀ H' q M', H q = none → H' q = some (.lst ((s.says x).map V.int)) → ¬ M' q → GAt c H' (N + 1) (s.next x) p M' → Dom M' H' → (∀ a, M a → M' a) → (∀ a, M' a → M a ∨ H a = none) → Out M H H' → Q (.ref q) H'
section
variable {K : PySem.W.Frag} {c : CA}
def t_Silent_guess : TS := tRet (tLst (tNil))
def t_Neighbours_init (K : PySem.W.Frag) : TS := sFld K (tVar 0) (tVar 1) "many"
def t_Neighbours_guess (K : PySem.W.Frag) : TS := tRet (tLc (iRng2 (tCons (tC (.int 1)) (tCons (tOp (rAddI) (tFld K (tVar 0) "many") (tC (.int 1))) (tNil)))) (gName 2) (tYes) (tOp (rAddI) (tVar 1) (tVar 2)) [2])
def t_Strides_init (K : PySem.W.Frag) : TS := tSeq (sFld K (tVar 0) (tVar 1) "times")
  (tSeq (sFld K (tVar 0) (tC .non) "last")
  (tSeq (sFld K (tVar 0) (tC (.int 0)) "stride")
  (sFld K (tVar 0) (tC (.int 0)) "same")))
def t_Both_init (K : PySem.W.Frag) : TS := tSeq (sFld K (tVar 0) (tVar 1) "one")
  (sFld K (tVar 0) (tVar 2) "other")
abbrev B (Q : VK) : Ends := { nx := fun _ H' => Q .non H', rt := Q }
theorem pu_Silent_guess {vs : List V} {H : Hp} {Q : VK} {E : XK} {n : Nat} (h : ∃ x : Int, ∃ p dx : Addr, ∃ M : Addr → Prop, ∃ N : Nat, vs = [.ref p, .int x] ∧ H p = some (.ins c.Silent dx []) ∧ M p ∧ Dom M H ∧ 
   ∀ H' q M', H q = none → H' q = some (.lst []) → ¬ M' q → GAt c H' (N + 1) .silent p M' → Dom M' H' → (∀ a, M a → M' a) → (∀ a, M' a → M a ∨ H a = none) → Out M H H' → Q (.ref q) H') : t_Silent_guess (B Q) (start ["self", "place"] vs) H := by
  obtain ⟨x, p, dx, M, N, rfl, hp, hm, hd, k⟩ := h
  unfold t_Silent_guess
  walk_at "w"
  refine ⟨by decide, w_new fun q H' hq e hq' => ?_⟩
  exact k H' q M hq hq' (fun z => by obtain ⟨o, ho⟩ := hd q z; rw [hq] at ho; cases ho) ⟨dx, e _ _ hp, hm⟩ (fun a z => by obtain ⟨o, ho⟩ := hd a z; exact ⟨o, e _ _ ho⟩) (fun _ z => z) (fun a z => .inl z) (same_out e)
theorem pu_Neighbours_init (T : GF K c) {vs : List V} {H : Hp} {Q : VK} {E : XK} {m : Int} (h : spMade c.Neighbours [.int m] [("many", .int m)] vs H Q E) : t_Neighbours_init K (B Q) (start ["self", "many"] vs) H := by
  obtain ⟨p, dx, rfl, hp, k⟩ := h
  obtain ⟨cN, cS, cP, cB, nN1, nS1, nS2, nS3, nS4, nP1, nP2, nP3, nB1, nB2⟩ := id T
  unfold t_Neighbours_init
  walk_at "w"
  exact k _ upd_same out_upd
theorem pu_Strides_init (T : GF K c) {vs : List V} {H : Hp} {Q : VK} {E : XK} {t : Int} (h : spMade c.Strides [.int t] [("times", .int t), ("last", .non), ("stride", .int 0), ("same", .int 0)] vs H Q E) : t_Strides_init K (B Q) (start ["self", "times"] vs) H := by
  obtain ⟨p, dx, rfl, hp, k⟩ := h
  obtain ⟨cN, cS, cP, cB, nN1, nS1, nS2, nS3, nS4, nP1, nP2, nP3, nB1, nB2⟩ := id T
  unfold t_Strides_init
  walk_at "w"
  exact k _ upd_same out_upd
/-- attributes laid, the dict new -/
def spPairsInit (c : CA) : Sp := fun vs H Q _ => ∃ p dx m, vs = [.ref p, .int m] ∧ H p = some (.ins c.Pairs dx []) ∧ ∀ H' d, H d = none → H' p = some (.ins c.Pairs dx [("many", .int m), ("last", .non), ("followers", .ref d)]) → H' d = some (.dK []) → Out (Is p) H H' → Q .non H'
def t_Pairs_init (K : PySem.W.Frag) : TS := tSeq (sFld K (tVar 0) (tVar 1) "many")
  (tSeq (sFld K (tVar 0) (tC .non) "last")
  (sFld K (tVar 0) (tDNewK) "followers"))
theorem pu_Pairs_init (T : GF K c) {vs : List V} {H : Hp} {Q : VK} {E : XK} (h : spPairsInit c vs H Q E) : t_Pairs_init K (B Q) (start ["self", "many"] vs) H := by
  obtain ⟨p, dx, m, rfl, hp, k⟩ := h
  obtain ⟨cN, cS, cP, cB, nN1, nS1, nS2, nS3, nS4, nP1, nP2, nP3, nB1, nB2⟩ := id T
  unfold t_Pairs_init
  walk_at "w"
  intro d hd
  have hdp : d ≠ p := fun e => by rw [e, upd_same] at hd; cases hd
  have e1 : upd (upd H p (.ins c.Pairs dx [("many", V.int m), ("last", V.non)])) d (.dK []) p = some (.ins c.Pairs dx [("many", V.int m), ("last", V.non)]) := by
    rw [upd_ne hdp.symm, upd_same]
  walk_at "w"
  refine k _ d (by rw [upd_ne hdp] at hd; exact hd) upd_same (by rw [upd_ne hdp, upd_same]) ?_
  intro b o hb nb
  rw [upd_ne nb, upd_ne (fun e => by rw [upd_ne hdp] at hd; rw [e, hd] at hb; cases hb), upd_ne nb]
  exact hb
theorem pu_Both_init (T : GF K c) {vs : List V} {H : Hp} {Q : VK} {E : XK} {x y : V} (h : spMade c.Both [x, y] [("one", x), ("other", y)] vs H Q E) : t_Both_init K (B Q) (start ["self", "one", "other"] vs) H := by
  obtain ⟨p, dx, rfl, hp, k⟩ := h
  obtain ⟨cN, cS, cP, cB, nN1, nS1, nS2, nS3, nS4, nP1, nP2, nP3, nB1, nB2⟩ := id T
  unfold t_Both_init
  walk_at "w"
  exact k _ upd_same out_upd
theorem added_all (g : V → V) (l : List V) : added (fun _ => true) g l = l.map g := by
  unfold added
  rw [List.filter_eq_self.mpr (fun _ _ => rfl)]
theorem nexts_ints (x m : Int) : added (fun _ => true) (fun v => match v with | .int i => .int (x + i) | _ => .non) (rangeV 1 ((m + 1) - 1).toNat) = (nexts x m).map V.int := by
  rw [added_all]
  unfold rangeV nexts
  rw [List.map_map, List.map_map, show m + 1 - 1 = m by omega]
  rfl
theorem not_dom {M : Addr → Prop} {H : Hp} {q : Addr} (d : Dom M H) (h : H q = none) : ¬ M q := fun z => by
  obtain ⟨o, ho⟩ := d q z
  rw [h] at ho
  cases ho
theorem dom_same {M : Addr → Prop} {H H' : Hp} (d : Dom M H) (e : Same H H') : Dom M H' := fun a z => by
  obtain ⟨o, ho⟩ := d a z
  exact ⟨o, e _ _ ho⟩
theorem gat_same {H H' : Hp} {N : Nat} {s : S} {p : Addr} {M : Addr → Prop} (d : Dom M H) (e : Same H H') (h : GAt c H N s p M) : GAt c H' N s p M :=
  gat_keep (fun a z => by obtain ⟨o, ho⟩ := d a z; rw [ho]; exact e _ _ ho) h
theorem pu_Neighbours_guess (T : GF K c) {vs : List V} {H : Hp} {Q : VK} {E : XK} (h : ∃ x m : Int, ∃ p dx : Addr, ∃ M : Addr → Prop, ∃ N : Nat, vs = [.ref p, .int x] ∧ H p = some (.ins c.Neighbours dx [("many", .int m)]) ∧ M p ∧ Dom M H ∧ 0 ≤ m ∧ m ≤ 100 ∧
   ∀ H' q M', H q = none → H' q = some (.lst ((nexts x m).map V.int)) → ¬ M' q → GAt c H' (N + 1) (.neigh m) p M' → Dom M' H' → (∀ a, M a → M' a) → (∀ a, M' a → M a ∨ H a = none) → Out M H H' → Q (.ref q) H') : t_Neighbours_guess K (B Q) (start ["self", "place", "step"] vs) H := by
  obtain ⟨x, m, p, dx, M, N, rfl, hp, hm, hd, h0, h1, k⟩ := h
  obtain ⟨cN, cS, cP, cB, nN1, nS1, nS2, nS3, nS4, nP1, nP2, nP3, nB1, nB2⟩ := id T
  unfold t_Neighbours_guess
  walk_at "w"
  refine w_lcr2 (fun _ => true) (fun v => match v with | .int i => .int (x + i) | _ => .non) (by omega) (by omega) (fun _ => rfl) (fun i hi H' s R r => ?_) (fun i hi _ H' s R r => ?_) (fun q H' hq e hq' => ?_)
  · walk_at "w"
    exact r _ (Same.refl _)
  · walk_at "w"
    exact r _ (Same.refl _)
  · rw [nexts_ints] at hq'
    exact k H' q M hq hq' (not_dom hd hq) ⟨dx, e _ _ hp, hm⟩ (dom_same hd e) (fun _ z => z) (fun a z => .inl z) (same_out e)
/-! ### strides -/
def stF (t l s k : V) : List (Str × V) := [("times", t), ("last", l), ("stride", s), ("same", k)]
/-- count_stride: only the stride and the count change -/
def spCount (c : CA) : Sp := fun vs H Q _ => ∃ p dx d t l s k, vs = [.ref p, .int d] ∧ H p = some (.ins c.Strides dx (stF t l (.int s) (.int k))) ∧
  Q .non (upd H p (.ins c.Strides dx (stF t l (.int d) (.int (if d = s then k + 1 else 1)))))
def t_Strides_count_stride (K : PySem.W.Frag) : TS := tSeq (sFld K (tVar 0) (tIf (tTest (tOp (rEq) (tVar 1) (tFld K (tVar 0) "stride"))) (tOp (rAddI) (tFld K (tVar 0) "same") (tC (.int 1))) (tC (.int 1))) "same")
  (sFld K (tVar 0) (tVar 1) "stride")
theorem pu_Strides_count_stride (T : GF K c) {vs : List V} {H : Hp} {Q : VK} {E : XK} (h : spCount c vs H Q E) : t_Strides_count_stride K (B Q) (start ["self", "stride"] vs) H := by
  obtain ⟨p, dx, d, t, l, s, k, rfl, hp, q⟩ := h
  obtain ⟨cN, cS, cP, cB, nN1, nS1, nS2, nS3, nS4, nP1, nP2, nP3, nB1, nB2⟩ := id T
  unfold t_Strides_count_stride
  unfold stF at *
  walk_at "w"
  refine w_if2 (fun e => ?_) (fun e => ?_)
  · walk_at "w"
    have e' : d = s := by simpa using e
    rw [if_pos e'] at q
    exact q
  · walk_at "w"
    have e' : ¬ d = s := by simpa using e
    rw [if_neg e'] at q
    exact q
def t_Strides_guess (K : PySem.W.Frag) (c_Strides : Addr) (sp_Strides_count_stride : Sp) : TS := tSeq (tIfS (tB (tNotN (tFld K (tVar 0) "last"))) (tDrop (tMeth c_Strides "count_stride" sp_Strides_count_stride [] E0 (tVar 0) (tCons (tOp (rSubI) (tVar 1) (tFld K (tVar 0) "last")) (tNil)))) (tNext))
  (tSeq (sFld K (tVar 0) (tVar 1) "last")
  (tSeq (tIfS (tOr (tTest (tOp (rEq) (tFld K (tVar 0) "stride") (tC (.int 0)))) (tTest (tOp (rLtI) (tFld K (tVar 0) "same") (tFld K (tVar 0) "times")))) (tRet (tLst (tNil))) (tNext))
  (tRet (tLst (tCons (tOp (rAddI) (tVar 1) (tFld K (tVar 0) "stride")) (tNil))))))
theorem optV_non (l : Option Int) : decide (optV l = V.non) = l.isNone := by
  cases l with
  | none => rfl
  | some _ => exact decide_eq_false (fun z => nomatch z)
theorem pu_Strides_guess (T : GF K c) {vs : List V} {H : Hp} {Q : VK} {E : XK} (h : ∃ x t s k : Int, ∃ l : Option Int, ∃ p dx : Addr, ∃ M : Addr → Prop, ∃ N : Nat, vs = [.ref p, .int x] ∧ H p = some (.ins c.Strides dx (stF (.int t) (optV l) (.int s) (.int k))) ∧ M p ∧ Dom M H ∧
   ∀ H' q M', H q = none → H' q = some (.lst ((strideSays t x (strideOf l s k x)).map V.int)) → ¬ M' q → GAt c H' (N + 1) (.strid t (some x) (strideOf l s k x).1 (strideOf l s k x).2) p M' → Dom M' H' → (∀ a, M a → M' a) → (∀ a, M' a → M a ∨ H a = none) → Out M H H' → Q (.ref q) H') :
    t_Strides_guess K c.Strides (spCount c) (B Q) (start ["self", "place"] vs) H := by
  obtain ⟨x, t, s, k, l, p, dx, M, N, rfl, hp, hm, hd, q⟩ := h
  obtain ⟨cN, cS, cP, cB, nN1, nS1, nS2, nS3, nS4, nP1, nP2, nP3, nB1, nB2⟩ := id T
  -- behind the stores: the test, the answer
  have fin : ∀ (s' k' : Int) (Hx : Hp) (dx : Addr), strideOf l s k x = (s', k') → Hx = upd H p (.ins c.Strides dx (stF (.int t) (.int x) (.int s') (.int k'))) → 
      tSeq (tIfS (tOr (tTest (tOp (rEq) (tFld K (tVar 0) "stride") (tC (.int 0)))) (tTest (tOp (rLtI) (tFld K (tVar 0) "same") (tFld K (tVar 0) "times")))) (tRet (tLst (tNil))) (tNext))
        (tRet (tLst (tCons (tOp (rAddI) (tVar 1) (tFld K (tVar 0) "stride")) (tNil)))) (B Q) [some (.ref p), some (.int x)] Hx := by
    intro s' k' Hx dx es eH
    rw [es] at q
    have hx : Hx p = some (.ins c.Strides dx [("times", .int t), ("last", .int x), ("stride", .int s'), ("same", .int k')]) := by rw [eH]; exact upd_same
    have ho : ∀ b o, b ≠ p → H b = some o → Hx b = some o := fun b o nb e => by rw [eH, upd_ne nb]; exact e
    have hfr : ∀ b, Hx b = none → H b = none := fun b e => by
      cases z : H b with
      | none => rfl
      | some o =>
        by_cases hb : b = p
        · rw [hb, hx] at e; cases e
        · rw [ho b o hb z] at e; cases e
    have done : ∀ (a : Addr) (H' : Hp) (ys : List Int), Hx a = none → Same Hx H' → H' a = some (.lst (ys.map V.int)) → strideSays t x (s', k') = ys → Q (.ref a) H' := fun a H' ys ha e h1 h2 => by
      refine q H' a M (hfr a ha) (by rw [h2]; exact h1) (not_dom hd (hfr a ha)) ⟨dx, e _ _ hx, hm⟩ (fun b z => ?_) (fun _ z => z) (fun b z => .inl z) (fun b o hb nb => e _ _ (ho b o (fun z => nb (z ▸ hm)) hb))
      obtain ⟨o, hb⟩ := hd b z
      by_cases hbp : b = p
      · exact ⟨_, by rw [hbp]; exact e _ _ hx⟩
      · exact ⟨o, e _ _ (ho b o hbp hb)⟩
    walk_at "w"
    refine w_if2 (fun e1 => ?_) (fun e1 => ?_)
    · have e1' : s' = 0 := by simpa using e1
      walk_at "w"
      refine ⟨by decide, w_new fun a H' ha e h1 => done a H' [] ha e h1 ?_⟩
      unfold strideSays
      rw [if_pos (.inl e1')]
    · have e1' : ¬ s' = 0 := by simpa using e1
      walk_at "w"
      refine w_if2 (fun e2 => ?_) (fun e2 => ?_)
      · walk_at "w"
        refine ⟨by decide, w_new fun a H' ha e h1 => done a H' [] ha e h1 ?_⟩
        unfold strideSays
        rw [if_pos (.inr e2)]
      · walk_at "w"
        refine ⟨small_le (by simp), w_new fun a H' ha e h1 => done a H' [x + s'] ha e h1 ?_⟩
        unfold strideSays
        rw [if_neg]
        rintro (z | z)
        · exact e1' z
        · exact e2 z
  unfold t_Strides_guess
  unfold stF at *
  walk_at "w"
  rw [optV_non]
  cases l with
  | none =>
    refine w_ift ?_
    refine w_next ?_
    dsimp only
    refine w_seq (w_sfld ?_)
    walk_at "w2"
    walk_at "w2"
    walk_at "w2"
    exact fin s k _ dx rfl rfl
  | some y =>
    refine w_iff ?_
    walk_at "w"
    show rSubI (.int x) (.int y) H _
    walk_at "w"
    refine ⟨p, dx, x - y, .int t, .int y, s, k, rfl, hp, ?_⟩
    refine w_seq (w_sfld ?_)
    unfold stF
    walk_at "w2"
    walk_at "w2"
    walk_at "w2"
    exact fin (x - y) _ _ dx rfl rfl
end
end SwD
set_option Elab.async false
set_option linter.all false
set_option maxRecDepth 100000
set_option maxHeartbeats 4000000
namespace SwD
open PySem PySem.Spec PyProof.Rows L2 SwX StX Sw
local macro_rules | `(tactic| walk_at "lk") => `(tactic| first | exact lk_at | exact lk_no | ((refine' lk_by (by decide +kernel) ?wq); (case wq => walk_at "lk")))
local macro_rules | `(tactic| walk_at "pf") => `(tactic| first | exact pf_at | exact pf_nil | ((refine' pf_by (by decide +kernel) ?wq); (case wq => walk_at "pf")))
local macro_rules | `(tactic| walk_at "w1") => `(tactic| with_reducible first
  | refine w_seq ?_ | refine w_asg ?_ | refine w_name ?_ | refine w_ret ?_ | refine w_retN ?_ | refine w_drop ?_ | refine w_next ?_ | refine w_if ?_ | refine w_ifE ?_ | refine w_test ?_ | refine w_B ?_ | refine w_bl ?_
  | refine w_not ?_ | refine w_and ?_ | refine w_or ?_ | refine w_andV ?_ | refine w_orV ?_ | refine w_notV ?_ | refine w_isN ?_ | refine w_notN ?_ | refine w_yes ?_
  | refine w_c ?_ | refine w_op ?_ | refine w_un ?_ | refine w_i0 ?_ | refine w_neg ?_ | refine w_nil ?_ | refine w_cons ?_ | refine w_cb ?_ | refine w_call ?_ | refine w_tup ?_ | refine w_lst ?_
  | refine w_fld ?_ | refine w_sfld ?_ | refine w_match ?_ | refine w_case ?_ | refine w_mcons ?_ | refine w_mnil ?_ | refine w_mcap ?_ | refine w_many ?_ | refine w_myes ?_
  | refine w_sub ?_ | refine w_bm ?_ | refine w_sl ?_ | refine w_nopart ?_ | refine w_part ?_ | refine w_int ?_ | refine w_ift ?_ | refine w_iff ?_ | refine w_ifn ?_ | refine w_dget2 ?_ | refine w_star ?_ | refine w_dput ?_ | refine w_dnewK ?_ | refine w_meth ?_ | refine w_oneOf ?_ | refine w_make ?_ | refine w_lc ?_ | refine w_for ?_ | refine w_ilist ?_ | refine w_irng1 ?_ | refine w_irng2 ?_ | refine w_irng3 ?_)
local macro_rules | `(tactic| walk_at "w2") => `(tactic| first
  | ((with_reducible refine' w_var ?wh ?_); (case wh => rfl))
  | ((with_reducible refine' w_eq ?wh ?_); (case wh => rfl))
  | ((with_reducible refine' w_ne ?wh ?_); (case wh => rfl))
  | ((with_reducible refine' w_mno ?wh ?_); (case wh => decide +kernel))
  | ((with_reducible refine' w_mhit ?wh ?wl ?_); (case wh => assumption); (case wl => rfl))
  | ((with_reducible refine' w_mmiss ?wh ?wl ?_); (case wh => assumption); (case wl => simp))
  | ((with_reducible refine' w_fldA ?wh ?wc ?wn ?wl ?_); (case wh => first | assumption | exact upd_same); (case wc => assumption); (case wn => assumption); (case wl => walk_at "lk"))
  | ((with_reducible refine' w_ixl ?wh ?we ?_); (case wh => exact SqL.of (by first | assumption | exact upd_same)); (case we => rfl))
  | ((with_reducible refine' w_ixt ?wh ?we ?_); (case wh => assumption); (case we => rfl))
  | ((with_reducible refine' w_ifT ?wh ?_); (case wh => (with_reducible exact Eq.refl _)))
  | ((with_reducible refine' w_ifF ?wh ?_); (case wh => decide +kernel))
  | ((with_reducible refine' w_isiY ?wh ?wk ?_); (case wh => first | exact .int _ | exact .str _ | exact .lst (by assumption) | exact .tup (by assumption)); (case wk => decide +kernel))
  | ((with_reducible refine' w_isiN ?wh ?wk ?_); (case wh => first | exact .int _ | exact .str _ | exact .lst (by assumption) | exact .tup (by assumption)); (case wk => decide +kernel))
  | ((with_reducible refine' w_ifF ?wh ?_); (case wh => (intro z; cases z; done)))
  | ((with_reducible refine' w_setl ?wh ?we ?wl ?_); (case wh => first | assumption | exact upd_same); (case we => rfl); (case wl => rfl))
  | ((with_reducible refine' w_methA ?wh ?wl ?_); (case wh => first | assumption | exact upd_same); (case wl => walk_at "lk"))
  | ((with_reducible refine' w_sfldB ?wc ?wn ?wz ?wl ?_); (case wc => assumption); (case wn => assumption); (case wz => simp); (case wl => walk_at "pf"))
  | ((with_reducible refine' w_sfldA ?wh ?wc ?wn ?wz ?wl ?_); (case wh => assumption); (case wc => assumption); (case wn => assumption); (case wz => simp); (case wl => walk_at "pf")))
local macro_rules | `(tactic| walk_at "w") => `(tactic| repeat (first | walk_at "w1" | walk_at "w2" | (dsimp only [List.set, setAll, List.append, List.cons_append, List.nil_append])))
section
variable {K : PySem.W.Frag} {c : CA}
/-! ### pairs -/
theorem cut_take (xs : List V) {m : Int} (h : 0 ≤ m) : cutV xs none (some m) = xs.take m.toNat := by
  unfold cutV
  rw [HT.sIx_none, List.drop_zero, Nat.sub_zero]
  have e : m = ((m.toNat : Nat) : Int) := by omega
  rw [e, HT.sIx_nat, Int.toNat_natCast]
  by_cases c : m.toNat ≤ xs.length
  · rw [Nat.min_eq_left c]
  · rw [Nat.min_eq_right (by omega), List.take_of_length_le (Nat.le_refl _), List.take_of_length_le (by omega)]
def neV (x : Int) : V → Bool
  | .int i => !decide (i = x)
  | _ => false
theorem added_ne (x : Int) : ∀ l : List Int, added (neV x) id (l.map V.int) = (l.filter (fun y => decide (y ≠ x))).map V.int
  | [] => rfl
  | a :: r => by
    have ih := added_ne x r
    unfold added at ih ⊢
    rw [List.map_cons, List.filter_cons, List.filter_cons]
    by_cases e : a = x
    · rw [if_neg (by simp [neV, e]), if_neg (by simp [e]), ih]
    · rw [if_pos (by simp [neV, e]), if_pos (by simp [e]), List.map_cons, ih]
      rfl
def prF (m l : V) (d : Addr) : List (Str × V) := [("many", m), ("last", l), ("followers", .ref d)]
/-- put_behind: a new list, the dict alone is written -/
def spPut (c : CA) : Sp := fun vs H Q _ => ∃ p dx d q x m l kvs f M, vs = [.ref p, .int q, .int x] ∧ H p = some (.ins c.Pairs dx (prF (.int m) l d)) ∧ 0 ≤ m ∧ H d = some (.dK kvs) ∧ kvs.length < 100000 ∧ Fol H M (valV kvs (Sum.inl q)) f ∧ f.length ≤ 100 ∧
  ∀ H' a, H a = none → H' a = some (.lst (((x :: f.filter (fun y => decide (y ≠ x))).take m.toNat).map V.int)) → H' d = some (.dK (putK kvs (Sum.inl q) (.ref a))) → Out (Is d) H H' → Q .non H'
def t_Pairs_put_behind (K : PySem.W.Frag) : TS := tSeq (tAsg (tLc (iList K (tDGet2 (tFld K (tVar 0) "followers") (tVar 1) (tLst (tNil)))) (gName 4) (tTest (tOp (rNe) (tVar 4) (tVar 2))) (tVar 4) [4]) (gName 3))
  (sDPut (tFld K (tVar 0) "followers") (tVar 1) (tSl (rSlL K) (tLst (tCons (tVar 2) (tStar K (tVar 3) (tNil)))) (tNoPart) (tPart (tFld K (tVar 0) "many"))))
theorem pu_Pairs_put_behind (T : GF K c) {vs : List V} {H : Hp} {Q : VK} {E : XK} (h : spPut c vs H Q E) : t_Pairs_put_behind K (B Q) (start ["self", "earlier", "place", "others", "other"] vs) H := by
  obtain ⟨p, dx, d, q, x, m, l, kvs, f, M, rfl, hp, h0, hd, hl, hf, hz, k⟩ := h
  obtain ⟨cN, cS, cP, cB, nN1, nS1, nS2, nS3, nS4, nP1, nP2, nP3, nB1, nB2⟩ := id T
  unfold t_Pairs_put_behind
  unfold prF at *
  walk_at "w"
  refine ⟨d, rfl, .inl ⟨kvs, .inl hd⟩, ?_⟩
  walk_at "w"
  refine ⟨by decide, fun z hz0 => ?_⟩
  have e1 : Same H (upd H z (.lst [])) := same_upd hz0
  have hd1 := e1 _ _ hd
  refine ⟨_, DGet.k (k := Sum.inl q) hd1, ?_⟩
  obtain ⟨a0, ea0, ha0⟩ : ∃ a0, (valV kvs (Sum.inl q)).getD (.ref z) = .ref a0 ∧ upd H z (.lst []) a0 = some (.lst (f.map V.int)) := by
    cases e : valV kvs (Sum.inl q) with
    | none =>
      rw [e] at hf
      have hf : f = [] := hf
      rw [hf]
      exact ⟨z, rfl, upd_same⟩
    | some v =>
      rw [e] at hf
      obtain ⟨a, ea, ha, _⟩ := hf
      exact ⟨a, ea, e1 _ _ ha⟩
  rw [ea0]
  generalize upd H z (.lst []) = H1 at e1 hd1 ha0
  refine w_lcl (neV x) id (SqL.of ha0) (small_lt (by rw [List.length_map]; omega)) (fun _ => rfl) (fun y hy H' s R r => ?_) (fun y hy cy H' s R r => ?_) (fun o H2 ho e2 ho2 => ?_)
  · obtain ⟨i, _, rfl⟩ := List.mem_map.mp hy
    walk_at "w"
    have e : decide (V.int i = V.int x) = decide (i = x) := by simp
    rw [e]
    exact r _ (Same.refl _)
  · walk_at "w"
    exact r _ (Same.refl _)
  · rw [added_ne] at ho2
    have hp2 := e2 _ _ (e1 _ _ hp)
    have hd2 := e2 _ _ hd1
    walk_at "w"
    refine ⟨o, _, rfl, .inr (SqL.of ho2), ?_⟩
    walk_at "w"
    refine ⟨small_le ?_, w_new fun p1 H3 hp1 e3 ho3 => ?_⟩
    · simp only [List.length_cons, List.append_nil, List.length_map]
      have := List.length_filter_le (fun y => decide (y ≠ x)) f
      omega
    have hp3 := e3 _ _ hp2
    have hd3 := e3 _ _ hd2
    walk_at "w"
    refine w_sll (SqL.of ho3) (w_new fun p2 H4 hp4 e4 ho4 => ?_)
    have hp4' := e4 _ _ hp3
    have hd4 := e4 _ _ hd3
    walk_at "w"
    refine ⟨d, _, rfl, DPut.k (k := Sum.inl q) hd4 (small_lt (by omega)), ?_⟩
    have np2 : p2 ≠ d := ne_of ho4 hd4 (fun z => nomatch z)
    have fr : H p2 = none := e1.free (e2.free (e3.free hp4))
    refine k _ p2 fr ?_ upd_same ?_
    · rw [upd_ne np2, ho4, cut_take _ h0, List.append_nil, List.map_take, List.map_cons]
    · intro b o hb nb
      rw [upd_ne nb]
      exact e4 _ _ (e3 _ _ (e2 _ _ (e1 _ _ hb)))
def t_Pairs_guess (K : PySem.W.Frag) (c_Pairs : Addr) (sp_Pairs_put_behind : Sp) : TS := tSeq (tIfS (tB (tNotN (tFld K (tVar 0) "last"))) (tDrop (tMeth c_Pairs "put_behind" sp_Pairs_put_behind [] E0 (tVar 0) (tCons (tFld K (tVar 0) "last") (tCons (tVar 1) (tNil))))) (tNext))
  (tSeq (sFld K (tVar 0) (tVar 1) "last")
  (tRet (tCB (rListOf K) (tCons (tDGet2 (tFld K (tVar 0) "followers") (tVar 1) (tLst (tNil))) (tNil)))))
theorem pu_Pairs_guess (T : GF K c) {vs : List V} {H : Hp} {Q : VK} {E : XK} (h : ∃ x m : Int, ∃ l : Option Int, ∃ f : Int → List Int, ∃ p : Addr, ∃ M : Addr → Prop, ∃ N : Nat, vs = [.ref p, .int x] ∧ GAt c H N (.pairs m l f) p M ∧ Dom M H ∧ Good (.pairs m l f) ∧ N < 100000 ∧
   ∀ H' q M', H q = none → H' q = some (.lst ((folOf l f m x x).map V.int)) → ¬ M' q → GAt c H' (N + 1) (.pairs m (some x) (folOf l f m x)) p M' → Dom M' H' → (∀ a, M a → M' a) → (∀ a, M' a → M a ∨ H a = none) → Out M H H' → Q (.ref q) H') :
    t_Pairs_guess K c.Pairs (spPut c) (B Q) (start ["self", "place"] vs) H := by
  obtain ⟨x, m, l, f, p, M, N, rfl, ⟨dx, d, kvs, hp, hm, hd, md, hl, hf⟩, dom, ⟨h0, h1, h2⟩, hN, k⟩ := h
  obtain ⟨cN, cS, cP, cB, nN1, nS1, nS2, nS3, nS4, nP1, nP2, nP3, nB1, nB2⟩ := id T
  have npd : p ≠ d := ne_of hp hd (fun z => nomatch z)
  -- behind the dict's change: self.last = place; the copy
  have fin : ∀ (Hx : Hp) (M' : Addr → Prop) (kvs' : List (Key × V)), M' p → M' d → Hx p = some (.ins c.Pairs dx [("many", .int m), ("last", optV l), ("followers", .ref d)]) → Hx d = some (.dK kvs') → kvs'.length ≤ N + 1 →
      (∀ q, Fol Hx M' (valV kvs' (Sum.inl q)) (folOf l f m x q)) → Dom M' Hx → (∀ a, M a → M' a) → (∀ a, M' a → M a ∨ H a = none) → Out M H Hx → (∀ a, Hx a = none → H a = none) →
      tSeq (sFld K (tVar 0) (tVar 1) "last") (tRet (tCB (rListOf K) (tCons (tDGet2 (tFld K (tVar 0) "followers") (tVar 1) (tLst (tNil))) (tNil)))) (B Q) [some (.ref p), some (.int x)] Hx := by
    intro Hx M' kvs' mp md' hxp hxd hl' hf' dom' hMM hM ho hfr
    walk_at "w"
    have hd1 : upd Hx p (.ins c.Pairs dx [("many", V.int m), ("last", V.int x), ("followers", V.ref d)]) d = some (.dK kvs') := by rw [upd_ne npd.symm]; exact hxd
    refine ⟨d, rfl, .inl ⟨kvs', .inl hd1⟩, ?_⟩
    walk_at "w"
    refine ⟨by decide, w_new fun z H2 hz e2 hz2 => ?_⟩
    have hp2 : H2 p = some (.ins c.Pairs dx [("many", V.int m), ("last", V.int x), ("followers", V.ref d)]) := e2 _ _ upd_same
    have hd2 := e2 _ _ hd1
    refine ⟨_, DGet.k (k := Sum.inl x) hd2, ?_⟩
    have st2 : ∀ b o, b ≠ p → Hx b = some o → H2 b = some o := fun b o nb e => e2 _ _ (by rw [upd_ne nb]; exact e)
    obtain ⟨a0, ea0, ha0⟩ : ∃ a0, (valV kvs' (Sum.inl x)).getD (.ref z) = .ref a0 ∧ H2 a0 = some (.lst ((folOf l f m x x).map V.int)) := by
      have hfx := hf' x
      cases e : valV kvs' (Sum.inl x) with
      | none =>
        rw [e] at hfx
        have hfx : folOf l f m x x = [] := hfx
        rw [hfx]
        exact ⟨z, rfl, hz2⟩
      | some v =>
        rw [e] at hfx
        obtain ⟨a, ea, ha, _⟩ := hfx
        exact ⟨a, ea, st2 _ _ (ne_of ha hxp (fun z => nomatch z)) ha⟩
    rw [ea0]
    walk_at "w"
    refine w_listof (SqL.of ha0) (w_new fun q H3 hq e3 hq3 => ?_)
    have fq : Hx q = none := by
      have h2 := e2.free hq
      by_cases hqp : q = p
      · rw [hqp, upd_same] at h2; cases h2
      · rw [upd_ne hqp] at h2; exact h2
    have st3 : ∀ b o, b ≠ p → Hx b = some o → H3 b = some o := fun b o nb e => e3 _ _ (st2 _ _ nb e)
    refine k H3 q M' (hfr q fq) hq3 (not_dom dom' fq) ⟨dx, d, kvs', e3 _ _ hp2, mp, e3 _ _ hd2, md', hl', fun y => ?_⟩ (fun a z => ?_) hMM hM (fun b o hb nb => ?_)
    · have hy := hf' y
      revert hy
      cases valV kvs' (Sum.inl y) with
      | none => exact id
      | some v =>
        rintro ⟨a, ea, ha, ma⟩
        exact ⟨a, ea, st3 _ _ (ne_of ha hxp (fun z => nomatch z)) ha, ma⟩
    · obtain ⟨o, ho⟩ := dom' a z
      by_cases hap : a = p
      · exact ⟨_, by rw [hap]; exact e3 _ _ hp2⟩
      · exact ⟨o, st3 _ _ hap ho⟩
    · exact st3 _ _ (fun z => nb (z ▸ hm)) (ho b o hb nb)
  unfold t_Pairs_guess
  walk_at "w"
  rw [optV_non]
  cases l with
  | none =>
    refine w_ift ?_
    refine w_next ?_
    exact fin H M kvs hm md hp hd (by omega) hf dom (fun _ z => z) (fun a z => .inl z) Out.refl (fun _ z => z)
  | some y =>
    refine w_iff ?_
    walk_at "w"
    show spPut c [.ref p, .int y, .int x] H _ _
    refine ⟨p, dx, d, y, x, m, .int y, kvs, f y, M, rfl, hp, h0, hd, by omega, hf y, h2 y, fun H' a ha ha' hd' e => ?_⟩
    have nap : a ≠ p := fun z => by rw [z, hp] at ha; cases ha
    have nad : a ≠ d := fun z => by rw [z, hd] at ha; cases ha
    have hp' : H' p = some (.ins c.Pairs dx [("many", .int m), ("last", .int y), ("followers", .ref d)]) := e _ _ hp npd
    refine fin H' (fun b => M b ∨ b = a) _ (.inl hm) (.inl md) hp' hd' (by have := length_putK kvs (Sum.inl y) (V.ref a); omega) (fun q => ?_) (fun b z => ?_) (fun _ z => .inl z) (fun b z => ?_) (fun b o hb nb => ?_) (fun b hb => ?_)
    · rw [valV_put]
      show Fol H' _ _ (if q = y then behind f m y x else f q)
      by_cases hqy : q = y
      · subst hqy
        rw [if_pos rfl, if_pos rfl]
        exact ⟨a, rfl, ha', .inr rfl⟩
      · rw [if_neg (fun z => hqy (Sum.inl.inj z)), if_neg hqy]
        have hfq := hf q
        revert hfq
        cases valV kvs (Sum.inl q) with
        | none => exact id
        | some v =>
          rintro ⟨b, eb, hb, mb⟩
          exact ⟨b, eb, e _ _ hb (ne_of hb hd (fun z => nomatch z)), .inl mb⟩
    · rcases z with z | z
      · obtain ⟨o, ho⟩ := dom b z
        by_cases hbd : b = d
        · exact ⟨_, by rw [hbd]; exact hd'⟩
        · exact ⟨o, e _ _ ho hbd⟩
      · exact ⟨_, by rw [z]; exact ha'⟩
    · rcases z with z | z
      · exact .inl z
      · exact .inr (by rw [z]; exact ha)
    · exact e _ _ hb (fun z => nb (z ▸ md))
    · cases z : H b with
      | none => rfl
      | some o =>
        by_cases hbd : b = d
        · rw [hbd, hd'] at hb; cases hb
        · rw [e _ _ z hbd] at hb; cases hb
end
end SwD
set_option Elab.async false
set_option linter.all false
set_option maxRecDepth 100000
set_option maxHeartbeats 4000000
namespace SwD
open PySem PySem.Spec PyProof.Rows L2 SwX StX Sw
local macro_rules | `(tactic| walk_at "lk") => `(tactic| first | exact lk_at | exact lk_no | ((refine' lk_by (by decide +kernel) ?wq); (case wq => walk_at "lk")))
local macro_rules | `(tactic| walk_at "pf") => `(tactic| first | exact pf_at | exact pf_nil | ((refine' pf_by (by decide +kernel) ?wq); (case wq => walk_at "pf")))
local macro_rules | `(tactic| walk_at "w1") => `(tactic| with_reducible first
  | refine w_seq ?_ | refine w_asg ?_ | refine w_name ?_ | refine w_ret ?_ | refine w_retN ?_ | refine w_drop ?_ | refine w_next ?_ | refine w_if ?_ | refine w_ifE ?_ | refine w_test ?_ | refine w_B ?_ | refine w_bl ?_
  | refine w_not ?_ | refine w_and ?_ | refine w_or ?_ | refine w_andV ?_ | refine w_orV ?_ | refine w_notV ?_ | refine w_isN ?_ | refine w_notN ?_ | refine w_yes ?_
  | refine w_c ?_ | refine w_op ?_ | refine w_un ?_ | refine w_i0 ?_ | refine w_neg ?_ | refine w_nil ?_ | refine w_cons ?_ | refine w_cb ?_ | refine w_call ?_ | refine w_tup ?_ | refine w_lst ?_
  | refine w_fld ?_ | refine w_sfld ?_ | refine w_match ?_ | refine w_case ?_ | refine w_mcons ?_ | refine w_mnil ?_ | refine w_mcap ?_ | refine w_many ?_ | refine w_myes ?_
  | refine w_sub ?_ | refine w_bm ?_ | refine w_sl ?_ | refine w_nopart ?_ | refine w_part ?_ | refine w_int ?_ | refine w_ift ?_ | refine w_iff ?_ | refine w_ifn ?_ | refine w_dget2 ?_ | refine w_star ?_ | refine w_dput ?_ | refine w_dnewK ?_ | refine w_meth ?_ | refine w_oneOf ?_ | refine w_make ?_ | refine w_lc ?_ | refine w_for ?_ | refine w_ilist ?_ | refine w_irng1 ?_ | refine w_irng2 ?_ | refine w_irng3 ?_)
local macro_rules | `(tactic| walk_at "w2") => `(tactic| first
  | ((with_reducible refine' w_var ?wh ?_); (case wh => rfl))
  | ((with_reducible refine' w_eq ?wh ?_); (case wh => rfl))
  | ((with_reducible refine' w_ne ?wh ?_); (case wh => rfl))
  | ((with_reducible refine' w_mno ?wh ?_); (case wh => decide +kernel))
  | ((with_reducible refine' w_mhit ?wh ?wl ?_); (case wh => assumption); (case wl => rfl))
  | ((with_reducible refine' w_mmiss ?wh ?wl ?_); (case wh => assumption); (case wl => simp))
  | ((with_reducible refine' w_fldA ?wh ?wc ?wn ?wl ?_); (case wh => first | assumption | exact upd_same); (case wc => assumption); (case wn => assumption); (case wl => walk_at "lk"))
  | ((with_reducible refine' w_ixl ?wh ?we ?_); (case wh => exact SqL.of (by first | assumption | exact upd_same)); (case we => rfl))
  | ((with_reducible refine' w_ixt ?wh ?we ?_); (case wh => assumption); (case we => rfl))
  | ((with_reducible refine' w_ifT ?wh ?_); (case wh => (with_reducible exact Eq.refl _)))
  | ((with_reducible refine' w_ifF ?wh ?_); (case wh => decide +kernel))
  | ((with_reducible refine' w_isiY ?wh ?wk ?_); (case wh => first | exact .int _ | exact .str _ | exact .lst (by assumption) | exact .tup (by assumption)); (case wk => decide +kernel))
  | ((with_reducible refine' w_isiN ?wh ?wk ?_); (case wh => first | exact .int _ | exact .str _ | exact .lst (by assumption) | exact .tup (by assumption)); (case wk => decide +kernel))
  | ((with_reducible refine' w_ifF ?wh ?_); (case wh => (intro z; cases z; done)))
  | ((with_reducible refine' w_setl ?wh ?we ?wl ?_); (case wh => first | assumption | exact upd_same); (case we => rfl); (case wl => rfl))
  | ((with_reducible refine' w_methA ?wh ?wl ?_); (case wh => first | assumption | exact upd_same); (case wl => walk_at "lk"))
  | ((with_reducible refine' w_sfldB ?wc ?wn ?wz ?wl ?_); (case wc => assumption); (case wn => assumption); (case wz => simp); (case wl => walk_at "pf"))
  | ((with_reducible refine' w_sfldA ?wh ?wc ?wn ?wz ?wl ?_); (case wh => assumption); (case wc => assumption); (case wn => assumption); (case wz => simp); (case wl => walk_at "pf")))
local macro_rules | `(tactic| walk_at "w") => `(tactic| repeat (first | walk_at "w1" | walk_at "w2" | (dsimp only [List.set, setAll, List.append, List.cons_append, List.nil_append])))
inductive Lab where
  | silent | neigh | strid | pairs | both
def lab : S → Lab
  | .silent => .silent
  | .neigh _ => .neigh
  | .strid _ _ _ _ => .strid
  | .pairs _ _ _ => .pairs
  | .both _ _ => .both
def CA.at (c : CA) : Lab → Addr
  | .silent => c.Silent
  | .neigh => c.Neighbours
  | .strid => c.Strides
  | .pairs => c.Pairs
  | .both => c.Both
/-- guess of an object of one class -/
def spGuessL (c : CA) (n : Nat) (i : Lab) : Sp := fun vs H Q _ => ∃ p x s M N, lab s = i ∧ vs = [.ref p, .int x] ∧ GAt c H N s p M ∧ Dom M H ∧ deep s ≤ n ∧ Good s ∧ N < 100000 ∧
  ∀ H' q M', H q = none → H' q = some (.lst ((s.says x).map V.int)) → ¬ M' q → GAt c H' (N + 1) (s.next x) p M' → Dom M' H' → (∀ a, M a → M' a) → (∀ a, M' a → M a ∨ H a = none) → Out M H H' → Q (.ref q) H'
theorem gat_ins {c : CA} {H : Hp} {N : Nat} : ∀ {s : S} {p : Addr} {M : Addr → Prop}, GAt c H N s p M → ∃ dx fs, H p = some (.ins (c.at (lab s)) dx fs) ∧ fs.lookup ("guess" : Str) = none
  | .silent, _, _, ⟨dx, h, _⟩ => ⟨dx, _, h, rfl⟩
  | .neigh _, _, _, ⟨dx, h, _⟩ => ⟨dx, _, h, by walk_at "lk"⟩
  | .strid _ _ _ _, _, _, ⟨dx, h, _⟩ => ⟨dx, _, h, by walk_at "lk"⟩
  | .pairs _ _ _, _, _, ⟨dx, _, _, h, _⟩ => ⟨dx, _, h, by walk_at "lk"⟩
  | .both _ _, _, _, ⟨dx, _, _, _, _, h, _⟩ => ⟨dx, _, h, by walk_at "lk"⟩
def notIn (l : List Int) : V → Bool
  | .int i => !decide (i ∈ l)
  | _ => false
theorem added_notIn (l : List Int) : ∀ ys : List Int, added (notIn l) id (ys.map V.int) = (ys.filter (fun v => decide (v ∉ l))).map V.int
  | [] => rfl
  | a :: r => by
    have ih := added_notIn l r
    unfold added at ih ⊢
    rw [List.map_cons, List.filter_cons, List.filter_cons]
    by_cases e : a ∈ l
    · rw [if_neg (by simp [notIn, e]), if_neg (by simp [e]), ih]
    · rw [if_pos (by simp [notIn, e]), if_pos (by simp [e]), List.map_cons, ih]
      rfl
section
variable {K : PySem.W.Frag} {c : CA}
def t_Both_guess (K : PySem.W.Frag) (R_guess : Lab → Addr) (sp_guess : Lab → Sp) : TS := tSeq (tAsg (tOneOf R_guess "guess" sp_guess E0 (tFld K (tVar 0) "one") (tCons (tVar 1) (tNil))) (gName 2))
  (tSeq (tAsg (tOneOf R_guess "guess" sp_guess E0 (tFld K (tVar 0) "other") (tCons (tVar 1) (tNil))) (gName 3))
  (tRet (tOp (rCat) (tVar 2) (tLc (iList K (tVar 3)) (gName 4) (tTest (tOp (rIn K true) (tVar 4) (tVar 2))) (tVar 4) [4]))))
theorem pu_Both_guess (T : GF K c) {vs : List V} {H : Hp} {Q : VK} {E : XK} {n : Nat} (hn : n ≤ 10) (h : spGuessL c (n + 1) .both vs H Q E) : t_Both_guess K c.at (spGuessL c n) (B Q) (start ["self", "place", "first", "second", "guessed"] vs) H := by
  obtain ⟨p, x, s, M, N, el, rfl, ga, dom, hdp, hg, hN, k⟩ := h
  obtain ⟨a, b, rfl⟩ : ∃ a b, s = .both a b := by
    cases s with
    | both a b => exact ⟨a, b, rfl⟩
    | _ => cases el
  obtain ⟨dx, pa, pb, A, Bs, hp, mp, gA, gB, iA, iB, dj, nA, nB⟩ := ga
  obtain ⟨cN, cS, cP, cB, nN1, nS1, nS2, nS3, nS4, nP1, nP2, nP3, nB1, nB2⟩ := id T
  have hdp : max (deep a) (deep b) + 1 ≤ n + 1 := hdp
  have dA : Dom A H := fun y z => dom y (iA y z)
  have dB : Dom Bs H := fun y z => dom y (iB y z)
  unfold t_Both_guess
  walk_at "w"
  obtain ⟨dxa, fa, ha, la⟩ := gat_ins gA
  refine ⟨pa, lab a, dxa, fa, rfl, ha, la, ?_⟩
  walk_at "w"
  refine ⟨pa, x, a, A, N, rfl, rfl, gA, dA, by omega, hg.1, hN, fun H1 q1 A1 fq1 hq1 nq1 gA1 dA1 tA1 sA1 o1 => ?_⟩
  have hp1 := o1 _ _ hp nA
  have gB1 : GAt c H1 N b pb Bs := gat_keep (fun y z => by obtain ⟨o, ho⟩ := dB y z; rw [ho]; exact o1 _ _ ho (fun w => dj y w z)) gB
  have dB1 : Dom Bs H1 := fun y z => by obtain ⟨o, ho⟩ := dB y z; exact ⟨o, o1 _ _ ho (fun w => dj y w z)⟩
  have nA1 : ∀ y, A1 y → ¬ Bs y := fun y z w => by
    rcases sA1 y z with q | q
    · exact dj y q w
    · obtain ⟨o, ho⟩ := dB y w
      rw [q] at ho
      cases ho
  have nq1B : ¬ Bs q1 := not_dom dB fq1
  walk_at "w"
  obtain ⟨dxb, fb, hb, lb⟩ := gat_ins gB1
  refine ⟨pb, lab b, dxb, fb, rfl, hb, lb, ?_⟩
  walk_at "w"
  refine ⟨pb, x, b, Bs, N, rfl, rfl, gB1, dB1, by omega, hg.2, hN, fun H2 q2 B2 fq2 hq2 nq2 gB2 dB2 tB2 sB2 o2 => ?_⟩
  have hp2 := o2 _ _ hp1 nB
  have hq1' := o2 _ _ hq1 nq1B
  have gA2 : GAt c H2 (N + 1) (a.next x) pa A1 := gat_keep (fun y z => by obtain ⟨o, ho⟩ := dA1 y z; rw [ho]; exact o2 _ _ ho (nA1 y z)) gA1
  have dA2 : Dom A1 H2 := fun y z => by obtain ⟨o, ho⟩ := dA1 y z; exact ⟨o, o2 _ _ ho (nA1 y z)⟩
  walk_at "w"
  refine w_lcl (notIn (a.says x)) id (SqL.of hq2) (small_lt ?_) (fun _ => rfl) (fun y hy H' s R r => ?_) (fun y hy cy H' s R r => ?_) (fun o H3 ho e3 ho3 => ?_)
  · rw [List.length_map]
    have h1 := says_le x hg.2
    have h2 : 2 ^ deep b ≤ 2 ^ 11 := Nat.pow_le_pow_right (by decide) (by omega)
    omega
  · obtain ⟨i, _, rfl⟩ := List.mem_map.mp hy
    walk_at "w"
    refine w_inl (SqL.of (s _ _ hq1')) ?_
    walk_at "w"
    exact r _ (Same.refl _)
  · walk_at "w"
    exact r _ (Same.refl _)
  · rw [added_notIn] at ho3
    refine w_cat (e3 _ _ hq1') ho3 (small_le ?_) (w_new fun q3 H4 hq3 e4 h4 => ?_)
    · rw [List.length_map, List.length_map]
      have h1 := says_le x hg.1
      have h2 := says_le x hg.2
      have h3 : 2 ^ deep a ≤ 2 ^ 11 := Nat.pow_le_pow_right (by decide) (by omega)
      have h4 : 2 ^ deep b ≤ 2 ^ 11 := Nat.pow_le_pow_right (by decide) (by omega)
      have h5 := List.length_filter_le (fun v => decide (v ∉ a.says x)) (b.says x)
      omega
    rw [← List.map_append] at h4
    have e24 : Same H2 H4 := e3.trans e4
    have fr2 : H2 q3 = none := e3.free hq3
    have fr1 : H1 q3 = none := by
      cases z : H1 q3 with
      | none => rfl
      | some o =>
        by_cases w : Bs q3
        · obtain ⟨o', ho'⟩ := dB2 q3 (tB2 q3 w)
          rw [fr2] at ho'
          cases ho'
        · rw [o2 _ _ z w] at fr2
          cases fr2
    have fr0 : H q3 = none := by
      cases z : H q3 with
      | none => rfl
      | some o =>
        by_cases w : A q3
        · obtain ⟨o', ho'⟩ := dA1 q3 (tA1 q3 w)
          rw [fr1] at ho'
          cases ho'
        · rw [o1 _ _ z w] at fr1
          cases fr1
    have nB2A : ∀ y, A1 y → ¬ B2 y := fun y z w => by
      rcases sB2 y w with q | q
      · exact nA1 y z q
      · obtain ⟨o', ho'⟩ := dA1 y z
        rw [q] at ho'
        cases ho'
    have out02 : Out M H H2 := fun b o hb nb => o2 _ _ (o1 _ _ hb (fun z => nb (iA b z))) (fun z => nb (iB b z))
    have dM2 : ∀ y, M y → ∃ o, H2 y = some o := fun y z => by
      obtain ⟨o, ho⟩ := dom y z
      by_cases wB : Bs y
      · exact dB2 y (tB2 y wB)
      · by_cases wA : A y
        · obtain ⟨o', ho'⟩ := dA1 y (tA1 y wA)
          exact ⟨o', o2 _ _ ho' wB⟩
        · exact ⟨o, o2 _ _ (o1 _ _ ho wA) wB⟩
    refine k H4 q3 (fun y => M y ∨ A1 y ∨ B2 y) fr0 h4 ?_ ⟨dx, pa, pb, A1, B2, e24 _ _ hp2, .inl mp, gat_same dA2 e24 gA2, gat_same dB2 e24 gB2, fun y z => .inr (.inl z), fun y z => .inr (.inr z), nB2A, ?_, ?_⟩ ?_ (fun _ z => .inl z) ?_ (fun b o hb nb => e24 _ _ (out02 b o hb nb))
    · rintro (z | z | z)
      · exact not_dom dom fr0 z
      · exact not_dom dA1 fr1 z
      · exact not_dom dB2 fr2 z
    · intro z
      rcases sA1 p z with q | q
      · exact nA q
      · rw [hp] at q
        cases q
    · intro z
      rcases sB2 p z with q | q
      · exact nB q
      · rw [hp1] at q
        cases q
    · rintro y (z | z | z)
      · obtain ⟨o', ho'⟩ := dM2 y z
        exact ⟨o', e24 _ _ ho'⟩
      · obtain ⟨o', ho'⟩ := dA2 y z
        exact ⟨o', e24 _ _ ho'⟩
      · obtain ⟨o', ho'⟩ := dB2 y z
        exact ⟨o', e24 _ _ ho'⟩
    · rintro y (z | z | z)
      · exact .inl z
      · rcases sA1 y z with q | q
        · exact .inl (iA y q)
        · exact .inr q
      · rcases sB2 y z with q | q
        · exact .inl (iB y q)
        · by_cases wA : A y
          · exact .inl (iA y wA)
          · refine .inr ?_
            cases w : H y with
            | none => rfl
            | some o =>
              rw [o1 _ _ w wA] at q
              cases q
end
end SwD
set_option Elab.async false
set_option linter.all false
set_option maxRecDepth 100000
set_option maxHeartbeats 4000000
namespace SwD
open PySem PySem.Spec PyProof.Rows L2 SwX StX Sw
local macro_rules | `(tactic| walk_at "lk") => `(tactic| first | exact lk_at | exact lk_no | ((refine' lk_by (by decide +kernel) ?wq); (case wq => walk_at "lk")))
local macro_rules | `(tactic| walk_at "pf") => `(tactic| first | exact pf_at | exact pf_nil | ((refine' pf_by (by decide +kernel) ?wq); (case wq => walk_at "pf")))
local macro_rules | `(tactic| walk_at "w1") => `(tactic| with_reducible first
  | refine w_seq ?_ | refine w_asg ?_ | refine w_name ?_ | refine w_ret ?_ | refine w_retN ?_ | refine w_drop ?_ | refine w_next ?_ | refine w_if ?_ | refine w_ifE ?_ | refine w_test ?_ | refine w_B ?_ | refine w_bl ?_
  | refine w_not ?_ | refine w_and ?_ | refine w_or ?_ | refine w_andV ?_ | refine w_orV ?_ | refine w_notV ?_ | refine w_isN ?_ | refine w_notN ?_ | refine w_yes ?_
  | refine w_c ?_ | refine w_op ?_ | refine w_un ?_ | refine w_i0 ?_ | refine w_neg ?_ | refine w_nil ?_ | refine w_cons ?_ | refine w_cb ?_ | refine w_call ?_ | refine w_tup ?_ | refine w_lst ?_
  | refine w_fld ?_ | refine w_sfld ?_ | refine w_match ?_ | refine w_case ?_ | refine w_mcons ?_ | refine w_mnil ?_ | refine w_mcap ?_ | refine w_many ?_ | refine w_myes ?_
  | refine w_sub ?_ | refine w_bm ?_ | refine w_sl ?_ | refine w_nopart ?_ | refine w_part ?_ | refine w_int ?_ | refine w_ift ?_ | refine w_iff ?_ | refine w_ifn ?_ | refine w_dget2 ?_ | refine w_star ?_ | refine w_dput ?_ | refine w_dnewK ?_ | refine w_meth ?_ | refine w_oneOf ?_ | refine w_make ?_ | refine w_lc ?_ | refine w_for ?_ | refine w_ilist ?_ | refine w_irng1 ?_ | refine w_irng2 ?_ | refine w_irng3 ?_)
local macro_rules | `(tactic| walk_at "w2") => `(tactic| first
  | ((with_reducible refine' w_var ?wh ?_); (case wh => rfl))
  | ((with_reducible refine' w_eq ?wh ?_); (case wh => rfl))
  | ((with_reducible refine' w_ne ?wh ?_); (case wh => rfl))
  | ((with_reducible refine' w_mno ?wh ?_); (case wh => decide +kernel))
  | ((with_reducible refine' w_mhit ?wh ?wl ?_); (case wh => assumption); (case wl => rfl))
  | ((with_reducible refine' w_mmiss ?wh ?wl ?_); (case wh => assumption); (case wl => simp))
  | ((with_reducible refine' w_fldA ?wh ?wc ?wn ?wl ?_); (case wh => first | assumption | exact upd_same); (case wc => assumption); (case wn => assumption); (case wl => walk_at "lk"))
  | ((with_reducible refine' w_ixl ?wh ?we ?_); (case wh => exact SqL.of (by first | assumption | exact upd_same)); (case we => rfl))
  | ((with_reducible refine' w_ixt ?wh ?we ?_); (case wh => assumption); (case we => rfl))
  | ((with_reducible refine' w_ifT ?wh ?_); (case wh => (with_reducible exact Eq.refl _)))
  | ((with_reducible refine' w_ifF ?wh ?_); (case wh => decide +kernel))
  | ((with_reducible refine' w_isiY ?wh ?wk ?_); (case wh => first | exact .int _ | exact .str _ | exact .lst (by assumption) | exact .tup (by assumption)); (case wk => decide +kernel))
  | ((with_reducible refine' w_isiN ?wh ?wk ?_); (case wh => first | exact .int _ | exact .str _ | exact .lst (by assumption) | exact .tup (by assumption)); (case wk => decide +kernel))
  | ((with_reducible refine' w_ifF ?wh ?_); (case wh => (intro z; cases z; done)))
  | ((with_reducible refine' w_setl ?wh ?we ?wl ?_); (case wh => first | assumption | exact upd_same); (case we => rfl); (case wl => rfl))
  | ((with_reducible refine' w_methA ?wh ?wl ?_); (case wh => first | assumption | exact upd_same); (case wl => walk_at "lk"))
  | ((with_reducible refine' w_sfldB ?wc ?wn ?wz ?wl ?_); (case wc => assumption); (case wn => assumption); (case wz => simp); (case wl => walk_at "pf"))
  | ((with_reducible refine' w_sfldA ?wh ?wc ?wn ?wz ?wl ?_); (case wh => assumption); (case wc => assumption); (case wn => assumption); (case wz => simp); (case wl => walk_at "pf")))
local macro_rules | `(tactic| walk_at "w") => `(tactic| repeat (first | walk_at "w1" | walk_at "w2" | (dsimp only [List.set, setAll, List.append, List.cons_append, List.nil_append])))
/-! ### a guesser's tuple -/
def GTup (H : Hp) : G → Addr → Prop
  | .non, a => H a = some (.tup [.str "none"])
  | .next n, a => H a = some (.tup [.str "next", .int n])
  | .stride n, a => H a = some (.tup [.str "stride", .int n])
  | .pairs n, a => H a = some (.tup [.str "pairs", .int n])
  | .both x y, a => ∃ p q, H a = some (.tup [.str "both", .ref p, .ref q]) ∧ GTup H x p ∧ GTup H y q
theorem gtup_at {H : Hp} : ∀ {g : G} {a : Addr}, GTup H g a → ∃ xs, H a = some (.tup xs)
  | .non, _, h => ⟨_, h⟩
  | .next _, _, h => ⟨_, h⟩
  | .stride _, _, h => ⟨_, h⟩
  | .pairs _, _, h => ⟨_, h⟩
  | .both _ _, _, ⟨_, _, h, _⟩ => ⟨_, h⟩
theorem gtup_keep {H H' : Hp} (k : ∀ a xs, H a = some (.tup xs) → H' a = some (.tup xs)) : ∀ {g : G} {a : Addr}, GTup H g a → GTup H' g a
  | .non, _, h => k _ _ h
  | .next _, _, h => k _ _ h
  | .stride _, _, h => k _ _ h
  | .pairs _, _, h => k _ _ h
  | .both _ _, _, ⟨p, q, h, h1, h2⟩ => ⟨p, q, k _ _ h, gtup_keep k h1, gtup_keep k h2⟩
theorem gtup_same {H H' : Hp} (e : Same H H') {g : G} {a : Addr} (h : GTup H g a) : GTup H' g a := gtup_keep (fun _ _ z => e _ _ z) h
section
variable {K : PySem.W.Frag} {c : CA}
/-! ### is it a guesser -/
def spIsG (n : Nat) : Sp := fun vs H Q _ => ∃ a d g, vs = [.ref a, .int d] ∧ GTup H g a ∧ g.ok ∧ (g.depth : Int) + d ≤ 3 ∧ g.depth < n ∧ ∀ H', Same H H' → Q (.bl true) H'
def t_is_guesser (K : PySem.W.Frag) (sp_is_guesser : Sp) : TS := tSeq (tIfS (tNot (tB (tCB (rIsi K) (tCons (tVar 0) (tCons (tC (.ty "tuple")) (tNil)))))) (tRet (tC (.bl false))) (tNext))
  (tMatch (tVar 0) (csCons (mSeq K 1 (msCons (mVal (.str "none")) (msNil))) [] (tRet (tC (.bl true)))
    (csCons (mSeq K 2 (msCons (mVal (.str "next")) (msCons (mCap) (msNil)))) [2] (tRet (tOp (rIn K false) (tVar 2) (tTup (tCons (tC (.int 1)) (tCons (tC (.int 2)) (tCons (tC (.int 3)) (tNil)))))))
    (csCons (mSeq K 2 (msCons (mVal (.str "stride")) (msCons (mCap) (msNil)))) [3] (tRet (tOp (rIn K false) (tVar 3) (tTup (tCons (tC (.int 1)) (tCons (tC (.int 2)) (tCons (tC (.int 3)) (tNil)))))))
    (csCons (mSeq K 2 (msCons (mVal (.str "pairs")) (msCons (mCap) (msNil)))) [2] (tRet (tOp (rIn K false) (tVar 2) (tTup (tCons (tC (.int 1)) (tCons (tC (.int 2)) (tNil))))))
    (csCons (mSeq K 3 (msCons (mVal (.str "both")) (msCons (mCap) (msCons (mCap) (msNil))))) [4, 5] (tRet (tAndV (tOp (rLtI) (tVar 1) (tC (.int 3))) (tAndV (tCall sp_is_guesser [] E0 (tCons (tVar 4) (tCons (tOp (rAddI) (tVar 1) (tC (.int 1))) (tNil)))) (tCall sp_is_guesser [] E0 (tCons (tVar 5) (tCons (tOp (rAddI) (tVar 1) (tC (.int 1))) (tNil)))))))
    (csCons (mAny) [] (tRet (tC (.bl false)))
    (csNil))))))))
theorem pu_is_guesser {vs : List V} {H : Hp} {Q : VK} {E : XK} {n : Nat} (h : spIsG (n + 1) vs H Q E) : t_is_guesser K (spIsG n) (B Q) (start ["guesser", "boths", "many", "times", "one", "other"] vs) H := by
  obtain ⟨a, d, g, rfl, hg, ok, hd, hn, k⟩ := h
  obtain ⟨xs, hx⟩ := gtup_at hg
  unfold t_is_guesser
  walk_at "w"
  cases g with
  | non =>
    have hs : SqT K H a [.str "none"] := .of hg
    walk_at "w"
    exact k H (Same.refl H)
  | next m =>
    have hs : SqT K H a [.str "next", .int m] := .of hg
    walk_at "w"
    refine ⟨by decide, w_new fun p H1 hp e1 h1 => ?_⟩
    refine w_inT (l := [1, 2, 3]) (.of h1) ?_
    rw [if_neg (by decide), decide_eq_true (by have := ok.1; have := ok.2; simp; omega)]
    exact k _ e1
  | stride m =>
    have hs : SqT K H a [.str "stride", .int m] := .of hg
    walk_at "w"
    refine ⟨by decide, w_new fun p H1 hp e1 h1 => ?_⟩
    refine w_inT (l := [1, 2, 3]) (.of h1) ?_
    rw [if_neg (by decide), decide_eq_true (by have := ok.1; have := ok.2; simp; omega)]
    exact k _ e1
  | pairs m =>
    have hs : SqT K H a [.str "pairs", .int m] := .of hg
    walk_at "w"
    refine ⟨by decide, w_new fun p H1 hp e1 h1 => ?_⟩
    refine w_inT (l := [1, 2]) (.of h1) ?_
    rw [if_neg (by decide), decide_eq_true (by have := ok.1; have := ok.2; simp; omega)]
    exact k _ e1
  | both x y =>
    obtain ⟨p, q, ha, hp, hq⟩ := hg
    have hs : SqT K H a [.str "both", .ref p, .ref q] := .of ha
    have hd : ((max x.depth y.depth + 1 : Nat) : Int) + d ≤ 3 := hd
    have hn : max x.depth y.depth + 1 < n + 1 := hn
    walk_at "w"
    refine w_ifT (by omega) ?_
    walk_at "w"
    refine ⟨p, d + 1, x, rfl, hp, ok.1, by omega, by omega, fun H1 e1 => ?_⟩
    walk_at "w"
    refine ⟨q, d + 1, y, rfl, gtup_same e1 hq, ok.2, by omega, by omega, fun H2 e2 => ?_⟩
    exact k _ (e1.trans e2)
def spCheck : Sp := fun vs H Q _ => ∃ a g, vs = [.ref a] ∧ GTup H g a ∧ g.ok ∧ g.depth ≤ 3 ∧ ∀ H', Same H H' → Q .non H'
def t_check_guesser (K : PySem.W.Frag) (sp_is_guesser : Sp) : TS := tIfS (tNot (tB (tCall sp_is_guesser [] E0 (tCons (tVar 0) (tCons (tC (.int 0)) (tNil)))))) (tNever) (tNext)
theorem pu_check_guesser {vs : List V} {H : Hp} {Q : VK} {E : XK} (h : spCheck vs H Q E) : t_check_guesser K (spIsG 4) (B Q) (start ["guesser"] vs) H := by
  obtain ⟨a, g, rfl, hg, ok, hd, k⟩ := h
  unfold t_check_guesser
  walk_at "w"
  refine ⟨a, 0, g, rfl, hg, ok, by omega, by omega, fun H1 e1 => ?_⟩
  walk_at "w"
  exact k _ e1
/-! ### what is begun -/
def spNI (c : CA) : Sp := fun vs H Q E => ∃ m : Int, spMade c.Neighbours [.int m] [("many", .int m)] vs H Q E
def spSI (c : CA) : Sp := fun vs H Q E => ∃ m : Int, spMade c.Strides [.int m] [("times", .int m), ("last", .non), ("stride", .int 0), ("same", .int 0)] vs H Q E
def spBI (c : CA) : Sp := fun vs H Q E => ∃ x y : V, spMade c.Both [x, y] [("one", x), ("other", y)] vs H Q E
def spBegun (c : CA) (n : Nat) : Sp := fun vs H Q _ => ∃ a g, vs = [.ref a] ∧ GTup H g a ∧ g.depth < n ∧
  ∀ H' p M, Same H H' → GAt c H' 0 (begun g) p M → Dom M H' → (∀ b, M b → H b = none) → Q (.ref p) H'
theorem made_same {H H' : Hp} {x dx : Addr} {o u : HO} (hx : H x = none) (hdx : H dx = none) (h : Out (Is x) (upd (upd H dx o) x u) H') : Same H H' := fun b v hb => by
  have n1 : b ≠ x := fun z => by rw [z, hx] at hb; cases hb
  have n2 : b ≠ dx := fun z => by rw [z, hdx] at hb; cases hb
  exact h b v (by rw [upd_ne n1, upd_ne n2]; exact hb) n1
theorem dom_is {H : Hp} {x : Addr} {o : HO} (h : H x = some o) : Dom (Is x) H := fun b z => ⟨o, by rw [show b = x from z]; exact h⟩
def t_begun (K : PySem.W.Frag) (c_Neighbours c_Strides c_Pairs c_Both c_Silent : Addr) (sp_Neighbours_init sp_Strides_init sp_Pairs_init sp_Both_init sp_begun : Sp) : TS := tMatch (tVar 0) (csCons (mSeq K 2 (msCons (mVal (.str "next")) (msCons (mCap) (msNil)))) [1] (tRet (tMake c_Neighbours sp_Neighbours_init [] E0 (tCons (tVar 1) (tNil))))
    (csCons (mSeq K 2 (msCons (mVal (.str "stride")) (msCons (mCap) (msNil)))) [2] (tRet (tMake c_Strides sp_Strides_init [] E0 (tCons (tVar 2) (tNil))))
    (csCons (mSeq K 2 (msCons (mVal (.str "pairs")) (msCons (mCap) (msNil)))) [1] (tRet (tMake c_Pairs sp_Pairs_init [] E0 (tCons (tVar 1) (tNil))))
    (csCons (mSeq K 3 (msCons (mVal (.str "both")) (msCons (mCap) (msCons (mCap) (msNil))))) [3, 4] (tRet (tMake c_Both sp_Both_init [] E0 (tCons (tCall sp_begun [] E0 (tCons (tVar 3) (tNil))) (tCons (tCall sp_begun [] E0 (tCons (tVar 4) (tNil))) (tNil)))))
    (csCons (mAny) [] (tRet (tMakeN c_Silent))
    (csNil))))))
theorem pu_begun {vs : List V} {H : Hp} {Q : VK} {E : XK} {n : Nat} (h : spBegun c (n + 1) vs H Q E) : t_begun K c.Neighbours c.Strides c.Pairs c.Both c.Silent (spNI c) (spSI c) (spPairsInit c) (spBI c) (spBegun c n) (B Q) (start ["guesser", "many", "times", "one", "other"] vs) H := by
  obtain ⟨a, g, rfl, hg, hn, k⟩ := h
  unfold t_begun
  walk_at "w"
  cases g with
  | non =>
    have hs : SqT K H a [.str "none"] := .of hg
    walk_at "w"
    intro x dx hx hdx ne
    refine k _ x (Is x) (made_same hx hdx Out.refl) ⟨dx, upd_same, rfl⟩ (dom_is upd_same) (fun b z => by rw [show b = x from z]; exact hx)
  | next m =>
    have hs : SqT K H a [.str "next", .int m] := .of hg
    walk_at "w"
    intro x dx hx hdx ne
    refine ⟨m, x, dx, rfl, upd_same, fun H' h1 h2 => ⟨rfl, ?_⟩⟩
    refine k _ x (Is x) (made_same hx hdx h2) ⟨dx, h1, rfl⟩ (dom_is h1) (fun b z => by rw [show b = x from z]; exact hx)
  | stride m =>
    have hs : SqT K H a [.str "stride", .int m] := .of hg
    walk_at "w"
    intro x dx hx hdx ne
    refine ⟨m, x, dx, rfl, upd_same, fun H' h1 h2 => ⟨rfl, ?_⟩⟩
    refine k _ x (Is x) (made_same hx hdx h2) ⟨dx, h1, rfl⟩ (dom_is h1) (fun b z => by rw [show b = x from z]; exact hx)
  | pairs m =>
    have hs : SqT K H a [.str "pairs", .int m] := .of hg
    walk_at "w"
    intro x dx hx hdx ne
    refine ⟨x, dx, m, rfl, upd_same, fun H' d hd h1 h3 h2 => ⟨rfl, ?_⟩⟩
    have dnx : d ≠ x := fun z => by rw [z, upd_same] at hd; cases hd
    have hd0 : H d = none := by
      rw [upd_ne dnx] at hd
      by_cases z : d = dx
      · rw [z]; exact hdx
      · rw [upd_ne z] at hd; exact hd
    refine k _ x (fun b => b = x ∨ b = d) (made_same hx hdx h2) ⟨dx, d, [], h1, .inl rfl, h3, .inr rfl, Nat.le_refl _, fun q => rfl⟩ ?_ ?_
    · rintro b (z | z)
      · exact ⟨_, by rw [z]; exact h1⟩
      · exact ⟨_, by rw [z]; exact h3⟩
    · rintro b (z | z)
      · rw [z]; exact hx
      · rw [z]; exact hd0
  | both x y =>
    obtain ⟨p, q, ha, hp, hq⟩ := hg
    have hs : SqT K H a [.str "both", .ref p, .ref q] := .of ha
    have hn : max x.depth y.depth + 1 < n + 1 := hn
    walk_at "w"
    refine ⟨p, x, rfl, hp, by omega, fun H1 p1 M1 e1 g1 d1 f1 => ?_⟩
    walk_at "w"
    refine ⟨q, y, rfl, gtup_same e1 hq, by omega, fun H2 p2 M2 e2 g2 d2 f2 => ?_⟩
    walk_at "w"
    intro z dx hz hdx ne
    refine ⟨.ref p1, .ref p2, z, dx, rfl, upd_same, fun H' h1 h2 => ⟨rfl, ?_⟩⟩
    have e3 := made_same hz hdx h2
    have d1' := dom_same d1 e2
    have f2' : ∀ b, M2 b → H b = none := fun b w => e1.free (f2 b w)
    refine k _ z (fun b => b = z ∨ M1 b ∨ M2 b) (e1.trans (e2.trans e3)) ⟨dx, p1, p2, M1, M2, h1, .inl rfl, gat_same d1' e3 (gat_same d1 e2 g1), gat_same d2 e3 g2, fun b w => .inr (.inl w), fun b w => .inr (.inr w), fun b w1 w2 => ?_, not_dom d1' hz, not_dom d2 hz⟩ ?_ ?_
    · obtain ⟨o, ho⟩ := d1 b w1
      rw [f2 b w2] at ho
      cases ho
    · rintro b (w | w | w)
      · exact ⟨_, by rw [w]; exact h1⟩
      · exact dom_same d1' e3 b w
      · exact dom_same d2 e3 b w
    · rintro b (w | w | w)
      · rw [w]; exact e1.free (e2.free hz)
      · exact f1 b w
      · exact f2' b w
/-! ### guesses -/
def row (g : G) (ls : List Int) (k : Nat) : List V := (((begun g).after (ls.take k)).says (ls.getD k 0)).map V.int
def spGuesses (K : PySem.W.Frag) : Sp := fun vs H Q _ => ∃ a l g ls, vs = [.ref a, .ref l] ∧ GTup H g a ∧ g.ok ∧ g.depth ≤ 3 ∧ SqL K H l (ls.map V.int) ∧ ls.length ≤ 1000 ∧
  ∀ H' q rs, Same H H' → H q = none → H' q = some (.lst (rs.map V.ref)) → rs.length = ls.length → (∀ k r, rs[k]? = some r → H r = none ∧ H' r = some (.lst (row g ls k))) → (q :: rs).Nodup → Q (.ref q) H'
theorem after_deep : ∀ (l : List Int) (s : S), deep (s.after l) = deep s
  | [], _ => rfl
  | x :: l, s => (after_deep l (s.next x)).trans (deep_next s x)
theorem after_good : ∀ (l : List Int) {s : S}, Good s → Good (s.after l)
  | [], _, h => h
  | x :: l, _, h => after_good l (good_next x h)
def t_guesses (K : PySem.W.Frag) (R_guess : Lab → Addr) (sp_check_guesser sp_begun : Sp) (sp_guess : Lab → Sp) : TS := tSeq (tDrop (tCall sp_check_guesser [] E0 (tCons (tVar 0) (tNil))))
  (tSeq (tAsg (tCall sp_begun [] E0 (tCons (tVar 0) (tNil))) (gName 2))
  (tRet (tLc (iList K (tVar 1)) (gName 3) (tYes) (tOneOf R_guess "guess" sp_guess E0 (tVar 2) (tCons (tVar 3) (tNil))) [3])))
theorem pu_guesses {vs : List V} {H : Hp} {Q : VK} {E : XK} (h : spGuesses K vs H Q E) : t_guesses K c.at spCheck (spBegun c 4) (spGuessL c 3) (B Q) (start ["guesser", "places", "told", "place"] vs) H := by
  obtain ⟨a, l, g, ls, rfl, hg, ok, hd, hL, hz, k⟩ := h
  unfold t_guesses
  walk_at "w"
  refine ⟨a, g, rfl, hg, ok, hd, fun H1 e1 => ?_⟩
  walk_at "w"
  refine ⟨a, g, rfl, gtup_same e1 hg, by omega, fun H2 p M e2 g2 d2 f2 => ?_⟩
  walk_at "w"
  have e02 := e1.trans e2
  have hL2 := e02.seq hL
  have f0 : ∀ b, M b → H b = none := fun b z => e1.free (f2 b z)
  refine ⟨l, rfl, ⟨_, hL2⟩, fun Dl hD => lc_list (xs := ls.map V.int) (fun i H' => ∃ (rs : List Addr) (M' : Addr → Prop), H' Dl = some (.lst (rs.map V.ref)) ∧ rs.length = i ∧ (∀ k r, rs[k]? = some r → H r = none ∧ H' r = some (.lst (row g ls k))) ∧ (Dl :: rs).Nodup ∧
    GAt c H' i ((begun g).after (ls.take i)) p M' ∧ Dom M' H' ∧ ¬ M' Dl ∧ (∀ r, r ∈ rs → ¬ M' r) ∧ (∀ b, M' b → H b = none) ∧ Same H H') ?_ (fun i H' _ p => ?_) (fun i x H' hi p => ?_) (fun H' p => ?_)⟩
  · have s1 := same_upd (o := .lst []) hD
    exact ⟨[], M, upd_same, rfl, fun k r e => by simp at e, by simp, gat_same d2 s1 g2, dom_same d2 s1, not_dom d2 hD, fun r hr => by simp at hr, f0, e02.trans s1⟩
  · obtain ⟨_, _, _, _, _, _, _, _, _, _, _, s⟩ := p
    exact s.seq hL
  · obtain ⟨rs, M', h1, h2, h3, h4, h5, h6, h7, h8, h9, h10⟩ := p
    obtain ⟨y, hy, rfl⟩ : ∃ y, ls[i]? = some y ∧ x = V.int y := by
      rw [List.getElem?_map] at hi
      cases e : ls[i]? with
      | none => rw [e] at hi; cases hi
      | some y => rw [e] at hi; exact ⟨y, rfl, (Option.some.inj hi).symm⟩
    have hil : i < ls.length := (List.getElem?_eq_some_iff.mp hy).1
    refine ⟨rfl, ?_⟩
    walk_at "w"
    obtain ⟨dx, fs, hp, lk⟩ := gat_ins h5
    refine ⟨p, lab ((begun g).after (ls.take i)), dx, fs, rfl, hp, lk, ?_⟩
    walk_at "w"
    refine ⟨p, y, _, M', i, rfl, rfl, h5, h6, by rw [after_deep, deep_begun]; exact hd, after_good _ (good_begun ok), by omega, fun H4 q M4 fq hq nq g4 d4 t4 s4 o4 => ?_⟩
    have hDl4 := o4 _ _ h1 h7
    have nDq : q ≠ Dl := fun z => by rw [z, h1] at fq; cases fq
    have nD4 : ¬ M4 Dl := fun z => by
      rcases s4 Dl z with w | w
      · exact h7 w
      · rw [h1] at w; cases w
    refine ⟨rs.map V.ref, hDl4, small_lt (by rw [List.length_map]; omega), rs ++ [q], M4, by rw [upd_same, List.map_append]; rfl, by rw [List.length_append, h2]; rfl, fun k r e => ?_, ?_, ?_, ?_, nD4, fun r hr => ?_, fun b z => ?_, fun b o hb => ?_⟩
    · by_cases hk : k < rs.length
      · rw [List.getElem?_append_left hk] at e
        obtain ⟨w1, w2⟩ := h3 k r e
        have hm : r ∈ rs := List.mem_of_getElem? e
        have nrD : r ≠ Dl := fun z => by
          rw [z] at hm
          exact (List.nodup_cons.mp h4).1 hm
        exact ⟨w1, by rw [upd_ne nrD]; exact o4 _ _ w2 (h8 r hm)⟩
      · have hk2 : k = rs.length := by
          have := (List.getElem?_eq_some_iff.mp e).1
          rw [List.length_append] at this
          simp at this
          omega
        rw [hk2, List.getElem?_append_right (Nat.le_refl _), Nat.sub_self] at e
        have e : q = r := by simpa using e
        subst e
        have hki : k = i := by omega
        refine ⟨h10.free fq, ?_⟩
        rw [upd_ne nDq, hq, hki]
        unfold row
        rw [List.getD_eq_getElem?_getD, hy]
        rfl
    · have w := List.nodup_cons.mp h4
      refine List.nodup_cons.mpr ⟨fun z => ?_, List.nodup_append.mpr ⟨w.2, by simp, fun r hr s hs => ?_⟩⟩
      · rcases List.mem_append.mp z with z | z
        · exact w.1 z
        · exact nDq (List.mem_singleton.mp z).symm
      · rintro rfl
        have : r = q := List.mem_singleton.mp hs
        obtain ⟨k, hk⟩ := List.getElem?_of_mem hr
        have := (h3 k r hk).2
        rw [‹r = q›, fq] at this
        cases this
    · have e : (ls.take (i + 1)) = ls.take i ++ [y] := SwX.take_more hy
      rw [e, after_snoc]
      refine gat_keep (fun b z => upd_ne fun w => nD4 (w ▸ z)) g4
    · intro b z
      obtain ⟨o, ho⟩ := d4 b z
      exact ⟨o, by rw [upd_ne (fun (w : b = Dl) => nD4 (w ▸ z))]; exact ho⟩
    · rcases List.mem_append.mp hr with z | z
      · intro w
        rcases s4 r w with v | v
        · exact h8 r z v
        · obtain ⟨k, hk⟩ := List.getElem?_of_mem z
          have := (h3 k r hk).2
          rw [v] at this
          cases this
      · rw [List.mem_singleton.mp z]
        exact nq
    · rcases s4 b z with w | w
      · exact h9 b w
      · exact h10.free w
    · have w := h10 b o hb
      have nb : b ≠ Dl := fun z => by rw [z, e02.free hD] at hb; cases hb
      rw [upd_ne nb]
      exact o4 _ _ w (fun z => by rw [h9 b z] at hb; cases hb)
  · obtain ⟨rs, M', h1, h2, h3, h4, h5, h6, h7, h8, h9, h10⟩ := p
    exact k H' Dl rs h10 (e02.free hD) h1 (by rw [h2, List.length_map]) h3 h4
end
end SwD
set_option Elab.async false
set_option linter.all false
set_option maxRecDepth 100000
set_option maxHeartbeats 4000000
namespace SwD
open PySem PySem.Spec PyProof.Rows L2 SwX StX Sw
local macro_rules | `(tactic| walk_at "lk") => `(tactic| first | exact lk_at | exact lk_no | ((refine' lk_by (by decide +kernel) ?wq); (case wq => walk_at "lk")))
local macro_rules | `(tactic| walk_at "pf") => `(tactic| first | exact pf_at | exact pf_nil | ((refine' pf_by (by decide +kernel) ?wq); (case wq => walk_at "pf")))
local macro_rules | `(tactic| walk_at "w1") => `(tactic| with_reducible first
  | refine w_seq ?_ | refine w_asg ?_ | refine w_name ?_ | refine w_ret ?_ | refine w_retN ?_ | refine w_drop ?_ | refine w_next ?_ | refine w_if ?_ | refine w_ifE ?_ | refine w_test ?_ | refine w_B ?_ | refine w_bl ?_
  | refine w_not ?_ | refine w_and ?_ | refine w_or ?_ | refine w_andV ?_ | refine w_orV ?_ | refine w_notV ?_ | refine w_isN ?_ | refine w_notN ?_ | refine w_yes ?_
  | refine w_c ?_ | refine w_op ?_ | refine w_un ?_ | refine w_i0 ?_ | refine w_neg ?_ | refine w_nil ?_ | refine w_cons ?_ | refine w_cb ?_ | refine w_call ?_ | refine w_tup ?_ | refine w_lst ?_
  | refine w_fld ?_ | refine w_sfld ?_ | refine w_match ?_ | refine w_case ?_ | refine w_mcons ?_ | refine w_mnil ?_ | refine w_mcap ?_ | refine w_many ?_ | refine w_myes ?_
  | refine w_sub ?_ | refine w_bm ?_ | refine w_sl ?_ | refine w_nopart ?_ | refine w_part ?_ | refine w_int ?_ | refine w_ift ?_ | refine w_iff ?_ | refine w_ifn ?_ | refine w_dget2 ?_ | refine w_star ?_ | refine w_dput ?_ | refine w_dnewK ?_ | refine w_meth ?_ | refine w_oneOf ?_ | refine w_make ?_ | refine w_lc ?_ | refine w_for ?_ | refine w_ilist ?_ | refine w_irng1 ?_ | refine w_irng2 ?_ | refine w_irng3 ?_)
local macro_rules | `(tactic| walk_at "w2") => `(tactic| first
  | ((with_reducible refine' w_var ?wh ?_); (case wh => rfl))
  | ((with_reducible refine' w_eq ?wh ?_); (case wh => rfl))
  | ((with_reducible refine' w_ne ?wh ?_); (case wh => rfl))
  | ((with_reducible refine' w_mno ?wh ?_); (case wh => decide +kernel))
  | ((with_reducible refine' w_mhit ?wh ?wl ?_); (case wh => assumption); (case wl => rfl))
  | ((with_reducible refine' w_mmiss ?wh ?wl ?_); (case wh => assumption); (case wl => simp))
  | ((with_reducible refine' w_fldA ?wh ?wc ?wn ?wl ?_); (case wh => first | assumption | exact upd_same); (case wc => assumption); (case wn => assumption); (case wl => walk_at "lk"))
  | ((with_reducible refine' w_ixl ?wh ?we ?_); (case wh => exact SqL.of (by first | assumption | exact upd_same)); (case we => rfl))
  | ((with_reducible refine' w_ixt ?wh ?we ?_); (case wh => assumption); (case we => rfl))
  | ((with_reducible refine' w_ifT ?wh ?_); (case wh => (with_reducible exact Eq.refl _)))
  | ((with_reducible refine' w_ifF ?wh ?_); (case wh => decide +kernel))
  | ((with_reducible refine' w_isiY ?wh ?wk ?_); (case wh => first | exact .int _ | exact .str _ | exact .lst (by assumption) | exact .tup (by assumption)); (case wk => decide +kernel))
  | ((with_reducible refine' w_isiN ?wh ?wk ?_); (case wh => first | exact .int _ | exact .str _ | exact .lst (by assumption) | exact .tup (by assumption)); (case wk => decide +kernel))
  | ((with_reducible refine' w_ifF ?wh ?_); (case wh => (intro z; cases z; done)))
  | ((with_reducible refine' w_setl ?wh ?we ?wl ?_); (case wh => first | assumption | exact upd_same); (case we => rfl); (case wl => rfl))
  | ((with_reducible refine' w_methA ?wh ?wl ?_); (case wh => first | assumption | exact upd_same); (case wl => walk_at "lk"))
  | ((with_reducible refine' w_sfldB ?wc ?wn ?wz ?wl ?_); (case wc => assumption); (case wn => assumption); (case wz => simp); (case wl => walk_at "pf"))
  | ((with_reducible refine' w_sfldA ?wh ?wc ?wn ?wz ?wl ?_); (case wh => assumption); (case wc => assumption); (case wn => assumption); (case wz => simp); (case wl => walk_at "pf")))
local macro_rules | `(tactic| walk_at "w") => `(tactic| repeat (first | walk_at "w1" | walk_at "w2" | (dsimp only [List.set, setAll, List.append, List.cons_append, List.nil_append])))
/-! ### the row that numbers are taken of -/
/-- the script: locked, or written -/
def Scr (K : PySem.W.Frag) (H : Hp) (a : Addr) (xs : List V) : Prop := (∃ o, H a = some (.frz o (.lst xs))) ∨
    ∃ (o : Obj) (its : Array Value) (n : Nat), K.lookup a = some o ∧ o.cls = .type "list" ∧ o.dict = none ∧ o.data = .seq its n ∧ its.size ≤ sizeLine ∧ Vals xs its.toList
theorem scr_seq {K : PySem.W.Frag} {H : Hp} {a : Addr} {xs : List V} (h : Scr K H a xs) : SqL K H a xs := by
  rcases h with h | h
  · exact .inl (.inr h)
  · exact .inr h
theorem scr_keep {K : PySem.W.Frag} {H H' : Hp} {a : Addr} {xs : List V} (k : ∀ o u, H a = some (.frz o u) → H' a = some (.frz o u)) (h : Scr K H a xs) : Scr K H' a xs := by
  rcases h with ⟨o, h⟩ | h
  · exact .inl ⟨o, k _ _ h⟩
  · exact .inr h
theorem scr_of {K : PySem.W.Frag} {H : Hp} {a : Addr} {xs : List V} (o : Only H) (h : SqL K H a xs) : Scr K H a xs := by
  rcases h with (h | h) | h
  · rcases o a with z | ⟨u, ys, z⟩
    · rw [z] at h; cases h
    · rw [z] at h; cases h
  · exact .inl h
  · exact .inr h
theorem scr_upd {K : PySem.W.Frag} {H : Hp} {a q : Addr} {xs ys : List V} {u : HO} (hq : H q = some (.lst ys)) (h : Scr K H a xs) : Scr K (upd H q u) a xs :=
  scr_keep (fun o v z => by rw [upd_ne (ne_of z hq (fun w => nomatch w))]; exact z) h
def RowAt (K : PySem.W.Frag) (H : Hp) (r : Addr) : Prop := ∃ (scr : Addr) (i z : Int) (ns : List Int), H r = some (.lst [.ref scr, .int i, .int z]) ∧ 0 ≤ i ∧ 0 ≤ z ∧ z < 2147483647 ∧ Scr K H scr (ns.map V.int)
def spTaken (K : PySem.W.Frag) : Sp := fun vs H Q _ => ∃ r m, vs = [.ref r, .int m] ∧ 1 ≤ m ∧ RowAt K H r ∧ ∀ H' v, 0 ≤ v → v < m → RowAt K H' r → Out (Is r) H H' → Q (.int v) H'
section
variable {K : PySem.W.Frag}
def t_law_taken (K : PySem.W.Frag) : TS := tSeq (tAsg (tOp (rAddI) (tOp (rIxL K) (tVar 0) (tC (.int 1))) (tC (.int 1))) (gSub (tVar 0) (tC (.int 1)) rSetL))
  (tSeq (tIfS (tTest (tOp (rGtI) (tOp (rIxL K) (tVar 0) (tC (.int 1))) (tCB (rLenQ K) (tCons (tOp (rIxL K) (tVar 0) (tC (.int 0))) (tNil))))) (tSeq (tAsg (tOp (rModI) (tOp (rAddI) (tOp (rMulI) (tOp (rIxL K) (tVar 0) (tC (.int 2))) (tC (.int 48271))) (tC (.int 11))) (tC (.int 2147483647))) (gSub (tVar 0) (tC (.int 2)) rSetL))
  (tRet (tOp (rModI) (tOp (rDivI) (tOp (rIxL K) (tVar 0) (tC (.int 2))) (tC (.int 7))) (tVar 1)))) (tNext))
  (tSeq (tAsg (tOp (rIxL K) (tOp (rIxL K) (tVar 0) (tC (.int 0))) (tOp (rSubI) (tOp (rIxL K) (tVar 0) (tC (.int 1))) (tC (.int 1)))) (gName 2))
  (tSeq (tAsg (tOp (rModI) (tOp (rAddI) (tOp (rAddI) (tOp (rMulI) (tOp (rIxL K) (tVar 0) (tC (.int 2))) (tC (.int 48271))) (tVar 2)) (tC (.int 11))) (tC (.int 2147483647))) (gSub (tVar 0) (tC (.int 2)) rSetL))
  (tRet (tOp (rModI) (tVar 2) (tVar 1))))))
theorem pu_law_taken {vs : List V} {H : Hp} {Q : VK} {E : XK} (h : spTaken K vs H Q E) : t_law_taken K (B Q) (start ["_law_row", "_law_many", "_law_cell"] vs) H := by
  obtain ⟨r, m, rfl, hm, ⟨scr, i, z, ns, hr, hi, hz0, hz1, hs⟩, k⟩ := h
  unfold t_law_taken
  walk_at "w"
  have hs1 : SqL K (upd H r (.lst [.ref scr, .int (i + 1), .int z])) scr (ns.map V.int) := scr_seq (scr_upd hr hs)
  refine w_len (.inl hs1) ?_
  walk_at "w"
  refine w_if2 (fun c => ?_) (fun c => ?_)
  · walk_at "w"
    refine w_i (.inr ⟨by decide, by decide⟩) ?_
    walk_at "w"
    refine w_i (by decide) ?_
    walk_at "w"
    refine w_i ⟨by decide, by decide⟩ ?_
    walk_at "w"
    refine w_i (by omega) ?_
    rw [upd_upd]
    refine k _ _ (Int.emod_nonneg _ (by omega)) (Int.emod_lt_of_pos _ (by omega)) ⟨scr, i + 1, _, ns, upd_same, by omega, Int.emod_nonneg _ (by decide), Int.emod_lt_of_pos _ (by decide), scr_upd hr hs⟩ out_upd
  · rw [List.length_map] at c
    walk_at "w"
    have hj : (i + 1 - 1).toNat < ns.length := by omega
    have hat : atI (ns.map V.int) (i + 1 - 1) = some (.int ns[(i + 1 - 1).toNat]) := by
      have e : i + 1 - 1 = (((i + 1 - 1).toNat : Nat) : Int) := by omega
      have q := atI_nat (xs := ns.map V.int) (j := (i + 1 - 1).toNat) (v := .int ns[(i + 1 - 1).toNat]) (by rw [List.getElem?_map, List.getElem?_eq_getElem hj]; rfl)
      rw [← e] at q
      exact q
    refine w_ixl hs1 hat ?_
    walk_at "w"
    refine w_i (.inr ⟨by decide, by decide⟩) ?_
    walk_at "w"
    refine w_i (by decide) ?_
    walk_at "w"
    refine w_i (by omega) ?_
    rw [upd_upd]
    refine k _ _ (Int.emod_nonneg _ (by omega)) (Int.emod_lt_of_pos _ (by omega)) ⟨scr, i + 1, _, ns, upd_same, by omega, Int.emod_nonneg _ (by decide), Int.emod_lt_of_pos _ (by decide), scr_upd hr hs⟩ out_upd
end
end SwD
set_option Elab.async false
set_option linter.all false
set_option maxRecDepth 100000
set_option maxHeartbeats 4000000
namespace SwD
open PySem PySem.Spec PyProof.Rows L2 SwX StX Sw
local macro_rules | `(tactic| walk_at "lk") => `(tactic| first | exact lk_at | exact lk_no | ((refine' lk_by (by decide +kernel) ?wq); (case wq => walk_at "lk")))
local macro_rules | `(tactic| walk_at "pf") => `(tactic| first | exact pf_at | exact pf_nil | ((refine' pf_by (by decide +kernel) ?wq); (case wq => walk_at "pf")))
local macro_rules | `(tactic| walk_at "w1") => `(tactic| with_reducible first
  | refine w_seq ?_ | refine w_asg ?_ | refine w_name ?_ | refine w_ret ?_ | refine w_retN ?_ | refine w_drop ?_ | refine w_next ?_ | refine w_if ?_ | refine w_ifE ?_ | refine w_test ?_ | refine w_B ?_ | refine w_bl ?_
  | refine w_not ?_ | refine w_and ?_ | refine w_or ?_ | refine w_andV ?_ | refine w_orV ?_ | refine w_notV ?_ | refine w_isN ?_ | refine w_notN ?_ | refine w_yes ?_
  | refine w_c ?_ | refine w_op ?_ | refine w_un ?_ | refine w_i0 ?_ | refine w_neg ?_ | refine w_nil ?_ | refine w_cons ?_ | refine w_cb ?_ | refine w_call ?_ | refine w_tup ?_ | refine w_lst ?_
  | refine w_fld ?_ | refine w_sfld ?_ | refine w_match ?_ | refine w_case ?_ | refine w_mcons ?_ | refine w_mnil ?_ | refine w_mcap ?_ | refine w_many ?_ | refine w_myes ?_
  | refine w_sub ?_ | refine w_bm ?_ | refine w_sl ?_ | refine w_nopart ?_ | refine w_part ?_ | refine w_int ?_ | refine w_ift ?_ | refine w_iff ?_ | refine w_ifn ?_ | refine w_dget2 ?_ | refine w_star ?_ | refine w_dput ?_ | refine w_dnewK ?_ | refine w_meth ?_ | refine w_oneOf ?_ | refine w_make ?_ | refine w_lc ?_ | refine w_for ?_ | refine w_ilist ?_ | refine w_irng1 ?_ | refine w_irng2 ?_ | refine w_irng3 ?_)
local macro_rules | `(tactic| walk_at "w2") => `(tactic| first
  | ((with_reducible refine' w_var ?wh ?_); (case wh => rfl))
  | ((with_reducible refine' w_eq ?wh ?_); (case wh => rfl))
  | ((with_reducible refine' w_ne ?wh ?_); (case wh => rfl))
  | ((with_reducible refine' w_mno ?wh ?_); (case wh => decide +kernel))
  | ((with_reducible refine' w_mhit ?wh ?wl ?_); (case wh => assumption); (case wl => rfl))
  | ((with_reducible refine' w_mmiss ?wh ?wl ?_); (case wh => assumption); (case wl => simp))
  | ((with_reducible refine' w_fldA ?wh ?wc ?wn ?wl ?_); (case wh => first | assumption | exact upd_same); (case wc => assumption); (case wn => assumption); (case wl => walk_at "lk"))
  | ((with_reducible refine' w_ixl ?wh ?we ?_); (case wh => exact SqL.of (by first | assumption | exact upd_same)); (case we => rfl))
  | ((with_reducible refine' w_ixt ?wh ?we ?_); (case wh => assumption); (case we => rfl))
  | ((with_reducible refine' w_ifT ?wh ?_); (case wh => (with_reducible exact Eq.refl _)))
  | ((with_reducible refine' w_ifF ?wh ?_); (case wh => decide +kernel))
  | ((with_reducible refine' w_isiY ?wh ?wk ?_); (case wh => first | exact .int _ | exact .str _ | exact .lst (by assumption) | exact .tup (by assumption)); (case wk => decide +kernel))
  | ((with_reducible refine' w_isiN ?wh ?wk ?_); (case wh => first | exact .int _ | exact .str _ | exact .lst (by assumption) | exact .tup (by assumption)); (case wk => decide +kernel))
  | ((with_reducible refine' w_ifF ?wh ?_); (case wh => (intro z; cases z; done)))
  | ((with_reducible refine' w_setl ?wh ?we ?wl ?_); (case wh => first | assumption | exact upd_same); (case we => rfl); (case wl => rfl))
  | ((with_reducible refine' w_methA ?wh ?wl ?_); (case wh => first | assumption | exact upd_same); (case wl => walk_at "lk"))
  | ((with_reducible refine' w_sfldB ?wc ?wn ?wz ?wl ?_); (case wc => assumption); (case wn => assumption); (case wz => simp); (case wl => walk_at "pf"))
  | ((with_reducible refine' w_sfldA ?wh ?wc ?wn ?wz ?wl ?_); (case wh => assumption); (case wc => assumption); (case wn => assumption); (case wz => simp); (case wl => walk_at "pf")))
local macro_rules | `(tactic| walk_at "w") => `(tactic| repeat (first | walk_at "w1" | walk_at "w2" | (dsimp only [List.set, setAll, List.append, List.cons_append, List.nil_append])))
section
variable {K : PySem.W.Frag}
theorem row_same {H H' : Hp} {r : Addr} (e : Same H H') (h : RowAt K H r) : RowAt K H' r := by
  obtain ⟨scr, i, z, ns, hr, hi, hz0, hz1, hs⟩ := h
  exact ⟨scr, i, z, ns, e _ _ hr, hi, hz0, hz1, scr_keep (fun o u w => e _ _ w) hs⟩
theorem row_put {H : Hp} {r q : Addr} {xs : List V} {u : HO} (h : RowAt K H r) (hq : H q = some (.lst xs)) (n : q ≠ r) : RowAt K (upd H q u) r := by
  obtain ⟨scr, i, z, ns, hr, hi, hz0, hz1, hs⟩ := h
  exact ⟨scr, i, z, ns, by rw [upd_ne n.symm]; exact hr, hi, hz0, hz1, scr_upd hq hs⟩
theorem row_lst {H : Hp} {r : Addr} (h : RowAt K H r) : ∃ xs, H r = some (.lst xs) := by
  obtain ⟨scr, i, z, ns, hr, _⟩ := h
  exact ⟨_, hr⟩
theorem row_tup {H H' : Hp} {r a : Addr} {xs : List V} (h : RowAt K H r) (o : Out (Is r) H H') (t : H a = some (.tup xs)) : H' a = some (.tup xs) := by
  obtain ⟨ys, hy⟩ := row_lst h
  exact o _ _ t (ne_of t hy (fun z => nomatch z))
theorem row_new {H : Hp} {r a : Addr} (h : RowAt K H r) (n : H a = none) : a ≠ r := fun z => by
  obtain ⟨ys, hy⟩ := row_lst h
  rw [z, hy] at n
  cases n
theorem row_gtup {H H' : Hp} {r a : Addr} {g : G} (h : RowAt K H r) (o : Out (Is r) H H') (t : GTup H g a) : GTup H' g a := gtup_keep (fun _ _ z => row_tup h o z) t
theorem row_free {H H' : Hp} {r a : Addr} (h : RowAt K H' r) (o : Out (Is r) H H') (n : H' a = none) : H a = none := out_free o n (row_new h n)
def spLawGuesser (K : PySem.W.Frag) (n : Nat) : Sp := fun vs H Q _ => ∃ r d, vs = [.ref r, .int d] ∧ 0 ≤ d ∧ d ≤ 3 ∧ d.toNat < n ∧ RowAt K H r ∧
  ∀ H' a g, g.ok → (g.depth : Int) ≤ d → GTup H' g a → RowAt K H' r → Out (Is r) H H' → Q (.ref a) H'
def t_law_guesser (K : PySem.W.Frag) (sp_law_taken sp_law_guesser : Sp) : TS := tSeq (tAsg (tCall sp_law_taken [] E0 (tCons (tVar 0) (tCons (tOp (rIxL K) (tLst (tCons (tC (.int 6)) (tCons (tC (.int 8)) (tNil)))) (tCB (rInt1) (tCons (tOp (rGtI) (tVar 1) (tC (.int 0))) (tNil)))) (tNil)))) (gName 2))
  (tSeq (tIfS (tTest (tOp (rGtI) (tVar 2) (tC (.int 5)))) (tSeq (tAsg (tCall sp_law_guesser [] E0 (tCons (tVar 0) (tCons (tOp (rSubI) (tVar 1) (tC (.int 1))) (tNil)))) (gName 3))
  (tRet (tTup (tCons (tC (.str "both")) (tCons (tVar 3) (tCons (tCall sp_law_guesser [] E0 (tCons (tVar 0) (tCons (tOp (rSubI) (tVar 1) (tC (.int 1))) (tNil)))) (tNil))))))) (tNext))
  (tSeq (tAsg (tLst (tCons (tTup (tCons (tC (.str "none")) (tNil))) (tCons (tTup (tCons (tC (.str "next")) (tCons (tOp (rAddI) (tC (.int 1)) (tCall sp_law_taken [] E0 (tCons (tVar 0) (tCons (tC (.int 3)) (tNil))))) (tNil)))) (tCons (tTup (tCons (tC (.str "stride")) (tCons (tOp (rAddI) (tC (.int 1)) (tCall sp_law_taken [] E0 (tCons (tVar 0) (tCons (tC (.int 3)) (tNil))))) (tNil)))) (tNil))))) (gName 4))
  (tSeq (tAsg (tOp (rCat) (tVar 4) (tLst (tCons (tTup (tCons (tC (.str "pairs")) (tCons (tOp (rAddI) (tC (.int 1)) (tCall sp_law_taken [] E0 (tCons (tVar 0) (tCons (tC (.int 2)) (tNil))))) (tNil)))) (tCons (tTup (tCons (tC (.str "stride")) (tCons (tC (.int 1)) (tNil)))) (tCons (tTup (tCons (tC (.str "next")) (tCons (tC (.int 1)) (tNil)))) (tNil)))))) (gName 4))
  (tRet (tOp (rIxL K) (tVar 4) (tVar 2))))))
theorem pu_law_guesser {vs : List V} {H : Hp} {Q : VK} {E : XK} {n : Nat} (h : spLawGuesser K (n + 1) vs H Q E) : t_law_guesser K (spTaken K) (spLawGuesser K n) (B Q) (start ["_law_row", "_law_within", "_law_way", "_law_one", "_law_sorts"] vs) H := by
  obtain ⟨r, d, rfl, d0, d3, dn, row, k⟩ := h
  unfold t_law_guesser
  walk_at "w"
  refine ⟨by decide, w_new fun p1 H1 hp1 e1 h1 => ?_⟩
  walk_at "w"
  refine .inr ⟨_, rfl, ?_⟩
  obtain ⟨m, hm, m1, m8, m6⟩ : ∃ m : Int, atI [V.int 6, V.int 8] (if decide (0 < d) = true then 1 else 0) = some (.int m) ∧ 1 ≤ m ∧ m ≤ 8 ∧ (d = 0 → m ≤ 6) := by
    by_cases hd : 0 < d
    · refine ⟨8, ?_, by decide, by decide, fun z => by omega⟩
      rw [decide_eq_true hd, if_pos rfl]
      rfl
    · refine ⟨6, ?_, by decide, by decide, fun _ => by decide⟩
      rw [decide_eq_false hd, if_neg (by decide)]
      rfl
  refine w_ixl (.of h1) hm ?_
  walk_at "w"
  refine ⟨r, m, rfl, m1, row_same e1 row, fun H2 w w0 w1 row2 o2 => ?_⟩
  have o02 : Out (Is r) H H2 := (same_out e1).trans o2
  walk_at "w"
  refine w_if2 (fun c => ?_) (fun c => ?_)
  · have hd : 0 < d := by
      by_cases hd : d = 0
      · have := m6 hd
        omega
      · omega
    walk_at "w"
    refine ⟨r, d - 1, rfl, by omega, by omega, by omega, row2, fun H3 a g ok dp gt row3 o3 => ?_⟩
    walk_at "w"
    refine ⟨r, d - 1, rfl, by omega, by omega, by omega, row3, fun H4 b g' ok' dp' gt' row4 o4 => ?_⟩
    refine ⟨small_le (by simp), w_new fun p H5 hp e5 h5 => ?_⟩
    refine k H5 p (.both g g') ⟨ok, ok'⟩ ?_ ⟨a, b, h5, gtup_same e5 (row_gtup row3 o4 gt), gtup_same e5 gt'⟩ (row_same e5 row4) (((o02.trans o3).trans o4).trans (same_out e5))
    show ((max g.depth g'.depth + 1 : Nat) : Int) ≤ d
    omega
  · walk_at "w"
    refine ⟨small_le (by simp), w_new fun t1 H3 hp3 e3 h3 => ?_⟩
    have row3 := row_same e3 row2
    walk_at "w"
    refine ⟨r, 3, rfl, by decide, row3, fun H4 v1 v10 v13 row4 o4 => ?_⟩
    walk_at "w"
    refine ⟨small_le (by simp), w_new fun t2 H5 hp5 e5 h5 => ?_⟩
    have row5 := row_same e5 row4
    walk_at "w"
    refine ⟨r, 3, rfl, by decide, row5, fun H6 v2 v20 v23 row6 o6 => ?_⟩
    walk_at "w"
    refine ⟨small_le (by simp), w_new fun t3 H7 hp7 e7 h7 => ?_⟩
    have row7 := row_same e7 row6
    walk_at "w"
    refine ⟨small_le (by simp), w_new fun l1 H8 hp8 e8 h8 => ?_⟩
    have row8 := row_same e8 row7
    have nl1 : l1 ≠ r := row_new row7 hp8
    walk_at "w"
    refine ⟨r, 2, rfl, by decide, row8, fun H9 v3 v30 v32 row9 o9 => ?_⟩
    have h9 := o9 _ _ h8 nl1
    walk_at "w"
    refine ⟨small_le (by simp), w_new fun t4 H10 hp10 e10 h10 => ?_⟩
    walk_at "w"
    refine ⟨small_le (by simp), w_new fun t5 H11 hp11 e11 h11 => ?_⟩
    walk_at "w"
    refine ⟨small_le (by simp), w_new fun t6 H12 hp12 e12 h12 => ?_⟩
    walk_at "w"
    refine ⟨small_le (by simp), w_new fun l2 H13 hp13 e13 h13 => ?_⟩
    have e913 := e10.trans (e11.trans (e12.trans e13))
    refine w_cat (e913 _ _ h9) h13 (small_le (by simp)) (w_new fun l3 H14 hp14 e14 h14 => ?_)
    have o14 : Out (Is r) H8 H14 := o9.trans (same_out (e913.trans e14))
    have row14 : RowAt K H14 r := row_same (e913.trans e14) row9
    have g1 : GTup H14 .non t1 := row_tup row3 (o4.trans ((same_out e5).trans (o6.trans ((same_out (e7.trans e8)).trans o14)))) h3
    have g2 : GTup H14 (.next (1 + v1)) t2 := row_tup row5 (o6.trans ((same_out (e7.trans e8)).trans o14)) h5
    have g3 : GTup H14 (.stride (1 + v2)) t3 := row_tup row7 ((same_out e8).trans o14) h7
    have g4 : GTup H14 (.pairs (1 + v3)) t4 := e14 _ _ (e13 _ _ (e12 _ _ (e11 _ _ h10)))
    have g5 : GTup H14 (.stride 1) t5 := e14 _ _ (e13 _ _ (e12 _ _ h11))
    have g6 : GTup H14 (.next 1) t6 := e14 _ _ (e13 _ _ h12)
    have o_all : Out (Is r) H H14 := o02.trans ((same_out e3).trans (o4.trans ((same_out e5).trans (o6.trans ((same_out (e7.trans e8)).trans o14)))))
    walk_at "w"
    have fin : ∀ (t : Addr) (g : G), g.ok → g.depth = 0 → GTup H14 g t → atI [V.ref t1, V.ref t2, V.ref t3, V.ref t4, V.ref t5, V.ref t6] w = some (.ref t) → rIxL K (.ref l3) (.int w) H14 Q := fun t g ok dp gt hat => w_ixl (.of h14) hat (k H14 t g ok (by rw [dp]; exact d0) gt row14 o_all)
    have hw : w = 0 ∨ w = 1 ∨ w = 2 ∨ w = 3 ∨ w = 4 ∨ w = 5 := by omega
    rcases hw with rfl | rfl | rfl | rfl | rfl | rfl
    · exact fin t1 .non trivial rfl g1 rfl
    · exact fin t2 (.next (1 + v1)) ⟨by omega, by omega⟩ rfl g2 rfl
    · exact fin t3 (.stride (1 + v2)) ⟨by omega, by omega⟩ rfl g3 rfl
    · exact fin t4 (.pairs (1 + v3)) ⟨by omega, by omega⟩ rfl g4 rfl
    · exact fin t5 (.stride 1) ⟨by omega, by omega⟩ rfl g5 rfl
    · exact fin t6 (.next 1) ⟨by omega, by omega⟩ rfl g6 rfl
end
end SwD
set_option Elab.async false
set_option linter.all false
set_option maxRecDepth 100000
set_option maxHeartbeats 4000000
namespace SwD
open PySem PySem.Spec PyProof.Rows L2 SwX StX Sw
local macro_rules | `(tactic| walk_at "lk") => `(tactic| first | exact lk_at | exact lk_no | ((refine' lk_by (by decide +kernel) ?wq); (case wq => walk_at "lk")))
local macro_rules | `(tactic| walk_at "pf") => `(tactic| first | exact pf_at | exact pf_nil | ((refine' pf_by (by decide +kernel) ?wq); (case wq => walk_at "pf")))
local macro_rules | `(tactic| walk_at "w1") => `(tactic| with_reducible first
  | refine w_seq ?_ | refine w_asg ?_ | refine w_name ?_ | refine w_ret ?_ | refine w_retN ?_ | refine w_drop ?_ | refine w_next ?_ | refine w_if ?_ | refine w_ifE ?_ | refine w_test ?_ | refine w_B ?_ | refine w_bl ?_
  | refine w_not ?_ | refine w_and ?_ | refine w_or ?_ | refine w_andV ?_ | refine w_orV ?_ | refine w_notV ?_ | refine w_isN ?_ | refine w_notN ?_ | refine w_yes ?_
  | refine w_c ?_ | refine w_op ?_ | refine w_un ?_ | refine w_i0 ?_ | refine w_neg ?_ | refine w_nil ?_ | refine w_cons ?_ | refine w_cb ?_ | refine w_call ?_ | refine w_tup ?_ | refine w_lst ?_
  | refine w_fld ?_ | refine w_sfld ?_ | refine w_match ?_ | refine w_case ?_ | refine w_mcons ?_ | refine w_mnil ?_ | refine w_mcap ?_ | refine w_many ?_ | refine w_myes ?_
  | refine w_sub ?_ | refine w_bm ?_ | refine w_sl ?_ | refine w_nopart ?_ | refine w_part ?_ | refine w_int ?_ | refine w_ift ?_ | refine w_iff ?_ | refine w_ifn ?_ | refine w_dget2 ?_ | refine w_star ?_ | refine w_dput ?_ | refine w_dnewK ?_ | refine w_meth ?_ | refine w_oneOf ?_ | refine w_make ?_ | refine w_lc ?_ | refine w_for ?_ | refine w_ilist ?_ | refine w_irng1 ?_ | refine w_irng2 ?_ | refine w_irng3 ?_)
local macro_rules | `(tactic| walk_at "w2") => `(tactic| first
  | ((with_reducible refine' w_var ?wh ?_); (case wh => rfl))
  | ((with_reducible refine' w_eq ?wh ?_); (case wh => rfl))
  | ((with_reducible refine' w_ne ?wh ?_); (case wh => rfl))
  | ((with_reducible refine' w_mno ?wh ?_); (case wh => decide +kernel))
  | ((with_reducible refine' w_mhit ?wh ?wl ?_); (case wh => assumption); (case wl => rfl))
  | ((with_reducible refine' w_mmiss ?wh ?wl ?_); (case wh => assumption); (case wl => simp))
  | ((with_reducible refine' w_fldA ?wh ?wc ?wn ?wl ?_); (case wh => first | assumption | exact upd_same); (case wc => assumption); (case wn => assumption); (case wl => walk_at "lk"))
  | ((with_reducible refine' w_ixl ?wh ?we ?_); (case wh => exact SqL.of (by first | assumption | exact upd_same)); (case we => rfl))
  | ((with_reducible refine' w_ixt ?wh ?we ?_); (case wh => assumption); (case we => rfl))
  | ((with_reducible refine' w_ifT ?wh ?_); (case wh => (with_reducible exact Eq.refl _)))
  | ((with_reducible refine' w_ifF ?wh ?_); (case wh => decide +kernel))
  | ((with_reducible refine' w_isiY ?wh ?wk ?_); (case wh => first | exact .int _ | exact .str _ | exact .lst (by assumption) | exact .tup (by assumption)); (case wk => decide +kernel))
  | ((with_reducible refine' w_isiN ?wh ?wk ?_); (case wh => first | exact .int _ | exact .str _ | exact .lst (by assumption) | exact .tup (by assumption)); (case wk => decide +kernel))
  | ((with_reducible refine' w_ifF ?wh ?_); (case wh => (intro z; cases z; done)))
  | ((with_reducible refine' w_setl ?wh ?we ?wl ?_); (case wh => first | assumption | exact upd_same); (case we => rfl); (case wl => rfl))
  | ((with_reducible refine' w_methA ?wh ?wl ?_); (case wh => first | assumption | exact upd_same); (case wl => walk_at "lk"))
  | ((with_reducible refine' w_sfldB ?wc ?wn ?wz ?wl ?_); (case wc => assumption); (case wn => assumption); (case wz => simp); (case wl => walk_at "pf"))
  | ((with_reducible refine' w_sfldA ?wh ?wc ?wn ?wz ?wl ?_); (case wh => assumption); (case wc => assumption); (case wn => assumption); (case wz => simp); (case wl => walk_at "pf")))
local macro_rules | `(tactic| walk_at "w") => `(tactic| repeat (first | walk_at "w1" | walk_at "w2" | (dsimp only [List.set, setAll, List.append, List.cons_append, List.nil_append])))
section
variable {K : PySem.W.Frag}
def spLawPlaces (K : PySem.W.Frag) : Sp := fun vs H Q _ => ∃ r p m, vs = [.ref r, .int p, .int m] ∧ 1 ≤ p ∧ p ≤ 1000000 ∧ 0 ≤ m ∧ m ≤ 1000 ∧ RowAt K H r ∧
  ∀ (H' : Hp) (q : Addr) (ls : List Int), (ls.length : Int) ≤ m → (∀ x, x ∈ ls → 0 ≤ x ∧ x < p) → H q = none → H' q = some (.lst (ls.map V.int)) → RowAt K H' r → Out (Is r) H H' → Q (.ref q) H'
def t_law_places (K : PySem.W.Frag) (sp_law_taken : Sp) : TS := tSeq (tAsg (tLst (tNil)) (gName 3))
  (tSeq (tAsg (tCall sp_law_taken [] E0 (tCons (tVar 0) (tCons (tVar 1) (tNil)))) (gName 4))
  (tSeq (tAsg (tOp (rSubI) (tCall sp_law_taken [] E0 (tCons (tVar 0) (tCons (tC (.int 7)) (tNil)))) (tC (.int 3))) (gName 5))
  (tSeq (tFor (iRng1 (tCons (tCall sp_law_taken [] E0 (tCons (tVar 0) (tCons (tOp (rAddI) (tVar 2) (tC (.int 1))) (tNil)))) (tNil))) (gName 6) (tSeq (tAsg (tCall sp_law_taken [] E0 (tCons (tVar 0) (tCons (tC (.int 8)) (tNil)))) (gName 7))
  (tSeq (tIfS (tTest (tOp (rEq) (tVar 7) (tC (.int 7)))) (tAsg (tCall sp_law_taken [] E0 (tCons (tVar 0) (tCons (tVar 1) (tNil)))) (gName 4)) (tNext))
  (tSeq (tIfS (tTest (tOp (rEq) (tVar 7) (tC (.int 6)))) (tAsg (tOp (rSubI) (tCall sp_law_taken [] E0 (tCons (tVar 0) (tCons (tC (.int 7)) (tNil)))) (tC (.int 3))) (gName 5)) (tNext))
  (tSeq (tIfS (tAnd (tTest (tOp (rEq) (tVar 7) (tC (.int 5)))) (tTest (tOp (rNeD K) (tVar 3) (tLst (tNil))))) (tAsg (tOp (rIxL K) (tVar 3) (tCall sp_law_taken [] E0 (tCons (tVar 0) (tCons (tCB (rLenQ K) (tCons (tVar 3) (tNil))) (tNil))))) (gName 4)) (tNext))
  (tSeq (tDrop (tBM K "list" rAppend (tVar 3) (tCons (tVar 4) (tNil))))
  (tAsg (tOp (rModI) (tOp (rAddI) (tVar 4) (tVar 5)) (tVar 1)) (gName 4))))))))
  (tRet (tVar 3)))))
theorem at_int {ls : List Int} {n : Int} (h0 : 0 ≤ n) (h1 : n < (ls.length : Int)) : ∃ v, v ∈ ls ∧ atI (ls.map V.int) n = some (.int v) := by
  have hj : n.toNat < ls.length := by omega
  refine ⟨ls[n.toNat], List.getElem_mem hj, ?_⟩
  have e : n = ((n.toNat : Nat) : Int) := by omega
  have q := atI_nat (xs := ls.map V.int) (j := n.toNat) (v := .int ls[n.toNat]) (by rw [List.getElem?_map, List.getElem?_eq_getElem hj]; rfl)
  rw [← e] at q
  exact q
/-- data of ints -/
theorem dp_ints {H : Hp} {a : Addr} {ls : List Int} (h : SqL K H a (ls.map V.int)) : Dp K H (.ref a) (.list (ls.map PyData.int)) := .lst h (dpAll ls)
where
  dpAll {H : Hp} : ∀ ls : List Int, DpAll K H (ls.map V.int) (ls.map PyData.int)
  | [] => .nil
  | x :: r => .cons (.int x) (dpAll r)
theorem shaped_ints (ls : List Int) : SeqAt.shaped (.list (ls.map PyData.int)) = true := by
  have h1 : ∀ ls : List Int, PyData.canLayAll0 (ls.map PyData.int) = true := by
    intro ls
    induction ls with
    | nil => rfl
    | cons x r ih =>
      show (PyData.canLay0 (.int x) && PyData.canLayAll0 (r.map PyData.int)) = true
      rw [ih]
      rfl
  unfold SeqAt.shaped
  rw [Bool.and_eq_true]
  refine ⟨?_, decide_eq_true ?_⟩
  · show PyData.canLayAll0 (ls.map PyData.int) = true
    exact h1 ls
  · show (PyData.list (ls.map PyData.int)).depth ≤ 64
    have h2 : ∀ ls : List Int, PyData.depthAll (ls.map PyData.int) ≤ 1 := by
      intro ls
      induction ls with
      | nil => exact Nat.zero_le _
      | cons x r ih =>
        show max (PyData.depth (.int x)) (PyData.depthAll (r.map PyData.int)) ≤ 1
        have : PyData.depth (.int x) ≤ 1 := Nat.zero_le _
        omega
    have := h2 ls
    show PyData.depthAll (ls.map PyData.int) + 1 ≤ 64
    omega
theorem places_turn {D : Ends} {r q : Addr} {p m here far : Int} {kv wv : Option V} {ls : List Int} {H4 H' : Hp} (hp1 : 1 ≤ p) (nq : q ≠ r) (hz : ls.length ≤ 100000) (hx : ∀ x, x ∈ ls → 0 ≤ x ∧ x < p) (h0 : 0 ≤ here) (h1 : here < p) (hq : H' q = some (.lst (ls.map V.int))) (row : RowAt K H' r) (o : Out (fun b => b = r ∨ b = q) H4 H')
    (hn : ∀ (ls' : List Int) (here far : Int) (wv : Option V) (H' : Hp), ls'.length = ls.length + 1 → (∀ x, x ∈ ls' → 0 ≤ x ∧ x < p) → 0 ≤ here → here < p → H' q = some (.lst (ls'.map V.int)) → RowAt K H' r → Out (fun b => b = r ∨ b = q) H4 H' → D.nx [some (.ref r), some (.int p), some (.int m), some (.ref q), some (.int here), some (.int far), kv, wv] H') :
    (tSeq (tAsg (tCall (spTaken K) [] E0 (tCons (tVar 0) (tCons (tC (.int 8)) (tNil)))) (gName 7))
  (tSeq (tIfS (tTest (tOp (rEq) (tVar 7) (tC (.int 7)))) (tAsg (tCall (spTaken K) [] E0 (tCons (tVar 0) (tCons (tVar 1) (tNil)))) (gName 4)) (tNext))
  (tSeq (tIfS (tTest (tOp (rEq) (tVar 7) (tC (.int 6)))) (tAsg (tOp (rSubI) (tCall (spTaken K) [] E0 (tCons (tVar 0) (tCons (tC (.int 7)) (tNil)))) (tC (.int 3))) (gName 5)) (tNext))
  (tSeq (tIfS (tAnd (tTest (tOp (rEq) (tVar 7) (tC (.int 5)))) (tTest (tOp (rNeD K) (tVar 3) (tLst (tNil))))) (tAsg (tOp (rIxL K) (tVar 3) (tCall (spTaken K) [] E0 (tCons (tVar 0) (tCons (tCB (rLenQ K) (tCons (tVar 3) (tNil))) (tNil))))) (gName 4)) (tNext))
  (tSeq (tDrop (tBM K "list" rAppend (tVar 3) (tCons (tVar 4) (tNil))))
  (tAsg (tOp (rModI) (tOp (rAddI) (tVar 4) (tVar 5)) (tVar 1)) (gName 4))))))) D [some (.ref r), some (.int p), some (.int m), some (.ref q), some (.int here), some (.int far), kv, wv] H' := by
  have up : ∀ {H H' : Hp}, Out (Is r) H H' → Out (fun b => b = r ∨ b = q) H H' := fun e => e.mono fun b z => .inl z
  -- append, the next place
  have T4 : ∀ (here far : Int) (wv : Option V) (H' : Hp), 0 ≤ here → here < p → H' q = some (.lst (ls.map V.int)) → RowAt K H' r → Out (fun b => b = r ∨ b = q) H4 H' →
      (tSeq (tDrop (tBM K "list" rAppend (tVar 3) (tCons (tVar 4) (tNil))))
  (tAsg (tOp (rModI) (tOp (rAddI) (tVar 4) (tVar 5)) (tVar 1)) (gName 4))) D [some (.ref r), some (.int p), some (.int m), some (.ref q), some (.int here), some (.int far), kv, wv] H' := by
    intro here far wv H' h0 h1 hq row o
    walk_at "w"
    refine ⟨.inl ⟨rfl, _, SqL.of hq⟩, ?_⟩
    walk_at "w"
    refine w_app hq (small_lt (by rw [List.length_map]; omega)) ?_
    walk_at "w"
    refine w_i (by omega) ?_
    walk_at "w"
    refine hn (ls ++ [here]) _ _ _ _ (by simp) (fun x h => ?_) (Int.emod_nonneg _ (by omega)) (Int.emod_lt_of_pos _ (by omega)) (by rw [upd_same, List.map_append]; rfl) ?_ (fun b u hb nb => by rw [upd_ne (fun z => nb (.inr z))]; exact o b u hb nb)
    · rcases List.mem_append.mp h with z | z
      · exact hx x z
      · rw [List.mem_singleton.mp z]
        exact ⟨h0, h1⟩
    · exact row_put row hq nq
  have T3 : ∀ (way here far : Int) (H' : Hp), 0 ≤ here → here < p → H' q = some (.lst (ls.map V.int)) → RowAt K H' r → Out (fun b => b = r ∨ b = q) H4 H' →
      (tSeq (tIfS (tAnd (tTest (tOp (rEq) (tVar 7) (tC (.int 5)))) (tTest (tOp (rNeD K) (tVar 3) (tLst (tNil))))) (tAsg (tOp (rIxL K) (tVar 3) (tCall (spTaken K) [] E0 (tCons (tVar 0) (tCons (tCB (rLenQ K) (tCons (tVar 3) (tNil))) (tNil))))) (gName 4)) (tNext))
  (tSeq (tDrop (tBM K "list" rAppend (tVar 3) (tCons (tVar 4) (tNil))))
  (tAsg (tOp (rModI) (tOp (rAddI) (tVar 4) (tVar 5)) (tVar 1)) (gName 4)))) D [some (.ref r), some (.int p), some (.int m), some (.ref q), some (.int here), some (.int far), kv, some (.int way)] H' := by
    intro way here far H' h0 h1 hq row o
    refine w_seq (w_if (w_and (w_test (w_op ?_))))
    walk_at "w2"
    refine w_c ?_
    walk_at "w2"
    refine w_bl ?_
    refine w_if2 (fun c => ?_) (fun c => w_iff (w_next (T4 here far _ H' h0 h1 hq row o)))
    walk_at "w"
    refine ⟨by decide, w_new fun z H2 hz2 e2 hq2 => ?_⟩
    refine ⟨_, _, dp_ints (SqL.of (e2 _ _ hq)), .lst (SqL.of hq2) .nil, shaped_ints ls, by decide, ?_⟩
    refine w_bl ?_
    have row2 := row_same e2 row
    have o2 : Out (fun b => b = r ∨ b = q) H4 H2 := o.trans (same_out e2)
    cases ls with
    | nil =>
      have e : PyData.eqv (.list (List.map PyData.int [])) (.list []) = true := by decide
      rw [e]
      refine w_iff ?_
      exact w_next (T4 here far _ H2 h0 h1 (e2 _ _ hq) row2 o2)
    | cons a l =>
      have e : PyData.eqv (.list (List.map PyData.int (a :: l))) (.list []) = false := by rfl
      rw [e]
      refine w_ift ?_
      walk_at "w"
      refine w_len (.inl (SqL.of (e2 _ _ hq))) ?_
      walk_at "w"
      rw [List.length_map]
      refine ⟨r, _, rfl, (by have e9 : (a :: l).length = l.length + 1 := rfl; omega), row2, fun H3 w w0 w1 row3 o3 => ?_⟩
      have hq3 := o3 _ _ (e2 _ _ hq) nq
      obtain ⟨v, hv, hat⟩ := at_int w0 w1
      refine w_ixl (SqL.of hq3) hat ?_
      refine w_name ?_
      dsimp only [List.set]
      exact T4 v far _ H3 (hx v hv).1 (hx v hv).2 hq3 row3 (o2.trans (up o3))
  have T2 : ∀ (way here far : Int) (H' : Hp), 0 ≤ here → here < p → H' q = some (.lst (ls.map V.int)) → RowAt K H' r → Out (fun b => b = r ∨ b = q) H4 H' →
      (tSeq (tIfS (tTest (tOp (rEq) (tVar 7) (tC (.int 6)))) (tAsg (tOp (rSubI) (tCall (spTaken K) [] E0 (tCons (tVar 0) (tCons (tC (.int 7)) (tNil)))) (tC (.int 3))) (gName 5)) (tNext))
  (tSeq (tIfS (tAnd (tTest (tOp (rEq) (tVar 7) (tC (.int 5)))) (tTest (tOp (rNeD K) (tVar 3) (tLst (tNil))))) (tAsg (tOp (rIxL K) (tVar 3) (tCall (spTaken K) [] E0 (tCons (tVar 0) (tCons (tCB (rLenQ K) (tCons (tVar 3) (tNil))) (tNil))))) (gName 4)) (tNext))
  (tSeq (tDrop (tBM K "list" rAppend (tVar 3) (tCons (tVar 4) (tNil))))
  (tAsg (tOp (rModI) (tOp (rAddI) (tVar 4) (tVar 5)) (tVar 1)) (gName 4))))) D [some (.ref r), some (.int p), some (.int m), some (.ref q), some (.int here), some (.int far), kv, some (.int way)] H' := by
    intro way here far H' h0 h1 hq row o
    refine w_seq (w_if (w_test (w_op ?_)))
    walk_at "w2"
    refine w_c ?_
    walk_at "w2"
    refine w_bl ?_
    refine w_if2 (fun c => ?_) (fun c => w_next (T3 way here far H' h0 h1 hq row o))
    refine w_asg (w_op (w_call ?_))
    walk_at "w"
    refine ⟨r, 7, rfl, by decide, row, fun H3 w w0 w1 row3 o3 => ?_⟩
    refine w_c (w_i0 (w_name ?_))
    dsimp only [List.set]
    exact T3 way here _ H3 h0 h1 (o3 _ _ hq nq) row3 (o.trans (up o3))
  have T1 : ∀ (way here far : Int) (H' : Hp), 0 ≤ here → here < p → H' q = some (.lst (ls.map V.int)) → RowAt K H' r → Out (fun b => b = r ∨ b = q) H4 H' →
      (tSeq (tIfS (tTest (tOp (rEq) (tVar 7) (tC (.int 7)))) (tAsg (tCall (spTaken K) [] E0 (tCons (tVar 0) (tCons (tVar 1) (tNil)))) (gName 4)) (tNext))
  (tSeq (tIfS (tTest (tOp (rEq) (tVar 7) (tC (.int 6)))) (tAsg (tOp (rSubI) (tCall (spTaken K) [] E0 (tCons (tVar 0) (tCons (tC (.int 7)) (tNil)))) (tC (.int 3))) (gName 5)) (tNext))
  (tSeq (tIfS (tAnd (tTest (tOp (rEq) (tVar 7) (tC (.int 5)))) (tTest (tOp (rNeD K) (tVar 3) (tLst (tNil))))) (tAsg (tOp (rIxL K) (tVar 3) (tCall (spTaken K) [] E0 (tCons (tVar 0) (tCons (tCB (rLenQ K) (tCons (tVar 3) (tNil))) (tNil))))) (gName 4)) (tNext))
  (tSeq (tDrop (tBM K "list" rAppend (tVar 3) (tCons (tVar 4) (tNil))))
  (tAsg (tOp (rModI) (tOp (rAddI) (tVar 4) (tVar 5)) (tVar 1)) (gName 4)))))) D [some (.ref r), some (.int p), some (.int m), some (.ref q), some (.int here), some (.int far), kv, some (.int way)] H' := by
    intro way here far H' h0 h1 hq row o
    refine w_seq (w_if (w_test (w_op ?_)))
    walk_at "w2"
    refine w_c ?_
    walk_at "w2"
    refine w_bl ?_
    refine w_if2 (fun c => ?_) (fun c => w_next (T2 way here far H' h0 h1 hq row o))
    refine w_asg (w_call ?_)
    walk_at "w"
    refine ⟨r, p, rfl, hp1, row, fun H3 w w0 w1 row3 o3 => ?_⟩
    refine w_name ?_
    dsimp only [List.set]
    exact T2 way w far H3 w0 w1 (o3 _ _ hq nq) row3 (o.trans (up o3))
  refine w_seq (w_asg (w_call ?_))
  walk_at "w"
  refine ⟨r, 8, rfl, by decide, row, fun H3 w w0 w1 row3 o3 => ?_⟩
  refine w_name ?_
  dsimp only [List.set]
  exact T1 w here far H3 h0 h1 (o3 _ _ hq nq) row3 (o.trans (up o3))
theorem pu_law_places {vs : List V} {H : Hp} {Q : VK} {E : XK} (h : spLawPlaces K vs H Q E) : t_law_places K (spTaken K) (B Q) (start ["_law_row", "_law_places_here", "_law_most", "_law_found", "_law_here", "_law_far", "_law_k", "_law_way"] vs) H := by
  obtain ⟨r, p, m, rfl, hp1, hp2, hm0, hm1, row, k⟩ := h
  unfold t_law_places
  walk_at "w"
  refine ⟨by decide, w_new fun q H1 hq e1 h1 => ?_⟩
  have nq : q ≠ r := row_new row hq
  walk_at "w"
  refine ⟨r, p, rfl, hp1, row_same e1 row, fun H2 here hr0 hr1 row2 o2 => ?_⟩
  have h2 := o2 _ _ h1 nq
  walk_at "w"
  refine ⟨r, 7, rfl, by decide, row2, fun H3 far hf0 hf1 row3 o3 => ?_⟩
  have h3 := o3 _ _ h2 nq
  walk_at "w"
  refine ⟨r, m + 1, rfl, by omega, row3, fun H4 many hn0 hn1 row4 o4 => ?_⟩
  have h4 := o4 _ _ h3 nq
  have o04 : Out (Is r) H H4 := (same_out e1).trans (o2.trans (o3.trans o4))
  walk_at "w"
  refine w_forr1 (fun i σ H' => ∃ (ls : List Int) (here far : Int) (k7 w7 : Option V), σ = [some (.ref r), some (.int p), some (.int m), some (.ref q), some (.int here), some (.int far), k7, w7] ∧ ls.length = i ∧ (∀ x, x ∈ ls → 0 ≤ x ∧ x < p) ∧ 0 ≤ here ∧ here < p ∧ H' q = some (.lst (ls.map V.int)) ∧ RowAt K H' r ∧ Out (fun b => b = r ∨ b = q) H4 H')
    (by omega) ⟨[], here, far - 3, none, none, rfl, rfl, fun x hx => by simp at hx, hr0, hr1, h4, row4, Out.refl⟩ (fun i σ H' hi w => ?_) (fun σ H' w => ?_)
  · obtain ⟨ls, here, far, k7, w7, rfl, hl, hx, h0, h1', hq', row', o'⟩ := w
    refine w_name ?_
    dsimp only [List.set]
    exact places_turn hp1 nq (by omega) hx h0 h1' hq' row' o' (fun ls' here far wv H'' e1 e2 e3 e4 e5 e6 e7 => ⟨ls', here, far, _, _, rfl, by omega, e2, e3, e4, e5, e6, e7⟩)
  · obtain ⟨ls, here, far, k7, w7, rfl, hl, hx, h0, h1', hq', row', o'⟩ := w
    walk_at "w"
    refine k H' q ls (by omega) hx hq hq' row' (fun b o hb nb => ?_)
    refine o' b o (o04 b o hb nb) ?_
    rintro (z | z)
    · exact nb z
    · rw [z, hq] at hb
      cases hb
end
end SwD
set_option autoImplicit false
namespace Sw
/-- the strides, the first one first -/
def fstr : List Int → List Int
  | a :: b :: r => (b - a) :: fstr (b :: r)
  | _ => []
theorem strides_snoc (x y : Int) : ∀ l : List Int, strides (l ++ [y, x]) = strides (l ++ [y]) ++ [y - x]
  | [] => rfl
  | [a] => rfl
  | a :: b :: l => by
    have ih := strides_snoc x y (b :: l)
    show (a - b) :: strides (b :: l ++ [y, x]) = (a - b) :: (strides (b :: l ++ [y]) ++ [y - x])
    rw [ih]
theorem fstr_rev : ∀ l : List Int, fstr l = (strides l.reverse).reverse
  | [] => rfl
  | [_] => rfl
  | a :: b :: r => by
    have ih := fstr_rev (b :: r)
    show (b - a) :: fstr (b :: r) = _
    rw [ih]
    have e : (a :: b :: r).reverse = r.reverse ++ [b, a] := by simp
    rw [e, strides_snoc, List.reverse_append]
    have e2 : (b :: r).reverse = r.reverse ++ [b] := by simp
    rw [e2]
    rfl
theorem fstr_range : ∀ l : List Int, (List.range (l.length - 1)).map (fun i => l.getD (1 + i) 0 - l.getD i 0) = fstr l
  | [] => rfl
  | [_] => rfl
  | a :: b :: r => by
    have ih := fstr_range (b :: r)
    show (List.range (r.length + 1)).map _ = (b - a) :: fstr (b :: r)
    rw [← ih, List.range_succ_eq_map, List.map_cons, List.map_map]
    congr 1
theorem last_some (l : List Int) (n : Nat) : l.reverse.drop (l.length - n) = (l.take n).reverse := by
  rw [List.drop_reverse]
  by_cases h : n ≤ l.length
  · rw [show l.length - (l.length - n) = n by omega]
  · rw [show l.length - (l.length - n) = l.length by omega, List.take_of_length_le (Nat.le_refl _), List.take_of_length_le (by omega)]
/-- all alike: read from behind -/
theorem all_alike {S : List Int} {n : Nat} (h : S.length = n) (x : Int) : S.reverse = List.replicate n x ↔ S = List.replicate n x := by
  constructor
  · intro e
    have := congrArg List.reverse e
    rwa [List.reverse_reverse, List.reverse_replicate] at this
  · intro e
    rw [e, List.reverse_replicate]
theorem followers_snoc (k x y : Int) : ∀ l : List Int, followers k (l ++ [y, x]) = followers k (l ++ [y]) ++ (if x = k then [y] else [])
  | [] => by
    show (if x = k then [y] else []) = [] ++ _
    rw [List.nil_append]
  | [a] => by
    show (if y = k then a :: followers k [y, x] else followers k [y, x]) = (if y = k then a :: [] else []) ++ _
    show (if y = k then a :: (if x = k then [y] else []) else (if x = k then [y] else [])) = _
    by_cases h : y = k
    · rw [if_pos h, if_pos h]; rfl
    · rw [if_neg h, if_neg h]; rfl
  | a :: b :: l => by
    have ih := followers_snoc k x y (b :: l)
    show (if b = k then a :: followers k (b :: l ++ [y, x]) else followers k (b :: l ++ [y, x])) = (if b = k then a :: followers k (b :: l ++ [y]) else followers k (b :: l ++ [y])) ++ _
    rw [ih]
    by_cases h : b = k
    · rw [if_pos h, if_pos h]; rfl
    · rw [if_neg h, if_neg h]
/-- one turn more of looking back -/
theorem followers_take {k : Int} {l : List Int} {i : Nat} {x y : Int} (hy : l[i]? = some y) (hx : l[i + 1]? = some x) : followers k (l.take (i + 1 + 1)) = followers k (l.take (i + 1)) ++ (if x = k then [y] else []) := by
  have t : ∀ {l : List Int} {i : Nat} {x : Int}, l[i]? = some x → l.take (i + 1) = l.take i ++ [x] := by
    intro l
    induction l with
    | nil => intro i x h; simp at h
    | cons a l ih =>
      intro i x h
      cases i with
      | zero =>
        have : a = x := by simpa using h
        rw [this]; rfl
      | succ i =>
        have := ih (i := i) (x := x) (by simpa using h)
        rw [List.take_succ_cons, List.take_succ_cons, this]
        rfl
  rw [t hx, t hy, List.append_assoc]
  exact followers_snoc k x y (l.take i)
theorem looked_len : ∀ {g : G} (l : List Int), g.ok → (looked g l).length ≤ 3 * 2 ^ g.depth
  | .non, [], _ => Nat.zero_le _
  | .non, _ :: _, _ => Nat.zero_le _
  | .next _, [], _ => Nat.zero_le _
  | .next n, p :: r, h => by
    show (nexts p n).length ≤ 3 * 2 ^ 0
    unfold nexts
    rw [List.length_map, List.length_range]
    have := h.2
    omega
  | .stride _, [], _ => Nat.zero_le _
  | .stride n, p :: r, _ => by
    show (if _ then [p + _] else ([] : List Int)).length ≤ 3 * 2 ^ 0
    split
    · show 1 ≤ _
      omega
    · show 0 ≤ _
      omega
  | .pairs _, [], _ => Nat.zero_le _
  | .pairs n, p :: r, h => by
    show ((firsts (followers p (p :: r))).take n.toNat).length ≤ 3 * 2 ^ 0
    rw [List.length_take]
    have := h.2
    omega
  | .both _ _, [], _ => Nat.zero_le _
  | .both a b, p :: r, h => by
    show (joined (looked a (p :: r)) (looked b (p :: r))).length ≤ 3 * 2 ^ (max a.depth b.depth + 1)
    unfold joined
    rw [List.length_append]
    have h1 := looked_len (p :: r) h.1
    have h2 := looked_len (p :: r) h.2
    have h3 := List.length_filter_le (fun v => decide (v ∉ looked a (p :: r))) (looked b (p :: r))
    have h4 : 2 ^ a.depth ≤ 2 ^ max a.depth b.depth := Nat.pow_le_pow_right (by decide) (Nat.le_max_left _ _)
    have h5 : 2 ^ b.depth ≤ 2 ^ max a.depth b.depth := Nat.pow_le_pow_right (by decide) (Nat.le_max_right _ _)
    rw [Nat.pow_succ]
    omega
theorem firsts_len : ∀ l : List Int, (firsts l).length ≤ l.length
  | [] => Nat.le_refl _
  | a :: r => by
    show ((firsts r).filter _).length + 1 ≤ r.length + 1
    have := firsts_len r
    have := List.length_filter_le (fun y => decide (y ≠ a)) (firsts r)
    omega
theorem followers_len (k : Int) : ∀ l : List Int, (followers k l).length ≤ l.length
  | [] => Nat.le_refl _
  | [_] => Nat.zero_le _
  | a :: b :: r => by
    have ih := followers_len k (b :: r)
    show (if b = k then a :: followers k (b :: r) else followers k (b :: r)).length ≤ (b :: r).length + 1
    split
    · show (followers k (b :: r)).length + 1 ≤ _
      omega
    · omega
end Sw
set_option Elab.async false
set_option linter.all false
set_option maxRecDepth 100000
set_option maxHeartbeats 4000000
namespace SwD
open PySem PySem.Spec PyProof.Rows L2 SwX StX Sw
local macro_rules | `(tactic| walk_at "lk") => `(tactic| first | exact lk_at | exact lk_no | ((refine' lk_by (by decide +kernel) ?wq); (case wq => walk_at "lk")))
local macro_rules | `(tactic| walk_at "pf") => `(tactic| first | exact pf_at | exact pf_nil | ((refine' pf_by (by decide +kernel) ?wq); (case wq => walk_at "pf")))
local macro_rules | `(tactic| walk_at "w1") => `(tactic| with_reducible first
  | refine w_seq ?_ | refine w_asg ?_ | refine w_name ?_ | refine w_ret ?_ | refine w_retN ?_ | refine w_drop ?_ | refine w_next ?_ | refine w_if ?_ | refine w_ifE ?_ | refine w_test ?_ | refine w_B ?_ | refine w_bl ?_
  | refine w_not ?_ | refine w_and ?_ | refine w_or ?_ | refine w_andV ?_ | refine w_orV ?_ | refine w_notV ?_ | refine w_isN ?_ | refine w_notN ?_ | refine w_yes ?_
  | refine w_c ?_ | refine w_op ?_ | refine w_un ?_ | refine w_i0 ?_ | refine w_neg ?_ | refine w_nil ?_ | refine w_cons ?_ | refine w_cb ?_ | refine w_call ?_ | refine w_tup ?_ | refine w_lst ?_
  | refine w_fld ?_ | refine w_sfld ?_ | refine w_match ?_ | refine w_case ?_ | refine w_mcons ?_ | refine w_mnil ?_ | refine w_mcap ?_ | refine w_many ?_ | refine w_myes ?_
  | refine w_sub ?_ | refine w_bm ?_ | refine w_sl ?_ | refine w_nopart ?_ | refine w_part ?_ | refine w_int ?_ | refine w_ift ?_ | refine w_iff ?_ | refine w_ifn ?_ | refine w_dget2 ?_ | refine w_star ?_ | refine w_dput ?_ | refine w_dnewK ?_ | refine w_meth ?_ | refine w_oneOf ?_ | refine w_make ?_ | refine w_lc ?_ | refine w_for ?_ | refine w_ilist ?_ | refine w_irng1 ?_ | refine w_irng2 ?_ | refine w_irng3 ?_)
local macro_rules | `(tactic| walk_at "w2") => `(tactic| first
  | ((with_reducible refine' w_var ?wh ?_); (case wh => rfl))
  | ((with_reducible refine' w_eq ?wh ?_); (case wh => rfl))
  | ((with_reducible refine' w_ne ?wh ?_); (case wh => rfl))
  | ((with_reducible refine' w_mno ?wh ?_); (case wh => decide +kernel))
  | ((with_reducible refine' w_mhit ?wh ?wl ?_); (case wh => assumption); (case wl => rfl))
  | ((with_reducible refine' w_mmiss ?wh ?wl ?_); (case wh => assumption); (case wl => simp))
  | ((with_reducible refine' w_fldA ?wh ?wc ?wn ?wl ?_); (case wh => first | assumption | exact upd_same); (case wc => assumption); (case wn => assumption); (case wl => walk_at "lk"))
  | ((with_reducible refine' w_ixl ?wh ?we ?_); (case wh => exact SqL.of (by first | assumption | exact upd_same)); (case we => rfl))
  | ((with_reducible refine' w_ixt ?wh ?we ?_); (case wh => assumption); (case we => rfl))
  | ((with_reducible refine' w_ifT ?wh ?_); (case wh => (with_reducible exact Eq.refl _)))
  | ((with_reducible refine' w_ifF ?wh ?_); (case wh => decide +kernel))
  | ((with_reducible refine' w_isiY ?wh ?wk ?_); (case wh => first | exact .int _ | exact .str _ | exact .lst (by assumption) | exact .tup (by assumption)); (case wk => decide +kernel))
  | ((with_reducible refine' w_isiN ?wh ?wk ?_); (case wh => first | exact .int _ | exact .str _ | exact .lst (by assumption) | exact .tup (by assumption)); (case wk => decide +kernel))
  | ((with_reducible refine' w_ifF ?wh ?_); (case wh => (intro z; cases z; done)))
  | ((with_reducible refine' w_setl ?wh ?we ?wl ?_); (case wh => first | assumption | exact upd_same); (case we => rfl); (case wl => rfl))
  | ((with_reducible refine' w_methA ?wh ?wl ?_); (case wh => first | assumption | exact upd_same); (case wl => walk_at "lk"))
  | ((with_reducible refine' w_sfldB ?wc ?wn ?wz ?wl ?_); (case wc => assumption); (case wn => assumption); (case wz => simp); (case wl => walk_at "pf"))
  | ((with_reducible refine' w_sfldA ?wh ?wc ?wn ?wz ?wl ?_); (case wh => assumption); (case wc => assumption); (case wn => assumption); (case wz => simp); (case wl => walk_at "pf")))
local macro_rules | `(tactic| walk_at "w") => `(tactic| repeat (first | walk_at "w1" | walk_at "w2" | (dsimp only [List.set, setAll, List.append, List.cons_append, List.nil_append])))
section
variable {K : PySem.W.Frag}
def spLawGuessed (K : PySem.W.Frag) (n : Nat) : Sp := fun vs H Q _ => ∃ (a l : Addr) (g : G) (ls : List Int), vs = [.ref a, .ref l] ∧ GTup H g a ∧ g.ok ∧ g.depth < n ∧ H l = some (.lst (ls.map V.int)) ∧ ls ≠ [] ∧ ls.length ≤ 1000 ∧
  ∀ H' q, Same H H' → H q = none → H' q = some (.lst ((looked g ls.reverse).map V.int)) → Q (.ref q) H'
def t_law_guessed (K : PySem.W.Frag) (sp_law_guessed : Sp) : TS := tSeq (tAsg (tOp (rIxL K) (tVar 1) (tUn rNegI (tC (.int 1)))) (gName 2))
  (tSeq (tIfS (tTest (tOp (rEq) (tOp (rIxT K) (tVar 0) (tC (.int 0))) (tC (.str "both")))) (tSeq (tAsg (tCall sp_law_guessed [] E0 (tCons (tOp (rIxT K) (tVar 0) (tC (.int 1))) (tCons (tVar 1) (tNil)))) (gName 3))
  (tRet (tOp (rCat) (tVar 3) (tLc (iList K (tCall sp_law_guessed [] E0 (tCons (tOp (rIxT K) (tVar 0) (tC (.int 2))) (tCons (tVar 1) (tNil))))) (gName 8) (tTest (tOp (rIn K true) (tVar 8) (tVar 3))) (tVar 8) [8])))) (tNext))
  (tSeq (tIfS (tTest (tOp (rEq) (tOp (rIxT K) (tVar 0) (tC (.int 0))) (tC (.str "next")))) (tRet (tSl (rSlL K) (tLst (tCons (tOp (rAddI) (tVar 2) (tC (.int 1))) (tCons (tOp (rAddI) (tVar 2) (tC (.int 2))) (tCons (tOp (rAddI) (tVar 2) (tC (.int 3))) (tNil))))) (tNoPart) (tPart (tOp (rIxT K) (tVar 0) (tC (.int 1)))))) (tNext))
  (tSeq (tIfS (tTest (tOp (rEq) (tOp (rIxT K) (tVar 0) (tC (.int 0))) (tC (.str "stride")))) (tSeq (tAsg (tLc (iRng2 (tCons (tC (.int 1)) (tCons (tCB (rLenQ K) (tCons (tVar 1) (tNil))) (tNil)))) (gName 7) (tYes) (tOp (rSubI) (tOp (rIxL K) (tVar 1) (tVar 7)) (tOp (rIxL K) (tVar 1) (tOp (rSubI) (tVar 7) (tC (.int 1))))) [7]) (gName 4))
  (tSeq (tAsg (tSl (rSlL K) (tVar 4) (tPart (tCB (rMax2I) (tCons (tC (.int 0)) (tCons (tOp (rSubI) (tCB (rLenQ K) (tCons (tVar 4) (tNil))) (tOp (rIxT K) (tVar 0) (tC (.int 1)))) (tNil))))) (tNoPart)) (gName 5))
  (tSeq (tIfS (tOr (tTest (tOp (rLtI) (tCB (rLenQ K) (tCons (tVar 5) (tNil))) (tOp (rIxT K) (tVar 0) (tC (.int 1))))) (tOr (tTest (tOp (rNeD K) (tVar 5) (tOp (rRep) (tLst (tCons (tOp (rIxL K) (tVar 5) (tC (.int 0))) (tNil))) (tCB (rLenQ K) (tCons (tVar 5) (tNil)))))) (tTest (tOp (rEq) (tOp (rIxL K) (tVar 5) (tC (.int 0))) (tC (.int 0)))))) (tRet (tLst (tNil))) (tNext))
  (tRet (tLst (tCons (tOp (rAddI) (tVar 2) (tOp (rIxL K) (tVar 5) (tC (.int 0)))) (tNil))))))) (tNext))
  (tSeq (tIfS (tTest (tOp (rEq) (tOp (rIxT K) (tVar 0) (tC (.int 0))) (tC (.str "none")))) (tRet (tLst (tNil))) (tNext))
  (tSeq (tAsg (tLst (tNil)) (gName 6))
  (tSeq (tFor (iRng3 (tCons (tOp (rSubI) (tCB (rLenQ K) (tCons (tVar 1) (tNil))) (tC (.int 1))) (tCons (tC (.int 0)) (tCons (tUn rNegI (tC (.int 1))) (tNil))))) (gName 7) (tIfS (tAnd (tTest (tOp (rEq) (tOp (rIxL K) (tVar 1) (tOp (rSubI) (tVar 7) (tC (.int 1)))) (tVar 2))) (tTest (tOp (rIn K true) (tOp (rIxL K) (tVar 1) (tVar 7)) (tVar 6)))) (tDrop (tBM K "list" rAppend (tVar 6) (tCons (tOp (rIxL K) (tVar 1) (tVar 7)) (tNil)))) (tNext)))
  (tRet (tSl (rSlL K) (tVar 6) (tNoPart) (tPart (tOp (rIxT K) (tVar 0) (tC (.int 1))))))))))))
theorem nexts_cut {p m : Int} (h0 : 1 ≤ m) (h1 : m ≤ 3) : cutV [V.int (p + 1), V.int (p + 2), V.int (p + 3)] none (some m) = (nexts p m).map V.int := by
  rw [cut_take _ (by omega)]
  have hm : m = 1 ∨ m = 2 ∨ m = 3 := by omega
  rcases hm with rfl | rfl | rfl <;> rfl
theorem cut_drop (xs : List V) {j : Int} (h : 0 ≤ j) : cutV xs (some j) none = xs.drop j.toNat := by
  unfold cutV
  have e : j = ((j.toNat : Nat) : Int) := by omega
  rw [HT.sIx_none, e, HT.sIx_nat, Int.toNat_natCast]
  by_cases c : j.toNat ≤ xs.length
  · rw [Nat.min_eq_left c, List.take_of_length_le (by rw [List.length_drop]; omega)]
  · rw [Nat.min_eq_right (by omega), List.drop_eq_nil_of_le (Nat.le_refl _), List.drop_eq_nil_of_le (by omega), List.take_nil]
def stepV (L : List Int) : V → V
  | .int k => .int (L.getD k.toNat 0 - L.getD (k - 1).toNat 0)
  | _ => .non
theorem strides_added (L : List Int) : added (fun _ => true) (stepV L) (rangeV 1 ((L.length : Int) - 1).toNat) = ((strides L.reverse).reverse).map V.int := by
  rw [← fstr_rev, ← fstr_range, added_all]
  unfold rangeV
  rw [List.map_map, List.map_map, show ((L.length : Int) - 1).toNat = L.length - 1 by omega]
  apply List.map_congr_left
  intro i _
  show V.int _ = V.int _
  congr 2
  rw [show (1 + (i : Int) - 1).toNat = i by omega]
theorem eqv_ints : ∀ xs ys : List Int, PyData.eqv (.list (xs.map PyData.int)) (.list (ys.map PyData.int)) = decide (xs = ys)
  | [], [] => rfl
  | [], _ :: _ => rfl
  | _ :: _, [] => rfl
  | x :: xs, y :: ys => by
    have ih := eqv_ints xs ys
    unfold PyData.eqv at ih ⊢
    rw [List.map_cons, List.map_cons]
    unfold PyData.eqvAll
    rw [ih]
    unfold PyData.eqv
    rw [Bool.eq_iff_iff, Bool.and_eq_true, decide_eq_true_iff, decide_eq_true_iff, beq_iff_eq]
    constructor
    · rintro ⟨h1, h2⟩
      rw [h1, h2]
    · intro h
      exact ⟨(List.cons.inj h).1, (List.cons.inj h).2⟩
theorem rep_ints (n : Nat) (x : Int) : (List.replicate n [V.int x]).flatten = (List.replicate n x).map V.int := by
  rw [List.map_replicate]
  induction n with
  | zero => rfl
  | succ n ih =>
    rw [List.replicate_succ, List.flatten_cons, ih]
    rfl
theorem pu_law_guessed {vs : List V} {H : Hp} {Q : VK} {E : XK} {n : Nat} (hn0 : n ≤ 10) (h : spLawGuessed K (n + 1) vs H Q E) : t_law_guessed K (spLawGuessed K n) (B Q) (start ["_law_guesser_here", "_law_places_here", "_law_here", "_law_one", "_law_strides", "_law_some", "_law_found", "_law_k", "_law_place"] vs) H := by
  obtain ⟨a, l, g, ls, rfl, hg, ok, hn, hl, hne, hz, k⟩ := h
  obtain ⟨pre, p, rfl⟩ : ∃ pre p, ls = pre ++ [p] := ⟨ls.dropLast, ls.getLast hne, (List.dropLast_concat_getLast hne).symm⟩
  have hrev : (pre ++ [p]).reverse = p :: pre.reverse := by simp
  rw [hrev] at k
  have hlast : atI ((pre ++ [p]).map V.int) (-1) = some (.int p) := by
    rw [List.map_append]
    exact atI_last _ _
  unfold t_law_guessed
  walk_at "w"
  refine w_ixl (SqL.of hl) hlast ?_
  cases g with
  | non =>
    have hs : SqT K H a [.str "none"] := .of hg
    walk_at "w"
    refine ⟨by decide, w_new fun q H1 hq e1 h1 => ?_⟩
    exact k _ q e1 hq h1
  | next m =>
    have hs : SqT K H a [.str "next", .int m] := .of hg
    walk_at "w"
    refine ⟨small_le (by simp), w_new fun q H1 hq e1 h1 => ?_⟩
    have hs1 : SqT K H1 a [.str "next", .int m] := .of (e1 _ _ hg)
    walk_at "w"
    refine w_sll (SqL.of h1) (w_new fun q2 H2 hq2 e2 h2 => ?_)
    rw [nexts_cut ok.1 ok.2] at h2
    exact k _ q2 (e1.trans e2) (e1.free hq2) h2
  | stride m =>
    have hs : SqT K H a [.str "stride", .int m] := .of hg
    have m1 : 1 ≤ m := ok.1
    have m3 : m ≤ 3 := ok.2
    walk_at "w"
    refine w_len (.inl (SqL.of hl)) ?_
    rw [List.length_map]
    walk_at "w"
    refine w_lcr2 (fun _ => true) (stepV (pre ++ [p])) (by decide) (by omega) (fun _ => rfl) (fun i hi H' s R r => w_yes (r _ (Same.refl _))) (fun i hi _ H' s R r => ?_) (fun q1 H1 hq1 e1 h1 => ?_)
    · refine w_op (w_op ?_)
      walk_at "w2"
      walk_at "w2"
      refine w_ixl (SqL.of (s _ _ hl)) (at_getD (by omega) hi) ?_
      refine w_op ?_
      walk_at "w2"
      refine w_op ?_
      walk_at "w2"
      refine w_c (w_i0 ?_)
      refine w_ixl (SqL.of (s _ _ hl)) (at_getD (by omega) (by omega)) (w_i0 ?_)
      exact r _ (Same.refl _)
    rw [strides_added, hrev] at h1
    generalize hR : strides (p :: pre.reverse) = R at h1
    have hs1 : SqT K H1 a [.str "stride", .int m] := .of (e1 _ _ hg)
    walk_at "w"
    refine w_len (.inl (SqL.of h1)) ?_
    rw [List.length_map, List.length_reverse]
    walk_at "w"
    refine w_max2 ?_
    walk_at "w"
    refine w_sll (SqL.of h1) (w_new fun q2 H2 hq2 e2 h2 => ?_)
    have hcut : cutV (R.reverse.map V.int) (some (if (R.length : Int) - m > 0 then (R.length : Int) - m else 0)) none = ((R.take m.toNat).reverse).map V.int := by
      rw [← last_some, List.map_drop]
      by_cases c : (R.length : Int) - m > 0
      · rw [if_pos c, cut_drop _ (by omega), show ((R.length : Int) - m).toNat = R.length - m.toNat by omega]
      · rw [if_neg c, cut_drop _ (by omega), show (0 : Int).toNat = R.length - m.toNat by omega]
    rw [hcut] at h2
    have hs2 : SqT K H2 a [.str "stride", .int m] := .of (e2 _ _ (e1 _ _ hg))
    have e02 := e1.trans e2
    have hlk : looked (.stride m) (p :: pre.reverse) = if m.toNat ≤ R.length ∧ R.take m.toNat = List.replicate m.toNat (R.headD 0) ∧ R.headD 0 ≠ 0 then [p + R.headD 0] else [] := by rw [← hR]; rfl
    have none_ : ∀ (q : Addr) (H' : Hp), Same H H' → H q = none → H' q = some (.lst []) → ¬ (m.toNat ≤ R.length ∧ R.take m.toNat = List.replicate m.toNat (R.headD 0) ∧ R.headD 0 ≠ 0) → Q (.ref q) H' := fun q H' e f h c => k H' q e f (by rw [hlk, if_neg c]; exact h)
    walk_at "w"
    refine w_len (.inl (SqL.of h2)) ?_
    rw [List.length_map, List.length_reverse, List.length_take]
    walk_at "w"
    refine w_if2 (fun c => ?_) (fun c => ?_)
    · walk_at "w"
      refine ⟨by decide, w_new fun q3 H3 hq3 e3 h3 => ?_⟩
      exact none_ q3 H3 (e02.trans e3) (e02.free hq3) h3 (fun z => by have := z.1; omega)
    have hmR : m.toNat ≤ R.length := by omega
    have hSl : (R.take m.toNat).length = m.toNat := by rw [List.length_take]; omega
    obtain ⟨s0, t, hst⟩ : ∃ s0 t, (R.take m.toNat).reverse = s0 :: t := by
      cases e : (R.take m.toNat).reverse with
      | nil =>
        have := congrArg List.length e
        rw [List.length_reverse, hSl] at this
        simp at this
        omega
      | cons s0 t => exact ⟨s0, t, rfl⟩
    have hst_len : t.length + 1 = m.toNat := by
      have := congrArg List.length hst
      rw [List.length_reverse, hSl] at this
      simpa using this.symm
    have hat0 : atI ((s0 :: t).map V.int) 0 = some (.int s0) := atI_nat (j := 0) rfl
    rw [hst] at h2
    walk_at "w"
    refine w_ixl (SqL.of h2) hat0 ?_
    walk_at "w"
    refine ⟨small_le (by simp), w_new fun q3 H3 hq3 e3 h3 => ?_⟩
    have h23 := e3 _ _ h2
    walk_at "w"
    refine w_len (.inl (SqL.of h23)) ?_
    rw [List.length_map]
    walk_at "w"
    have hlen : ((s0 :: t).length : Int) = m := by
      have : (s0 :: t).length = t.length + 1 := rfl
      omega
    rw [hlen]
    refine w_rep h3 (by omega) (by omega) (small_le (by simp; omega)) (w_new fun q4 H4 hq4 e4 h4 => ?_)
    rw [rep_ints] at h4
    have h24 := e4 _ _ h23
    refine ⟨_, _, dp_ints (SqL.of h24), dp_ints (SqL.of h4), shaped_ints _, shaped_ints _, ?_⟩
    rw [eqv_ints]
    have e04 := e02.trans (e3.trans e4)
    walk_at "w"
    refine w_if2 (fun c2 => ?_) (fun c2 => ?_)
    · have hS : R.take m.toNat = List.replicate m.toNat s0 := (all_alike hSl s0).mp (by rw [hst]; exact c2)
      have hhd : R.headD 0 = s0 := by
        cases R with
        | nil => simp at hmR; omega
        | cons r0 R' =>
          have e : m.toNat = (m.toNat - 1) + 1 := by omega
          rw [e, List.take_succ_cons, List.replicate_succ] at hS
          exact (List.cons.inj hS).1
      walk_at "w"
      refine w_ixl (SqL.of h24) hat0 ?_
      walk_at "w"
      refine w_if2 (fun c3 => ?_) (fun c3 => ?_)
      · have c3 : s0 = 0 := by simpa using c3
        walk_at "w"
        refine ⟨by decide, w_new fun q5 H5 hq5 e5 h5 => ?_⟩
        exact none_ q5 H5 (e04.trans e5) (e04.free hq5) h5 (fun z => z.2.2 (by rw [hhd, c3]))
      · have c3 : ¬ s0 = 0 := by simpa using c3
        walk_at "w"
        refine w_ixl (SqL.of h24) hat0 ?_
        walk_at "w"
        refine ⟨small_le (by simp), w_new fun q5 H5 hq5 e5 h5 => ?_⟩
        refine k H5 q5 (e04.trans e5) (e04.free hq5) ?_
        rw [hlk, if_pos ⟨hmR, by rw [hhd]; exact hS, by rw [hhd]; exact c3⟩, hhd]
        exact h5
    · walk_at "w"
      refine ⟨by decide, w_new fun q5 H5 hq5 e5 h5 => ?_⟩
      refine none_ q5 H5 (e04.trans e5) (e04.free hq5) h5 (fun z => c2 ?_)
      have hS := (all_alike hSl _).mpr z.2.1
      rw [hst] at hS
      have e0 : s0 = R.headD 0 := by
        have e : m.toNat = (m.toNat - 1) + 1 := by omega
        rw [e, List.replicate_succ] at hS
        exact (List.cons.inj hS).1
      rw [hS, e0]
  | pairs m =>
    have hs : SqT K H a [.str "pairs", .int m] := .of hg
    walk_at "w"
    refine ⟨by decide, w_new fun q H1 hq e1 h1 => ?_⟩
    have hl1 := e1 _ _ hl
    have nlq : l ≠ q := fun z => by rw [← z, hl] at hq; cases hq
    walk_at "w"
    refine w_len (.inl (SqL.of hl1)) ?_
    rw [List.length_map]
    walk_at "w"
    have hL : (pre ++ [p]).length = pre.length + 1 := by simp
    refine w_forr3 (RgC.neg (by omega) (by omega) (by decide) (by decide)) (fun i σ H' => ∃ k7, σ = [some (.ref a), some (.ref l), some (.int p), none, none, none, some (.ref q), k7, none] ∧ H' q = some (.lst ((firsts (followers p ((p :: pre.reverse).take (i + 1)))).map V.int)) ∧ Out (Is q) H1 H')
      ⟨none, rfl, h1, Out.refl⟩ (fun i σ H' hi w => ?_) (fun σ H' w => ?_)
    · obtain ⟨k7, rfl, hq', o'⟩ := w
      have hl' := o' _ _ hl1 nlq
      have hi' : i + 1 < (pre ++ [p]).length := by omega
      have rv : ∀ j, j < (pre ++ [p]).length → (p :: pre.reverse)[j]? = some ((pre ++ [p]).getD ((pre ++ [p]).length - 1 - j) 0) := fun j hj => by
        rw [← hrev, List.getElem?_reverse hj, List.getD_eq_getElem?_getD, List.getElem?_eq_getElem (by omega)]
        rfl
      have hy := rv i (by omega)
      have hx := rv (i + 1) hi'
      have ek : (((pre ++ [p]).length : Int) - 1 + (i : Nat) * (-1)).toNat = (pre ++ [p]).length - 1 - i := by omega
      have ek1 : (((pre ++ [p]).length : Int) - 1 + (i : Nat) * (-1) - 1).toNat = (pre ++ [p]).length - 1 - (i + 1) := by omega
      have hft := followers_take (k := p) hy hx
      generalize hgy : (pre ++ [p]).getD ((pre ++ [p]).length - 1 - i) 0 = y at *
      generalize hgx : (pre ++ [p]).getD ((pre ++ [p]).length - 1 - (i + 1)) 0 = x at *
      have ay : atI ((pre ++ [p]).map V.int) (((pre ++ [p]).length : Int) - 1 + (i : Nat) * (-1)) = some (.int y) := by
        rw [at_getD (by omega) (by omega), ek, hgy]
      have ax : atI ((pre ++ [p]).map V.int) (((pre ++ [p]).length : Int) - 1 + (i : Nat) * (-1) - 1) = some (.int x) := by
        rw [at_getD (by omega) (by omega), ek1, hgx]
      generalize ((pre ++ [p]).length : Int) - 1 + (i : Nat) * (-1) = kk at ay ax
      walk_at "w"
      refine w_ixl (SqL.of hl') ax ?_
      walk_at "w"
      refine w_if2 (fun c => ?_) (fun c => ?_)
      · have c : x = p := by simpa using c
        rw [if_pos c] at hft
        walk_at "w"
        refine w_ixl (SqL.of hl') ay ?_
        walk_at "w"
        refine w_inl (SqL.of hq') ?_
        rw [if_pos rfl]
        walk_at "w"
        refine w_if2 (fun c2 => ?_) (fun c2 => ?_)
        · walk_at "w"
          refine ⟨_, rfl, ?_, o'⟩
          rw [hft, firsts_snoc]
          unfold more
          rw [if_pos c2]
          exact hq'
        · walk_at "w"
          refine ⟨.inl ⟨rfl, _, SqL.of hq'⟩, ?_⟩
          walk_at "w"
          refine w_ixl (SqL.of hl') ay ?_
          walk_at "w"
          refine w_app hq' (small_lt ?_) ?_
          · rw [List.length_map]
            have f1 := firsts_len (followers p ((p :: pre.reverse).take (i + 1)))
            have f2 := followers_len p ((p :: pre.reverse).take (i + 1))
            have f3 : ((p :: pre.reverse).take (i + 1)).length ≤ (p :: pre.reverse).length := List.length_take_le' _ _
            have f4 : (p :: pre.reverse).length = pre.length + 1 := by simp
            omega
          refine ⟨_, rfl, ?_, o'.trans out_upd⟩
          rw [upd_same, hft, firsts_snoc]
          unfold more
          rw [if_neg c2, List.map_append]
          rfl
      · have c : ¬ x = p := by simpa using c
        rw [if_neg c, List.append_nil] at hft
        walk_at "w"
        refine ⟨_, rfl, ?_, o'⟩
        rw [hft]
        exact hq'
    · obtain ⟨k7, rfl, hq', o'⟩ := w
      have hs' : SqT K H' a [.str "pairs", .int m] := .of (o' _ _ (e1 _ _ hg) (fun z => by
        have z : a = q := z
        rw [← z, show H a = some _ from hg] at hq
        cases hq))
      walk_at "w"
      have htk : (p :: pre.reverse).take ((((pre ++ [p]).length : Int) - 1 - 0).toNat + 1) = p :: pre.reverse := List.take_of_length_le (by simp)
      rw [htk] at hq'
      refine w_sll (SqL.of hq') (w_new fun q2 H2 hq2 e2 h2 => ?_)
      have m0 : 1 ≤ m := ok.1
      rw [cut_take _ (by omega), ← List.map_take] at h2
      have sm : Same H H' := fun b o hb => o' _ _ (e1 _ _ hb) (fun z => by
        have z : b = q := z
        rw [z, hq] at hb
        cases hb)
      exact k H2 q2 (sm.trans e2) (sm.free hq2) h2
  | both x y =>
    obtain ⟨p1, p2, ha, hx, hy⟩ := hg
    have hs : SqT K H a [.str "both", .ref p1, .ref p2] := .of ha
    have hn : max x.depth y.depth + 1 < n + 1 := hn
    walk_at "w"
    refine ⟨p1, l, x, pre ++ [p], rfl, hx, ok.1, by omega, hl, hne, hz, fun H1 q1 e1 f1 hq1 => ?_⟩
    have hs1 : SqT K H1 a [.str "both", .ref p1, .ref p2] := .of (e1 _ _ ha)
    walk_at "w"
    refine ⟨p2, l, y, pre ++ [p], rfl, gtup_same e1 hy, ok.2, by omega, e1 _ _ hl, hne, hz, fun H2 q2 e2 f2 hq2 => ?_⟩
    have hq1' := e2 _ _ hq1
    have w3 : ∀ d : Nat, d ≤ 10 → 2 ^ d ≤ 2 ^ 10 := fun d hd => Nat.pow_le_pow_right (by decide) hd
    have lx := looked_len (pre ++ [p]).reverse ok.1
    have ly := looked_len (pre ++ [p]).reverse ok.2
    have wx := w3 x.depth (by omega)
    have wy := w3 y.depth (by omega)
    refine w_lcl (notIn (looked x (pre ++ [p]).reverse)) id (SqL.of hq2) (small_lt (by rw [List.length_map]; omega)) (fun _ => rfl) (fun v hv H' s R r => ?_) (fun v hv cv H' s R r => ?_) (fun o H3 ho e3 ho3 => ?_)
    · obtain ⟨i, _, rfl⟩ := List.mem_map.mp hv
      walk_at "w"
      refine w_inl (SqL.of (s _ _ hq1')) ?_
      walk_at "w"
      exact r _ (Same.refl _)
    · walk_at "w"
      exact r _ (Same.refl _)
    · rw [added_notIn] at ho3
      refine w_cat (e3 _ _ hq1') ho3 (small_le ?_) (w_new fun q3 H4 hq3 e4 h4 => ?_)
      · rw [List.length_map, List.length_map]
        have h5 := List.length_filter_le (fun v => decide (v ∉ looked x (pre ++ [p]).reverse)) (looked y (pre ++ [p]).reverse)
        omega
      rw [← List.map_append, hrev] at h4
      exact k H4 q3 (e1.trans (e2.trans (e3.trans e4))) (e1.free (e2.free (e3.free hq3))) h4
end
end SwD
set_option Elab.async false
set_option linter.all false
set_option maxRecDepth 100000
set_option maxHeartbeats 4000000
namespace SwD
open PySem PySem.Spec PyProof.Rows L2 SwX StX Sw
local macro_rules | `(tactic| walk_at "lk") => `(tactic| first | exact lk_at | exact lk_no | ((refine' lk_by (by decide +kernel) ?wq); (case wq => walk_at "lk")))
local macro_rules | `(tactic| walk_at "pf") => `(tactic| first | exact pf_at | exact pf_nil | ((refine' pf_by (by decide +kernel) ?wq); (case wq => walk_at "pf")))
local macro_rules | `(tactic| walk_at "w1") => `(tactic| with_reducible first
  | refine w_seq ?_ | refine w_asg ?_ | refine w_name ?_ | refine w_ret ?_ | refine w_retN ?_ | refine w_drop ?_ | refine w_next ?_ | refine w_if ?_ | refine w_ifE ?_ | refine w_test ?_ | refine w_B ?_ | refine w_bl ?_
  | refine w_not ?_ | refine w_and ?_ | refine w_or ?_ | refine w_andV ?_ | refine w_orV ?_ | refine w_notV ?_ | refine w_isN ?_ | refine w_notN ?_ | refine w_yes ?_
  | refine w_c ?_ | refine w_op ?_ | refine w_un ?_ | refine w_i0 ?_ | refine w_neg ?_ | refine w_nil ?_ | refine w_cons ?_ | refine w_cb ?_ | refine w_call ?_ | refine w_tup ?_ | refine w_lst ?_
  | refine w_fld ?_ | refine w_sfld ?_ | refine w_match ?_ | refine w_case ?_ | refine w_mcons ?_ | refine w_mnil ?_ | refine w_mcap ?_ | refine w_many ?_ | refine w_myes ?_
  | refine w_sub ?_ | refine w_bm ?_ | refine w_sl ?_ | refine w_nopart ?_ | refine w_part ?_ | refine w_int ?_ | refine w_ift ?_ | refine w_iff ?_ | refine w_ifn ?_ | refine w_dget2 ?_ | refine w_star ?_ | refine w_dput ?_ | refine w_dnewK ?_ | refine w_meth ?_ | refine w_oneOf ?_ | refine w_make ?_ | refine w_lc ?_ | refine w_for ?_ | refine w_ilist ?_ | refine w_irng1 ?_ | refine w_irng2 ?_ | refine w_irng3 ?_)
local macro_rules | `(tactic| walk_at "w2") => `(tactic| first
  | ((with_reducible refine' w_var ?wh ?_); (case wh => rfl))
  | ((with_reducible refine' w_eq ?wh ?_); (case wh => rfl))
  | ((with_reducible refine' w_ne ?wh ?_); (case wh => rfl))
  | ((with_reducible refine' w_mno ?wh ?_); (case wh => decide +kernel))
  | ((with_reducible refine' w_mhit ?wh ?wl ?_); (case wh => assumption); (case wl => rfl))
  | ((with_reducible refine' w_mmiss ?wh ?wl ?_); (case wh => assumption); (case wl => simp))
  | ((with_reducible refine' w_fldA ?wh ?wc ?wn ?wl ?_); (case wh => first | assumption | exact upd_same); (case wc => assumption); (case wn => assumption); (case wl => walk_at "lk"))
  | ((with_reducible refine' w_ixl ?wh ?we ?_); (case wh => exact SqL.of (by first | assumption | exact upd_same)); (case we => rfl))
  | ((with_reducible refine' w_ixt ?wh ?we ?_); (case wh => assumption); (case we => rfl))
  | ((with_reducible refine' w_ifT ?wh ?_); (case wh => (with_reducible exact Eq.refl _)))
  | ((with_reducible refine' w_ifF ?wh ?_); (case wh => decide +kernel))
  | ((with_reducible refine' w_isiY ?wh ?wk ?_); (case wh => first | exact .int _ | exact .str _ | exact .lst (by assumption) | exact .tup (by assumption)); (case wk => decide +kernel))
  | ((with_reducible refine' w_isiN ?wh ?wk ?_); (case wh => first | exact .int _ | exact .str _ | exact .lst (by assumption) | exact .tup (by assumption)); (case wk => decide +kernel))
  | ((with_reducible refine' w_ifF ?wh ?_); (case wh => (intro z; cases z; done)))
  | ((with_reducible refine' w_setl ?wh ?we ?wl ?_); (case wh => first | assumption | exact upd_same); (case we => rfl); (case wl => rfl))
  | ((with_reducible refine' w_methA ?wh ?wl ?_); (case wh => first | assumption | exact upd_same); (case wl => walk_at "lk"))
  | ((with_reducible refine' w_sfldB ?wc ?wn ?wz ?wl ?_); (case wc => assumption); (case wn => assumption); (case wz => simp); (case wl => walk_at "pf"))
  | ((with_reducible refine' w_sfldA ?wh ?wc ?wn ?wz ?wl ?_); (case wh => assumption); (case wc => assumption); (case wn => assumption); (case wz => simp); (case wl => walk_at "pf")))
local macro_rules | `(tactic| walk_at "w") => `(tactic| repeat (first | walk_at "w1" | walk_at "w2" | (dsimp only [List.set, setAll, List.append, List.cons_append, List.nil_append])))
/-! ### the same data at two places -/
inductive Dat where
  | int (i : Int)
  | str (s : Str)
  | lst (xs : List Dat)
  | tup (xs : List Dat)
mutual
inductive DAt (H : Hp) : Dat → V → Prop
  | int (i : Int) : DAt H (.int i) (.int i)
  | str (s : Str) : DAt H (.str s) (.str s)
  | lst {a : Addr} {xs : List Dat} {vs : List V} : H a = some (.lst vs) → DAll H xs vs → DAt H (.lst xs) (.ref a)
  | tup {a : Addr} {xs : List Dat} {vs : List V} : H a = some (.tup vs) → DAll H xs vs → DAt H (.tup xs) (.ref a)
inductive DAll (H : Hp) : List Dat → List V → Prop
  | nil : DAll H [] []
  | cons {x : Dat} {xs : List Dat} {v : V} {vs : List V} : DAt H x v → DAll H xs vs → DAll H (x :: xs) (v :: vs)
end
theorem DAll.len {H : Hp} : ∀ {xs : List Dat} {vs : List V}, DAll H xs vs → xs.length = vs.length
  | _, _, .nil => rfl
  | _, _, .cons _ t => congrArg (· + 1) t.len
theorem DAll.at {H : Hp} : ∀ {xs : List Dat} {vs : List V} {i : Nat} {x : Dat}, DAll H xs vs → xs[i]? = some x → ∃ v, vs[i]? = some v ∧ DAt H x v
  | _, _, _, _, .nil, e => by simp at e
  | _, _, 0, _, .cons h _, e => by
    have e : _ = _ := Option.some.inj e
    subst e
    exact ⟨_, rfl, h⟩
  | _, _, i + 1, x, .cons _ t, e => by
    obtain ⟨v, h1, h2⟩ := DAll.at (i := i) (x := x) t (by simpa using e)
    exact ⟨v, by simpa using h1, h2⟩
mutual
theorem DAt.same {H H' : Hp} (e : Same H H') : ∀ {d : Dat} {v : V}, DAt H d v → DAt H' d v
  | _, _, .int i => .int i
  | _, _, .str s => .str s
  | _, _, .lst h t => .lst (e _ _ h) (t.same e)
  | _, _, .tup h t => .tup (e _ _ h) (t.same e)
theorem DAll.same {H H' : Hp} (e : Same H H') : ∀ {xs : List Dat} {vs : List V}, DAll H xs vs → DAll H' xs vs
  | _, _, .nil => .nil
  | _, _, .cons h t => .cons (h.same e) (t.same e)
end
/-- no list is longer, none within another deeper -/
def fits (m : Nat) : Nat → Dat → Prop
  | _, .int _ => True
  | _, .str s => SeqAt.shaped (.str s) = true
  | 0, .lst _ => False
  | 0, .tup _ => False
  | n + 1, .lst xs => xs.length ≤ m ∧ ∀ x, x ∈ xs → fits m n x
  | n + 1, .tup xs => xs.length ≤ m ∧ ∀ x, x ∈ xs → fits m n x
def spLawAlike : Nat → Sp
  | 0 => fun _ _ _ _ => False
  | n + 1 => fun vs H Q _ => ∃ d x y, vs = [x, y] ∧ DAt H d x ∧ DAt H d y ∧ fits 100000 n d ∧ ∀ H', Same H H' → Q (.bl true) H'
section
variable {K : PySem.W.Frag}
def t_law_alike (K : PySem.W.Frag) (sp_law_alike : Sp) : TS := tSeq (tIfS (tOr (tB (tCB (rIsi K) (tCons (tVar 1) (tCons (tC (.ty "tuple")) (tNil))))) (tB (tCB (rIsi K) (tCons (tVar 1) (tCons (tC (.ty "list")) (tNil)))))) (tSeq (tIfS (tOr (tTest (tOp (rNe) (tCB (rIsi K) (tCons (tVar 0) (tCons (tC (.ty "tuple")) (tNil)))) (tCB (rIsi K) (tCons (tVar 1) (tCons (tC (.ty "tuple")) (tNil)))))) (tNot (tB (tCB (rIsiT K) (tCons (tVar 0) (tCons (tTup (tCons (tC (.ty "tuple")) (tCons (tC (.ty "list")) (tNil)))) (tNil))))))) (tRet (tC (.bl false))) (tNext))
  (tSeq (tIfS (tTest (tOp (rNe) (tCB (rLenQ K) (tCons (tVar 0) (tNil))) (tCB (rLenQ K) (tCons (tVar 1) (tNil))))) (tRet (tC (.bl false))) (tNext))
  (tRet (tOp (rEqD K) (tLc (iRng1 (tCons (tCB (rLenQ K) (tCons (tVar 1) (tNil))) (tNil))) (gName 2) (tNot (tB (tCall sp_law_alike [] E0 (tCons (tOp (rIx K) (tVar 0) (tVar 2)) (tCons (tOp (rIx K) (tVar 1) (tVar 2)) (tNil)))))) (tVar 2) [2]) (tLst (tNil)))))) (tNext))
  (tSeq (tIfS (tOr (tB (tIsN (tVar 1))) (tB (tIsN (tVar 0)))) (tRet (tAndV (tIsN (tVar 1)) (tIsN (tVar 0)))) (tNext))
  (tSeq (tIfS (tOr (tB (tCB (rIsi K) (tCons (tVar 1) (tCons (tC (.ty "bool")) (tNil))))) (tB (tCB (rIsi K) (tCons (tVar 0) (tCons (tC (.ty "bool")) (tNil)))))) (tRet (tAndV (tCB (rIsi K) (tCons (tVar 1) (tCons (tC (.ty "bool")) (tNil)))) (tAndV (tCB (rIsi K) (tCons (tVar 0) (tCons (tC (.ty "bool")) (tNil)))) (tOp (rEqD K) (tVar 0) (tVar 1))))) (tNext))
  (tSeq (tIfS (tB (tCB (rIsi K) (tCons (tVar 1) (tCons (tC (.ty "str")) (tNil))))) (tRet (tAndV (tCB (rIsi K) (tCons (tVar 0) (tCons (tC (.ty "str")) (tNil)))) (tOp (rEqD K) (tVar 0) (tVar 1)))) (tNext))
  (tRet (tAndV (tCB (rIsi K) (tCons (tVar 0) (tCons (tC (.ty "int")) (tNil)))) (tOp (rEqD K) (tVar 0) (tVar 1)))))))
theorem seq_same {H H' : Hp} {a : Addr} {vs : List V} (e : Same H H') (h : H a = some (.lst vs) ∨ H a = some (.tup vs)) : H' a = some (.lst vs) ∨ H' a = some (.tup vs) := h.imp (e _ _) (e _ _)
theorem seq_ix {H : Hp} {Q : VK} {a : Addr} {vs : List V} {n : Nat} {v : V} (h : H a = some (.lst vs) ∨ H a = some (.tup vs)) (e : vs[n]? = some v) (k : Q v H) : rIx K (.ref a) (.int (n : Int)) H Q := by
  rcases h with h | h
  · exact .inl ⟨a, vs, _, v, rfl, rfl, .of h, atI_nat e, k⟩
  · exact .inr (.inl ⟨a, vs, _, v, rfl, rfl, .of h, atI_nat e, k⟩)
theorem added_no (gv : V → V) (l : List V) : added (fun _ => false) gv l = [] := by
  unfold added
  rw [List.filter_eq_nil_iff.mpr (fun _ _ => by decide)]
  rfl
theorem alike_tail {D : Ends} {H : Hp} {n : Nat} {a b : Addr} {vs ws : List V} {xs : List Dat} (h1 : H a = some (.lst vs) ∨ H a = some (.tup vs)) (h2 : H b = some (.lst ws) ∨ H b = some (.tup ws)) (t1 : DAll H xs vs) (t2 : DAll H xs ws)
    (hf : xs.length ≤ 100000 ∧ ∀ x, x ∈ xs → fits 100000 n x) (k : ∀ H', Same H H' → D.rt (.bl true) H') : (tSeq (tIfS (tTest (tOp (rNe) (tCB (rLenQ K) (tCons (tVar 0) (tNil))) (tCB (rLenQ K) (tCons (tVar 1) (tNil))))) (tRet (tC (.bl false))) (tNext))
  (tRet (tOp (rEqD K) (tLc (iRng1 (tCons (tCB (rLenQ K) (tCons (tVar 1) (tNil))) (tNil))) (gName 2) (tNot (tB (tCall (spLawAlike (n + 1)) [] E0 (tCons (tOp (rIx K) (tVar 0) (tVar 2)) (tCons (tOp (rIx K) (tVar 1) (tVar 2)) (tNil)))))) (tVar 2) [2]) (tLst (tNil))))) D [some (.ref a), some (.ref b), none] H := by
  have q1 : ∀ H', Same H H' → SqL K H' a vs ∨ SqT K H' a vs := fun H' e => (seq_same e h1).imp SqL.of SqT.of
  have q2 : ∀ H', Same H H' → SqL K H' b ws ∨ SqT K H' b ws := fun H' e => (seq_same e h2).imp SqL.of SqT.of
  have l1 := t1.len
  have l2 := t2.len
  walk_at "w"
  refine w_len (q1 _ (Same.refl _)) ?_
  walk_at "w"
  refine w_len (q2 _ (Same.refl _)) ?_
  rw [← l1, ← l2]
  walk_at "w"
  refine w_len (q2 _ (Same.refl _)) ?_
  rw [← l2]
  walk_at "w"
  refine w_lcr1 (fun _ => false) id (by omega) (by omega) (fun _ => rfl) (fun i hi H' e R r => ?_) (fun i _ hc => by cases hc) (fun p H1 hp e1 h => ?_)
  · obtain ⟨d, hd⟩ : ∃ d, xs[i]? = some d := ⟨xs[i], List.getElem?_eq_getElem (by omega)⟩
    obtain ⟨v, hv, dv⟩ := t1.at hd
    obtain ⟨u, hu, du⟩ := t2.at hd
    walk_at "w"
    refine seq_ix (seq_same e h1) hv ?_
    walk_at "w"
    refine seq_ix (seq_same e h2) hu ?_
    walk_at "w"
    refine ⟨d, v, u, rfl, dv.same e, du.same e, hf.2 d (List.mem_of_getElem? hd), fun H2 e2 => ?_⟩
    walk_at "w"
    exact r _ e2
  · rw [added_no] at h
    walk_at "w"
    refine ⟨by decide, w_new fun p2 H2 hp2 e2 h2 => ?_⟩
    refine ⟨_, _, .lst (SqL.of (e2 _ _ h)) .nil, .lst (SqL.of h2) .nil, by decide, by decide, ?_⟩
    exact k _ (e1.trans e2)
theorem pu_law_alike {vs : List V} {H : Hp} {Q : VK} {E : XK} {n : Nat} (h : spLawAlike (n + 1) vs H Q E) : t_law_alike K (spLawAlike n) (B Q) (start ["_law_found", "_law_due_here", "_law_k"] vs) H := by
  obtain ⟨d, x, y, rfl, hx, hy, hf, k⟩ := h
  unfold t_law_alike
  walk_at "w"
  cases d with
  | int i =>
    cases hx
    cases hy
    walk_at "w"
    refine ⟨_, _, .int i, .int i, rfl, rfl, ?_⟩
    rw [SeqAt.eqv_refl _ rfl]
    exact k _ (Same.refl _)
  | str s =>
    cases hx
    cases hy
    have hs : SeqAt.shaped (.str s) = true := by cases n <;> exact hf
    walk_at "w"
    refine ⟨_, _, .str s, .str s, hs, hs, ?_⟩
    rw [SeqAt.eqv_refl _ (SeqAt.canLay_of_shaped hs)]
    exact k _ (Same.refl _)
  | lst xs =>
    cases hx with
    | lst ha ta =>
    cases hy with
    | lst hb tb =>
    cases n with
    | zero => exact hf.elim
    | succ n =>
    walk_at "w"
    refine ⟨by decide, w_new fun p H1 hp e1 h1 => ?_⟩
    walk_at "w1"
    refine w_isiTL h1 (.lst (e1 _ _ ha)) kit_tl1 ?_
    refine w_bl (w_ifn (w_ift ?_))
    refine w_next ?_
    exact alike_tail (.inl (e1 _ _ ha)) (.inl (e1 _ _ hb)) (ta.same e1) (tb.same e1) hf (fun H' e => k H' (e1.trans e))
  | tup xs =>
    cases hx with
    | tup ha ta =>
    cases hy with
    | tup hb tb =>
    cases n with
    | zero => exact hf.elim
    | succ n =>
    walk_at "w"
    refine ⟨by decide, w_new fun p H1 hp e1 h1 => ?_⟩
    walk_at "w1"
    refine w_isiTL h1 (.tup (e1 _ _ ha)) kit_tl2 ?_
    refine w_bl (w_ifn (w_ift ?_))
    refine w_next ?_
    exact alike_tail (.inr (e1 _ _ ha)) (.inr (e1 _ _ hb)) (ta.same e1) (tb.same e1) hf (fun H' e => k H' (e1.trans e))
end
end SwD
set_option Elab.async false
set_option linter.all false
set_option maxRecDepth 100000
set_option maxHeartbeats 4000000
namespace SwX
open PySem PySem.Spec PyProof.Rows L2 StX
/-! ### texts -/
abbrev rAddStr : R2 := fun x y H Q => ∃ i j : Str, x = .str i ∧ y = .str j ∧ i.length + j.length ≤ sizeLine ∧ Q (.str (i ++ j)) H
abbrev rStr1 : RCall := fun xs H Q => (∃ i : Int, xs = [.int i] ∧ i.natAbs.log2 < 1920 ∧ Q (.str (Str.ofString (toString i))) H) ∨ ∃ a, xs = [.str a] ∧ Q (.str a) H
abbrev rJoin (K : PySem.W.Frag) : V → List V → Hp → VK → Prop := fun x xs H Q => ∃ (a : Str) (p : Addr) (ys : List Str), x = .str a ∧ xs = [.ref p] ∧ (SqL K H p (ys.map V.str) ∨ SqT K H p (ys.map V.str)) ∧ (ys.map (·.length)).sum + ys.length * a.length ≤ 16777216 ∧ Q (.str (Txt.join a ys)) H
theorem call_str1 {X : Cx} : CallR X (.type "str") rStr1 := fun pins s σ H xs us Q i v h => by
  rcases h with h | h
  · exact call_str_int pins s σ H xs us Q i v h
  · exact SkE.call_str_str pins s σ H xs us Q i v h
section
variable {K : PySem.W.Frag} {σ : L2.St} {H : Hp} {Q : VK} {te ta tb : TE} {tt : TT} {vs : List Nat} {j : Nat}
theorem w_addS {a b : Str} (z : a.length + b.length ≤ sizeLine) (k : Q (.str (a ++ b)) H) : rAddStr (.str a) (.str b) H Q := ⟨a, b, rfl, rfl, z, k⟩
theorem w_strI {i : Int} (z : i.natAbs.log2 < 1920) (k : Q (.str (Str.ofString (toString i))) H) : rStr1 [.int i] H Q := .inl ⟨i, rfl, z, k⟩
theorem w_strS {a : Str} (k : Q (.str a) H) : rStr1 [.str a] H Q := .inr ⟨a, rfl, k⟩
theorem w_tm1 {r : V → List V → Hp → VK → Prop} (k : ta σ H fun x H1 => (∃ a, x = .str a) ∧ tb σ H1 fun y H2 => r x [y] H2 Q) : tM1 r ta tb σ H Q := k
theorem w_join {a : Str} {p : Addr} {ys : List Str} (h : SqL K H p (ys.map V.str)) (z : (ys.map (·.length)).sum + ys.length * a.length ≤ 16777216) (k : Q (.str (Txt.join a ys)) H) : rJoin K (.str a) [.ref p] H Q := ⟨a, p, ys, rfl, rfl, .inl h, z, k⟩
theorem w_itup {tl : TE} {R : It → Hp → Prop} (k : tl σ H fun x H1 => ∃ a, x = .ref a ∧ (∃ xs, SqT K H1 a xs) ∧ R (Itt K a) H1) : iTup K tl σ H R := k
theorem same_seqT {H H' : Hp} {a : Addr} {xs : List V} (e : Same H H') (h : SqT K H a xs) : SqT K H' a xs := by
  rcases h with (h | ⟨o, h⟩) | h
  · exact .inl (.inl (e _ _ h))
  · exact .inl (.inr ⟨o, e _ _ h⟩)
  · exact .inr h
theorem w_lct {a : Addr} {src : List V} (f : V → Bool) (gv : V → V) (hx : SqT K H a src) (hz : src.length < sizeLine) (hw : ∀ x, wipe ((wipe σ vs).set j (some x)) vs = wipe σ vs)
    (ht : ∀ x, x ∈ src → ∀ H', Same H H' → ∀ R : Bool → Hp → Prop, (∀ H2, Same H' H2 → R (f x) H2) → tt ((wipe σ vs).set j (some x)) H' R) (he : ∀ x, x ∈ src → f x = true → ∀ H', Same H H' → ∀ R : VK, (∀ H2, Same H' H2 → R (gv x) H2) → te ((wipe σ vs).set j (some x)) H' R)
    (k : ∀ p H', H p = none → Same H H' → H' p = some (.lst (added f gv src)) → Q (.ref p) H') : ∃ a', V.ref a = .ref a' ∧ (∃ xs, SqT K H a' xs) ∧ lcK (Itt K a') (gName j) tt te vs σ H Q :=
  ⟨a, rfl, ⟨src, hx⟩, fun Dl hD => lc_tup (xs := src) (fun i H' => H Dl = none ∧ Same H H' ∧ H' Dl = some (.lst (added f gv (src.take i)))) ⟨hD, same_upd hD, upd_same⟩ (fun i H' _ p => same_seqT p.2.1 hx)
    (fun i x H' hi p => ⟨hw x, lc_turn hi hz (fun H1 => ht x (List.mem_of_getElem? hi) H1) (fun c H1 => he x (List.mem_of_getElem? hi) c H1) p⟩)
    (fun H' p => k Dl H' p.1 p.2.1 (by rw [← List.take_length (l := src)]; exact p.2.2))⟩
/-- what a turn of a comprehension must leave -/
def CTurn (Pv : Addr → List V → Hp → Prop) (D : Addr) (i : Nat) : VK := fun y H4 => ∃ acc, H4 D = some (.lst acc) ∧ acc.length < sizeLine ∧ ∃ acc2, acc2.length = i + 1 ∧ upd H4 D (.lst (acc ++ [y])) D = some (.lst acc2) ∧ Pv D acc2 (upd H4 D (.lst (acc ++ [y])))
theorem cturn {Pv : Addr → List V → Hp → Prop} {D : Addr} {acc : List V} {y : V} {H4 : Hp} (h : H4 D = some (.lst acc)) (z : acc.length ≤ 1000000) (p : Pv D (acc ++ [y]) (upd H4 D (.lst (acc ++ [y])))) : CTurn Pv D acc.length y H4 :=
  ⟨acc, h, small_lt z, _, by rw [List.length_append]; rfl, upd_same, p⟩
/-- a comprehension over a range whose turns change the heap -/
theorem w_lcrP {n : Int} (Pv : Addr → List V → Hp → Prop) (hn : -1000000 ≤ n ∧ n ≤ 1000000) (hw : ∀ x, wipe ((wipe σ vs).set j (some x)) vs = wipe σ vs)
    (h0 : ∀ D, H D = none → Pv D [] (upd H D (.lst [])))
    (hs : ∀ D acc H', H D = none → (acc.length : Int) < n → H' D = some (.lst acc) → Pv D acc H' → te ((wipe σ vs).set j (some (.int (acc.length : Int)))) H' (CTurn Pv D acc.length))
    (hd : ∀ D acc H', H D = none → acc.length = n.toNat → H' D = some (.lst acc) → Pv D acc H' → Q (.ref D) H') :
    ∃ m : Int, [V.int n] = [.int m] ∧ -(2 ^ 62) ≤ m ∧ m < 2 ^ 62 ∧ lcK (Itr 0 m.toNat) (gName j) tYes te vs σ H Q :=
  ⟨n, rfl, by omega, by omega, fun Dl hD => lc_range (lo := 0) (n := n.toNat) (fun i H' => ∃ acc, acc.length = i ∧ H' Dl = some (.lst acc) ∧ Pv Dl acc H') ⟨[], rfl, upd_same, h0 Dl hD⟩
    (fun i H' hi p => by
      obtain ⟨acc, e, h1, h2⟩ := p
      subst e
      refine ⟨hw _, w_yes ?_⟩
      rw [if_pos rfl, Int.zero_add]
      exact hs Dl acc H' hD (by omega) h1 h2)
    (fun H' p => by
      obtain ⟨acc, e, h1, h2⟩ := p
      exact hd Dl acc H' hD e h1 h2)⟩
end
end SwX
namespace SwD
open PySem PySem.Spec PyProof.Rows L2 SwX StX Sw
local macro_rules | `(tactic| walk_at "lk") => `(tactic| first | exact lk_at | exact lk_no | ((refine' lk_by (by decide +kernel) ?wq); (case wq => walk_at "lk")))
local macro_rules | `(tactic| walk_at "pf") => `(tactic| first | exact pf_at | exact pf_nil | ((refine' pf_by (by decide +kernel) ?wq); (case wq => walk_at "pf")))
local macro_rules | `(tactic| walk_at "w1") => `(tactic| with_reducible first
  | refine w_seq ?_ | refine w_asg ?_ | refine w_name ?_ | refine w_ret ?_ | refine w_retN ?_ | refine w_drop ?_ | refine w_next ?_ | refine w_if ?_ | refine w_ifE ?_ | refine w_test ?_ | refine w_B ?_ | refine w_bl ?_
  | refine w_not ?_ | refine w_and ?_ | refine w_or ?_ | refine w_andV ?_ | refine w_orV ?_ | refine w_notV ?_ | refine w_isN ?_ | refine w_notN ?_ | refine w_yes ?_
  | refine w_c ?_ | refine w_op ?_ | refine w_un ?_ | refine w_i0 ?_ | refine w_neg ?_ | refine w_nil ?_ | refine w_cons ?_ | refine w_cb ?_ | refine w_call ?_ | refine w_tup ?_ | refine w_lst ?_
  | refine w_fld ?_ | refine w_sfld ?_ | refine w_match ?_ | refine w_case ?_ | refine w_mcons ?_ | refine w_mnil ?_ | refine w_mcap ?_ | refine w_many ?_ | refine w_myes ?_
  | refine w_sub ?_ | refine w_bm ?_ | refine w_sl ?_ | refine w_nopart ?_ | refine w_part ?_ | refine w_int ?_ | refine w_ift ?_ | refine w_iff ?_ | refine w_ifn ?_ | refine w_dget2 ?_ | refine w_star ?_ | refine w_dput ?_ | refine w_dnewK ?_ | refine w_meth ?_ | refine w_oneOf ?_ | refine w_make ?_ | refine w_lc ?_ | refine w_for ?_ | refine w_ilist ?_ | refine w_irng1 ?_ | refine w_irng2 ?_ | refine w_irng3 ?_)
local macro_rules | `(tactic| walk_at "w2") => `(tactic| first
  | ((with_reducible refine' w_var ?wh ?_); (case wh => rfl))
  | ((with_reducible refine' w_eq ?wh ?_); (case wh => rfl))
  | ((with_reducible refine' w_ne ?wh ?_); (case wh => rfl))
  | ((with_reducible refine' w_mno ?wh ?_); (case wh => decide +kernel))
  | ((with_reducible refine' w_mhit ?wh ?wl ?_); (case wh => assumption); (case wl => rfl))
  | ((with_reducible refine' w_mmiss ?wh ?wl ?_); (case wh => assumption); (case wl => simp))
  | ((with_reducible refine' w_fldA ?wh ?wc ?wn ?wl ?_); (case wh => first | assumption | exact upd_same); (case wc => assumption); (case wn => assumption); (case wl => walk_at "lk"))
  | ((with_reducible refine' w_ixl ?wh ?we ?_); (case wh => exact SqL.of (by first | assumption | exact upd_same)); (case we => rfl))
  | ((with_reducible refine' w_ixt ?wh ?we ?_); (case wh => assumption); (case we => rfl))
  | ((with_reducible refine' w_ifT ?wh ?_); (case wh => (with_reducible exact Eq.refl _)))
  | ((with_reducible refine' w_ifF ?wh ?_); (case wh => decide +kernel))
  | ((with_reducible refine' w_isiY ?wh ?wk ?_); (case wh => first | exact .int _ | exact .str _ | exact .lst (by assumption) | exact .tup (by assumption)); (case wk => decide +kernel))
  | ((with_reducible refine' w_isiN ?wh ?wk ?_); (case wh => first | exact .int _ | exact .str _ | exact .lst (by assumption) | exact .tup (by assumption)); (case wk => decide +kernel))
  | ((with_reducible refine' w_ifF ?wh ?_); (case wh => (intro z; cases z; done)))
  | ((with_reducible refine' w_setl ?wh ?we ?wl ?_); (case wh => first | assumption | exact upd_same); (case we => rfl); (case wl => rfl))
  | ((with_reducible refine' w_methA ?wh ?wl ?_); (case wh => first | assumption | exact upd_same); (case wl => walk_at "lk"))
  | ((with_reducible refine' w_sfldB ?wc ?wn ?wz ?wl ?_); (case wc => assumption); (case wn => assumption); (case wz => simp); (case wl => walk_at "pf"))
  | ((with_reducible refine' w_sfldA ?wh ?wc ?wn ?wz ?wl ?_); (case wh => assumption); (case wc => assumption); (case wn => assumption); (case wz => simp); (case wl => walk_at "pf")))
local macro_rules | `(tactic| walk_at "w") => `(tactic| repeat (first | walk_at "w1" | walk_at "w2" | (dsimp only [List.set, setAll, List.append, List.cons_append, List.nil_append])))
/-! ### a guesser's text -/
abbrev dig (n : Int) : Str := Str.ofString (toString n)
def textOf : G → Str
  | .non => Txt.join " " ["none"]
  | .next n => Txt.join " " ["next", dig n]
  | .stride n => Txt.join " " ["stride", dig n]
  | .pairs n => Txt.join " " ["pairs", dig n]
  | .both a b => "both " ++ textOf a ++ " " ++ textOf b
theorem text_leaf {g : G} (ok : g.ok) : g.depth = 0 → (textOf g).length ≤ 10 := by
  cases g with
  | non => intro _; decide +kernel
  | next n =>
    intro _
    have h : n = 1 ∨ n = 2 ∨ n = 3 := by have := ok.1; have := ok.2; omega
    rcases h with rfl | rfl | rfl <;> decide +kernel
  | stride n =>
    intro _
    have h : n = 1 ∨ n = 2 ∨ n = 3 := by have := ok.1; have := ok.2; omega
    rcases h with rfl | rfl | rfl <;> decide +kernel
  | pairs n =>
    intro _
    have h : n = 1 ∨ n = 2 := by have := ok.1; have := ok.2; omega
    rcases h with rfl | rfl <;> decide +kernel
  | both a b => intro z; cases z
theorem text_len : ∀ {g : G}, g.ok → (textOf g).length + 6 ≤ 16 * 2 ^ g.depth
  | .non, ok => by have := text_leaf (g := .non) ok rfl; show _ + 6 ≤ 16 * 2 ^ 0; omega
  | .next n, ok => by have := text_leaf (g := .next n) ok rfl; show _ + 6 ≤ 16 * 2 ^ 0; omega
  | .stride n, ok => by have := text_leaf (g := .stride n) ok rfl; show _ + 6 ≤ 16 * 2 ^ 0; omega
  | .pairs n, ok => by have := text_leaf (g := .pairs n) ok rfl; show _ + 6 ≤ 16 * 2 ^ 0; omega
  | .both a b, ok => by
    have h1 := text_len ok.1
    have h2 := text_len ok.2
    have p1 : 2 ^ a.depth ≤ 2 ^ (max a.depth b.depth) := Nat.pow_le_pow_right (by decide) (by omega)
    have p2 : 2 ^ b.depth ≤ 2 ^ (max a.depth b.depth) := Nat.pow_le_pow_right (by decide) (by omega)
    have e : (textOf (.both a b)).length = 5 + (textOf a).length + 1 + (textOf b).length := by
      show (_ ++ _ ++ _ ++ _ : Str).length = _
      rw [Str.length_append, Str.length_append, Str.length_append]
      rfl
    rw [e]
    show _ ≤ 16 * 2 ^ (max a.depth b.depth + 1)
    rw [Nat.pow_succ]
    omega
theorem text_small {g : G} (ok : g.ok) (dp : g.depth ≤ 4) : (textOf g).length ≤ 256 := by
  have := text_len ok
  have : 2 ^ g.depth ≤ 2 ^ 4 := Nat.pow_le_pow_right (by decide) dp
  omega
def spLawText (n : Nat) : Sp := fun vs H Q _ => ∃ a g, vs = [.ref a] ∧ g.ok ∧ g.depth ≤ 4 ∧ g.depth < n ∧ GTup H g a ∧ ∀ H', Same H H' → Q (.str (textOf g)) H'
section
variable {K : PySem.W.Frag}
def t_law_text (K : PySem.W.Frag) (sp_law_text : Sp) : TS := tSeq (tIfS (tTest (tOp (rEq) (tOp (rIxT K) (tVar 0) (tC (.int 0))) (tC (.str "both")))) (tRet (tOp (rAddStr) (tOp (rAddStr) (tOp (rAddStr) (tC (.str "both ")) (tCall sp_law_text [] E0 (tCons (tOp (rIxT K) (tVar 0) (tC (.int 1))) (tNil)))) (tC (.str " "))) (tCall sp_law_text [] E0 (tCons (tOp (rIxT K) (tVar 0) (tC (.int 2))) (tNil))))) (tNext))
  (tRet (tM1 (rJoin K) (tC (.str " ")) (tLc (iTup K (tVar 0)) (gName 1) (tYes) (tCB (rStr1) (tCons (tVar 1) (tNil))) [1])))
def strOf : V → V
  | .int i => .str (dig i)
  | v => v
theorem pu_law_text {n : Nat} {vs : List V} {H : Hp} {Q : VK} {E : XK} (h : spLawText (n + 1) vs H Q E) : t_law_text K (spLawText n) (B Q) (start ["_law_guesser_here", "_law_part_here"] vs) H := by
  obtain ⟨a, g, rfl, ok, dp, dn, gt, k⟩ := h
  unfold t_law_text
  have leaf : ∀ (s : Str) (xs : List V) (ys : List Str), H a = some (.tup (.str s :: xs)) → decide (V.str s = V.str "both") = false → xs.length ≤ 1 → (∀ x, x ∈ xs → ∃ i : Int, x = .int i ∧ i.natAbs ≤ 3) → (V.str s :: xs).map strOf = ys.map V.str → (ys.map (·.length)).sum + ys.length ≤ 1000 → textOf g = Txt.join " " ys →
      (tSeq (tIfS (tTest (tOp (rEq) (tOp (rIxT K) (tVar 0) (tC (.int 0))) (tC (.str "both")))) (tRet (tOp (rAddStr) (tOp (rAddStr) (tOp (rAddStr) (tC (.str "both ")) (tCall (spLawText n) [] E0 (tCons (tOp (rIxT K) (tVar 0) (tC (.int 1))) (tNil)))) (tC (.str " "))) (tCall (spLawText n) [] E0 (tCons (tOp (rIxT K) (tVar 0) (tC (.int 2))) (tNil))))) (tNext))
  (tRet (tM1 (rJoin K) (tC (.str " ")) (tLc (iTup K (tVar 0)) (gName 1) (tYes) (tCB (rStr1) (tCons (tVar 1) (tNil))) [1])))) (B Q) (start ["_law_guesser_here", "_law_part"] [.ref a]) H := by
    intro s xs ys ha hs hl hx hy hz ht
    have st : SqT K H a (.str s :: xs) := .inl (.inl ha)
    walk_at "w"
    refine w_ixt st (atI_nat (xs := .str s :: xs) (j := 0) (v := .str s) rfl) ?_
    walk_at "w"
    rw [hs]
    walk_at "w"
    refine w_tm1 ?_
    walk_at "w"
    refine ⟨⟨_, rfl⟩, ?_⟩
    refine w_lc (w_itup ?_)
    walk_at "w"
    refine w_lct (fun _ => true) strOf st (small_lt (by simp; omega)) (fun _ => rfl) (fun x _ H' _ R r => r _ (fun _ _ z => z)) (fun x hx' _ H' _ R r => ?_) (fun p H1 hp e1 h1 => ?_)
    · walk_at "w"
      rcases List.mem_cons.mp hx' with rfl | hx'
      · exact w_strS (r _ (fun _ _ z => z))
      · obtain ⟨i, rfl, hi⟩ := hx x hx'
        refine w_strI ?_ (r _ (fun _ _ z => z))
        have : i.natAbs = 0 ∨ i.natAbs = 1 ∨ i.natAbs = 2 ∨ i.natAbs = 3 := by omega
        rcases this with e | e | e | e <;> rw [e] <;> decide +kernel
    · have e : added (fun _ => true) strOf (V.str s :: xs) = ys.map V.str := by
        unfold added
        rw [List.filter_eq_self.mpr (fun _ _ => rfl)]
        exact hy
      rw [e] at h1
      refine w_join (SqL.of h1) ?_ ?_
      · show _ + _ * 1 ≤ _
        omega
      · rw [← ht]
        exact k _ e1
  have d3 : ∀ n : Int, 1 ≤ n → n ≤ 3 → (dig n).length = 1 := fun n h0 h1 => by
    have h : n = 1 ∨ n = 2 ∨ n = 3 := by omega
    rcases h with rfl | rfl | rfl <;> decide +kernel
  cases g with
  | non => exact leaf "none" [] ["none"] gt (by decide +kernel) (by simp) (fun x hx => nomatch hx) rfl (by decide +kernel) rfl
  | next m => exact leaf "next" [.int m] ["next", dig m] gt (by decide +kernel) (by simp) (fun x hx => ⟨m, List.mem_singleton.mp hx, by have := ok.1; have := ok.2; omega⟩) rfl (by have := d3 m ok.1 ok.2; simp [this]; decide +kernel) rfl
  | stride m => exact leaf "stride" [.int m] ["stride", dig m] gt (by decide +kernel) (by simp) (fun x hx => ⟨m, List.mem_singleton.mp hx, by have := ok.1; have := ok.2; omega⟩) rfl (by have := d3 m ok.1 ok.2; simp [this]; decide +kernel) rfl
  | pairs m => exact leaf "pairs" [.int m] ["pairs", dig m] gt (by decide +kernel) (by simp) (fun x hx => ⟨m, List.mem_singleton.mp hx, by have := ok.1; have := ok.2; omega⟩) rfl (by have := d3 m ok.1 (by have := ok.2; omega); simp [this]; decide +kernel) rfl
  | both x y =>
    obtain ⟨p, q, ha, hp, hq⟩ := gt
    have st : SqT K H a [.str "both", .ref p, .ref q] := .inl (.inl ha)
    have dd : max x.depth y.depth + 1 ≤ 4 := dp
    have dn' : max x.depth y.depth + 1 < n + 1 := dn
    have lx := text_small ok.1 (by omega)
    have ly := text_small ok.2 (by omega)
    walk_at "w"
    refine ⟨p, x, rfl, ok.1, by omega, by omega, hp, fun H1 e1 => ?_⟩
    refine w_addS (small_le ?_) ?_
    · show 5 + _ ≤ _
      omega
    walk_at "w"
    refine w_addS (small_le ?_) ?_
    · rw [Str.length_append]
      show 5 + _ + 1 ≤ _
      omega
    have st1 : SqT K H1 a [.str "both", .ref p, .ref q] := same_seqT e1 st
    walk_at "w"
    refine ⟨q, y, rfl, ok.2, by omega, by omega, gtup_same e1 hq, fun H2 e2 => ?_⟩
    refine w_addS (small_le ?_) (k _ (e1.trans e2))
    rw [Str.length_append, Str.length_append]
    show 5 + _ + 1 + _ ≤ _
    omega
end
/-! ### a guesser as data; its text is one -/
def datG : G → Dat
  | .non => .tup [.str "none"]
  | .next n => .tup [.str "next", .int n]
  | .stride n => .tup [.str "stride", .int n]
  | .pairs n => .tup [.str "pairs", .int n]
  | .both a b => .tup [.str "both", datG a, datG b]
theorem dat_g {H : Hp} : ∀ {g : G} {a : Addr}, GTup H g a → DAt H (datG g) (.ref a)
  | .non, _, h => .tup h (.cons (.str _) .nil)
  | .next _, _, h => .tup h (.cons (.str _) (.cons (.int _) .nil))
  | .stride _, _, h => .tup h (.cons (.str _) (.cons (.int _) .nil))
  | .pairs _, _, h => .tup h (.cons (.str _) (.cons (.int _) .nil))
  | .both _ _, _, ⟨_, _, h, hp, hq⟩ => .tup h (.cons (.str _) (.cons (dat_g hp) (.cons (dat_g hq) .nil)))
theorem shaped_str {s : Str} (h : PyData.strOk s = true) : SeqAt.shaped (.str s) = true := by
  unfold SeqAt.shaped
  simp [PyData.canLay0, PyData.depth, h]
theorem fits_str {n : Nat} {s : Str} (h : PyData.strOk s = true) : fits 100000 n (.str s) := by
  cases n <;> exact shaped_str h
theorem fits_int {n : Nat} {i : Int} : fits 100000 n (.int i) := by
  cases n <;> exact trivial
theorem fits_g : ∀ {g : G} {n : Nat}, g.depth < n → fits 100000 n (datG g)
  | _, 0, h => absurd h (Nat.not_lt_zero _)
  | .non, n + 1, _ => ⟨by simp, fun x hx => by
    rw [List.mem_singleton.mp hx]
    exact fits_str (by decide +kernel)⟩
  | .next m, n + 1, _ => ⟨by simp, fun x hx => by
    rcases List.mem_cons.mp hx with rfl | hx
    · exact fits_str (by decide +kernel)
    · rw [List.mem_singleton.mp hx]
      exact fits_int⟩
  | .stride m, n + 1, _ => ⟨by simp, fun x hx => by
    rcases List.mem_cons.mp hx with rfl | hx
    · exact fits_str (by decide +kernel)
    · rw [List.mem_singleton.mp hx]
      exact fits_int⟩
  | .pairs m, n + 1, _ => ⟨by simp, fun x hx => by
    rcases List.mem_cons.mp hx with rfl | hx
    · exact fits_str (by decide +kernel)
    · rw [List.mem_singleton.mp hx]
      exact fits_int⟩
  | .both a b, n + 1, h => ⟨by simp, fun x hx => by
    have h : max a.depth b.depth + 1 < n + 1 := h
    rcases List.mem_cons.mp hx with rfl | hx
    · exact fits_str (by decide +kernel)
    rcases List.mem_cons.mp hx with rfl | hx
    · exact fits_g (by omega)
    · rw [List.mem_singleton.mp hx]
      exact fits_g (by omega)⟩
theorem strOk_append {a b : Str} (h : PyData.strOk a = true) (h' : PyData.strOk b = true) : PyData.strOk (a ++ b) = true := by
  unfold PyData.strOk at *
  show (a.cps ++ b.cps).all _ = true
  rw [Array.all_append, h, h']
  rfl
theorem text_strOk : ∀ {g : G}, g.ok → PyData.strOk (textOf g) = true
  | .non, _ => by decide +kernel
  | .next n, ok => by
    have h : n = 1 ∨ n = 2 ∨ n = 3 := by have := ok.1; have := ok.2; omega
    rcases h with rfl | rfl | rfl <;> decide +kernel
  | .stride n, ok => by
    have h : n = 1 ∨ n = 2 ∨ n = 3 := by have := ok.1; have := ok.2; omega
    rcases h with rfl | rfl | rfl <;> decide +kernel
  | .pairs n, ok => by
    have h : n = 1 ∨ n = 2 := by have := ok.1; have := ok.2; omega
    rcases h with rfl | rfl <;> decide +kernel
  | .both a b, ok => strOk_append (strOk_append (strOk_append (by decide +kernel) (text_strOk ok.1)) (by decide +kernel)) (text_strOk ok.2)
end SwD
set_option Elab.async false
set_option linter.all false
set_option maxRecDepth 100000
set_option maxHeartbeats 2000000
namespace SwD
open PySem PySem.Spec PyProof.Rows L2 SwX StX
/-- two lists, item by item -/
inductive All2 {α : Type} (R : α → V → Prop) : List α → List V → Prop
  | nil : All2 R [] []
  | cons {x : α} {v : V} {xs : List α} {vs : List V} : R x v → All2 R xs vs → All2 R (x :: xs) (v :: vs)
theorem All2.imp {α : Type} {R S : α → V → Prop} (k : ∀ x v, R x v → S x v) : ∀ {xs : List α} {vs : List V}, All2 R xs vs → All2 S xs vs
  | _, _, .nil => .nil
  | _, _, .cons h t => .cons (k _ _ h) (t.imp k)
theorem All2.more {α : Type} {R : α → V → Prop} {x : α} {v : V} (h : R x v) : ∀ {xs : List α} {vs : List V}, All2 R xs vs → All2 R (xs ++ [x]) (vs ++ [v])
  | _, _, .nil => .cons h .nil
  | _, _, .cons h' t => .cons h' (t.more h)
theorem All2.len {α : Type} {R : α → V → Prop} : ∀ {xs : List α} {vs : List V}, All2 R xs vs → xs.length = vs.length
  | _, _, .nil => rfl
  | _, _, .cons _ t => congrArg (· + 1) t.len
theorem All2.at {α : Type} {R : α → V → Prop} : ∀ {xs : List α} {vs : List V} {i : Nat} {x : α}, All2 R xs vs → xs[i]? = some x → ∃ v, vs[i]? = some v ∧ R x v
  | _, _, _, _, .nil, e => by simp at e
  | _, _, 0, _, .cons h _, e => by
    have e : _ = _ := Option.some.inj e
    subst e
    exact ⟨_, rfl, h⟩
  | _, _, i + 1, x, .cons _ t, e => by
    obtain ⟨v, h1, h2⟩ := All2.at (i := i) (x := x) t (by simpa using e)
    exact ⟨v, by simpa using h1, h2⟩
theorem All2.mem {α : Type} {R : α → V → Prop} : ∀ {xs : List α} {vs : List V} {v : V}, All2 R xs vs → v ∈ vs → ∃ x, x ∈ xs ∧ R x v
  | _, _, _, .nil, h => nomatch h
  | _, _, v, .cons (x := x) h t, hv => by
    rcases List.mem_cons.mp hv with rfl | hv
    · exact ⟨x, List.mem_cons_self, h⟩
    · obtain ⟨y, h1, h2⟩ := t.mem hv
      exact ⟨y, List.mem_cons_of_mem _ h1, h2⟩
theorem All2.filter {α : Type} {R : α → V → Prop} {f : V → Bool} {g : α → Bool} (k : ∀ x v, R x v → f v = g x) : ∀ {xs : List α} {vs : List V}, All2 R xs vs → All2 R (xs.filter g) (vs.filter f)
  | _, _, .nil => .nil
  | _, _, .cons (x := x) (v := v) h t => by
    rw [List.filter_cons, List.filter_cons, k x v h]
    split
    · exact .cons h (t.filter k)
    · exact t.filter k

theorem All2.append {α : Type} {R : α → V → Prop} : ∀ {xs ys : List α} {us vs : List V}, All2 R xs us → All2 R ys vs → All2 R (xs ++ ys) (us ++ vs)
  | _, _, _, _, .nil, h => h
  | _, _, _, _, .cons h t, h' => .cons h (t.append h')
theorem All2.rev {α : Type} {R : α → V → Prop} : ∀ {xs : List α} {us : List V}, All2 R xs us → All2 R xs.reverse us.reverse
  | _, _, .nil => .nil
  | _, _, .cons h t => by
    rw [List.reverse_cons, List.reverse_cons]
    exact t.rev.more h
theorem All2.map {α : Type} {R : α → V → Prop} {f : α → V} (k : ∀ x, R x (f x)) : ∀ xs : List α, All2 R xs (xs.map f)
  | [] => .nil
  | x :: xs => .cons (k x) (All2.map k xs)
theorem All2.drop1 {α : Type} {R : α → V → Prop} : ∀ {xs : List α} {us : List V}, All2 R xs us → All2 R (xs.drop 1) (us.drop 1)
  | _, _, .nil => .nil
  | _, _, .cons _ t => t
end SwD
namespace SwX
open PySem PySem.Spec PyProof.Rows L2 StX
abbrev rIntS : RCall := fun xs H Q => ∃ a n, xs = [.str a] ∧ PySem.intText? a = some n ∧ a.length ≤ 640 ∧ Q (.int n) H
abbrev rSplit : V → List V → Hp → VK → Prop := fun x xs H Q => ∃ a b, x = .str a ∧ xs = [.str b] ∧ (b.length == 0) = false ∧ a.length + 2 ≤ sizeLine ∧ rNewStrs (Txt.split a b) H Q
section
variable {K : PySem.W.Frag} {σ : L2.St} {H : Hp} {Q : VK} {D : Ends} {ta tb te : TE} {t u : TS} {v : V} {i : Nat} {g : TG} {tb' : TS} {vs : List Nat} {tt : TT}
theorem w_rev {t : TA} {R : It → Hp → Prop} (k : t σ H fun vs H1 => ∃ (a : Addr) (xs : List V), vs = [.ref a] ∧ SqL K H1 a xs ∧ R (Itv K a xs.length) H1) : iRev K t σ H R := k
theorem w_enum {t : TA} {R : It → Hp → Prop} (k : t σ H fun vs H1 => ∃ a xs, vs = [.ref a] ∧ SqL K H1 a xs ∧ R (Ite K a) H1) : iEnum K t σ H R := k
theorem w_itup' {tl : TE} {R : It → Hp → Prop} (k : tl σ H fun x H1 => ∃ a, x = .ref a ∧ (∃ xs, SqT K H1 a xs) ∧ R (Itt K a) H1) : iTup K tl σ H R := k
theorem w_bm0 {T : String} {r : V → List V → Hp → VK → Prop} (k : ta σ H fun x H1 => tyV K T x H1 ∧ r x [] H1 Q) : tBM0 K T r ta σ H Q := k
theorem w_pop {a : Addr} {xs : List V} {x : V} (h : H a = some (.lst (xs ++ [x]))) (k : Q x (upd H a (.lst xs))) : rPop (.ref a) [] H Q :=
  ⟨a, xs ++ [x], x, rfl, rfl, h, by simp, by rw [List.dropLast_concat]; exact k⟩
theorem w_tru {P : Bool → Hp → Prop} (k : te σ H fun x H1 => ∃ k, TruV K x H1 k ∧ P k H1) : tTru K te σ H P := k
theorem truL {a : Addr} {xs : List V} (h : SqL K H a xs) : TruV K (.ref a) H (!xs.isEmpty) := .inl ⟨xs, h, rfl⟩
theorem w_extend {a b : Addr} {xs zs : List V} (h : H a = some (.lst xs)) (h' : H b = some (.lst zs)) (z : xs.length + zs.length ≤ sizeLine) (k : Q .non (upd H a (.lst (xs ++ zs)))) : rExtend (.ref a) [.ref b] H Q := ⟨a, b, xs, zs, rfl, rfl, h, h', z, k⟩
theorem w_intS {a : Str} {n : Int} (h : PySem.intText? a = some n) (z : a.length ≤ 640) (k : Q (.int n) H) : rIntS [.str a] H Q := ⟨a, n, rfl, h, z, k⟩
theorem w_split {a b : Str} (h : (b.length == 0) = false) (z : a.length + 2 ≤ sizeLine) (k : New Q H (.lst ((Txt.split a b).map V.str))) : rSplit (.str a) [.str b] H Q := ⟨a, b, rfl, rfl, h, z, k⟩
theorem w_tm1' {r : V → List V → Hp → VK → Prop} (k : ta σ H fun x H1 => (∃ a, x = .str a) ∧ tb σ H1 fun y H2 => r x [y] H2 Q) : tM1 r ta tb σ H Q := k
theorem w_gcons {ga : TG} {gs : TGs} {vs : List V} {P : L2.St → Hp → Prop} (k : ga v σ H fun σ1 H1 => gs vs σ1 H1 P) : gCons ga gs (v :: vs) σ H P := ⟨v, vs, rfl, k⟩
theorem w_gnil {P : L2.St → Hp → Prop} (k : P σ H) : gNil [] σ H P := ⟨rfl, k⟩
theorem w_gtup {n : Nat} {gs : TGs} {a : Addr} {xs : List V} {P : L2.St → Hp → Prop} (h : SqT K H a xs) (l : xs.length = n) (k : gs xs σ H P) : gTup K n gs (.ref a) σ H P := ⟨a, xs, rfl, h, l, k⟩
theorem inV_str (w : Str) (l : List Str) : inV (.str w) (l.map V.str) = decide (w ∈ l) := by
  unfold inV
  rw [List.any_map]
  have e : ((fun y => eqV y (V.str w)) ∘ V.str) = fun (y : Str) => y == w := by
    funext y
    rfl
  rw [e, Bool.eq_iff_iff, List.any_eq_true, decide_eq_true_iff]
  constructor
  · rintro ⟨y, hy, e⟩
    rw [← eq_of_beq e]
    exact hy
  · intro h
    exact ⟨w, h, beq_self_eq_true w⟩
theorem flat_strs (l : List Str) : (l.map V.str).all flatV = true := by
  rw [List.all_map]
  exact List.all_eq_true.mpr fun _ _ => rfl
theorem w_inSt {neg : Bool} {a : Addr} {w : Str} {l : List Str} (h : SqT K H a (l.map V.str)) (k : Q (.bl (if neg then !decide (w ∈ l) else decide (w ∈ l))) H) : rIn K neg (.str w) (.ref a) H Q :=
  ⟨a, _, rfl, .inr h, rfl, flat_strs l, by rw [inV_str]; exact k⟩
theorem take_more' {α : Type} {l : List α} {i : Nat} {x : α} (h : l[i]? = some x) : l.take (i + 1) = l.take i ++ [x] := by
  rw [List.take_add_one, h]
  rfl
/-- any walk -/
theorem w_forit {J : It} {n : Nat} {G : Hp → Prop} {Y : Nat → Hp → V → Hp → Prop} (w : Walk J n G Y) (Pv : Nat → L2.St → Hp → Prop) (h0 : Pv 0 σ H) (hG : ∀ i σ H, i ≤ n → Pv i σ H → G H)
    (hs : ∀ i x σ H H', i < n → Pv i σ H → Y i H x H' → g x σ H' fun σ2 H2 => tb' { D with nx := Pv (i + 1), ct := Pv (i + 1), bk := D.nx } σ2 H2) (hd : ∀ σ H, Pv n σ H → D.nx σ H) : forK J g tb' D σ H := for_it w Pv h0 hG hs hd
theorem w_forrev {a : Addr} {xs : List V} (Pv : Nat → L2.St → Hp → Prop) (hx : SqL K H a xs) (h0 : Pv 0 σ H) (hG : ∀ i σ H, i ≤ xs.length → Pv i σ H → SqL K H a xs)
    (hs : ∀ i x σ H, i < xs.length → Pv i σ H → xs.reverse[i]? = some x → g x σ H fun σ2 H2 => tb' { D with nx := Pv (i + 1), ct := Pv (i + 1), bk := D.nx } σ2 H2) (hd : ∀ σ H, Pv xs.length σ H → D.nx σ H) :
    ∃ (a' : Addr) (ys : List V), [V.ref a] = [.ref a'] ∧ SqL K H a' ys ∧ forK (Itv K a' ys.length) g tb' D σ H :=
  ⟨a, xs, rfl, hx, for_it walk_rev Pv h0 hG (fun i x σ H H' hi p y => by
    obtain ⟨rfl, e⟩ := y
    exact hs i x σ H' hi p (by rw [List.getElem?_reverse hi]; exact e)) hd⟩
theorem w_forenum {a : Addr} {xs : List V} (Pv : Nat → L2.St → Hp → Prop) (hx : SqL K H a xs) (h0 : Pv 0 σ H) (hG : ∀ i σ H, i ≤ xs.length → Pv i σ H → SqL K H a xs)
    (hs : ∀ i x σ H T H', i < xs.length → Pv i σ H → xs[i]? = some x → H T = none → Same H H' → H' T = some (.tup [.int (i : Nat), x]) → g (.ref T) σ H' fun σ2 H2 => tb' { D with nx := Pv (i + 1), ct := Pv (i + 1), bk := D.nx } σ2 H2) (hd : ∀ σ H, Pv xs.length σ H → D.nx σ H) :
    ∃ (a' : Addr) (ys : List V), [V.ref a] = [.ref a'] ∧ SqL K H a' ys ∧ forK (Ite K a') g tb' D σ H :=
  ⟨a, xs, rfl, hx, for_it walk_enum Pv h0 hG (fun i x σ H H' hi p y => by
    obtain ⟨T, x1, x2, rfl, hT, rfl, e1, e2⟩ := y
    cases e1
    exact hs i x2 σ H T _ hi p e2 hT (same_upd hT) upd_same) hd⟩
/-- a comprehension over a list whose turns change the heap -/
theorem w_lclP {a : Addr} {src : List V} {j : Nat} (Pv : Addr → List V → Hp → Prop) (hx : SqL K H a src) (hw : ∀ x, wipe ((wipe σ vs).set j (some x)) vs = wipe σ vs)
    (h0 : ∀ D, H D = none → Pv D [] (upd H D (.lst [])))
    (hG : ∀ D acc H', H D = none → Pv D acc H' → SqL K H' a src)
    (hs : ∀ D acc x H', H D = none → acc.length ≤ src.length → src[acc.length]? = some x → H' D = some (.lst acc) → Pv D acc H' → te ((wipe σ vs).set j (some x)) H' fun y H4 => ∃ acc', H4 D = some (.lst acc') ∧ acc'.length < sizeLine ∧ ∃ acc2, acc2.length = acc.length + 1 ∧ upd H4 D (.lst (acc' ++ [y])) D = some (.lst acc2) ∧ Pv D acc2 (upd H4 D (.lst (acc' ++ [y]))))
    (hd : ∀ D acc H', H D = none → acc.length = src.length → H' D = some (.lst acc) → Pv D acc H' → Q (.ref D) H') :
    ∃ a', V.ref a = .ref a' ∧ (∃ xs, SqL K H a' xs) ∧ lcK (Itl K a') (gName j) tYes te vs σ H Q :=
  ⟨a, rfl, ⟨src, hx⟩, fun Dl hD => lc_it (walk_list (xs := src)) (fun i H' => ∃ acc, acc.length = i ∧ H' Dl = some (.lst acc) ∧ Pv Dl acc H') ⟨[], rfl, upd_same, h0 Dl hD⟩
    (fun i H' _ p => by
      obtain ⟨acc, _, _, p⟩ := p
      exact hG Dl acc H' hD p)
    (fun i x H1 H' hi p y => by
      obtain ⟨acc, e, h1, h2⟩ := p
      obtain ⟨rfl, hy⟩ := y
      subst e
      refine ⟨hw _, w_yes ?_⟩
      rw [if_pos rfl]
      exact hs Dl acc x H' hD (Nat.le_of_lt hi) hy h1 h2)
    (fun H' p => by
      obtain ⟨acc, e, h1, h2⟩ := p
      exact hd Dl acc H' hD e h1 h2)⟩
end
local macro_rules | `(tactic| walk_at "w1") => `(tactic| with_reducible first | refine w_rev ?_ | refine w_enum ?_ | refine w_itup' ?_ | refine w_bm0 ?_ | refine w_gcons ?_ | refine w_gnil ?_ | refine w_tm1' ?_ | refine w_tru ?_)
end SwX
set_option Elab.async false
set_option linter.all false
set_option maxRecDepth 100000
set_option maxHeartbeats 4000000
namespace SwD
open PySem PySem.Spec PyProof.Rows L2 SwX StX Sw TL
local macro_rules | `(tactic| walk_at "lk") => `(tactic| first | exact lk_at | exact lk_no | ((refine' lk_by (by decide +kernel) ?wq); (case wq => walk_at "lk")))
local macro_rules | `(tactic| walk_at "pf") => `(tactic| first | exact pf_at | exact pf_nil | ((refine' pf_by (by decide +kernel) ?wq); (case wq => walk_at "pf")))
local macro_rules | `(tactic| walk_at "w1") => `(tactic| with_reducible first
  | refine w_seq ?_ | refine w_asg ?_ | refine w_name ?_ | refine w_ret ?_ | refine w_retN ?_ | refine w_drop ?_ | refine w_next ?_ | refine w_if ?_ | refine w_ifE ?_ | refine w_test ?_ | refine w_B ?_ | refine w_bl ?_
  | refine w_not ?_ | refine w_and ?_ | refine w_or ?_ | refine w_andV ?_ | refine w_orV ?_ | refine w_notV ?_ | refine w_isN ?_ | refine w_notN ?_ | refine w_yes ?_
  | refine w_c ?_ | refine w_op ?_ | refine w_un ?_ | refine w_i0 ?_ | refine w_neg ?_ | refine w_nil ?_ | refine w_cons ?_ | refine w_cb ?_ | refine w_call ?_ | refine w_tup ?_ | refine w_lst ?_
  | refine w_fld ?_ | refine w_sfld ?_ | refine w_match ?_ | refine w_case ?_ | refine w_mcons ?_ | refine w_mnil ?_ | refine w_mcap ?_ | refine w_many ?_ | refine w_myes ?_
  | refine w_sub ?_ | refine w_bm ?_ | refine w_sl ?_ | refine w_nopart ?_ | refine w_part ?_ | refine w_int ?_ | refine w_ift ?_ | refine w_iff ?_ | refine w_ifn ?_ | refine w_dget2 ?_ | refine w_star ?_ | refine w_dput ?_ | refine w_dnewK ?_ | refine w_meth ?_ | refine w_oneOf ?_ | refine w_make ?_ | refine w_lc ?_ | refine w_for ?_ | refine w_ilist ?_ | refine w_irng1 ?_ | refine w_irng2 ?_ | refine w_irng3 ?_)
local macro_rules | `(tactic| walk_at "w2") => `(tactic| first
  | ((with_reducible refine' w_var ?wh ?_); (case wh => rfl))
  | ((with_reducible refine' w_eq ?wh ?_); (case wh => rfl))
  | ((with_reducible refine' w_ne ?wh ?_); (case wh => rfl))
  | ((with_reducible refine' w_mno ?wh ?_); (case wh => decide +kernel))
  | ((with_reducible refine' w_mhit ?wh ?wl ?_); (case wh => assumption); (case wl => rfl))
  | ((with_reducible refine' w_mmiss ?wh ?wl ?_); (case wh => assumption); (case wl => simp))
  | ((with_reducible refine' w_fldA ?wh ?wc ?wn ?wl ?_); (case wh => first | assumption | exact upd_same); (case wc => assumption); (case wn => assumption); (case wl => walk_at "lk"))
  | ((with_reducible refine' w_ixl ?wh ?we ?_); (case wh => exact SqL.of (by first | assumption | exact upd_same)); (case we => rfl))
  | ((with_reducible refine' w_ixt ?wh ?we ?_); (case wh => assumption); (case we => rfl))
  | ((with_reducible refine' w_ifT ?wh ?_); (case wh => (with_reducible exact Eq.refl _)))
  | ((with_reducible refine' w_ifF ?wh ?_); (case wh => decide +kernel))
  | ((with_reducible refine' w_isiY ?wh ?wk ?_); (case wh => first | exact .int _ | exact .str _ | exact .lst (by assumption) | exact .tup (by assumption)); (case wk => decide +kernel))
  | ((with_reducible refine' w_isiN ?wh ?wk ?_); (case wh => first | exact .int _ | exact .str _ | exact .lst (by assumption) | exact .tup (by assumption)); (case wk => decide +kernel))
  | ((with_reducible refine' w_ifF ?wh ?_); (case wh => (intro z; cases z; done)))
  | ((with_reducible refine' w_setl ?wh ?we ?wl ?_); (case wh => first | assumption | exact upd_same); (case we => rfl); (case wl => rfl))
  | ((with_reducible refine' w_methA ?wh ?wl ?_); (case wh => first | assumption | exact upd_same); (case wl => walk_at "lk"))
  | ((with_reducible refine' w_sfldB ?wc ?wn ?wz ?wl ?_); (case wc => assumption); (case wn => assumption); (case wz => simp); (case wl => walk_at "pf"))
  | ((with_reducible refine' w_sfldA ?wh ?wc ?wn ?wz ?wl ?_); (case wh => assumption); (case wc => assumption); (case wn => assumption); (case wz => simp); (case wl => walk_at "pf")))
local macro_rules | `(tactic| walk_at "w") => `(tactic| repeat (first | walk_at "w1" | walk_at "w2" | (dsimp only [List.set, setAll, List.append, List.cons_append, List.nil_append])))
local macro_rules | `(tactic| walk_at "w1") => `(tactic| with_reducible first | refine w_rev ?_ | refine w_enum ?_ | refine w_itup' ?_ | refine w_bm0 ?_ | refine w_gcons ?_ | refine w_gnil ?_ | refine w_tm1' ?_ | refine w_tru ?_)
/-! ### words -/
def FIG : List Str := ["0", "1", "2", "3", "4", "5", "6", "7", "8", "9"]
def NUMB : List Str := ["next", "stride", "pairs"]
def wordsOf : G → List Str
  | .non => ["none"]
  | .next n => ["next", dig n]
  | .stride n => ["stride", dig n]
  | .pairs n => ["pairs", dig n]
  | .both a b => "both" :: (wordsOf a ++ wordsOf b)
/-- every number has one figure -/
def Digs : G → Prop
  | .non => True
  | .next n => 0 ≤ n ∧ n ≤ 9
  | .stride n => 0 ≤ n ∧ n ≤ 9
  | .pairs n => 0 ≤ n ∧ n ≤ 9
  | .both a b => Digs a ∧ Digs b
theorem digs_ok : ∀ {g : G}, g.ok → Digs g
  | .non, _ => trivial
  | .next _, h => ⟨by have := h.1; omega, by have := h.2; omega⟩
  | .stride _, h => ⟨by have := h.1; omega, by have := h.2; omega⟩
  | .pairs _, h => ⟨by have := h.1; omega, by have := h.2; omega⟩
  | .both _ _, h => ⟨digs_ok h.1, digs_ok h.2⟩
theorem ten {P : Int → Prop} (h : P 0 ∧ P 1 ∧ P 2 ∧ P 3 ∧ P 4 ∧ P 5 ∧ P 6 ∧ P 7 ∧ P 8 ∧ P 9) {n : Int} (h0 : 0 ≤ n) (h9 : n ≤ 9) : P n := by
  obtain ⟨a0, a1, a2, a3, a4, a5, a6, a7, a8, a9⟩ := h
  have : n = 0 ∨ n = 1 ∨ n = 2 ∨ n = 3 ∨ n = 4 ∨ n = 5 ∨ n = 6 ∨ n = 7 ∨ n = 8 ∨ n = 9 := by omega
  rcases this with rfl | rfl | rfl | rfl | rfl | rfl | rfl | rfl | rfl | rfl <;> assumption
theorem dig_fig {n : Int} (h0 : 0 ≤ n) (h9 : n ≤ 9) : dig n ∈ FIG := ten (P := fun n => dig n ∈ FIG) ⟨by decide +kernel, by decide +kernel, by decide +kernel, by decide +kernel, by decide +kernel, by decide +kernel, by decide +kernel, by decide +kernel, by decide +kernel, by decide +kernel⟩ h0 h9
theorem dig_val {n : Int} (h0 : 0 ≤ n) (h9 : n ≤ 9) : PySem.intText? (dig n) = some n := ten (P := fun n => PySem.intText? (dig n) = some n) ⟨by decide +kernel, by decide +kernel, by decide +kernel, by decide +kernel, by decide +kernel, by decide +kernel, by decide +kernel, by decide +kernel, by decide +kernel, by decide +kernel⟩ h0 h9
theorem fig_val {w : Str} (h : w ∈ FIG) : ∃ n, PySem.intText? w = some n ∧ w.length = 1 ∧ w = dig n ∧ 0 ≤ n ∧ n ≤ 9 := by
  have key : ∀ n : Int, 0 ≤ n → n ≤ 9 → w = dig n → _ := fun n h0 h9 e => (⟨n, by rw [e]; exact dig_val h0 h9, by rw [e]; exact ten (P := fun n => (dig n).length = 1) ⟨by decide +kernel, by decide +kernel, by decide +kernel, by decide +kernel, by decide +kernel, by decide +kernel, by decide +kernel, by decide +kernel, by decide +kernel, by decide +kernel⟩ h0 h9, e, h0, h9⟩ : ∃ n, PySem.intText? w = some n ∧ w.length = 1 ∧ w = dig n ∧ 0 ≤ n ∧ n ≤ 9)
  have h : w = "0" ∨ w = "1" ∨ w = "2" ∨ w = "3" ∨ w = "4" ∨ w = "5" ∨ w = "6" ∨ w = "7" ∨ w = "8" ∨ w = "9" := by simpa [FIG] using h
  rcases h with rfl | rfl | rfl | rfl | rfl | rfl | rfl | rfl | rfl | rfl
  · exact key 0 (by decide) (by decide) (by decide +kernel)
  · exact key 1 (by decide) (by decide) (by decide +kernel)
  · exact key 2 (by decide) (by decide) (by decide +kernel)
  · exact key 3 (by decide) (by decide) (by decide +kernel)
  · exact key 4 (by decide) (by decide) (by decide +kernel)
  · exact key 5 (by decide) (by decide) (by decide +kernel)
  · exact key 6 (by decide) (by decide) (by decide +kernel)
  · exact key 7 (by decide) (by decide) (by decide +kernel)
  · exact key 8 (by decide) (by decide) (by decide +kernel)
  · exact key 9 (by decide) (by decide) (by decide +kernel)
theorem words_ne : ∀ g : G, wordsOf g ≠ []
  | .non => by simp [wordsOf]
  | .next _ => by simp [wordsOf]
  | .stride _ => by simp [wordsOf]
  | .pairs _ => by simp [wordsOf]
  | .both _ _ => by simp [wordsOf]
theorem join_two (y : Str) : ∀ (a b : List Str), a ≠ [] → b ≠ [] → Txt.join y (a ++ b) = Txt.join y a ++ y ++ Txt.join y b
  | [], _, h, _ => absurd rfl h
  | [x], z :: r, _, _ => by
    rw [join_eq, join_eq, join_eq]
    rfl
  | [x], [], _, h => absurd rfl h
  | x :: x' :: r, b, _, hb => by
    have ih := join_two y (x' :: r) b (by simp) hb
    rw [join_eq, join_eq, join_eq] at ih
    rw [join_eq, join_eq, join_eq]
    show x ++ y ++ Str.join y (x' :: r ++ b) = x ++ y ++ Str.join y (x' :: r) ++ y ++ Str.join y b
    rw [ih]
    rw [Str.append_assoc, Str.append_assoc, Str.append_assoc, Str.append_assoc, Str.append_assoc]
theorem text_words : ∀ g : G, textOf g = Txt.join " " (wordsOf g)
  | .non => rfl
  | .next _ => rfl
  | .stride _ => rfl
  | .pairs _ => rfl
  | .both a b => by
    have e1 := join_two " " (["both"] : List Str) (wordsOf a ++ wordsOf b) (by simp) (by have := words_ne a; simp [this])
    have e2 := join_two " " (wordsOf a) (wordsOf b) (words_ne a) (words_ne b)
    show ("both " : Str) ++ textOf a ++ " " ++ textOf b = Txt.join " " ((["both"] : List Str) ++ (wordsOf a ++ wordsOf b))
    rw [e1, e2, text_words a, text_words b]
    have e3 : Txt.join " " (["both"] : List Str) ++ (" " : Str) = "both " := by decide +kernel
    rw [e3, Str.append_assoc, Str.append_assoc, Str.append_assoc]
theorem words_free : ∀ {g : G}, Digs g → ∀ p, p ∈ wordsOf g → 32 ∉ tl p
  | .non, _, p, hp => by
    rw [List.mem_singleton.mp hp]
    decide +kernel
  | .next n, h, p, hp => by
    rcases List.mem_cons.mp hp with rfl | hp
    · decide +kernel
    · rw [List.mem_singleton.mp hp]
      exact ten (P := fun n => 32 ∉ tl (dig n)) ⟨by decide +kernel, by decide +kernel, by decide +kernel, by decide +kernel, by decide +kernel, by decide +kernel, by decide +kernel, by decide +kernel, by decide +kernel, by decide +kernel⟩ h.1 h.2
  | .stride n, h, p, hp => by
    rcases List.mem_cons.mp hp with rfl | hp
    · decide +kernel
    · rw [List.mem_singleton.mp hp]
      exact ten (P := fun n => 32 ∉ tl (dig n)) ⟨by decide +kernel, by decide +kernel, by decide +kernel, by decide +kernel, by decide +kernel, by decide +kernel, by decide +kernel, by decide +kernel, by decide +kernel, by decide +kernel⟩ h.1 h.2
  | .pairs n, h, p, hp => by
    rcases List.mem_cons.mp hp with rfl | hp
    · decide +kernel
    · rw [List.mem_singleton.mp hp]
      exact ten (P := fun n => 32 ∉ tl (dig n)) ⟨by decide +kernel, by decide +kernel, by decide +kernel, by decide +kernel, by decide +kernel, by decide +kernel, by decide +kernel, by decide +kernel, by decide +kernel, by decide +kernel⟩ h.1 h.2
  | .both a b, h, p, hp => by
    rcases List.mem_cons.mp hp with rfl | hp
    · decide +kernel
    · rcases List.mem_append.mp hp with hp | hp
      · exact words_free h.1 p hp
      · exact words_free h.2 p hp
theorem text_split {g : G} (h : Digs g) : Txt.split (textOf g) " " = wordsOf g := by
  rw [text_words]
  exact split_join (s := 32) (S := []) (by decide +kernel) (by decide +kernel) (words_ne g) (words_free h)
/-! ### what must come -/
def needsOf (w : Str) : List Str := if w ∈ NUMB then ["number"] else if w = "both" then ["guesser", "guesser"] else []
def canStand (w n : Str) : Bool := if n = "number" then decide (w ∈ FIG) else (decide (w ∈ NUMB) || decide (w ∈ (["none", "both"] : List Str)))
def stepN (o : Option (List Str)) (w : Str) : Option (List Str) := match o with
  | some (n :: r) => if canStand w n = true then some (needsOf w ++ r) else none
  | _ => none
theorem stepN_number {n : Int} {r : List Str} (h0 : 0 ≤ n) (h9 : n ≤ 9) : stepN (some ("number" :: r)) (dig n) = some r := by
  have e : canStand (dig n) "number" = true := by
    unfold canStand
    rw [if_pos rfl]
    exact decide_eq_true (dig_fig h0 h9)
  have e2 : needsOf (dig n) = [] := ten (P := fun n => needsOf (dig n) = []) ⟨by decide +kernel, by decide +kernel, by decide +kernel, by decide +kernel, by decide +kernel, by decide +kernel, by decide +kernel, by decide +kernel, by decide +kernel, by decide +kernel⟩ h0 h9
  show (if _ then _ else _) = _
  rw [if_pos e, e2]
  rfl
theorem check_words_of : ∀ {g : G}, Digs g → ∀ r, (wordsOf g).foldl stepN (some ("guesser" :: r)) = some r
  | .non, _, r => by
    show stepN (some ("guesser" :: r)) "none" = _
    show (if canStand "none" "guesser" = true then some (needsOf "none" ++ r) else none) = _
    rw [show canStand "none" "guesser" = true by decide +kernel, show needsOf "none" = [] by decide +kernel]
    rfl
  | .next n, h, r => by
    show stepN (stepN (some ("guesser" :: r)) "next") (dig n) = _
    have e : stepN (some ("guesser" :: r)) "next" = some (("number" : Str) :: r) := by
      show (if canStand "next" "guesser" = true then some (needsOf "next" ++ r) else none) = _
      rw [show canStand "next" "guesser" = true by decide +kernel, show needsOf "next" = [("number" : Str)] by decide +kernel]
      rfl
    rw [e, stepN_number h.1 h.2]
  | .stride n, h, r => by
    show stepN (stepN (some ("guesser" :: r)) "stride") (dig n) = _
    have e : stepN (some ("guesser" :: r)) "stride" = some (("number" : Str) :: r) := by
      show (if canStand "stride" "guesser" = true then some (needsOf "stride" ++ r) else none) = _
      rw [show canStand "stride" "guesser" = true by decide +kernel, show needsOf "stride" = [("number" : Str)] by decide +kernel]
      rfl
    rw [e, stepN_number h.1 h.2]
  | .pairs n, h, r => by
    show stepN (stepN (some ("guesser" :: r)) "pairs") (dig n) = _
    have e : stepN (some ("guesser" :: r)) "pairs" = some (("number" : Str) :: r) := by
      show (if canStand "pairs" "guesser" = true then some (needsOf "pairs" ++ r) else none) = _
      rw [show canStand "pairs" "guesser" = true by decide +kernel, show needsOf "pairs" = [("number" : Str)] by decide +kernel]
      rfl
    rw [e, stepN_number h.1 h.2]
  | .both a b, h, r => by
    show (wordsOf a ++ wordsOf b).foldl stepN (stepN (some ("guesser" :: r)) "both") = _
    have e : stepN (some ("guesser" :: r)) "both" = some (("guesser" : Str) :: "guesser" :: r) := by
      show (if canStand "both" "guesser" = true then some (needsOf "both" ++ r) else none) = _
      rw [show canStand "both" "guesser" = true by decide +kernel, show needsOf "both" = [("guesser" : Str), "guesser"] by decide +kernel]
      rfl
    rw [e, List.foldl_append, check_words_of h.1, check_words_of h.2]
/-! ### what is made, from the last word to the first -/
inductive Pt where
  | num (n : Int)
  | gu (g : G)
def mkN (w : Str) (n : Int) : G := if w = "next" then .next n else if w = "stride" then .stride n else .pairs n
def stepO (o : Option (List Pt)) (w : Str) : Option (List Pt) := match o with
  | none => none
  | some st =>
    if w ∈ FIG then some (.num ((PySem.intText? w).getD 0) :: st)
    else if w ∈ NUMB then match st with
      | .num n :: r => some (.gu (mkN w n) :: r)
      | _ => none
    else if w = "both" then match st with
      | .gu a :: .gu b :: r => some (.gu (.both a b) :: r)
      | _ => none
    else if w = "none" then some (.gu .non :: st) else none
theorem stepO_some (st : List Pt) (w : Str) : stepO (some st) w = if w ∈ FIG then some (.num ((PySem.intText? w).getD 0) :: st)
    else if w ∈ NUMB then match st with
      | .num n :: r => some (.gu (mkN w n) :: r)
      | _ => none
    else if w = "both" then match st with
      | .gu a :: .gu b :: r => some (.gu (.both a b) :: r)
      | _ => none
    else if w = "none" then some (.gu .non :: st) else none := rfl
theorem stepO_dig {n : Int} {st : List Pt} (h0 : 0 ≤ n) (h9 : n ≤ 9) : stepO (some st) (dig n) = some (.num n :: st) := by
  rw [stepO_some, if_pos (dig_fig h0 h9), dig_val h0 h9]
  rfl
theorem made_of : ∀ {g : G}, Digs g → ∀ st, (wordsOf g).reverse.foldl stepO (some st) = some (.gu g :: st)
  | .non, _, st => by
    show stepO (some st) "none" = _
    rw [stepO_some, if_neg (by decide +kernel), if_neg (by decide +kernel), if_neg (by decide +kernel), if_pos rfl]
  | .next n, h, st => by
    show stepO (stepO (some st) (dig n)) "next" = _
    rw [stepO_dig h.1 h.2]
    rw [stepO_some, if_neg (by decide +kernel), if_pos (by decide +kernel)]
    rfl
  | .stride n, h, st => by
    show stepO (stepO (some st) (dig n)) "stride" = _
    rw [stepO_dig h.1 h.2]
    rw [stepO_some, if_neg (by decide +kernel), if_pos (by decide +kernel)]
    show some (Pt.gu (mkN "stride" n) :: st) = _
    rw [show mkN "stride" n = .stride n from by unfold mkN; rw [if_neg (by decide +kernel), if_pos rfl]]
  | .pairs n, h, st => by
    show stepO (stepO (some st) (dig n)) "pairs" = _
    rw [stepO_dig h.1 h.2]
    rw [stepO_some, if_neg (by decide +kernel), if_pos (by decide +kernel)]
    show some (Pt.gu (mkN "pairs" n) :: st) = _
    rw [show mkN "pairs" n = .pairs n from by unfold mkN; rw [if_neg (by decide +kernel), if_neg (by decide +kernel)]]
  | .both a b, h, st => by
    show (("both" : Str) :: (wordsOf a ++ wordsOf b)).reverse.foldl stepO (some st) = _
    rw [List.reverse_cons, List.reverse_append, List.foldl_append, List.foldl_append, made_of h.2, made_of h.1]
    show stepO (some (.gu a :: .gu b :: st)) "both" = _
    rw [stepO_some, if_neg (by decide +kernel), if_neg (by decide +kernel), if_pos rfl]
theorem foldl_none {α β : Type} {f : Option α → β → Option α} (h : ∀ b, f none b = none) : ∀ l : List β, l.foldl f none = none
  | [] => rfl
  | b :: l => by
    show l.foldl f (f none b) = none
    rw [h]
    exact foldl_none h l
/-- what comes out at the end was there all along -/
theorem foldl_took {α β : Type} {f : Option α → β → Option α} (h : ∀ b, f none b = none) {l : List β} {o : Option α} {x : α} (e : l.foldl f o = some x) (i : Nat) : ∃ y, (l.take i).foldl f o = some y := by
  cases q : (l.take i).foldl f o with
  | some y => exact ⟨y, rfl⟩
  | none =>
    rw [← List.take_append_drop i l, List.foldl_append, q, foldl_none h] at e
    cases e
theorem foldl_more {α β : Type} {f : Option α → β → Option α} {l : List β} {o : Option α} {i : Nat} {b : β} (h : l[i]? = some b) : (l.take (i + 1)).foldl f o = f ((l.take i).foldl f o) b := by
  rw [SwX.take_more' h, List.foldl_append]
  rfl
section
variable {K : PySem.W.Frag}
def PtAt (H : Hp) : Pt → V → Prop
  | .num n, v => v = .int n
  | .gu g, v => ∃ a, v = .ref a ∧ GTup H g a
theorem pt_keep {H H' : Hp} (k : ∀ a xs, H a = some (.tup xs) → H' a = some (.tup xs)) (p : Pt) (v : V) (h : PtAt H p v) : PtAt H' p v := by
  cases p with
  | num n => exact h
  | gu g =>
    obtain ⟨a, e, h⟩ := h
    exact ⟨a, e, gtup_keep k h⟩
/-! ### words of a guesser -/
theorem words_len : ∀ g : G, (wordsOf g).length + 1 ≤ 3 * 2 ^ g.depth
  | .non => by decide
  | .next _ => by show 2 + 1 ≤ 3 * 2 ^ 0; decide
  | .stride _ => by show 2 + 1 ≤ 3 * 2 ^ 0; decide
  | .pairs _ => by show 2 + 1 ≤ 3 * 2 ^ 0; decide
  | .both a b => by
    have h1 := words_len a
    have h2 := words_len b
    have p1 : 2 ^ a.depth ≤ 2 ^ (max a.depth b.depth) := Nat.pow_le_pow_right (by decide) (by omega)
    have p2 : 2 ^ b.depth ≤ 2 ^ (max a.depth b.depth) := Nat.pow_le_pow_right (by decide) (by omega)
    show (wordsOf a ++ wordsOf b).length + 1 + 1 ≤ 3 * 2 ^ (max a.depth b.depth + 1)
    rw [List.length_append, Nat.pow_succ]
    omega
theorem words_small {g : G} (dp : g.depth ≤ 4) : (wordsOf g).length ≤ 47 := by
  have := words_len g
  have : 2 ^ g.depth ≤ 2 ^ 4 := Nat.pow_le_pow_right (by decide) dp
  omega
def spWordsOf (n : Nat) : Sp := fun vs H Q _ => ∃ a g, vs = [.ref a] ∧ g.ok ∧ g.depth ≤ 4 ∧ g.depth < n ∧ GTup H g a ∧ ∀ H' q, Same H H' → H q = none → H' q = some (.lst ((wordsOf g).map V.str)) → Q (.ref q) H'
def t_words_of (K : PySem.W.Frag) (sp_words_of : Sp) : TS := tMatch (tVar 0) (csCons (mSeq K 3 (msCons (mVal (.str "both")) (msCons (mCap) (msCons (mCap) (msNil))))) [1, 2] (tRet (tOp (rCat) (tOp (rCat) (tLst (tCons (tC (.str "both")) (tNil))) (tCall sp_words_of [] E0 (tCons (tVar 1) (tNil)))) (tCall sp_words_of [] E0 (tCons (tVar 2) (tNil)))))
    (csCons (mSeq K 2 (msCons (mCap) (msCons (mCap) (msNil)))) [3, 4] (tRet (tLst (tCons (tVar 3) (tCons (tCB (rStr1) (tCons (tVar 4) (tNil))) (tNil)))))
    (csCons (mAny) [] (tRet (tLst (tCons (tC (.str "none")) (tNil))))
    (csNil))))
theorem pu_words_of {n : Nat} {vs : List V} {H : Hp} {Q : VK} {E : XK} (h : spWordsOf (n + 1) vs H Q E) : t_words_of K (spWordsOf n) (B Q) (start ["guesser", "one", "other", "word", "number"] vs) H := by
  obtain ⟨a, g, rfl, ok, dp, dn, gt, k⟩ := h
  unfold t_words_of
  walk_at "w"
  have leaf : ∀ (w : Str) (m : Int), m.natAbs.log2 < 1920 → wordsOf g = [w, dig m] → tRet (tLst (tCons (tVar 3) (tCons (tCB (rStr1) (tCons (tVar 4) (tNil))) (tNil)))) (B Q) [some (.ref a), none, none, some (.str w), some (.int m)] H := by
    intro w m hm e
    walk_at "w"
    refine w_strI hm ?_
    refine ⟨small_le (by simp), w_new fun q H1 hq e1 h1 => ?_⟩
    exact k H1 q e1 hq (by rw [e]; exact h1)
  have lg : ∀ m : Int, 1 ≤ m → m ≤ 3 → m.natAbs.log2 < 1920 := fun m h1 h3 => by
    have h : m = 1 ∨ m = 2 ∨ m = 3 := by omega
    rcases h with rfl | rfl | rfl <;> decide +kernel
  cases g with
  | non =>
    have hs : SqT K H a [.str "none"] := .of gt
    walk_at "w"
    refine ⟨small_le (by simp), w_new fun q H1 hq e1 h1 => ?_⟩
    exact k H1 q e1 hq h1
  | next m =>
    have hs : SqT K H a [.str "next", .int m] := .of gt
    walk_at "w"
    refine w_strI (lg m ok.1 ok.2) ?_
    refine ⟨small_le (by simp), w_new fun q H1 hq e1 h1 => ?_⟩
    exact k H1 q e1 hq h1
  | stride m =>
    have hs : SqT K H a [.str "stride", .int m] := .of gt
    walk_at "w"
    refine w_strI (lg m ok.1 ok.2) ?_
    refine ⟨small_le (by simp), w_new fun q H1 hq e1 h1 => ?_⟩
    exact k H1 q e1 hq h1
  | pairs m =>
    have hs : SqT K H a [.str "pairs", .int m] := .of gt
    walk_at "w"
    refine w_strI (lg m ok.1 (by have := ok.2; omega)) ?_
    refine ⟨small_le (by simp), w_new fun q H1 hq e1 h1 => ?_⟩
    exact k H1 q e1 hq h1
  | both x y =>
    obtain ⟨p, q, ha, hp, hq⟩ := gt
    have hs : SqT K H a [.str "both", .ref p, .ref q] := .of ha
    have dd : max x.depth y.depth + 1 ≤ 4 := dp
    have dn' : max x.depth y.depth + 1 < n + 1 := dn
    have lx := words_small (g := x) (by omega)
    have ly := words_small (g := y) (by omega)
    walk_at "w"
    refine ⟨small_le (by simp), w_new fun l0 H1 hl0 e1 h1 => ?_⟩
    walk_at "w"
    refine ⟨p, x, rfl, ok.1, by omega, by omega, gtup_same e1 hp, fun H2 l1 e2 hl1 h2 => ?_⟩
    refine w_cat (e2 _ _ h1) h2 (small_le (by simp; omega)) (w_new fun l2 H3 hl2 e3 h3 => ?_)
    walk_at "w"
    refine ⟨q, y, rfl, ok.2, by omega, by omega, gtup_same (e1.trans (e2.trans e3)) hq, fun H4 l3 e4 hl3 h4 => ?_⟩
    refine w_cat (e4 _ _ h3) h4 (small_le (by simp; omega)) (w_new fun l4 H5 hl4 e5 h5 => ?_)
    refine k H5 l4 (e1.trans (e2.trans (e3.trans (e4.trans e5)))) (e1.free (e2.free (e3.free (e4.free hl4)))) ?_
    rw [h5]
    show some (HO.lst _) = some (HO.lst (((("both" : Str)) :: (wordsOf x ++ wordsOf y)).map V.str))
    rw [List.map_cons, List.map_append]
    rfl
def spWritten : Sp := fun vs H Q _ => ∃ a g, vs = [.ref a] ∧ g.ok ∧ g.depth ≤ 3 ∧ GTup H g a ∧ ∀ H', Same H H' → Q (.str (textOf g)) H'
def t_written (K : PySem.W.Frag) (sp_check_guesser sp_words_of : Sp) : TS := tSeq (tDrop (tCall sp_check_guesser [] E0 (tCons (tVar 0) (tNil))))
  (tRet (tM1 (rJoin K) (tC (.str " ")) (tCall sp_words_of [] E0 (tCons (tVar 0) (tNil)))))
theorem word_le {g : G} (h : Digs g) : ∀ p, p ∈ wordsOf g → p.length ≤ 6 := by
  induction g with
  | non =>
    intro p hp
    rw [List.mem_singleton.mp hp]
    decide +kernel
  | next n =>
    intro p hp
    rcases List.mem_cons.mp hp with rfl | hp
    · decide +kernel
    · rw [List.mem_singleton.mp hp]
      obtain ⟨_, _, e, _⟩ := fig_val (dig_fig h.1 h.2)
      omega
  | stride n =>
    intro p hp
    rcases List.mem_cons.mp hp with rfl | hp
    · decide +kernel
    · rw [List.mem_singleton.mp hp]
      obtain ⟨_, _, e, _⟩ := fig_val (dig_fig h.1 h.2)
      omega
  | pairs n =>
    intro p hp
    rcases List.mem_cons.mp hp with rfl | hp
    · decide +kernel
    · rw [List.mem_singleton.mp hp]
      obtain ⟨_, _, e, _⟩ := fig_val (dig_fig h.1 h.2)
      omega
  | both a b iha ihb =>
    intro p hp
    rcases List.mem_cons.mp hp with rfl | hp
    · decide +kernel
    · rcases List.mem_append.mp hp with hp | hp
      · exact iha h.1 p hp
      · exact ihb h.2 p hp
theorem sum_le6 : ∀ {l : List Str}, (∀ p, p ∈ l → p.length ≤ 6) → (l.map (·.length)).sum ≤ 6 * l.length
  | [], _ => Nat.le_refl _
  | x :: l, h => by
    have h1 := sum_le6 (l := l) fun p hp => h p (List.mem_cons_of_mem _ hp)
    have h2 := h x List.mem_cons_self
    simp only [List.map_cons, List.sum_cons, List.length_cons]
    omega
theorem pu_written {vs : List V} {H : Hp} {Q : VK} {E : XK} (h : spWritten vs H Q E) : t_written K spCheck (spWordsOf 4) (B Q) (start ["guesser"] vs) H := by
  obtain ⟨a, g, rfl, ok, dp, gt, k⟩ := h
  unfold t_written
  walk_at "w"
  refine ⟨a, g, rfl, gt, ok, dp, fun H1 e1 => ?_⟩
  walk_at "w"
  refine ⟨⟨_, rfl⟩, ?_⟩
  walk_at "w"
  refine ⟨a, g, rfl, ok, by omega, by omega, gtup_same e1 gt, fun H2 q e2 hq h2 => ?_⟩
  refine w_join (SqL.of h2) ?_ ?_
  · have h3 := sum_le6 (word_le (digs_ok ok))
    have h4 := words_small (g := g) (by omega)
    show _ + _ * 1 ≤ _
    omega
  · rw [← text_words]
    exact k _ (e1.trans e2)
/-! ### needs -/
def spNeedsOf : Sp := fun vs H Q _ => ∃ w, vs = [.str w] ∧ ∀ H' q, Same H H' → H q = none → H' q = some (.lst ((needsOf w).map V.str)) → Q (.ref q) H'
def t_needs_of (K : PySem.W.Frag) (c_NUMBERED : Addr) : TS := tSeq (tIfS (tTest (tOp (rIn K false) (tVar 0) (tC (.ref c_NUMBERED)))) (tRet (tLst (tCons (tC (.str "number")) (tNil)))) (tNext))
  (tSeq (tIfS (tTest (tOp (rEq) (tVar 0) (tC (.str "both")))) (tRet (tLst (tCons (tC (.str "guesser")) (tCons (tC (.str "guesser")) (tNil))))) (tNext))
  (tRet (tLst (tNil))))
theorem str_eq {a b : Str} : decide (V.str a = V.str b) = decide (a = b) := by
  by_cases h : a = b
  · subst h; simp
  · rw [decide_eq_false h]
    exact decide_eq_false (fun z => h (by injection z))
theorem pu_needs_of {c_N : Addr} (hN : ∀ H, SqT K H c_N (NUMB.map V.str)) {vs : List V} {H : Hp} {Q : VK} {E : XK} (h : spNeedsOf vs H Q E) : t_needs_of K c_N (B Q) (start ["word"] vs) H := by
  obtain ⟨w, rfl, k⟩ := h
  unfold t_needs_of
  walk_at "w"
  refine w_inSt (hN H) ?_
  rw [if_neg (by decide)]
  walk_at "w"
  unfold needsOf at k
  refine w_if2 (fun c => ?_) (fun c => ?_)
  · rw [if_pos c] at k
    walk_at "w"
    refine ⟨small_le (by simp), w_new fun q H1 hq e1 h1 => ?_⟩
    exact k H1 q e1 hq h1
  · rw [if_neg c] at k
    walk_at "w"
    rw [str_eq]
    refine w_if2 (fun c => ?_) (fun c => ?_)
    · rw [if_pos c] at k
      walk_at "w"
      refine ⟨small_le (by simp), w_new fun q H1 hq e1 h1 => ?_⟩
      exact k H1 q e1 hq h1
    · rw [if_neg c] at k
      walk_at "w"
      refine ⟨small_le (by simp), w_new fun q H1 hq e1 h1 => ?_⟩
      exact k H1 q e1 hq h1
def spCanStand : Sp := fun vs H Q _ => ∃ w n, vs = [.str w, .str n] ∧ ∀ H', Same H H' → Q (.bl (canStand w n)) H'
def t_can_stand (K : PySem.W.Frag) (c_FIGURES c_NUMBERED : Addr) : TS := tSeq (tIfS (tTest (tOp (rEq) (tVar 1) (tC (.str "number")))) (tRet (tOp (rIn K false) (tVar 0) (tC (.ref c_FIGURES)))) (tNext))
  (tRet (tOrV (tOp (rIn K false) (tVar 0) (tC (.ref c_NUMBERED))) (tOp (rIn K false) (tVar 0) (tTup (tCons (tC (.str "none")) (tCons (tC (.str "both")) (tNil)))))))
theorem pu_can_stand {c_F c_N : Addr} (hF : ∀ H, SqT K H c_F (FIG.map V.str)) (hN : ∀ H, SqT K H c_N (NUMB.map V.str)) {vs : List V} {H : Hp} {Q : VK} {E : XK} (h : spCanStand vs H Q E) : t_can_stand K c_F c_N (B Q) (start ["word", "need"] vs) H := by
  obtain ⟨w, n, rfl, k⟩ := h
  unfold t_can_stand
  walk_at "w"
  rw [str_eq]
  unfold canStand at k
  refine w_if2 (fun c => ?_) (fun c => ?_)
  · rw [if_pos c] at k
    walk_at "w"
    refine w_inSt (hF H) ?_
    rw [if_neg (by decide)]
    exact k H (Same.refl H)
  · rw [if_neg c] at k
    walk_at "w"
    refine w_inSt (hN H) ?_
    rw [if_neg (by decide)]
    walk_at "w"
    cases e : decide (w ∈ NUMB) with
    | true =>
      rw [e] at k
      rw [if_pos rfl]
      exact k H (Same.refl H)
    | false =>
      rw [e] at k
      rw [if_neg (by decide)]
      walk_at "w"
      refine ⟨small_le (by simp), w_new fun q H1 hq e1 h1 => ?_⟩
      refine w_inSt (l := ["none", "both"]) (.of h1) ?_
      rw [if_neg (by decide)]
      exact k H1 e1
end
end SwD
set_option Elab.async false
set_option linter.all false
set_option maxRecDepth 100000
set_option maxHeartbeats 4000000
namespace SwD
open PySem PySem.Spec PyProof.Rows L2 SwX StX Sw TL
local macro_rules | `(tactic| walk_at "lk") => `(tactic| first | exact lk_at | exact lk_no | ((refine' lk_by (by decide +kernel) ?wq); (case wq => walk_at "lk")))
local macro_rules | `(tactic| walk_at "pf") => `(tactic| first | exact pf_at | exact pf_nil | ((refine' pf_by (by decide +kernel) ?wq); (case wq => walk_at "pf")))
local macro_rules | `(tactic| walk_at "w1") => `(tactic| with_reducible first
  | refine w_seq ?_ | refine w_asg ?_ | refine w_name ?_ | refine w_ret ?_ | refine w_retN ?_ | refine w_drop ?_ | refine w_next ?_ | refine w_if ?_ | refine w_ifE ?_ | refine w_test ?_ | refine w_B ?_ | refine w_bl ?_
  | refine w_not ?_ | refine w_and ?_ | refine w_or ?_ | refine w_andV ?_ | refine w_orV ?_ | refine w_notV ?_ | refine w_isN ?_ | refine w_notN ?_ | refine w_yes ?_
  | refine w_c ?_ | refine w_op ?_ | refine w_un ?_ | refine w_i0 ?_ | refine w_neg ?_ | refine w_nil ?_ | refine w_cons ?_ | refine w_cb ?_ | refine w_call ?_ | refine w_tup ?_ | refine w_lst ?_
  | refine w_fld ?_ | refine w_sfld ?_ | refine w_match ?_ | refine w_case ?_ | refine w_mcons ?_ | refine w_mnil ?_ | refine w_mcap ?_ | refine w_many ?_ | refine w_myes ?_
  | refine w_sub ?_ | refine w_bm ?_ | refine w_sl ?_ | refine w_nopart ?_ | refine w_part ?_ | refine w_int ?_ | refine w_ift ?_ | refine w_iff ?_ | refine w_ifn ?_ | refine w_dget2 ?_ | refine w_star ?_ | refine w_dput ?_ | refine w_dnewK ?_ | refine w_meth ?_ | refine w_oneOf ?_ | refine w_make ?_ | refine w_lc ?_ | refine w_for ?_ | refine w_ilist ?_ | refine w_irng1 ?_ | refine w_irng2 ?_ | refine w_irng3 ?_)
local macro_rules | `(tactic| walk_at "w2") => `(tactic| first
  | ((with_reducible refine' w_var ?wh ?_); (case wh => rfl))
  | ((with_reducible refine' w_eq ?wh ?_); (case wh => rfl))
  | ((with_reducible refine' w_ne ?wh ?_); (case wh => rfl))
  | ((with_reducible refine' w_mno ?wh ?_); (case wh => decide +kernel))
  | ((with_reducible refine' w_mhit ?wh ?wl ?_); (case wh => assumption); (case wl => rfl))
  | ((with_reducible refine' w_mmiss ?wh ?wl ?_); (case wh => assumption); (case wl => simp))
  | ((with_reducible refine' w_fldA ?wh ?wc ?wn ?wl ?_); (case wh => first | assumption | exact upd_same); (case wc => assumption); (case wn => assumption); (case wl => walk_at "lk"))
  | ((with_reducible refine' w_ixl ?wh ?we ?_); (case wh => exact SqL.of (by first | assumption | exact upd_same)); (case we => rfl))
  | ((with_reducible refine' w_ixt ?wh ?we ?_); (case wh => assumption); (case we => rfl))
  | ((with_reducible refine' w_ifT ?wh ?_); (case wh => (with_reducible exact Eq.refl _)))
  | ((with_reducible refine' w_ifF ?wh ?_); (case wh => decide +kernel))
  | ((with_reducible refine' w_isiY ?wh ?wk ?_); (case wh => first | exact .int _ | exact .str _ | exact .lst (by assumption) | exact .tup (by assumption)); (case wk => decide +kernel))
  | ((with_reducible refine' w_isiN ?wh ?wk ?_); (case wh => first | exact .int _ | exact .str _ | exact .lst (by assumption) | exact .tup (by assumption)); (case wk => decide +kernel))
  | ((with_reducible refine' w_ifF ?wh ?_); (case wh => (intro z; cases z; done)))
  | ((with_reducible refine' w_setl ?wh ?we ?wl ?_); (case wh => first | assumption | exact upd_same); (case we => rfl); (case wl => rfl))
  | ((with_reducible refine' w_methA ?wh ?wl ?_); (case wh => first | assumption | exact upd_same); (case wl => walk_at "lk"))
  | ((with_reducible refine' w_sfldB ?wc ?wn ?wz ?wl ?_); (case wc => assumption); (case wn => assumption); (case wz => simp); (case wl => walk_at "pf"))
  | ((with_reducible refine' w_sfldA ?wh ?wc ?wn ?wz ?wl ?_); (case wh => assumption); (case wc => assumption); (case wn => assumption); (case wz => simp); (case wl => walk_at "pf")))
local macro_rules | `(tactic| walk_at "w") => `(tactic| repeat (first | walk_at "w1" | walk_at "w2" | (dsimp only [List.set, setAll, List.append, List.cons_append, List.nil_append])))
local macro_rules | `(tactic| walk_at "w1") => `(tactic| with_reducible first | refine w_rev ?_ | refine w_enum ?_ | refine w_itup' ?_ | refine w_bm0 ?_ | refine w_gcons ?_ | refine w_gnil ?_ | refine w_tm1' ?_ | refine w_tru ?_)
theorem w_orN {c : Bool} {d : TT} {σ : L2.St} {H : Hp} {P : Bool → Hp → Prop} (h : c = true) (k : d σ H P) : if (!c) = true then P true H else d σ H P := by
  rw [h, if_neg (by decide)]
  exact k
section
variable {K : PySem.W.Frag}
theorem stepN_none (w : Str) : stepN none w = none := rfl
theorem stepN_took {o : Option (List Str)} {w : Str} {x : List Str} (h : stepN o w = some x) : ∃ n r, o = some (n :: r) ∧ canStand w n = true ∧ x = needsOf w ++ r := by
  cases o with
  | none => cases h
  | some l =>
    cases l with
    | nil => cases h
    | cons n r =>
      have h : (if canStand w n = true then some (needsOf w ++ r) else none) = some x := h
      by_cases c : canStand w n = true
      · rw [if_pos c] at h
        exact ⟨n, r, rfl, c, (Option.some.inj h).symm⟩
      · rw [if_neg c] at h
        cases h
theorem needs_rev (w : Str) : (needsOf w).reverse = needsOf w := by
  unfold needsOf
  split
  · rfl
  · split
    · rfl
    · rfl
theorem needs_len (w : Str) : (needsOf w).length ≤ 2 := by
  unfold needsOf
  split
  · simp
  · split <;> simp
def spCheckWords (K : PySem.W.Frag) : Sp := fun vs H Q _ => ∃ (a : Addr) (ws : List Str), vs = [.ref a] ∧ SqL K H a (ws.map V.str) ∧ ws.length ≤ 1000 ∧ ws.foldl stepN (some ["guesser"]) = some [] ∧ ∀ H', Same H H' → Q .non H'
theorem foldN_len : ∀ (l : List Str) {a b : List Str}, l.foldl stepN (some a) = some b → b.length ≤ a.length + 2 * l.length
  | [], a, b, h => by
    have : a = b := Option.some.inj h
    subst this
    exact Nat.le_refl _
  | w :: l, a, b, h => by
    have h : l.foldl stepN (stepN (some a) w) = some b := h
    cases e : stepN (some a) w with
    | none =>
      rw [e, foldl_none stepN_none] at h
      cases h
    | some c =>
      rw [e] at h
      have h1 := foldN_len l h
      obtain ⟨n, r, e1, _, e3⟩ := stepN_took e
      have h2 : c.length ≤ a.length + 2 := by
        rw [e3, Option.some.inj e1, List.length_append]
        have := needs_len w
        simp only [List.length_cons]
        omega
      simp only [List.length_cons]
      omega
def t_check_words (K : PySem.W.Frag) (sp_can_stand sp_needs_of : Sp) : TS := tSeq (tAsg (tLst (tCons (tC (.str "guesser")) (tNil))) (gName 1))
  (tSeq (tFor (iEnum K (tCons (tVar 0) (tNil))) (gTup K 2 (gCons (gName 2) (gCons (gName 3) (gNil)))) (tSeq (tIfS (tOr (tNot (tTru K (tVar 1))) (tNot (tB (tCall sp_can_stand [] E0 (tCons (tVar 3) (tCons (tBM0 K "list" rPop (tVar 1)) (tNil))))))) (tNever) (tNext))
  (tDrop (tBM K "list" rExtend (tVar 1) (tCons (tCall sp_needs_of [] E0 (tCons (tVar 3) (tNil))) (tNil))))))
  (tIfS (tTru K (tVar 1)) (tNever) (tNext)))
theorem pu_check_words {vs : List V} {H : Hp} {Q : VK} {E : XK} (h : spCheckWords K vs H Q E) : t_check_words K spCanStand spNeedsOf (B Q) (start ["words", "needs", "place", "word"] vs) H := by
  obtain ⟨a, ws, rfl, hx, hz, hf, k⟩ := h
  unfold t_check_words
  walk_at "w"
  refine ⟨small_le (by simp), w_new fun nl H1 hnl e1 h1 => ?_⟩
  walk_at "w"
  refine w_forenum (fun i σ H' => ∃ v2 v3 needs, σ = [some (.ref a), some (.ref nl), v2, v3] ∧ (ws.take i).foldl stepN (some ["guesser"]) = some needs ∧ H' nl = some (.lst (needs.reverse.map V.str)) ∧ Same H H') (e1.seq hx)
    ⟨_, _, ["guesser"], rfl, rfl, h1, e1⟩ (fun i σ H' _ p => ?_) (fun i x σ H' T H2 hi p hix hT e2 h2 => ?_) (fun σ H' p => ?_)
  · obtain ⟨_, _, _, _, _, _, s⟩ := p
    exact s.seq hx
  · obtain ⟨v2, v3, needs, rfl, hn, hl, s⟩ := p
    obtain ⟨w, hw, rfl⟩ : ∃ w, ws[i]? = some w ∧ x = V.str w := by
      rw [List.getElem?_map] at hix
      cases e : ws[i]? with
      | none => rw [e] at hix; cases hix
      | some w => rw [e] at hix; exact ⟨w, rfl, (Option.some.inj hix).symm⟩
    obtain ⟨needs', hn'⟩ := foldl_took stepN_none hf (i + 1)
    have hn2 := hn'
    rw [foldl_more hw, hn] at hn2
    obtain ⟨n, r, e3, hc, e4⟩ := stepN_took hn2
    have e3 : needs = n :: r := Option.some.inj e3
    subst e3
    refine w_gtup (SqT.of h2) rfl ?_
    walk_at "w"
    have hl2 := e2 _ _ hl
    rw [List.reverse_cons, List.map_append] at hl2
    refine ⟨_, truL (SqL.of hl2), ?_⟩
    refine w_orN (by simp) ?_
    walk_at "w"
    refine ⟨.inl ⟨rfl, _, SqL.of hl2⟩, ?_⟩
    refine w_pop hl2 ?_
    walk_at "w"
    refine ⟨w, n, rfl, fun H3 e5 => ?_⟩
    rw [hc]
    walk_at "w"
    have hl3 := e5 _ _ (show upd H2 nl (.lst (r.reverse.map V.str)) nl = _ from upd_same)
    refine ⟨.inl ⟨rfl, _, SqL.of hl3⟩, ?_⟩
    walk_at "w"
    refine ⟨w, rfl, fun H4 q e6 hq h4 => ?_⟩
    have hl4 := e6 _ _ hl3
    have hlen := foldN_len _ hn'
    have hlen2 : (ws.take (i + 1)).length ≤ ws.length := List.length_take_le' _ _
    walk_at "w"
    refine w_extend hl4 h4 (small_le ?_) ?_
    · rw [List.length_map, List.length_map, List.length_reverse]
      rw [e4, List.length_append] at hlen
      simp only [List.length_cons, List.length_nil] at hlen
      omega
    refine ⟨_, _, needs', rfl, hn', ?_, fun b o hb => ?_⟩
    · rw [upd_same, e4, List.reverse_append, needs_rev, List.map_append]
    · have nb : b ≠ nl := fun z => by rw [z, hnl] at hb; cases hb
      rw [upd_ne nb]
      refine e6 _ _ (e5 _ _ ?_)
      rw [upd_ne nb]
      exact e2 _ _ (s _ _ hb)
  · obtain ⟨v2, v3, needs, rfl, hn, hl, s⟩ := p
    rw [List.length_map, List.take_length, hf] at hn
    have hn := Option.some.inj hn
    subst hn
    walk_at "w"
    refine ⟨_, truL (SqL.of hl), ?_⟩
    refine w_iff ?_
    walk_at "w"
    exact k _ s
/-! ### made -/
def spMadeOf (K : PySem.W.Frag) : Sp := fun vs H Q _ => ∃ (a : Addr) (ws : List Str) (g : G), vs = [.ref a] ∧ SqL K H a (ws.map V.str) ∧ ws.length ≤ 1000 ∧ ws.reverse.foldl stepO (some []) = some [.gu g] ∧ ∀ H' p, Same H H' → GTup H' g p → Q (.ref p) H'
theorem foldO_len : ∀ (l : List Str) {a b : List Pt}, l.foldl stepO (some a) = some b → b.length ≤ a.length + l.length
  | [], a, b, h => by
    have : a = b := Option.some.inj h
    subst this
    exact Nat.le_refl _
  | w :: l, a, b, h => by
    have h : l.foldl stepO (stepO (some a) w) = some b := h
    cases e : stepO (some a) w with
    | none =>
      rw [e, foldl_none (fun _ => rfl)] at h
      cases h
    | some c =>
      rw [e] at h
      have h1 := foldO_len l h
      have h2 : c.length ≤ a.length + 1 := by
        rw [stepO_some] at e
        split at e
        · rw [← Option.some.inj e]; simp
        · split at e
          · split at e
            · rw [← Option.some.inj e]; simp
            · cases e
          · split at e
            · split at e
              · rw [← Option.some.inj e]; simp
              · cases e
            · split at e
              · rw [← Option.some.inj e]; simp
              · cases e
      simp only [List.length_cons]
      omega
theorem numb_not_fig {w : Str} (h : w ∈ NUMB) : w ∉ FIG := by
  have h : w = "next" ∨ w = "stride" ∨ w = "pairs" := by simpa [NUMB] using h
  rcases h with rfl | rfl | rfl <;> decide +kernel
/-- the parts that a word takes: pops from the top -/
theorem taken_of {w : Str} {a pl : Addr} {H1 : Hp} {us : List V} {s0 s2 s3 s4 : Option V} {Q : VK} (hl : H1 pl = some (.lst us.reverse)) (hu : (needsOf w).length ≤ us.length)
    (k : ∀ D H', H1 D = none → H' D = some (.lst (us.take (needsOf w).length)) → H' pl = some (.lst (us.drop (needsOf w).length).reverse) → (∀ b o, b ≠ pl → H1 b = some o → H' b = some o) → Q (.ref D) H') :
    tLc (iList K (tCall spNeedsOf [] E0 (tCons (tVar 2) (tNil)))) (gName 4) (tYes) (tBM0 K "list" rPop (tVar 1)) [4] [s0, some (.ref pl), some (.str w), s3, s4] H1 Q := by
  walk_at "w"
  refine ⟨w, rfl, fun H2 q e2 hq h2 => ?_⟩
  have hl2 := e2 _ _ hl
  have npq : pl ≠ q := fun z => by rw [z, hq] at hl; cases hl
  refine w_lclP (fun D acc H' => D ≠ pl ∧ H' pl = some (.lst (us.drop acc.length).reverse) ∧ acc = us.take acc.length ∧ (∀ b o, b ≠ pl → H2 b = some o → H' b = some o)) (SqL.of h2) (fun _ => rfl) (fun D hD => ?_) (fun D acc H' hD p => ?_) (fun D acc x H' hD hle hx hacc p => ?_) (fun D acc H' hD hlen hacc p => ?_)
  · have nD : D ≠ pl := fun z => by rw [z, hl2] at hD; cases hD
    exact ⟨nD, by rw [upd_ne nD.symm]; exact hl2, rfl, fun b o _ hb => same_upd hD _ _ hb⟩
  · exact SqL.of (p.2.2.2 q _ npq.symm h2)
  · obtain ⟨nD, h3, ha, h5⟩ := p
    rw [List.length_map] at hle
    have hlt : acc.length < (needsOf w).length := by
      have := (List.getElem?_eq_some_iff.mp hx).1
      rw [List.length_map] at this
      exact this
    have hlt2 : acc.length < us.length := by omega
    have ed : us.drop acc.length = us[acc.length] :: us.drop (acc.length + 1) := List.drop_eq_getElem_cons hlt2
    walk_at "w"
    rw [ed, List.reverse_cons] at h3
    refine ⟨.inl ⟨rfl, _, SqL.of h3⟩, ?_⟩
    refine w_pop h3 ?_
    have hacc' : upd H' pl (.lst (us.drop (acc.length + 1)).reverse) D = some (.lst acc) := by rw [upd_ne nD]; exact hacc
    have e9 : (acc ++ [us[acc.length]]).length = acc.length + 1 := by rw [List.length_append]; rfl
    refine ⟨acc, hacc', small_lt (by have := needs_len w; omega), acc ++ [us[acc.length]], e9, upd_same, nD, ?_, ?_, fun b o nb hb => ?_⟩
    · rw [upd_ne nD.symm, upd_same, e9]
    · have e10 : us.take (acc.length + 1) = us.take acc.length ++ [us[acc.length]] := by
        rw [List.take_add_one, List.getElem?_eq_getElem hlt2]
        rfl
      rw [e9, e10, ← ha]
    · have nbD : b ≠ D := fun z => by rw [z, hD] at hb; cases hb
      rw [upd_ne nbD, upd_ne nb]
      exact h5 b o nb hb
  · obtain ⟨nD, h3, ha, h5⟩ := p
    rw [List.length_map] at hlen
    rw [hlen] at h3 ha
    refine k D H' (e2.free hD) (by rw [hacc, ha]) h3 (fun b o nb hb => h5 b o nb (e2 _ _ hb))
def t_made (K : PySem.W.Frag) (c_FIGURES : Addr) (sp_needs_of : Sp) : TS := tSeq (tAsg (tLst (tNil)) (gName 1))
  (tSeq (tFor (iRev K (tCons (tVar 0) (tNil))) (gName 2) (tIfS (tTest (tOp (rIn K false) (tVar 2) (tC (.ref c_FIGURES)))) (tDrop (tBM K "list" rAppend (tVar 1) (tCons (tCB (rIntS) (tCons (tVar 2) (tNil))) (tNil)))) (tSeq (tAsg (tLc (iList K (tCall sp_needs_of [] E0 (tCons (tVar 2) (tNil)))) (gName 4) (tYes) (tBM0 K "list" rPop (tVar 1)) [4]) (gName 3))
  (tDrop (tBM K "list" rAppend (tVar 1) (tCons (tTup (tCons (tVar 2) (tStar K (tVar 3) (tNil)))) (tNil)))))))
  (tRet (tBM0 K "list" rPop (tVar 1))))
theorem pu_made {c_F : Addr} (hF : ∀ H, SqT K H c_F (FIG.map V.str)) {vs : List V} {H : Hp} {Q : VK} {E : XK} (h : spMadeOf K vs H Q E) : t_made K c_F spNeedsOf (B Q) (start ["words", "parts", "word", "taken", "_"] vs) H := by
  obtain ⟨a, ws, g, rfl, hx, hz, hf, k⟩ := h
  unfold t_made
  walk_at "w"
  refine ⟨small_le (by simp), w_new fun pl H1 hpl e1 h1 => ?_⟩
  walk_at "w"
  refine w_forrev (fun i σ H' => ∃ v2 v3 v4 st us, σ = [some (.ref a), some (.ref pl), v2, v3, v4] ∧ (ws.reverse.take i).foldl stepO (some []) = some st ∧ H' pl = some (.lst us.reverse) ∧ All2 (PtAt H') st us ∧ Same H H') (e1.seq hx)
    ⟨_, _, _, [], [], rfl, rfl, h1, .nil, e1⟩ (fun i σ H' _ p => ?_) (fun i x σ H' hi p hix => ?_) (fun σ H' p => ?_)
  · obtain ⟨_, _, _, _, _, _, _, _, _, s⟩ := p
    exact s.seq hx
  · obtain ⟨v2, v3, v4, st, us, rfl, hst, hl, hall, s⟩ := p
    obtain ⟨w, hw, rfl⟩ : ∃ w, ws.reverse[i]? = some w ∧ x = V.str w := by
      rw [← List.map_reverse, List.getElem?_map] at hix
      cases e : ws.reverse[i]? with
      | none => rw [e] at hix; cases hix
      | some w => rw [e] at hix; exact ⟨w, rfl, (Option.some.inj hix).symm⟩
    obtain ⟨st', hst'⟩ := foldl_took (fun _ => rfl) hf (i + 1)
    have hs2 := hst'
    rw [foldl_more hw, hst, stepO_some] at hs2
    have hus : us.length ≤ 1000 := by
      have h3 := foldO_len _ hst
      have h4 : (ws.reverse.take i).length ≤ ws.reverse.length := List.length_take_le' _ _
      rw [List.length_reverse] at h4
      have h5 := hall.len
      simp only [List.length_nil] at h3
      omega
    -- the end of a turn
    have fin : ∀ (H4 : Hp) (us' : List V) (st2 : List Pt) (p : Pt) (y : V) (u3 u4 : Option V), some (p :: st2) = some st' → H4 pl = some (.lst us'.reverse) → us'.length ≤ 1000 → All2 (PtAt H4) st2 us' → PtAt H4 p y → Same H H4 →
        ∃ v2 v3 v4 st us, [some (V.ref a), some (V.ref pl), some (V.str w), u3, u4] = [some (V.ref a), some (V.ref pl), v2, v3, v4] ∧ (ws.reverse.take (i + 1)).foldl stepO (some []) = some st ∧ upd H4 pl (.lst (us'.reverse ++ [y])) pl = some (.lst us.reverse) ∧ All2 (PtAt (upd H4 pl (.lst (us'.reverse ++ [y])))) st us ∧ Same H (upd H4 pl (.lst (us'.reverse ++ [y]))) := by
      intro H4 us' st2 p y u3 u4 ep h4 hu4 ha4 hp4 s4
      have tk : ∀ b xs, H4 b = some (.tup xs) → upd H4 pl (.lst (us'.reverse ++ [y])) b = some (.tup xs) := fun b xs hb => by
        rw [upd_ne (ne_of hb h4 (fun z => nomatch z))]
        exact hb
      refine ⟨_, _, _, st', y :: us', rfl, hst', by rw [upd_same, List.reverse_cons], ?_, fun b o hb => ?_⟩
      · rw [← Option.some.inj ep]
        exact .cons (pt_keep tk _ _ hp4) (ha4.imp (pt_keep tk))
      · rw [upd_ne (fun z => by rw [z, hpl] at hb; cases hb)]
        exact s4 b o hb
    walk_at "w"
    refine w_inSt (hF H') ?_
    rw [if_neg (show ¬ (false = true) by decide)]
    walk_at "w"
    refine w_if2 (fun c => ?_) (fun c => ?_)
    · rw [if_pos c] at hs2
      obtain ⟨n, hn, hn1, _⟩ := fig_val c
      rw [hn] at hs2
      walk_at "w"
      refine ⟨.inl ⟨rfl, _, SqL.of hl⟩, ?_⟩
      walk_at "w"
      refine w_intS hn (by omega) ?_
      walk_at "w"
      refine w_app hl (small_lt (by rw [List.length_reverse]; omega)) ?_
      exact fin H' us st (.num n) (.int n) _ _ hs2 hl hus hall rfl s
    · rw [if_neg c] at hs2
      refine w_seq (w_asg ?_)
      -- behind the comprehension
      have rest : ∀ (m : Nat), m = (needsOf w).length → m ≤ us.length → m ≤ 2 → (∀ (H4 : Hp) (p : Addr), H4 p = some (.tup (.str w :: us.take m)) → (∀ b xs, H' b = some (.tup xs) → H4 b = some (.tup xs)) → ∃ q st2, some (q :: st2) = some st' ∧ st2 = st.drop m ∧ PtAt H4 q (.ref p)) →
          tLc (iList K (tCall spNeedsOf [] E0 (tCons (tVar 2) (tNil)))) (gName 4) (tYes) (tBM0 K "list" rPop (tVar 1)) [4] [some (.ref a), some (.ref pl), some (.str w), v3, v4] H' fun x H1 => gName 3 x [some (.ref a), some (.ref pl), some (.str w), v3, v4] H1
            (tDrop (tBM K "list" rAppend (tVar 1) (tCons (tTup (tCons (tVar 2) (tStar K (tVar 3) (tNil)))) (tNil))) { nx := fun σ H' => ∃ v2 v3 v4 st us, σ = [some (V.ref a), some (V.ref pl), v2, v3, v4] ∧ (ws.reverse.take (i + 1)).foldl stepO (some []) = some st ∧ H' pl = some (.lst us.reverse) ∧ All2 (PtAt H') st us ∧ Same H H', rt := Q }) := by
        intro m em hm hm2 hk
        subst em
        refine taken_of (s2 := none) (a := a) hl hm (fun D H3 hD h3 h3p o3 => ?_)
        have s3 : Same H H3 := fun b o hb => o3 b o (fun z => by rw [z, hpl] at hb; cases hb) (s b o hb)
        have tk3 : ∀ b xs, H' b = some (.tup xs) → H3 b = some (.tup xs) := fun b xs hb => o3 b _ (ne_of hb hl (fun z => nomatch z)) hb
        walk_at "w"
        refine ⟨.inl ⟨rfl, _, SqL.of h3p⟩, ?_⟩
        walk_at "w"
        refine ⟨D, _, rfl, .inr (SqL.of h3), ?_⟩
        walk_at "w"
        rw [List.append_nil]
        refine ⟨small_le (by simp only [List.length_cons, List.length_take]; omega), w_new fun t H4 ht e4 h4 => ?_⟩
        walk_at "w"
        refine w_app (e4 _ _ h3p) (small_lt (by rw [List.length_reverse, List.length_drop]; omega)) ?_
        obtain ⟨q, st2, e5, e6, hq⟩ := hk H4 t h4 (fun b xs hb => e4 _ _ (tk3 b xs hb))
        refine fin H4 (us.drop (needsOf w).length) st2 q (.ref t) _ _ e5 (e4 _ _ h3p) (by rw [List.length_drop]; omega) ?_ hq (s3.trans e4)
        rw [e6]
        have : ∀ (n : Nat) {xs : List Pt} {vs : List V}, All2 (PtAt H4) xs vs → All2 (PtAt H4) (xs.drop n) (vs.drop n) := by
          intro n
          induction n with
          | zero => intro xs vs h; exact h
          | succ n ih =>
            intro xs vs h
            cases h with
            | nil => exact .nil
            | cons _ t => exact ih t
        exact this _ (hall.imp (pt_keep fun b xs hb => e4 _ _ (tk3 b xs hb)))
      by_cases c1 : w ∈ NUMB
      · rw [if_pos c1] at hs2
        have en : needsOf w = [("number" : Str)] := if_pos c1
        cases st with
        | nil => cases hs2
        | cons p r =>
          cases p with
          | gu _ => cases hs2
          | num n =>
            cases hall with
            | cons hv hrest =>
              have hv : _ = V.int n := hv
              subst hv
              refine rest 1 (by rw [en]; rfl) (by simp) (by decide) (fun H4 p h4 _ => ⟨.gu (mkN w n), r, hs2, rfl, p, rfl, ?_⟩)
              have c2 : w = "next" ∨ w = "stride" ∨ w = "pairs" := by simpa [NUMB] using c1
              rcases c2 with rfl | rfl | rfl
              · rw [show mkN "next" n = .next n from if_pos rfl]
                exact h4
              · rw [show mkN "stride" n = .stride n from by unfold mkN; rw [if_neg (by decide +kernel), if_pos rfl]]
                exact h4
              · rw [show mkN "pairs" n = .pairs n from by unfold mkN; rw [if_neg (by decide +kernel), if_neg (by decide +kernel)]]
                exact h4
      · rw [if_neg c1] at hs2
        by_cases c2 : w = "both"
        · rw [if_pos c2] at hs2
          have en : needsOf w = [("guesser" : Str), "guesser"] := by
            unfold needsOf
            rw [if_neg c1, if_pos c2]
          cases st with
          | nil => cases hs2
          | cons p r =>
            cases p with
            | num _ => cases hs2
            | gu x =>
              cases r with
              | nil => cases hs2
              | cons p2 r =>
                cases p2 with
                | num _ => cases hs2
                | gu y =>
                  cases hall with
                  | cons hv hrest =>
                    cases hrest with
                    | cons hv2 hrest =>
                      obtain ⟨px, rfl, gx⟩ := hv
                      obtain ⟨py, rfl, gy⟩ := hv2
                      refine rest 2 (by rw [en]; rfl) (by simp) (by decide) (fun H4 p h4 tk4 => ⟨.gu (.both x y), r, hs2, rfl, p, rfl, px, py, ?_, gtup_keep tk4 gx, gtup_keep tk4 gy⟩)
                      rw [c2] at h4
                      exact h4
        · rw [if_neg c2] at hs2
          by_cases c3 : w = "none"
          · rw [if_pos c3] at hs2
            have en : needsOf w = [] := by
              unfold needsOf
              rw [if_neg c1, if_neg c2]
            refine rest 0 (by rw [en]; rfl) (by omega) (by decide) (fun H4 p h4 _ => ⟨.gu .non, st, hs2, rfl, p, rfl, ?_⟩)
            rw [c3] at h4
            exact h4
          · rw [if_neg c3] at hs2
            cases hs2
  · obtain ⟨v2, v3, v4, st, us, rfl, hst, hl, hall, s⟩ := p
    rw [List.length_map, List.take_of_length_le (by rw [List.length_reverse]; exact Nat.le_refl _), hf] at hst
    have hst := Option.some.inj hst
    subst hst
    cases hall with
    | cons hv hr =>
      cases hr
      obtain ⟨p, rfl, gp⟩ := hv
      walk_at "w"
      refine ⟨.inl ⟨rfl, _, SqL.of hl⟩, ?_⟩
      refine w_pop (xs := []) hl ?_
      refine k _ p (fun b o hb => ?_) (gtup_keep (fun b xs hb => ?_) gp)
      · rw [upd_ne (fun z => by rw [z, hpl] at hb; cases hb)]
        exact s b o hb
      · rw [upd_ne (ne_of hb hl (fun z => nomatch z))]
        exact hb
/-! ### read -/
def spRead : Sp := fun vs H Q _ => ∃ g, vs = [.str (textOf g)] ∧ g.ok ∧ g.depth ≤ 3 ∧ ∀ H' a, Same H H' → GTup H' g a → Q (.ref a) H'
def t_read (sp_check_words sp_made sp_check_guesser : Sp) : TS := tSeq (tAsg (tM1 rSplit (tVar 0) (tC (.str " "))) (gName 1))
  (tSeq (tDrop (tCall sp_check_words [] E0 (tCons (tVar 1) (tNil))))
  (tSeq (tAsg (tCall sp_made [] E0 (tCons (tVar 1) (tNil))) (gName 2))
  (tSeq (tDrop (tCall sp_check_guesser [] E0 (tCons (tVar 2) (tNil))))
  (tRet (tVar 2)))))
theorem pu_read {vs : List V} {H : Hp} {Q : VK} {E : XK} (h : spRead vs H Q E) : t_read (spCheckWords K) (spMadeOf K) spCheck (B Q) (start ["text", "words", "guesser"] vs) H := by
  obtain ⟨g, rfl, ok, dp, k⟩ := h
  have dg := digs_ok ok
  have hl := words_small (g := g) (by omega)
  unfold t_read
  walk_at "w"
  refine ⟨⟨_, rfl⟩, ?_⟩
  walk_at "w"
  refine w_split (by decide +kernel) (small_le (by have := text_small ok (by omega); omega)) (w_new fun l H1 hl1 e1 h1 => ?_)
  rw [text_split dg] at h1
  walk_at "w"
  refine ⟨l, wordsOf g, rfl, SqL.of h1, by omega, check_words_of dg [], fun H2 e2 => ?_⟩
  walk_at "w"
  refine ⟨l, wordsOf g, g, rfl, SqL.of (e2 _ _ h1), by omega, made_of dg [], fun H3 p e3 gp => ?_⟩
  walk_at "w"
  refine ⟨p, g, rfl, gp, ok, dp, fun H4 e4 => ?_⟩
  walk_at "w"
  exact k H4 p (e1.trans (e2.trans (e3.trans e4))) (gtup_same e4 gp)
end
end SwD
set_option Elab.async false
set_option linter.all false
set_option maxRecDepth 100000
set_option maxHeartbeats 2000000
namespace SwX
open PySem PySem.Spec PyProof.Rows L2 StX
section
variable {K : PySem.W.Frag} {σ : L2.St} {H : Hp} {Q : VK} {te ta tb td ty : TE} {tt : TT} {g : TG} {vs : List Nat} {j : Nat}
theorem w_dget (k : td σ H fun x H1 => ty σ H1 fun y H2 => ∃ a v, x = .ref a ∧ DGet H2 a y (some v) ∧ Q v H2) : tDGet td ty σ H Q := k
theorem w_dgetI {P : V → Prop} {a : Addr} {kvs : List (Key × V)} {i : Int} {v : V} (h : H a = some (.dK kvs) ∨ ∃ o, H a = some (.frz o (.dK kvs))) (e : valV kvs (Sum.inl i : Key) = some v) (k : P v) : ∃ a' v', V.ref a = .ref a' ∧ DGet H a' (.int i) (some v') ∧ P v' :=
  ⟨a, v, rfl, .inl ⟨kvs, Sum.inl i, h, rfl, e.symm⟩, k⟩
theorem w_dpop (k : td σ H fun x H1 => ∃ a, x = .ref a ∧ IsD H1 a ∧ ty σ H1 fun y H2 => ∃ kvs k v, H2 a = some (.dK kvs) ∧ y = kV k ∧ valV kvs k = some v ∧ Q v (upd H2 a (.dK (dropK kvs k)))) : tDPop1 td ty σ H Q := k
theorem w_putI {P : Hp → Prop} {a : Addr} {kvs : List (Key × V)} {i : Int} {v : V} (h : H a = some (.dK kvs)) (z : kvs.length < sizeLine) (k : P (upd H a (.dK (putK kvs (Sum.inl i : Key) v)))) : ∃ a' H4, V.ref a = .ref a' ∧ DPut H a' (.int i) v H4 ∧ P H4 :=
  ⟨a, _, rfl, .inl ⟨kvs, Sum.inl i, h, rfl, z, rfl⟩, k⟩
theorem w_putS {P : Hp → Prop} {a : Addr} {kvs kvs' : List (Key × V)} {s : Str} {v : V} (h : H a = some (.dK kvs)) (z : kvs.length < sizeLine) (e : putK kvs (Sum.inr s : Key) v = kvs') (k : P (upd H a (.dK kvs'))) : ∃ a' H4, V.ref a = .ref a' ∧ DPut H a' (.str s) v H4 ∧ P H4 :=
  ⟨a, _, rfl, .inl ⟨kvs, Sum.inr s, h, rfl, z, rfl⟩, by rw [e]; exact k⟩
theorem w_din (k : ty σ H fun y H1 => td σ H1 fun x H2 => ∃ a o, x = .ref a ∧ DGet H2 a y o ∧ Q (.bl o.isSome) H2) : tDIn ty td σ H Q := k
theorem w_dinI {P : Option V → Prop} {a : Addr} {kvs : List (Key × V)} {i : Int} (h : H a = some (.dK kvs) ∨ ∃ o, H a = some (.frz o (.dK kvs))) (k : P (valV kvs (Sum.inl i : Key))) : ∃ a' o, V.ref a = .ref a' ∧ DGet H a' (.int i) o ∧ P o :=
  ⟨a, _, rfl, .inl ⟨kvs, Sum.inl i, h, rfl, rfl⟩, k⟩
theorem w_ikeys {tl : TE} {R : It → Hp → Prop} (k : tl σ H fun x H1 => ∃ d o, x = .ref d ∧ ((∃ kvs, H1 d = some (.frz o (.dK kvs)) ∧ R (Itk d o kvs) H1) ∨ ∃ kvs, H1 d = some (.frz o (.dT kvs)) ∧ R (Itkt d o kvs) H1)) : iKeys tl σ H R := k
theorem w_lck {d : Addr} {od : Obj} {kvs : List (Key × V)} (f : V → Bool) (gv : V → V) (hx : H d = some (.frz od (.dK kvs))) (hz : kvs.length < sizeLine) (hw : ∀ x, wipe ((wipe σ vs).set j (some x)) vs = wipe σ vs)
    (ht : ∀ k, k ∈ kvs.map (·.1) → ∀ H', Same H H' → ∀ R : Bool → Hp → Prop, (∀ H2, Same H' H2 → R (f (kV k)) H2) → tt ((wipe σ vs).set j (some (kV k))) H' R) (he : ∀ k, k ∈ kvs.map (·.1) → f (kV k) = true → ∀ H', Same H H' → ∀ R : VK, (∀ H2, Same H' H2 → R (gv (kV k)) H2) → te ((wipe σ vs).set j (some (kV k))) H' R)
    (k : ∀ p H', H p = none → Same H H' → H' p = some (.lst (added f gv (kvs.map fun kv => kV kv.1))) → Q (.ref p) H') : lcK (Itk d od kvs) (gName j) tt te vs σ H Q := fun Dl hD => by
  let src := kvs.map fun kv => kV kv.1
  have hl : src.length = kvs.length := by simp [src]
  refine ⟨fun i n H' => i + n = kvs.length ∧ H Dl = none ∧ Same H H' ∧ H' Dl = some (.lst (added f gv (src.take i))), ⟨kvs.length, by omega, hD, same_upd hD, upd_same⟩, fun i n H' p => ?_⟩
  obtain ⟨e, p⟩ := p
  by_cases c : i < kvs.length
  · refine .inr ⟨⟨p.2.1 _ _ hx, c⟩, fun H2 => H Dl = none ∧ Same H H2 ∧ H2 Dl = some (.lst (added f gv (src.take (i + 1)))), fun H2 p2 => ⟨n - 1, by omega, by omega, p2⟩, fun x H2 y => ?_⟩
    obtain ⟨rfl, k0, v0, hk, rfl⟩ := y
    have hi : src[i]? = some (kV k0) := by
      show (kvs.map _)[i]? = _
      rw [List.getElem?_map, hk]
      rfl
    have hm : k0 ∈ kvs.map (·.1) := List.mem_map.mpr ⟨(k0, v0), List.mem_of_getElem? hk, rfl⟩
    exact ⟨hw _, lc_turn hi (by rw [hl]; exact hz) (fun H1 => ht k0 hm H1) (fun c H1 => he k0 hm c H1) p⟩
  · refine .inl ⟨⟨p.2.1 _ _ hx, by omega⟩, k Dl H' p.1 p.2.1 ?_⟩
    have e2 := p.2.2
    rw [List.take_of_length_le (by omega)] at e2
    exact e2
end
abbrev rLenD : RCall := fun xs H Q => ∃ (d : Addr) (kvs : List (Key × V)), xs = [.ref d] ∧ H d = some (.dK kvs) ∧ Q (.int kvs.length) H
end SwX
namespace SwX
open PySem PySem.Spec PyProof.Rows L2 StX
section
variable {σ : L2.St} {H : Hp} {Q : VK}
theorem w_lock {t : TE} {d : Addr} {u : HO} (h : H d = some u) (hm : Mut (some u)) (k : ∀ od : Obj, t σ (upd H d (.frz od u)) fun v H' => H' d = some (.frz od u) ∧ Q v (upd H' d u)) : tLockE t σ H Q := ⟨d, u, h, hm, k⟩
/-- under the lock nothing changed but what is new: neither behind it -/
theorem unlock {H H' : Hp} {d : Addr} {od : Obj} {u : HO} (h : H d = some u) (e : Same (upd H d (.frz od u)) H') : Same H (upd H' d u) := fun b o hb => by
  by_cases c : b = d
  · rw [c, h] at hb
    rw [c, upd_same]
    exact hb
  · rw [upd_ne c]
    exact e b o (by rw [upd_ne c]; exact hb)
end
end SwX

namespace SwX
open PySem PySem.Spec PyProof.Rows L2 StX
/-! ### o.f among the targets of an unpacking -/
def gFld (K : PySem.W.Frag) (ta : TE) (f : Str) : TG := fun v σ H P => ta σ H fun x H1 => ∃ a C dx fs, x = .ref a ∧ H1 a = some (.ins C dx fs) ∧ Cls K C ∧ NoAttr K C f ∧ fs.length < 1000 ∧ P σ (upd H1 a (.ins C dx (L2.putF f v fs)))
theorem pg_fld {X : Cx} {o : Expr} {f : Str} {pos : Pos} {ta : TE} (ho : PE X o ta) : PG X (.Attribute o f pos) (gFld X.K ta f) := by
  refine ⟨fun pins s σ H v u Q I r h => ?_⟩
  rw [assign_Attribute]
  refine wpAny_bind (wpAny_holding (thn (ho.run pins s σ H _ I h) fun ov s1 ⟨x, H1, I1, r1, a, C, dx, fs, ex, ea, c, n, l, q⟩ => ?_))
  subst ex
  obtain rfl : ov = Value.ref a := r1
  refine wpAny_bind (wpAny_standAt (wpAny_bind (wpAny_holding (setattr_ok I1 ea c n l r fun s2 I2 => wpAny_release ⟨σ, _, I2, q⟩))))
/-! ### xs.count(text) -/
def rCntS (K : PySem.W.Frag) : V → List V → Hp → VK → Prop := fun x xs H Q => ∃ (p : Addr) (ys : List Str) (k : Str), x = .ref p ∧ xs = [.str k] ∧ SqL K H p (ys.map V.str) ∧ Q (.int (ys.count k : Nat)) H
theorem countIn_strs (k : Str) : ∀ ys : List Str, countIn (.str k) (ys.map PyData.str) = ((ys.count k : Nat) : Int)
  | [] => rfl
  | y :: r => by
    show (if same (.str y) (.str k) = true then 1 else 0) + countIn (.str k) (r.map PyData.str) = _
    rw [countIn_strs k r, List.count_cons]
    have e : same (.str y) (.str k) = (y == k) := rfl
    rw [e]
    by_cases h : (y == k) = true
    · rw [if_pos h, if_pos h]; omega
    · rw [if_neg h, if_neg h]; omega
theorem mt_lcountS {X : Cx} : MtR X "list.count" (rCntS X.K) := by
  intro pins s σ H x xs v us Q I rx rxs h
  obtain ⟨p, ys, k, rfl, rfl, hs, q⟩ := h
  cases rx
  obtain ⟨u, rfl, ru⟩ := rxs.one
  obtain ⟨t, rfl⟩ := ru
  obtain ⟨its, rv, hp, hlen⟩ := I.list hs
  refine count_list_strs hp.isList (strs_of_vals rv) ?_
  refine ⟨.int (ys.count k : Nat), H, I.tok _, ⟨s.toks, ?_⟩, q⟩
  rw [countIn_strs]
section
variable {K : PySem.W.Frag} {σ : L2.St} {H : Hp} {Q : VK} {D : Ends} {te ta tb td ty : TE} {tt : TT} {g : TG} {vs : List Nat} {j : Nat} {v : V}
theorem w_gfld {f : Str} {P : L2.St → Hp → Prop} (k : ta σ H fun x H1 => ∃ a C dx fs, x = .ref a ∧ H1 a = some (.ins C dx fs) ∧ Cls K C ∧ NoAttr K C f ∧ fs.length < 1000 ∧ P σ (upd H1 a (.ins C dx (L2.putF f v fs)))) : gFld K ta f v σ H P := k
theorem w_gfldA {f : Str} {P : L2.St → Hp → Prop} {i : Nat} {a C dx : Addr} {fs fs' : List (Str × V)} (hv : σ[i]? = some (some (.ref a))) (h : H a = some (.ins C dx fs)) (c : Cls K C) (n : NoAttr K C f) (z : fs.length < 1000) (l : L2.putF f v fs = fs') (k : P σ (upd H a (.ins C dx fs'))) : gFld K (tVar i) f v σ H P :=
  ⟨.ref a, hv, a, C, dx, fs, rfl, h, c, n, z, by rw [l]; exact k⟩
theorem w_gfldB {f : Str} {P : L2.St → Hp → Prop} {i : Nat} {a C dx : Addr} {fs fs' : List (Str × V)} (hv : σ[i]? = some (some (.ref a))) (c : Cls K C) (n : NoAttr K C f) (z : fs.length < 1000) (l : L2.putF f v fs = fs') (k : P σ (upd H a (.ins C dx fs'))) : gFld K (tVar i) f v σ (upd H a (.ins C dx fs)) P :=
  ⟨.ref a, hv, a, C, dx, fs, rfl, upd_same, c, n, z, by rw [l, upd_upd]; exact k⟩
theorem w_ddel (k : td σ H fun x H1 => ty σ H1 fun y H2 => ∃ a kvs k, x = .ref a ∧ H2 a = some (.dK kvs) ∧ y = kV k ∧ (valV kvs k).isSome = true ∧ D.nx σ (upd H2 a (.dK (dropK kvs k)))) : sDDel td ty D σ H := k
theorem w_ddelI {P : Hp → Prop} {a : Addr} {kvs : List (Key × V)} {i : Int} (h : H a = some (.dK kvs)) (z : (valV kvs (Sum.inl i : Key)).isSome = true) (k : P (upd H a (.dK (dropK kvs (Sum.inl i : Key))))) : ∃ a' kvs' k', V.ref a = .ref a' ∧ H a' = some (.dK kvs') ∧ V.int i = kV k' ∧ (valV kvs' k').isSome = true ∧ P (upd H a' (.dK (dropK kvs' k'))) :=
  ⟨a, kvs, Sum.inl i, rfl, h, rfl, z, k⟩
theorem w_dpopI {P : V → Hp → Prop} {a : Addr} {kvs : List (Key × V)} {i : Int} {v : V} (h : H a = some (.dK kvs)) (e : valV kvs (Sum.inl i : Key) = some v) (k : P v (upd H a (.dK (dropK kvs (Sum.inl i : Key))))) : ∃ kvs' k' v', H a = some (.dK kvs') ∧ V.int i = kV k' ∧ valV kvs' k' = some v' ∧ P v' (upd H a (.dK (dropK kvs' k'))) :=
  ⟨kvs, Sum.inl i, v, h, rfl, e, k⟩
theorem w_lenD {d : Addr} {kvs : List (Key × V)} (h : H d = some (.dK kvs)) (k : Q (.int kvs.length) H) : rLenD [.ref d] H Q := ⟨d, kvs, rfl, h, k⟩
theorem w_listD {d : Addr} {kvs : List (Key × V)} (h : H d = some (.dK kvs)) (k : New Q H (.lst (kvs.map fun kv => kV kv.1))) : rListD [.ref d] H Q := ⟨d, kvs, rfl, h, k⟩
theorem w_cntS {p : Addr} {ys : List Str} {k : Str} (h : SqL K H p (ys.map V.str)) (q : Q (.int (ys.count k : Nat)) H) : rCntS K (.ref p) [.str k] H Q := ⟨p, ys, k, rfl, rfl, h, q⟩
theorem w_dnotin (k : ty σ H fun y H1 => td σ H1 fun x H2 => ∃ a o, x = .ref a ∧ DGet H2 a y o ∧ Q (.bl (!o.isSome)) H2) : tDNotIn ty td σ H Q := k
theorem w_chain {r r' : R2} {tc : TE} (k : ta σ H fun x H1 => tb σ H1 fun y H2 => r x y H2 fun z H3 => ∃ k, z = .bl k ∧ (if k = true then tc σ H3 fun w' H4 => r' y w' H4 Q else Q (.bl false) H3)) : tChain r r' ta tb tc σ H Q := k
theorem w_dputI {P : Hp → Prop} {a : Addr} {kvs : List (Key × V)} {i : Int} {v : V} (h : H a = some (.dK kvs)) (z : kvs.length < sizeLine) (k : P (upd H a (.dK (putK kvs (Sum.inl i : Key) v)))) : ∃ a' H4, V.ref a = .ref a' ∧ DPut H a' (.int i) v H4 ∧ P H4 := w_putI h z k
theorem w_iitems {R : It → Hp → Prop} (k : td σ H fun x H1 => ∃ d o kvs, x = .ref d ∧ H1 d = some (.frz o (.dK kvs)) ∧ R (Iti d o kvs) H1) : iItems td σ H R := k
/-- a comprehension over a locked dict's entries, each a new pair; nothing but what is new is written -/
theorem w_lci {d : Addr} {od : Obj} {kvs : List (Key × V)} {i1 i2 : Nat} (f : Key × V → Bool) (gv : Key × V → V) (hx : H d = some (.frz od (.dK kvs))) (hz : kvs.length < sizeLine)
    (hw : ∀ x y, wipe (((wipe σ vs).set i1 (some x)).set i2 (some y)) vs = wipe σ vs)
    (ht : ∀ kv, kv ∈ kvs → ∀ H', Same H H' → ∀ R : Bool → Hp → Prop, (∀ H2, Same H' H2 → R (f kv) H2) → tt (((wipe σ vs).set i1 (some (kV kv.1))).set i2 (some kv.2)) H' R)
    (he : ∀ kv, kv ∈ kvs → f kv = true → ∀ H', Same H H' → ∀ R : VK, (∀ H2, Same H' H2 → R (gv kv) H2) → te (((wipe σ vs).set i1 (some (kV kv.1))).set i2 (some kv.2)) H' R)
    (k : ∀ p H', H p = none → Same H H' → H' p = some (.lst ((kvs.filter f).map gv)) → Q (.ref p) H') : lcK (Iti d od kvs) (gTup K 2 (gCons (gName i1) (gCons (gName i2) gNil))) tt te vs σ H Q := fun Dl hD => by
  refine lc_it walk_items (fun i H' => H Dl = none ∧ Same H H' ∧ H' Dl = some (.lst (((kvs.take i).filter f).map gv))) ⟨hD, same_upd hD, by simp [upd_same]⟩ (fun i H' _ p => p.2.1 _ _ hx) (fun i x H1 H2 hi p y => ?_) (fun H' p => ?_)
  · obtain ⟨p1, p2, p3⟩ := p
    obtain ⟨T, x1, x2, rfl, hT, rfl, e1, e2⟩ := y
    have hkv : kvs[i]? = some kvs[i] := List.getElem?_eq_getElem hi
    have e1 : (kvs[i]?).map (fun kv => kV kv.1) = some x1 := e1
    have e2 : (kvs[i]?).map Prod.snd = some x2 := e2
    rw [hkv] at e1 e2
    cases e1
    cases e2
    have hm : kvs[i] ∈ kvs := List.getElem_mem hi
    have e0 : Same H1 (upd H1 T (.tup [kV kvs[i].1, kvs[i].2])) := same_upd hT
    refine w_gtup (SqT.of upd_same) rfl ?_
    refine w_gcons (w_name ?_)
    refine w_gcons (w_name ?_)
    refine w_gnil ⟨hw _ _, ?_⟩
    refine ht _ hm _ (p2.trans e0) _ fun H3 e3 => ?_
    have hl : (((kvs.take i).filter f).map gv).length ≤ kvs.length := by
      rw [List.length_map]
      exact Nat.le_trans (List.length_filter_le _ _) (List.length_take_le' _ _)
    have more : (((kvs.take (i + 1)).filter f).map gv) = if f kvs[i] = true then ((kvs.take i).filter f).map gv ++ [gv kvs[i]] else ((kvs.take i).filter f).map gv := by
      rw [take_more' hkv, List.filter_append, List.map_append]
      by_cases c : f kvs[i] = true
      · rw [if_pos c, List.filter_cons, if_pos c]; rfl
      · rw [if_neg c, List.filter_cons, if_neg c]; simp
    cases c : f kvs[i] with
    | true =>
      rw [if_pos rfl]
      refine he _ hm c _ (p2.trans (e0.trans e3)) _ fun H4 e4 => ⟨_, e4 _ _ (e3 _ _ (e0 _ _ p3)), by omega, p1, fun b o hb => ?_, ?_⟩
      · rw [upd_ne (fun z => by rw [z, p1] at hb; cases hb)]
        exact e4 _ _ (e3 _ _ (e0 _ _ (p2 b o hb)))
      · rw [upd_same, more, if_pos c]
    | false =>
      rw [if_neg (by decide)]
      refine ⟨p1, p2.trans (e0.trans e3), ?_⟩
      rw [more, if_neg (by rw [c]; decide)]
      exact e3 _ _ (e0 _ _ p3)
  · refine k Dl H' p.1 p.2.1 ?_
    have := p.2.2
    rwa [List.take_length] at this
end
local macro_rules | `(tactic| walk_at "w1") => `(tactic| with_reducible first | refine w_dget ?_ | refine w_din ?_ | refine w_dpop ?_ | refine w_ddel ?_ | refine w_iitems ?_ | refine w_dnotin ?_ | refine w_chain ?_)
local macro_rules | `(tactic| walk_at "w2") => `(tactic| first
  | ((with_reducible refine' w_gfldB ?wv ?wc ?wn ?wz ?wl ?_); (case wv => rfl); (case wc => assumption); (case wn => assumption); (case wz => simp); (case wl => walk_at "pf"))
  | ((with_reducible refine' w_gfldA ?wv ?wh ?wc ?wn ?wz ?wl ?_); (case wv => rfl); (case wh => assumption); (case wc => assumption); (case wn => assumption); (case wz => simp); (case wl => walk_at "pf")))
end SwX
set_option Elab.async false
set_option linter.all false
set_option maxRecDepth 100000
set_option maxHeartbeats 2000000
/-! an own exception over own ones over ValueError, its __init__: super().__init__(..), then self.f = .. -/
namespace SwX
open PySem PySem.Spec PyProof.Rows L2 StX
/-- a method of a class that names its class: its def, its code object, the class's cell -/
structure FunS (prog : Program) (K : PySem.W.Frag) (x qual : Str) (st : Stmt) (f : Addr) (fd : FuncData) (C cc : Addr) : Prop where
  ex : ∃ (oc : Value) (od : Option Addr) (kV doc pm : Value) (an : Option Addr) (c2 : Addr) (ct : Value) (osl : Array (Option Value)) (ccl : Value) (cdd : Option Addr) (vs : Array Value) (ccs : Array (Option Value)) (file : Str) (tf : Tok),
    fd = PySem.W.ksFn x qual (defArgs st) (defBody st) (defScope st) .none kV doc pm an (.ref c2) ct cc ∧ K.lookup f = some ⟨oc, od, .func fd, osl⟩ ∧ PySem.W.codeIn K (.ref c2) qual = true ∧ K.lookup c2 = some ⟨ccl, cdd, .fields vs, ccs⟩ ∧ vs[2]? = some (.str file tf) ∧ ((prog.main.file : Str) == file) = true
  cell : ∃ (cl : Value) (cld : Option Addr) (csl : Array (Option Value)), K.lookup cc = some ⟨cl, cld, .cell (some (.ref C)), csl⟩
/-- what the class is known by -/
structure ClsS (K : PySem.W.Frag) (C : Addr) : Prop where
  oex : OexC K C
  cd : ∃ cd, PySem.W.clsIn K C = some cd
  opaque_ : PySem.W.nsIn K cStatics "thirdparty.any" = some none
  sup : PySem.W.ks_superIn K C C "__init__" = some (some (.builtin "ValueError.__init__"))
  ve : PySem.W.subIn K (.ref C) (.type "ValueError") = some true
  self_ : PySem.W.mroIn K C (.ref C) = some true
/-- the names of such an __init__: two parameters, the class beside -/
structure SupScope (N : List Str) (p : Str) (sc : Scope) : Prop where
  kind : sc.kind = .function
  co : sc.isCoroutine = false
  gen : sc.isGenerator = false
  names : N = [("self" : Str), p]
  nd : N.Nodup
  loc0 : sc.names.lookup ("self" : Str) = some .local
  loc1 : sc.names.lookup p = some .local
  sup : sc.names.lookup ("super" : Str) = some .globalImplicit
  cls : sc.names.lookup ("__class__" : Str) = some .free
  nocell : ∀ y ∈ sc.names, y.2 ≠ .cell
  free : ∀ y, sc.names.lookup y = some .free → y = ("__class__" : Str)
def supCx (CX : CXT) (P : Program) (w : World) (K : PySem.W.Frag) (mg : Str → Option Value) (base : Heap) (N : List Str) (qual : Str) (scope : Scope) (f : Addr) (cd : Value) (cc : Addr) (A : Around) (outer : List Env) (s : Shared) (H : Hp) (E : XK) : Cx where
  prog := P
  w := w
  K := K
  mg := mg
  base := base
  A := A.deeper (PySem.W.ksEnv qual scope s.heap.objs.size f cd cc)
  N := N
  s_0 := s
  H_0 := H
  env := PySem.W.ksEnv qual scope s.heap.objs.size f cd cc
  outer := outer
  stack := PySem.W.ksEnv qual scope s.heap.objs.size f cd cc :: outer
  ex := []
  calm := true
  fn := fun _ => false
  pn := []
  xe := fun e s' => wpAny (model P w) (A.deeper (PySem.W.ksEnv qual scope s.heap.objs.size f cd cc)) (leaving (PySem.W.ksEnv qual scope s.heap.objs.size f cd cc) e) (fun _ s'' => CX outer H s E e s'') (fun e' s'' => CX outer H s E e' s'') s'
section
variable {CX : CXT} {P : Program} {w : World} {K : PySem.W.Frag} {mg : Str → Option Value} {base : Heap} {N : List Str} {qual p : Str} {scope : Scope} {f cc C : Addr} {cd : Value} {A : Around} {outer : List Env} {s : Shared} {H : Hp} {E : XK} {u0 u1 : Value} {v0 v1 : V}
theorem sup_start {h0 : Heap} {tk : Nat} (S : SupScope N p scope) (hd : A.handled = none) (e0 : Env0 P w K mg base A outer s H) (hc : ∃ (cl : Value) (cld : Option Addr) (csl : Array (Option Value)), K.lookup cc = some ⟨cl, cld, .cell (some (.ref C)), csl⟩) (r0 : RelV v0 u0) (r1 : RelV v1 u1)
    (hns : h0.Ns s.heap.objs.size fun y => [(Str.ofString "self", u0), (p, u1)].reverse.lookup y) (kp : ∀ b o, s.heap.get? b = some o → h0.get? b = some o) :
    Inv (supCx CX P w K mg base N qual scope f cd cc A outer s H E) [] [some v0, some v1] H { s with heap := h0, toks := tk } := by
  obtain ⟨cl, cld, csl, hcell⟩ := hc
  have nm := S.names
  have noA : ∀ b : Addr, b ∉ (supCx CX P w K mg base N qual scope f cd cc A outer s H E).ex := fun b z => absurd (show b ∈ ([] : List Addr) from z) (by simp)
  have look : ∀ {y c}, (supCx CX P w K mg base N qual scope f cd cc A outer s H E).env.cells.lookup y = some c → y = "__class__" ∧ c = cc := fun {y c} e => by
    have e : [(Str.ofString "__class__", cc)].lookup y = some c := e
    by_cases hy : y = "__class__"
    · subst hy
      simp [List.lookup] at e
      exact ⟨rfl, e.symm⟩
    · have : (y == Str.ofString "__class__") = false := by simpa using hy
      simp [List.lookup, this] at e
  have atB : base.get? cc = some ⟨cl, cld, .cell (some (.ref C)), csl⟩ := e0.mod.kin _ _ hcell
  have nps : ("self" : Str) ≠ p := by
    have := S.nd
    rw [nm] at this
    simp at this
    exact this
  refine ⟨⟨e0.mod, S.kind, rfl, rfl, Nat.le_refl _, fun y z c h1 h2 => ?_, fun y hy => ?_, fun y c z _ => ?_, fun _ => hd, Around.frames_deeper e0.frames, .inr ⟨rfl, rfl⟩, fun b z => absurd z (noA b), e0.bs, e0.bsz, fun b _ _ => noA b, fun b z => absurd z (noA b), e0.funs, e0.frf⟩,
    rfl, e0.bare, Un.kept kp, ⟨_, hns, fun i y v h1 h2 h3 => ?_⟩, fun y c h => ?_, e0.hok.fresh (Nat.le_refl _), fun y c h => ?_, fun q hq => absurd (show q ∈ ([] : List (Addr × Obj)) from hq) (by simp), e0.hok.kept kp, ?_⟩
  · rw [(look h1).1, (look h2).1]
  · have hy : scope.names.lookup y = some .cell ∨ scope.names.lookup y = some .free := hy
    rcases hy with hy | hy
    · exact absurd rfl (S.nocell _ (PySem.mem_of_lookup hy))
    · rw [S.free y hy]
      exact ⟨cc, rfl⟩
  · cases (show false = true from z)
  · have h1 : N[i]? = some y := h1
    rw [nm] at h1
    match i, h1, h2 with
    | 0, h1, h2 =>
      cases h1
      cases h2
      refine ⟨u0, r0, .inl ⟨S.loc0, ?_⟩⟩
      have : (Str.ofString "self" == p) = false := by simpa using nps
      simp [List.lookup, this]
    | 1, h1, h2 =>
      cases h1
      cases h2
      exact ⟨u1, r1, .inl ⟨S.loc1, by simp [List.lookup]⟩⟩
    | n + 2, h1, _ => simp at h1
  · rw [(look h).2]
    exact ⟨_, ⟨_, kp _ _ (e0.bs _ _ atB).1, rfl⟩⟩
  · rw [(look h).2]
    exact (e0.bs _ _ atB).2
  · rw [show (supCx CX P w K mg base N qual scope f cd cc A outer s H E).N = N from rfl, nm]
    rfl
end
end SwX
set_option Elab.async false
set_option linter.all false
set_option maxRecDepth 100000
set_option maxHeartbeats 2000000
/-! super().__init__(e) of an own exception over ValueError -/
namespace SwX
open PySem PySem.Spec PyProof.Rows L2 StX
section
variable {prog : Program} {w : World} {A : Around} {E : Value → Shared → Prop} {h : Heap} {g : Array GenState} {d : Drawn} {t : Nat} {os : OsState}
variable {nm q : Str} {C N : Addr} {bs bm : List Value} {hdct : Bool} {sn : List Str} {sub : List Value} {ab : Bool} {col : Option Bool} {dd : Option Addr} {k0 k1 k2 k3 k5 : Option Value}
theorem mw_call {u e t0 : Addr} {rest : List Value} {Q : Value → Shared → Prop}
    (hC : h.get? C = some (excClassObj nm q C N bs bm hdct sn sub ab col dd k0 k1 k2 k3 k5 "ValueError.__new__")) (he : h.get? e = some (HandSPX.excO C t0)) (hu : h.get? u = some (PySem.W.kxs_mw "ValueError.__init__" e)) (hrest : rest.length ≤ sizeLine)
    (hq : ∀ h' t1, (∀ b o, b ≠ e → h.get? b = some o → h'.get? b = some o) → h'.get? e = some (HandSPX.excO C t1) → Q .none ⟨h', g, d, t, os⟩) :
    wpAny (model prog w) A (call (.ref u) rest) Q E ⟨h, g, d, t, os⟩ := by
  refine wpAny_call (codeAny_of_tree ?_)
  show wpAny _ A.in1 (callAny (.ref u) ⟨rest, []⟩) _ _ _
  simp only [callAny]
  refine wpAny_bind (wpAny_load hu ?_)
  simp only [PySem.W.kxs_mw, show (Value.type "method-wrapper" == Value.type "method" || Value.type "method-wrapper" == Value.type "builtin_function_or_method" || Value.type "method-wrapper" == Value.type "method-wrapper") = true by decide, if_true]
  refine PySem.W.KFB.if_so (by decide) ?_
  refine wpAny_bind (PySem.ESX.check_bound F.excBase_ValueError hC he rfl ?_)
  refine wpAny_bind (wpAny_pure (wpAny_pure ?_))
  refine ⟨plainId_quiet F.excBase_ValueError.init.plain _, codeAny_builtin F.excBase_ValueError.initEntry ?_⟩
  rw [Around.under_plainId F.excBase_ValueError.init.plain _]
  wp_walk
  refine hq _ h.objs.size (fun b o hb ho => ?_) ?_
  · rw [Heap.get?_update_other _ _ (Ne.symm hb)]
    exact Heap.get?_push_of_some _ ho
  · rw [Heap.get?_update_self _ (Heap.get?_push_of_some _ he) rfl]
    rfl
end
section
variable {CX : CXT} {P : Program} {w : World} {K : PySem.W.Frag} {mg : Str → Option Value} {base : Heap} {N : List Str} {x qual p : Str} {scope : Scope} {f cc C : Addr} {A : Around} {outer : List Env} {s0 : Shared} {H0 : Hp} {E : XK} {st : Stmt} {fd : FuncData}
theorem sup_call {e : Expr} {ta : TA} {a : Addr} {y : V} {H : Hp} {s : Shared} {Q : Flow → Shared → Prop} {QQ : Hp → Prop} {body : List Stmt} {p0 p1 p2 p3 p4 : Pos} {c2 : Addr} {pl : Sem Bool}
    (I : Inv (supCx CX P w K mg base N qual scope f (.ref c2) cc A outer s0 H0 E) [] [some (.ref a), some y] H s) (T : ClsS K C) (eo : H a = some (exo a C none)) (S : SupScope N p scope)
    {oc ccl cl : Value} {od cdd cld : Option Addr} {osl ccs csl : Array (Option Value)} {vs : Array Value} {file : Str} {tf : Tok} {an : Arg}
    (hf : K.lookup f = some ⟨oc, od, .func fd, osl⟩) (hp : (fd.params.posonlyargs ++ fd.params.args).head? = some an) (hpn : an.arg = "self")
    (hcode : K.lookup c2 = some ⟨ccl, cdd, .fields vs, ccs⟩) (hvs : vs[2]? = some (.str file tf)) (hfile : ((P.main.file : Str) == file) = true)
    (hcell : K.lookup cc = some ⟨cl, cld, .cell (some (.ref C)), csl⟩) (hsuper : mg "super" = none) (htop : (P.main.scope.names.lookup ("super" : Str)).isSome = false)
    (ha : PA (supCx CX P w K mg base N qual scope f (.ref c2) cc A outer s0 H0 E) [e] ta) (ht : ta [some (.ref a), some y] H fun ws H1 => ws.length ≤ 1000 ∧ H1 a = some (exo a C none) ∧ QQ H1)
    (k : ∀ H1 s', Inv (supCx CX P w K mg base N qual scope f (.ref c2) cc A outer s0 H0 E) [] [some (.ref a), some y] H1 s' → QQ H1 → Q .next s')
    (hc : eval (.Call (.Attribute (.Call (.Name "super" p0) [] [] p1) "__init__" p2) [e] [] p3) (supCx CX P w K mg base N qual scope f (.ref c2) cc A outer s0 H0 E).env = (do
      let ov ← attributeBase (.Call (.Name "super" p0) [] [] p1) "__init__" (supCx CX P w K mg base N qual scope f (.ref c2) cc A outer s0 H0 E).env (eval (.Call (.Name "super" p0) [] [] p1) (supCx CX P w K mg base N qual scope f (.ref c2) cc A outer s0 H0 E).env)
      standAt p2.atName
      let (fn, first) ← holding [ov] (getMethod ov "__init__" pl)
      callWith p3 fn first (backTo p3 (starEach [e] (supCx CX P w K mg base N qual scope f (.ref c2) cc A outer s0 H0 E).env)) []) := by rfl)
    (hst : starEach [e] (supCx CX P w K mg base N qual scope f (.ref c2) cc A outer s0 H0 E).env = (false, eval e (supCx CX P w K mg base N qual scope f (.ref c2) cc A outer s0 H0 E).env) :: starEach [] (supCx CX P w K mg base N qual scope f (.ref c2) cc A outer s0 H0 E).env := by rfl) :
    PySem.wpAt (model P w) (supCx CX P w K mg base N qual scope f (.ref c2) cc A outer s0 H0 E).A (.func body (supCx CX P w K mg base N qual scope f (.ref c2) cc A outer s0 H0 E).env)
      (exec (.Expr (.Call (.Attribute (.Call (.Name "super" p0) [] [] p1) "__init__" p2) [e] [] p3) p4) (supCx CX P w K mg base N qual scope f (.ref c2) cc A outer s0 H0 E).env) Q (supCx CX P w K mg base N qual scope f (.ref c2) cc A outer s0 H0 E).xe s := by
  have kIn := I.kIn
  have hC' := T.cd
  obtain ⟨cd, hcd⟩ := hC'
  obtain ⟨mb, hb1, hb2⟩ := I.mod.blt
  obtain ⟨oD, hD1, hD2⟩ : ∃ oD, s.heap.get? C = some oD ∧ oD.data = .cls cd := by
    unfold PySem.W.clsIn at hcd
    split at hcd
    · rename_i c d cd' sl ho
      cases hcd
      exact ⟨_, kIn _ _ ho, rfl⟩
    · cases hcd
  obtain ⟨t1, ho⟩ := exo_at I.hok eo
  obtain ⟨m, hns, hl⟩ := I.loc
  obtain ⟨u, ru, lu⟩ := hl 0 "self" (.ref a) (by rw [show (supCx CX P w K mg base N qual scope f (.ref c2) cc A outer s0 H0 E).N = N from rfl, S.names]; rfl) rfl (.inl S.loc0)
  obtain rfl : u = Value.ref a := ru
  have hself : m "self" = some (.ref a) := by
    rcases lu with ⟨_, z⟩ | ⟨z, _⟩
    · exact z
    · have z : scope.names.lookup (Str.ofString "self") = some .cell ∨ scope.names.lookup (Str.ofString "self") = some .free := z
      rw [show scope.names.lookup (Str.ofString "self") = some .local from S.loc0] at z
      rcases z with z | z <;> cases z
  refine PySem.ks_wpAt_Expr_any (hi := by show (scope.kind == _ && _) = false; rw [S.kind]; rfl) ?_
  refine PySem.ks_wpAt_MethodCall (pl := pl) ?_ hc
  refine PySem.ks_wpAt_super_base (ar := an) S.sup S.cls (by decide) rfl (kIn _ _ hf) rfl hp rfl (kIn _ _ hcode) rfl hvs hfile htop ?_
  refine PySem.W.ks_loadName_global S.kind S.sup (Calls.loadGlobal_builtin (I.mod.glob.keeps I.bk) hsuper (hb1.keeps I.bk) ((hb2 "super" (by decide)).trans (show bootBuiltins "super" = some (.type "super") by kernel_rfl)) ⟨rfl, ?_⟩)
  refine wpAny_loadName_free S.kind S.cls rfl ⟨_, kIn _ _ hcell, rfl⟩ ?_
  rw [hpn]
  refine wpAny_loadName_local S.kind S.loc0 hns hself ?_
  refine PySem.ks_wpAny_isType_cls hD1 hD2 ⟨rfl, ?_⟩
  obtain ⟨hp0, g, d, tk, os⟩ := s
  refine PySem.ks_wpAny_call_super hD1 hD2 ho rfl (fun c z => by cases z) (PySem.W.looks_mroIn kIn T.self_) (fun h1 e1 k1 => ?_)
  have I1 := I.kept (h' := h1) (t' := tk) k1
  have hIs : PySem.W.InstAt h1 a { cls := .ref C, dict := none, data := .fields #[.ref t1, .none, .none, .none, .bool false, .none] } C none := ⟨k1 _ _ ho, rfl, rfl, trivial⟩
  have hI : PySem.W.Looks (model P w) h1 (isInstance (.ref a) (.type "ValueError")) true := hIs.type.andThen (PySem.W.looks_subIn I1.kIn T.ve)
  have hsup := T.sup
  unfold PySem.W.ks_superIn at hsup
  rw [hcd] at hsup
  refine PySem.W.kxs_getMethod PySem.W.kxs_ValueError e1 (PySem.W.looks_opaque I1.kIn T.opaque_) (l₀ := cd.mro) (fun A Q E s k q => wpAny_bind ((PySem.W.looks_clsIn I1.kIn hcd) A _ E s k (wpAny_pure q))) rfl I1.kIn hsup hI (PySem.W.ks_ne I1.kIn hIs hcd) (by decide) ?_
  have sz : h1.objs.size ≤ h1.objs.size := Nat.le_refl _
  have k2 : ∀ b o, h1.get? b = some o → (h1.push (PySem.W.kxs_mw "ValueError.__init__" a)).get? b = some o := fun b o e => Heap.get?_push_of_some _ e
  have I2 : Inv (supCx CX P w K mg base N qual scope f (.ref c2) cc A outer s0 H0 E) [(h1.objs.size, PySem.W.kxs_mw "ValueError.__init__" a)] [some (.ref a), some y] H ⟨h1.push (PySem.W.kxs_mw "ValueError.__init__" a), g, d, tk + 1, os⟩ := by
    refine (I1.kept (h' := h1.push (PySem.W.kxs_mw "ValueError.__init__" a)) (t' := tk + 1) k2).pins_of fun p hp => ?_
    rw [List.mem_singleton] at hp
    subst hp
    exact ⟨Heap.get?_push_at rfl rfl, I1.hok.fresh sz, Nat.ne_of_gt I1.lt, I1.nofs sz, fun v z => by cases z⟩
  have H1 := ha.run p3 _ _ _ _ (fun ws H1 => ws.length ≤ 1000 ∧ H1 a = some (exo a C none) ∧ QQ H1) I2 ht
  rw [hst] at H1 ⊢
  refine PySem.W.kxs_callWith (i := "ValueError.__init__") (x := a) (by rfl) (PySem.Calls.evalArgs_plain (wpAny_mono H1 (fun us s3 hh => ?_) fun _ _ z => z))
  obtain ⟨vs3, H3, I3, r3, q3⟩ := hh
  refine ⟨(I3.pin _ (List.mem_append_right _ (List.mem_singleton.mpr rfl))).1, ?_⟩
  obtain ⟨hp3, g3, d3, tk3, os3⟩ := s3
  obtain ⟨t3, ho3⟩ := exo_at I3.hok q3.2.1
  obtain ⟨nm, qn, N', bs, bm, sn, sub, ab, col, dd, k0, k1', k2', k3, k5, hCl, hbm⟩ := T.oex.cls
  refine mw_call (I3.kIn _ _ hCl) ho3 (I3.pin _ (List.mem_append_right _ (List.mem_singleton.mpr rfl))).1 ?_ (fun h4 t4 k4 e4 => ?_)
  · show us.length ≤ sizeLine
    rw [← r3.length, sizeLine_eq]
    have := q3.1
    omega
  have J := I3.write (t' := tk3) (x := a) (e := a) (o := exo a C none) (by rw [q3.2.1]; exact True.intro) (.inl rfl) k4 ⟨_, e4⟩ (exo_ok e4)
  have eu : upd H3 a (exo a C none) = H3 := by
    funext b
    by_cases hb : b = a
    · rw [hb, upd_same, q3.2.1]
    · rw [upd_ne hb]
  rw [eu] at J
  exact k H3 _ (J.pins_of fun p hp => by cases hp) q3.2.2
end
end SwX
set_option Elab.async false
set_option linter.all false
set_option maxRecDepth 100000
set_option maxHeartbeats 2000000
/-! def __init__(self, p): super().__init__(e); self.f = p -/
namespace SwX
open PySem PySem.Spec PyProof.Rows L2 StX
/-- the promise of such an __init__, for any y that G allows -/
def spXInit (G : V → Prop) (C : Addr) (fname : Str) : Sp := fun vs H Q _ => ∃ (a : Addr) (y : V), vs = [.ref a, y] ∧ G y ∧ H a = some (exo a C none) ∧ ∀ dx, H dx = none → dx ≠ a → Q .non (upd (upd H dx (exd dx [(fname, y)])) a (exo a C (some dx)))
section
variable {CX : CXT} {P : Program} {w : World} {K : PySem.W.Frag} {mg : Str → Option Value} {base : Heap} {N : List Str} {x qual p fname : Str} {f cc C : Addr} {st : Stmt} {fd : FuncData} {G : V → Prop} {k : Nat}
theorem init_ok {e : Expr} {ta : TA} {p0 p1 p2 p3 p4 p5 p6 p7 p8 : Pos} {an : Arg} {pl : Env → Sem Bool}
    (F : FunS P K x qual st f fd C cc) (S : SupScope N p (defScope st)) (T : ClsS K C) (hsuper : mg "super" = none) (htop : (P.main.scope.names.lookup ("super" : Str)).isSome = false)
    (hno : PySem.W.findIn K (.ref C) fname = some none)
    (hb : defBody st = [.Expr (.Call (.Attribute (.Call (.Name "super" p0) [] [] p1) "__init__" p2) [e] [] p3) p4, .Assign [.Attribute (.Name "self" p5) fname p6] (.Name p p7) p8])
    (hp : ((defArgs st).posonlyargs ++ (defArgs st).args).head? = some an) (hpn : an.arg = "self") (hdp : (p == ("__debug__" : Str)) = false) (hcp : (p == ("__classdict__" : Str)) = false)
    (hat : ∀ (a : Addr) (y : V) (H : Hp) (Q : List V → Hp → Prop), G y → (∀ ws, ws.length ≤ 1000 → Q ws H) → ta [some (.ref a), some y] H Q)
    (ha : ∀ X : Cx, X.N = N → X.env.scope = defScope st → PA X [e] ta)
    (hc : ∀ env : Env, eval (.Call (.Attribute (.Call (.Name "super" p0) [] [] p1) "__init__" p2) [e] [] p3) env = (do
      let ov ← attributeBase (.Call (.Name "super" p0) [] [] p1) "__init__" env (eval (.Call (.Name "super" p0) [] [] p1) env)
      standAt p2.atName
      let (fn, first) ← holding [ov] (getMethod ov "__init__" (pl env))
      callWith p3 fn first (backTo p3 (starEach [e] env)) []))
    (hst : ∀ env : Env, starEach [e] env = (false, eval e env) :: starEach [] env)
    (hsw : ∀ env : Env, swapsWith (.Name p p7) (some (.Attribute (.Name "self" p5) fname p6)) p8.line env = pure false) :
    FnOk P w K mg base CX (k + 1) f fd ["self", p] (spXInit G C fname) := by
  obtain ⟨oc, od, kV, doc, pm, an', c2, ct, osl, ccl, cdd, vs, ccs, file, tf, rfl, lk, hcd, hcode, hvs, hfile⟩ := F.ex
  obtain ⟨cl, cld, csl, hcell⟩ := F.cell
  refine ⟨fun vs H Q E h => by obtain ⟨a, y, rfl, _⟩ := h; rfl, fun A outer s H args us vs' Q E hr e0 hbd r hsp => ?_⟩
  obtain ⟨a, y, rfl, gy, ha0, hq⟩ := hsp
  cases r with
  | cons r0 r1 =>
    rename_i u0 us1
    cases r1 with
    | cons r1 r2 =>
      rename_i u1 us2
      cases r2
      have KX : K.In s.heap := e0.mod.kin.keeps fun b o e => (e0.bs b o e).1
      have lim : s.heap.NoLimit := e0.mod.nolimit.keeps fun b o e => (e0.bs b o e).1
      refine PySem.ks_codeAny_call_defAt (fd := PySem.W.ksFn x qual (defArgs st) (defBody st) (defScope st) .none kV doc pm an' (.ref c2) ct cc) (body := defBody st) (binds := [(Str.ofString "self", u0), (p, u1)]) hr.depth (KX _ _ lk) rfl lim (PySem.W.codeRec_of KX hcd) rfl hbd
        (fun y hy => S.nocell y hy) (fun y hy => ?_) (fun h₀ hns hk => ?_) S.co S.gen S.kind
      · rcases List.mem_cons.mp hy with rfl | hy
        · exact S.loc0
        · rcases List.mem_cons.mp hy with rfl | hy
          · exact S.loc1
          · cases hy
      have I := sup_start (CX := CX) (E := E) (qual := qual) (f := f) (cd := .ref c2) (A := A) (tk := s.toks + 2) S hr.hd e0 ⟨cl, cld, csl, hcell⟩ r0 r1 hns hk
      have PA1 := ha (supCx CX P w K mg base N qual (defScope st) f (.ref c2) cc A outer s H E) rfl rfl
      rw [hb]
      refine PySem.ks_wpAt_execs_cons ?_
      refine sup_call (QQ := fun H1 => H1 = H) I T ha0 S lk hp hpn hcode hvs hfile hcell hsuper htop PA1 (hat a y H _ gy fun ws hl => ⟨hl, ha0, rfl⟩) (fun H1 s' I1 e1 => ?_) (hc _) (hst _)
      subst e1
      have P1 : PE (supCx CX P w K mg base N qual (defScope st) f (.ref c2) cc A outer s H1 E) (.Name "self" p5) (tVar 0) := pe_var (by rw [show (supCx CX P w K mg base N qual (defScope st) f (.ref c2) cc A outer s H1 E).N = N from rfl, S.names]; rfl) (.inl S.loc0) (by decide) (by decide)
      have P2 : PE (supCx CX P w K mg base N qual (defScope st) f (.ref c2) cc A outer s H1 E) (.Name p p7) (tVar 1) := pe_var (by rw [show (supCx CX P w K mg base N qual (defScope st) f (.ref c2) cc A outer s H1 E).N = N from rfl, S.names]; rfl) (.inl S.loc1) hdp hcp
      have P3 := pss_one (ps_ost (pos := p8) (p' := p6) (f := fname) P1 P2 (hsw _))
      refine wpAt_of_wpAny (wpAny_mono (P3.run [] s' _ H1 { nx := fun _ H' => Q .non H', rt := Q } I1 ?_) (fun fl s2 hs => ?_) fun _ _ z => z)
      · refine ⟨y, rfl, .ref a, rfl, a, C, rfl, T.oex, hno, .inl ⟨ha0, fun dx n ne => hq dx n ne⟩⟩
      · cases fl with
        | ret u =>
          obtain ⟨v, σ', H', J, rv, q⟩ := hs
          exact ⟨v, H', J.os, J.bare, J.base, J.hok, rv, q⟩
        | next =>
          obtain ⟨σ', H', J, q⟩ := hs
          exact ⟨V.non, H', J.os, J.bare, J.base, J.hok, rfl, q⟩
        | brk =>
          obtain ⟨_, _, _, q⟩ := hs
          exact False.elim q
        | cont =>
          obtain ⟨_, _, _, q⟩ := hs
          exact False.elim q
end
end SwX
set_option Elab.async false
set_option linter.all false
set_option maxRecDepth 100000
set_option maxHeartbeats 2000000
/-! what is asked of a caught error; the count of truth values -/
namespace SwX
open PySem PySem.Spec PyProof.Rows L2 StX
section
variable {X : Cx}
theorem bool_eq {k : Bool} : ∀ {us : List Value} {bs : List Bool}, Vals (bs.map V.bl) us → ∀ y ∈ us, ∀ (A : Around) (s : Shared), SeqAt.EqAt A s y (.bool k) (isBoolOf k y)
  | _, [], .nil => fun y hy => by cases hy
  | _, b :: bs, .cons r h => fun y hy A s => by
    cases (show _ = Value.bool b from r)
    rcases List.mem_cons.mp hy with e | e
    · rw [e]
      exact SeqAt.EqAt.bool_bool b k
    · exact bool_eq h y e A s
theorem bool_cnt {k : Bool} : ∀ {us : List Value} {bs : List Bool}, Vals (bs.map V.bl) us → us.countP (isBoolOf k) = bs.count k
  | _, [], .nil => rfl
  | _, b :: bs, .cons r h => by
    cases (show _ = Value.bool b from r)
    have ih := bool_cnt (k := k) h
    rw [List.countP_cons, List.count_cons, ih] <;> rfl
/-- l.count(b) -/
def rCntB (K : PySem.W.Frag) : V → List V → Hp → VK → Prop := fun x xs H Q => ∃ (p : Addr) (bs : List Bool) (k : Bool), x = .ref p ∧ xs = [.bl k] ∧ SqL K H p (bs.map V.bl) ∧ Q (.int (bs.count k : Nat)) H
theorem mt_lcountB : MtR X "list.count" (rCntB X.K) := by
  intro pins s σ H x xs v us Q I rx rxs h
  obtain ⟨p, bs, k, rfl, rfl, hs, q⟩ := h
  cases rx
  obtain ⟨u, rfl, ru⟩ := rxs.one
  cases (show u = Value.bool k from ru)
  obtain ⟨its, rv, ⟨⟨cls, dd, data, sl⟩, n, ho, hc, hdn, hd⟩, hlen⟩ := I.list hs
  simp only at hc hd
  subst hc hd
  refine call_meets PySem.F.slot_list_count ⟨_, ho, rfl⟩ PySem.F.entry_list_count (PySem.F.args_list_count_2 _ _)
    (SeqAt.list_countAt p its.toArray n dd sl (.bool k) (isBoolOf k)) ⟨ho, fun y hy => bool_eq rv y (by simpa using hy) _ _, ?_⟩
  have ec : its.toArray.toList.countP (isBoolOf k) = bs.count k := bool_cnt rv
  refine ⟨.int (bs.count k : Nat), H, I.tok _, ⟨s.toks, ?_⟩, q⟩
  show Value.int ((its.toArray.toList.countP (isBoolOf k) : Nat) : Int) s.toks = Value.int ((bs.count k : Nat) : Int) s.toks
  rw [ec]
end
/-- what isinstance asks of the class D of a caught error -/
structure XIs (K : PySem.W.Frag) (D : Addr) : Prop where
  hcl : (PySem.W.clsIn K D).isSome = true
  hga : PySem.W.findIn K (.ref D) "__getattribute__" = some (some (.builtin "BaseException.__getattribute__"))
  hgt : PySem.W.findIn K (.ref D) "__getattr__" = some none
  hsub : PySem.W.subIn K (.ref D) (.type "BaseException") = some true
  ha : PySem.W.findIn K (.ref D) "__class__" = some (some (.builtin "object.__class__"))
  hn : PySem.W.specialIn K (.builtin "object.__class__") "__get__" = some (some (.builtin "getset_descriptor.__get__"))
  htk : PySem.W.takesIn K (.builtin "object.__class__") = some true
  hm : PySem.W.mroIn K D (.type "object") = some true
/-- the caught error's dict -/
def XDict (H : Hp) (d : Option Addr) : Prop := d = none ∨ ∃ dd fs, d = some dd ∧ H dd = some (.xd fs)
def rIsX (K : PySem.W.Frag) (a : Addr) (cls : Value) (d : Option Addr) : List V → Hp → VK → Prop := fun xs H Q => ∃ (D : Addr) (c : V) (cv : Value) (b : Bool), cls = .ref D ∧ XIs K D ∧ XDict H d ∧ xs = [.ref a, c] ∧ ClsV c cv ∧ PySem.W.kitOne K (.ref D) cv = some b ∧ Q (.bl b) H
def rIsXT (K : PySem.W.Frag) (a : Addr) (cls : Value) (d : Option Addr) : List V → Hp → VK → Prop := fun xs H Q => ∃ (D tp : Addr) (cs : List V) (us : List Value) (b : Bool), cls = .ref D ∧ XIs K D ∧ XDict H d ∧ xs = [.ref a, .ref tp] ∧ H tp = some (.tup cs) ∧ Paired ClsV cs us ∧ PySem.W.kitAny K (.ref D) us = some b ∧ Q (.bl b) H
section
variable {X : Cx} {a : Addr} {oe : Obj} {cls : Value} {d : Option Addr} {pn : List (Addr × Obj)}
theorem x_inst {pins : List (Addr × Obj)} {σ : L2.St} {H : Hp} {s : Shared} {D : Addr} (hz : Zc cls d oe) (hf : ∃ vs, oe.data = .fields vs) (I : Inv (X.suite a ((a, oe) :: pn)) pins σ H s) (hc : cls = .ref D) (hd : XDict H d) : ∃ od, PySem.W.InstAt s.heap a oe D od := by
  obtain ⟨hget, _⟩ := I.pin (a, oe) (List.mem_append.mpr (.inl List.mem_cons_self))
  obtain ⟨vs, hv⟩ := hf
  obtain ⟨h1, h2⟩ := hz
  have hno : PySem.W.notCls oe := by
    unfold PySem.W.notCls
    rw [hv] <;> rfl
  rcases hd with hd | ⟨dd, fs, hd, hdd⟩
  · exact ⟨none, hget, h1.trans hc, hno, by rw [h2, hd]; trivial⟩
  · obtain ⟨mA, ⟨od, es, ep, ho, hr⟩, rel⟩ := (show ObjOk X.prog X.w H s.heap dd (.xd fs) from I.hok dd _ hdd)
    exact ⟨some od, hget, h1.trans hc, hno, by rw [h2, hd]; exact ho⟩
theorem call_isX (hz : Zc cls d oe) (hf : ∃ vs, oe.data = .fields vs) : CallR (X.suite a ((a, oe) :: pn)) (.builtin "isinstance") (rIsX X.K a cls d) := by
  intro pins s σ H xs us Q I r h
  obtain ⟨D, c, cv, b, hc, C, hd, rfl, k, e, q⟩ := h
  obtain ⟨od, J⟩ := x_inst hz hf I hc hd
  obtain ⟨u1, u2, rfl, r1, r2⟩ := vals2 r
  cases (show u1 = Value.ref a from r1)
  have ec := k.eq r2
  subst ec
  exact PySem.W.kia_one (PySem.W.kitx_exc C.hcl C.hga C.hgt C.hsub C.ha C.hn C.htk C.hm) I.kIn J e (fun z => nomatch z) fun tk => ⟨.bl b, H, I.kept (t' := tk) fun _ _ z => z, rfl, q⟩
theorem call_isXT (hz : Zc cls d oe) (hf : ∃ vs, oe.data = .fields vs) : CallR (X.suite a ((a, oe) :: pn)) (.builtin "isinstance") (rIsXT X.K a cls d) := by
  intro pins s σ H xs us Q I r h
  obtain ⟨D, tp, cs, ws, b, hc, C, hd, rfl, hT, k, e, q⟩ := h
  obtain ⟨od, J⟩ := x_inst hz hf I hc hd
  obtain ⟨u1, u2, rfl, r1, r2⟩ := vals2 r
  cases (show u1 = Value.ref a from r1)
  cases (show u2 = Value.ref tp from r2)
  obtain ⟨_, its, rv, o, h1, h2, n, h3⟩ := (show ObjOk X.prog X.w H s.heap tp (.tup cs) from I.hok tp _ hT)
  have e3 := ClsV.all k rv
  subst e3
  obtain ⟨oc, od', dt, sl⟩ := o
  simp only at h2 h3
  subst h2 h3
  exact PySem.W.kia_tup (PySem.W.kitx_exc C.hcl C.hga C.hgt C.hsub C.ha C.hn C.htk C.hm) I.kIn J h1 e (fun z => nomatch z) fun tk => ⟨.bl b, H, I.kept (t' := tk) fun _ _ z => z, rfl, q⟩
end
end SwX
set_option Elab.async false
set_option linter.all false
set_option maxRecDepth 100000
set_option maxHeartbeats 2000000
/-! facts of own exception classes, put together -/
namespace SwX
open PySem PySem.Spec PyProof.Rows L2 StX
/-- what is told of an exception's message: a small number -/
def GInit (v : V) : Prop := ∃ n : Nat, n ≤ 1000 ∧ v = .int n
def sRaise (E : XK) (t : L2.St → Hp → XK → Prop) : TS := fun _ σ H => t σ H fun cls d H' => E cls d H'
def tMkN (C : Addr) : L2.St → Hp → XK → Prop := fun _ H Q => Q (.ref C) none H
section
variable {P : Program} {K : PySem.W.Frag} {x qual : Str} {st : Stmt} {f C cc c2 : Addr} {oc kV doc pm ct ccl cl : Value} {od an cdd cld : Option Addr} {osl ccs csl : Array (Option Value)} {vs : Array Value} {file : Str} {tf : Tok}
theorem funS_mk (lk : K.lookup f = some ⟨oc, od, .func (PySem.W.ksFn x qual (defArgs st) (defBody st) (defScope st) .none kV doc pm an (.ref c2) ct cc), osl⟩) (hcd : PySem.W.codeIn K (.ref c2) qual = true)
    (lc : K.lookup c2 = some ⟨ccl, cdd, .fields vs, ccs⟩) (lv : vs[2]? = some (.str file tf)) (lx : K.lookup cc = some ⟨cl, cld, .cell (some (.ref C)), csl⟩) (hp : (P.main.file : Str) = file) :
    FunS P K x qual st f (PySem.W.ksFn x qual (defArgs st) (defBody st) (defScope st) .none kV doc pm an (.ref c2) ct cc) C cc :=
  ⟨⟨oc, od, kV, doc, pm, an, c2, ct, osl, ccl, cdd, vs, ccs, file, tf, rfl, lk, hcd, lc, lv, by rw [hp]; exact beq_self_eq_true _⟩, ⟨cl, cld, csl, lx⟩⟩
end
section
variable {K : PySem.W.Frag} {C : Addr}
def oexB (K : PySem.W.Frag) (C : Addr) : Bool := match K.lookup C with
  | some ⟨.type "type", _, .cls cd, sl⟩ => (match cd.mro, sl.toList with
    | .ref C' :: bm, [_, _, _, _, some (.builtin n), _] => C' == C && n == "ValueError.__new__" && !cd.hasDel && cd.hasDict && HandSPX.refsVE bm
    | _, _ => false)
  | _ => false
theorem oexB_ok (q : oexB K C = true) : ∃ nm q N bs bm sn sub ab col dd k0 k1 k2 k3 k5, K.lookup C = some (excClassObj nm q C N bs bm true sn sub ab col dd k0 k1 k2 k3 k5 "ValueError.__new__") ∧ HandSPX.refsVE bm = true := by
  unfold oexB at q
  split at q
  · rename_i dd cd sl ho
    split at q
    · rename_i C' bm k0 k1 k2 k3 n k5 hm hs
      simp only [Bool.and_eq_true, beq_iff_eq, Bool.not_eq_true'] at q
      obtain ⟨⟨⟨⟨rfl, rfl⟩, hdel⟩, hd⟩, ht⟩ := q
      obtain ⟨nm, bs, mro, ns, qn, hd', sn, sub, ab, col, del⟩ := cd
      dsimp only at hm hdel hd
      subst hm hdel hd
      have hsl : sl = #[k0, k1, k2, k3, some (.builtin "ValueError.__new__"), k5] := by
        obtain ⟨l⟩ := sl
        simp only at hs
        rw [hs]
      subst hsl
      exact ⟨nm, qn, ns, bs, bm, sn, sub, ab, col, dd, k0, k1, k2, k3, k5, ho, ht⟩
    · cases q
  · cases q
theorem oex_mk (q : oexB K C = true) (sa : PySem.W.findIn K (.ref C) "__setattr__" = some (some (.builtin "object.__setattr__"))) (eb : PySem.W.subIn K (.ref C) (.type "BaseException") = some true)
    (et : PySem.W.typeIn K (.ref C) = some (.type "type")) (kc : PySem.W.keepIn K (.ref C) = true) : OexC K C := ⟨oexB_ok q, sa, eb, et, kc⟩
theorem cd_of (h : (PySem.W.clsIn K C).isSome = true) : ∃ cd, PySem.W.clsIn K C = some cd := Option.isSome_iff_exists.mp h
end
theorem free_of {sc : Scope} (h : ∀ z ∈ sc.names, z.2 = .free → z.1 = ("__class__" : Str)) : ∀ y, sc.names.lookup y = some .free → y = ("__class__" : Str) := fun y e => h _ (PySem.mem_of_lookup e) rfl
/-- the program's text says of itself what super() asks -/
structure SupP (P : Program) : Prop where
  file : (P.main.file : Str) = "/claim/cut.py"
  sup : (P.main.scope.names.lookup ("super" : Str)).isSome = false
end SwX
set_option Elab.async false
set_option linter.all false
set_option maxRecDepth 100000
set_option maxHeartbeats 4000000
namespace SwD
open PySem PySem.Spec PyProof.Rows L2 SwX StX Sw TL
local macro_rules | `(tactic| walk_at "lk") => `(tactic| first | exact lk_at | exact lk_no | ((refine' lk_by (by decide +kernel) ?wq); (case wq => walk_at "lk")))
local macro_rules | `(tactic| walk_at "pf") => `(tactic| first | exact pf_at | exact pf_nil | ((refine' pf_by (by decide +kernel) ?wq); (case wq => walk_at "pf")))
local macro_rules | `(tactic| walk_at "w1") => `(tactic| with_reducible first
  | refine w_seq ?_ | refine w_asg ?_ | refine w_name ?_ | refine w_ret ?_ | refine w_retN ?_ | refine w_drop ?_ | refine w_next ?_ | refine w_if ?_ | refine w_ifE ?_ | refine w_test ?_ | refine w_B ?_ | refine w_bl ?_
  | refine w_not ?_ | refine w_and ?_ | refine w_or ?_ | refine w_andV ?_ | refine w_orV ?_ | refine w_notV ?_ | refine w_isN ?_ | refine w_notN ?_ | refine w_yes ?_
  | refine w_c ?_ | refine w_op ?_ | refine w_un ?_ | refine w_i0 ?_ | refine w_neg ?_ | refine w_nil ?_ | refine w_cons ?_ | refine w_cb ?_ | refine w_call ?_ | refine w_tup ?_ | refine w_lst ?_
  | refine w_fld ?_ | refine w_sfld ?_ | refine w_match ?_ | refine w_case ?_ | refine w_mcons ?_ | refine w_mnil ?_ | refine w_mcap ?_ | refine w_many ?_ | refine w_myes ?_
  | refine w_sub ?_ | refine w_bm ?_ | refine w_sl ?_ | refine w_nopart ?_ | refine w_part ?_ | refine w_int ?_ | refine w_ift ?_ | refine w_iff ?_ | refine w_ifn ?_ | refine w_dget2 ?_ | refine w_star ?_ | refine w_dput ?_ | refine w_dnewK ?_ | refine w_meth ?_ | refine w_oneOf ?_ | refine w_make ?_ | refine w_lc ?_ | refine w_for ?_ | refine w_ilist ?_ | refine w_irng1 ?_ | refine w_irng2 ?_ | refine w_irng3 ?_)
local macro_rules | `(tactic| walk_at "w2") => `(tactic| first
  | ((with_reducible refine' w_var ?wh ?_); (case wh => rfl))
  | ((with_reducible refine' w_eq ?wh ?_); (case wh => rfl))
  | ((with_reducible refine' w_ne ?wh ?_); (case wh => rfl))
  | ((with_reducible refine' w_mno ?wh ?_); (case wh => decide +kernel))
  | ((with_reducible refine' w_mhit ?wh ?wl ?_); (case wh => assumption); (case wl => rfl))
  | ((with_reducible refine' w_mmiss ?wh ?wl ?_); (case wh => assumption); (case wl => simp))
  | ((with_reducible refine' w_fldA ?wh ?wc ?wn ?wl ?_); (case wh => first | assumption | exact upd_same); (case wc => assumption); (case wn => assumption); (case wl => walk_at "lk"))
  | ((with_reducible refine' w_ixl ?wh ?we ?_); (case wh => exact SqL.of (by first | assumption | exact upd_same)); (case we => rfl))
  | ((with_reducible refine' w_ixt ?wh ?we ?_); (case wh => assumption); (case we => rfl))
  | ((with_reducible refine' w_ifT ?wh ?_); (case wh => (with_reducible exact Eq.refl _)))
  | ((with_reducible refine' w_ifF ?wh ?_); (case wh => decide +kernel))
  | ((with_reducible refine' w_isiY ?wh ?wk ?_); (case wh => first | exact .int _ | exact .str _ | exact .lst (by assumption) | exact .tup (by assumption)); (case wk => decide +kernel))
  | ((with_reducible refine' w_isiN ?wh ?wk ?_); (case wh => first | exact .int _ | exact .str _ | exact .lst (by assumption) | exact .tup (by assumption)); (case wk => decide +kernel))
  | ((with_reducible refine' w_ifF ?wh ?_); (case wh => (intro z; cases z; done)))
  | ((with_reducible refine' w_setl ?wh ?we ?wl ?_); (case wh => first | assumption | exact upd_same); (case we => rfl); (case wl => rfl))
  | ((with_reducible refine' w_methA ?wh ?wl ?_); (case wh => first | assumption | exact upd_same); (case wl => walk_at "lk"))
  | ((with_reducible refine' w_sfldB ?wc ?wn ?wz ?wl ?_); (case wc => assumption); (case wn => assumption); (case wz => simp); (case wl => walk_at "pf"))
  | ((with_reducible refine' w_sfldA ?wh ?wc ?wn ?wz ?wl ?_); (case wh => assumption); (case wc => assumption); (case wn => assumption); (case wz => simp); (case wl => walk_at "pf")))
local macro_rules | `(tactic| walk_at "w") => `(tactic| repeat (first | walk_at "w1" | walk_at "w2" | (dsimp only [List.set, setAll, List.append, List.cons_append, List.nil_append])))
local macro_rules | `(tactic| walk_at "w1") => `(tactic| with_reducible first | refine w_rev ?_ | refine w_enum ?_ | refine w_itup' ?_ | refine w_bm0 ?_ | refine w_gcons ?_ | refine w_gnil ?_ | refine w_tm1' ?_ | refine w_tru ?_)
/-! ### a guesser that was made may be none -/
def gOk : G → Nat → Bool
  | .non, _ => true
  | .next n, _ => decide (1 ≤ n ∧ n ≤ 3)
  | .stride n, _ => decide (1 ≤ n ∧ n ≤ 3)
  | .pairs n, _ => decide (1 ≤ n ∧ n ≤ 2)
  | .both a b, d => decide (d < 3) && (gOk a (d + 1) && gOk b (d + 1))
section
variable {K : PySem.W.Frag}
def spIsGX (n : Nat) : Sp := fun vs H Q _ => ∃ (a : Addr) (d : Nat) (g : G), vs = [.ref a, .int d] ∧ GTup H g a ∧ d ≤ 3 ∧ 3 < n + d ∧ ∀ H', Same H H' → Q (.bl (gOk g d)) H'
theorem pu_is_guesserX {vs : List V} {H : Hp} {Q : VK} {E : XK} {n : Nat} (h : spIsGX (n + 1) vs H Q E) : t_is_guesser K (spIsGX n) (B Q) (start ["guesser", "boths", "many", "times", "one", "other"] vs) H := by
  obtain ⟨a, d, g, rfl, hg, hd, hn, k⟩ := h
  obtain ⟨xs, hx⟩ := gtup_at hg
  unfold t_is_guesser
  walk_at "w"
  cases g with
  | non =>
    have hs : SqT K H a [.str "none"] := .of hg
    walk_at "w"
    exact k H (Same.refl H)
  | next m =>
    have hs : SqT K H a [.str "next", .int m] := .of hg
    walk_at "w"
    refine ⟨by decide, w_new fun p H1 hp e1 h1 => ?_⟩
    refine w_inT (l := [1, 2, 3]) (.of h1) ?_
    rw [if_neg (by decide), show decide (m ∈ ([1, 2, 3] : List Int)) = gOk (.next m) d from decide_eq_decide.mpr (by simp; omega)]
    exact k _ e1
  | stride m =>
    have hs : SqT K H a [.str "stride", .int m] := .of hg
    walk_at "w"
    refine ⟨by decide, w_new fun p H1 hp e1 h1 => ?_⟩
    refine w_inT (l := [1, 2, 3]) (.of h1) ?_
    rw [if_neg (by decide), show decide (m ∈ ([1, 2, 3] : List Int)) = gOk (.stride m) d from decide_eq_decide.mpr (by simp; omega)]
    exact k _ e1
  | pairs m =>
    have hs : SqT K H a [.str "pairs", .int m] := .of hg
    walk_at "w"
    refine ⟨by decide, w_new fun p H1 hp e1 h1 => ?_⟩
    refine w_inT (l := [1, 2]) (.of h1) ?_
    rw [if_neg (by decide), show decide (m ∈ ([1, 2] : List Int)) = gOk (.pairs m) d from decide_eq_decide.mpr (by simp; omega)]
    exact k _ e1
  | both x y =>
    obtain ⟨p, q, ha, hp, hq⟩ := hg
    have hs : SqT K H a [.str "both", .ref p, .ref q] := .of ha
    walk_at "w"
    by_cases c : d < 3
    · refine w_ifT (by omega) ?_
      walk_at "w"
      refine ⟨p, d + 1, x, rfl, hp, by omega, by omega, fun H1 e1 => ?_⟩
      have e : gOk (.both x y) d = (gOk x (d + 1) && gOk y (d + 1)) := by
        show (decide (d < 3) && _) = _
        rw [decide_eq_true c, Bool.true_and]
      rw [e] at k
      cases ex : gOk x (d + 1) with
      | true =>
        rw [ex] at k
        walk_at "w"
        refine ⟨q, d + 1, y, rfl, gtup_same e1 hq, by omega, by omega, fun H2 e2 => ?_⟩
        exact k _ (e1.trans e2)
      | false =>
        rw [ex] at k
        walk_at "w"
        exact k _ e1
    · have e : gOk (.both x y) d = false := by
        show (decide (d < 3) && _) = _
        rw [decide_eq_false c, Bool.false_and]
      rw [e] at k
      refine w_ifF (by omega) ?_
      exact k _ (Same.refl H)
/-! ### what is raised -/
theorem w_raiseN {C : Addr} {E : XK} {D : Ends} {σ : L2.St} {H : Hp} (k : E (.ref C) none H) : sRaise E (tMkN C) D σ H := k
theorem w_raiseO {C : Addr} {f : Str} {y : V} {H1 : Hp} {E : XK} (gy : GInit y) (k : ∀ H' d, Same H1 H' → H' d = some (.xd [(f, y)]) → E (.ref C) (some d) H') :
    ([y] : List V).length ≤ 1000 ∧ ∀ a, H1 a = none → spXInit GInit C f (.ref a :: ([y] ++ [])) (upd H1 a (exo a C none))
      (fun v H2 => v = .non ∧ ∃ (d : Addr) (fs : List (Str × V)), H2 a = some (exo a C (some d)) ∧ H2 d = some (exd d fs) ∧ H1 d = none ∧ E (.ref C) (some d) (upd (del H2 a) d (.xd fs))) (fun _ _ _ => False) := by
  refine ⟨by simp, fun a ha => ⟨a, y, rfl, gy, upd_same, fun dx hd ne => ⟨rfl, dx, [(f, y)], upd_same, ?_, ?_, ?_⟩⟩⟩
  · rw [upd_ne ne, upd_same]
  · rw [upd_ne ne] at hd
    exact hd
  · rw [upd_ne ne] at hd
    refine k _ dx (fun b o hb => ?_) upd_same
    have na : b ≠ a := fun z => by rw [z, ha] at hb; cases hb
    have nd : b ≠ dx := fun z => by rw [z, hd] at hb; cases hb
    rw [upd_ne nd, del_ne na, upd_ne na, upd_ne nd, upd_ne na]
    exact hb
def spCheckX (CG : Addr) : Sp := fun vs H Q E => ∃ (a : Addr) (g : G), vs = [.ref a] ∧ GTup H g a ∧ (gOk g 0 = true → ∀ H', Same H H' → Q .non H') ∧ (gOk g 0 = false → ∀ H', Same H H' → E (.ref CG) none H')
def t_check_guesserX (K : PySem.W.Frag) (c_BadGuesser : Addr) (sp_is_guesser : Sp) (E : XK) : TS := tIfS (tNot (tB (tCall sp_is_guesser [] E0 (tCons (tVar 0) (tCons (tC (.int 0)) (tNil)))))) (sRaise E (tMkN c_BadGuesser)) (tNext)
theorem pu_check_guesserX {CG : Addr} {vs : List V} {H : Hp} {Q : VK} {E : XK} (h : spCheckX CG vs H Q E) : t_check_guesserX K CG (spIsGX 4) E (B Q) (start ["guesser"] vs) H := by
  obtain ⟨a, g, rfl, hg, k1, k2⟩ := h
  unfold t_check_guesserX
  walk_at "w"
  refine ⟨a, 0, g, rfl, hg, by omega, by omega, fun H1 e1 => ?_⟩
  cases e : gOk g 0 with
  | true =>
    walk_at "w"
    exact k1 e _ e1
  | false =>
    walk_at "w"
    exact w_raiseN (k2 e _ e1)
/-! ### words that are none -/
/-- the first wrong place, from a place on -/
def badAt : List Str → Nat → List Str → Option Nat
  | [], _, [] => none
  | _ :: _, i, [] => some i
  | [], i, _ :: _ => some i
  | n :: r, i, w :: ws => if canStand w n = true then badAt (needsOf w ++ r) (i + 1) ws else some i
theorem badAt_le : ∀ {ws : List Str} {ns : List Str} {i p : Nat}, badAt ns i ws = some p → p ≤ i + ws.length
  | [], [], _, _, h => by cases h
  | [], _ :: _, _, _, h => by cases h; simp
  | _ :: _, [], _, _, h => by cases h; simp
  | w :: ws, n :: r, i, p, h => by
    unfold badAt at h
    split at h
    · have := badAt_le h
      simp only [List.length_cons]
      omega
    · cases h; simp
def spCheckWordsX (K : PySem.W.Frag) (CT : Addr) : Sp := fun vs H Q E => ∃ (a : Addr) (ws : List Str), vs = [.ref a] ∧ SqL K H a (ws.map V.str) ∧ ws.length ≤ 1000 ∧ (badAt ["guesser"] 0 ws = none → ∀ H', Same H H' → Q .non H') ∧
  (∀ p, badAt ["guesser"] 0 ws = some p → ∀ H' d, Same H H' → H' d = some (.xd [("place", .int (p : Nat))]) → E (.ref CT) (some d) H')
def t_check_wordsX (K : PySem.W.Frag) (c_BadText : Addr) (sp_can_stand sp_needs_of : Sp) (E : XK) : TS := tSeq (tAsg (tLst (tCons (tC (.str "guesser")) (tNil))) (gName 1))
  (tSeq (tFor (iEnum K (tCons (tVar 0) (tNil))) (gTup K 2 (gCons (gName 2) (gCons (gName 3) (gNil)))) (tSeq (tIfS (tOr (tNot (tTru K (tVar 1))) (tNot (tB (tCall sp_can_stand [] E0 (tCons (tVar 3) (tCons (tBM0 K "list" rPop (tVar 1)) (tNil))))))) (sRaise E (tMkO c_BadText (spXInit GInit c_BadText "place") [] (tCons (tVar 2) (tNil)))) (tNext))
  (tDrop (tBM K "list" rExtend (tVar 1) (tCons (tCall sp_needs_of [] E0 (tCons (tVar 3) (tNil))) (tNil))))))
  (tIfS (tTru K (tVar 1)) (sRaise E (tMkO c_BadText (spXInit GInit c_BadText "place") [] (tCons (tCB (rLenQ K) (tCons (tVar 0) (tNil))) (tNil)))) (tNext)))
theorem pu_check_wordsX {CT : Addr} {vs : List V} {H : Hp} {Q : VK} {E : XK} (h : spCheckWordsX K CT vs H Q E) : t_check_wordsX K CT spCanStand spNeedsOf E (B Q) (start ["words", "needs", "place", "word"] vs) H := by
  obtain ⟨a, ws, rfl, hx, hz, k1, k2⟩ := h
  unfold t_check_wordsX
  walk_at "w"
  refine ⟨small_le (by simp), w_new fun nl H1 hnl e1 h1 => ?_⟩
  walk_at "w"
  refine w_forenum (fun i σ H' => ∃ v2 v3 needs, σ = [some (.ref a), some (.ref nl), v2, v3] ∧ badAt needs i (ws.drop i) = badAt ["guesser"] 0 ws ∧ needs.length ≤ 1 + 2 * i ∧ H' nl = some (.lst (needs.reverse.map V.str)) ∧ Same H H') (e1.seq hx)
    ⟨_, _, ["guesser"], rfl, rfl, by simp, h1, e1⟩ (fun i σ H' _ p => ?_) (fun i x σ H' T H2 hi p hix hT e2 h2 => ?_) (fun σ H' p => ?_)
  · obtain ⟨_, _, _, _, _, _, _, s⟩ := p
    exact s.seq hx
  · obtain ⟨v2, v3, needs, rfl, hb, hln, hl, s⟩ := p
    obtain ⟨w, hw, rfl⟩ : ∃ w, ws[i]? = some w ∧ x = V.str w := by
      rw [List.getElem?_map] at hix
      cases e : ws[i]? with
      | none => rw [e] at hix; cases hix
      | some w => rw [e] at hix; exact ⟨w, rfl, (Option.some.inj hix).symm⟩
    obtain ⟨hlt, hw'⟩ := List.getElem?_eq_some_iff.mp hw
    have ed : ws.drop i = w :: ws.drop (i + 1) := by rw [List.drop_eq_getElem_cons hlt, hw']
    rw [ed] at hb
    refine w_gtup (SqT.of h2) rfl ?_
    walk_at "w"
    have hl2 := e2 _ _ hl
    cases needs with
    | nil =>
      refine ⟨_, truL (SqL.of hl2), ?_⟩
      rw [if_pos (by rfl), if_pos rfl]
      have hb : some i = badAt ["guesser"] 0 ws := hb
      exact ⟨_, rfl, w_raiseO ⟨i, by omega, rfl⟩ fun H4 d e4 h4 => k2 i hb.symm H4 d (s.trans (e2.trans e4)) h4⟩
    | cons n r =>
      rw [List.reverse_cons, List.map_append] at hl2
      refine ⟨_, truL (SqL.of hl2), ?_⟩
      refine w_orN (by simp) ?_
      walk_at "w"
      refine ⟨.inl ⟨rfl, _, SqL.of hl2⟩, ?_⟩
      refine w_pop hl2 ?_
      walk_at "w"
      refine ⟨w, n, rfl, fun H3 e5 => ?_⟩
      have hb : (if canStand w n = true then badAt (needsOf w ++ r) (i + 1) (ws.drop (i + 1)) else some i) = badAt ["guesser"] 0 ws := hb
      have s3 : Same H H3 := fun b o ho => by
        have nb : b ≠ nl := fun z => by rw [z, hnl] at ho; cases ho
        refine e5 _ _ ?_
        rw [upd_ne nb]
        exact e2 _ _ (s _ _ ho)
      refine ⟨_, rfl, ?_⟩
      cases hc : canStand w n with
      | false =>
        rw [hc, if_neg (by decide)] at hb
        rw [if_pos (show (!false) = true from rfl)]
        exact ⟨_, rfl, w_raiseO ⟨i, by omega, rfl⟩ fun H4 d e4 h4 => k2 i hb.symm H4 d (s3.trans e4) h4⟩
      | true =>
        rw [hc, if_pos rfl] at hb
        rw [if_neg (by decide)]
        walk_at "w"
        have hl3 := e5 _ _ (show upd H2 nl (.lst (r.reverse.map V.str)) nl = _ from upd_same)
        refine ⟨.inl ⟨rfl, _, SqL.of hl3⟩, ?_⟩
        walk_at "w"
        refine ⟨w, rfl, fun H4 q e6 hq h4 => ?_⟩
        have hl4 := e6 _ _ hl3
        have hnw := needs_len w
        simp only [List.length_cons] at hln
        walk_at "w"
        refine w_extend hl4 h4 (small_le ?_) ?_
        · rw [List.length_map, List.length_map, List.length_reverse]
          omega
        refine ⟨_, _, needsOf w ++ r, rfl, hb, ?_, ?_, fun b o hb => ?_⟩
        · rw [List.length_append]
          omega
        · rw [upd_same, List.reverse_append, needs_rev, List.map_append]
        · have nb : b ≠ nl := fun z => by rw [z, hnl] at hb; cases hb
          rw [upd_ne nb]
          exact e6 _ _ (s3 _ _ hb)
  · obtain ⟨v2, v3, needs, rfl, hb, hln, hl, s⟩ := p
    rw [List.length_map, List.drop_length] at hb
    walk_at "w"
    refine ⟨_, truL (SqL.of hl), ?_⟩
    cases needs with
    | nil =>
      have hb : none = badAt ["guesser"] 0 ws := hb
      rw [if_neg (by simp)]
      walk_at "w"
      exact k1 hb.symm _ s
    | cons n r =>
      have hb : some ws.length = badAt ["guesser"] 0 ws := hb
      rw [if_pos (by simp)]
      unfold sRaise tMkO
      walk_at "w"
      refine w_len (.inl (s.seq hx)) ?_
      rw [List.length_map]
      exact w_raiseO ⟨ws.length, hz, rfl⟩ fun H4 d e4 h4 => k2 _ hb.symm H4 d (s.trans e4) h4
/-! ### words that are all right are a guesser's -/
theorem fig_dig {w : Str} (h : w ∈ FIG) : ∃ k : Int, 0 ≤ k ∧ k ≤ 9 ∧ w = dig k := by
  obtain ⟨n, _, _, e, h0, h9⟩ := fig_val h
  exact ⟨n, h0, h9, e⟩
theorem parse : ∀ (m : Nat) {ws : List Str} {n : Str} {r : List Str} {i : Nat}, ws.length ≤ m → badAt (n :: r) i ws = none → ∃ pre rest, ws = pre ++ rest ∧ rest.length < ws.length ∧ badAt r (i + pre.length) rest = none ∧
    (n = "number" → ∃ k : Int, 0 ≤ k ∧ k ≤ 9 ∧ pre = [dig k]) ∧ (n ≠ "number" → ∃ g, Digs g ∧ pre = wordsOf g)
  | m, [], n, r, i, _, h => by cases h
  | 0, w :: ws, n, r, i, hl, h => by simp at hl
  | m + 1, w :: ws, n, r, i, hl0, h0' => by
    have h : (if canStand w n = true then badAt (needsOf w ++ r) (i + 1) ws else some i) = none := h0'
    have hl : ws.length ≤ m := by simp only [List.length_cons] at hl0; omega
    clear h0' hl0
    by_cases c : canStand w n = true
    · rw [if_pos c] at h
      by_cases en : n = "number"
      · subst en
        have hw : w ∈ FIG := by
          unfold canStand at c
          rw [if_pos rfl] at c
          exact of_decide_eq_true c
        obtain ⟨k, h0, h9, e⟩ := fig_dig hw
        have ew : needsOf w = [] := by
          rw [e]
          exact ten (P := fun n => needsOf (dig n) = []) ⟨by decide +kernel, by decide +kernel, by decide +kernel, by decide +kernel, by decide +kernel, by decide +kernel, by decide +kernel, by decide +kernel, by decide +kernel, by decide +kernel⟩ h0 h9
        rw [ew] at h
        exact ⟨[w], ws, rfl, by simp, h, fun _ => ⟨k, h0, h9, by rw [e]⟩, fun z => absurd rfl z⟩
      · unfold canStand at c
        rw [if_neg en, Bool.or_eq_true] at c
        by_cases c1 : w ∈ NUMB
        · have ew : needsOf w = [("number" : Str)] := if_pos c1
          rw [ew] at h
          obtain ⟨pre, rest, e1, e2, e3, e4, _⟩ := parse m hl h
          obtain ⟨k, h0, h9, e5⟩ := e4 rfl
          refine ⟨w :: pre, rest, by rw [e1]; rfl, by simp only [List.length_cons]; omega, by rw [List.length_cons, show i + (pre.length + 1) = i + 1 + pre.length by omega]; exact e3, fun z => absurd z en, fun _ => ?_⟩
          have c2 : w = "next" ∨ w = "stride" ∨ w = "pairs" := by simpa [NUMB] using c1
          rcases c2 with rfl | rfl | rfl
          · exact ⟨.next k, ⟨h0, h9⟩, by rw [e5]; rfl⟩
          · exact ⟨.stride k, ⟨h0, h9⟩, by rw [e5]; rfl⟩
          · exact ⟨.pairs k, ⟨h0, h9⟩, by rw [e5]; rfl⟩
        · have c2 : w = "none" ∨ w = "both" := by
            rcases c with c | c
            · exact absurd (of_decide_eq_true c) c1
            · simpa using of_decide_eq_true c
          rcases c2 with rfl | rfl
          · rw [show needsOf "none" = [] by decide +kernel] at h
            exact ⟨["none"], ws, rfl, by simp, h, fun z => absurd z en, fun _ => ⟨.non, trivial, rfl⟩⟩
          · rw [show needsOf "both" = [("guesser" : Str), "guesser"] by decide +kernel] at h
            obtain ⟨p1, r1, e1, e2, e3, _, e5⟩ := parse m hl h
            obtain ⟨g1, d1, q1⟩ := e5 (by decide)
            obtain ⟨p2, r2, f1, f2, f3, _, f5⟩ := parse m (by omega) e3
            obtain ⟨g2, d2, q2⟩ := f5 (by decide)
            refine ⟨"both" :: (p1 ++ p2), r2, by rw [e1, f1]; simp, by simp only [List.length_cons]; omega, ?_, fun z => absurd z en, fun _ => ⟨.both g1 g2, ⟨d1, d2⟩, by rw [q1, q2]; rfl⟩⟩
            rw [List.length_cons, List.length_append, show i + (p1.length + p2.length + 1) = i + 1 + p1.length + p2.length by omega]
            exact f3
    · rw [if_neg c] at h
      cases h
theorem parsed {ws : List Str} (h : badAt ["guesser"] 0 ws = none) : ∃ g, Digs g ∧ ws = wordsOf g := by
  obtain ⟨pre, rest, e1, _, e3, _, e5⟩ := parse ws.length (Nat.le_refl _) h
  obtain ⟨g, d, q⟩ := e5 (by decide)
  cases rest with
  | nil => exact ⟨g, d, by rw [e1, q, List.append_nil]⟩
  | cons w r => cases e3
/-! ### read -/
def spReadX (CT CG : Addr) : Sp := fun vs H Q E => ∃ (y : Str), vs = [.str y] ∧ y.length ≤ 1000 ∧ (Txt.split y " ").length ≤ 1000 ∧
  (∀ p, badAt ["guesser"] 0 (Txt.split y " ") = some p → ∀ H' d, Same H H' → H' d = some (.xd [("place", .int (p : Nat))]) → E (.ref CT) (some d) H') ∧
  (∀ g, Digs g → Txt.split y " " = wordsOf g → (gOk g 0 = true → ∀ H' a, Same H H' → GTup H' g a → Q (.ref a) H') ∧ (gOk g 0 = false → ∀ H', Same H H' → E (.ref CG) none H'))
def t_readX (sp_check_words sp_made sp_check_guesser : Sp) (E : XK) : TS := tSeq (tAsg (tM1 rSplit (tVar 0) (tC (.str " "))) (gName 1))
  (tSeq (tDrop (tCall sp_check_words [] E (tCons (tVar 1) (tNil))))
  (tSeq (tAsg (tCall sp_made [] E0 (tCons (tVar 1) (tNil))) (gName 2))
  (tSeq (tDrop (tCall sp_check_guesser [] E (tCons (tVar 2) (tNil))))
  (tRet (tVar 2)))))
theorem pu_readX {CT CG : Addr} {vs : List V} {H : Hp} {Q : VK} {E : XK} (h : spReadX CT CG vs H Q E) : t_readX (spCheckWordsX K CT) (spMadeOf K) (spCheckX CG) E (B Q) (start ["text", "words", "guesser"] vs) H := by
  obtain ⟨y, rfl, hy, hz, k1, k2⟩ := h
  unfold t_readX
  walk_at "w"
  refine ⟨⟨_, rfl⟩, ?_⟩
  walk_at "w"
  refine w_split (by decide +kernel) (small_le (by omega)) (w_new fun l H1 hl1 e1 h1 => ?_)
  walk_at "w"
  refine ⟨l, _, rfl, SqL.of h1, hz, fun hb H2 e2 => ?_, fun p hp H2 d e2 h2 => k1 p hp H2 d (e1.trans e2) h2⟩
  obtain ⟨g, dg, eg⟩ := parsed hb
  obtain ⟨k3, k4⟩ := k2 g dg eg
  rw [eg] at h1 hz
  walk_at "w"
  refine ⟨l, wordsOf g, g, rfl, SqL.of (e2 _ _ h1), by omega, made_of dg [], fun H3 p e3 gp => ?_⟩
  walk_at "w"
  refine ⟨p, g, rfl, gp, fun ok H4 e4 => ?_, fun nk H4 e4 => k4 nk H4 (e1.trans (e2.trans (e3.trans e4)))⟩
  walk_at "w"
  exact k3 ok H4 p (e1.trans (e2.trans (e3.trans e4))) (gtup_same e4 gp)
end
end SwD
set_option Elab.async false
set_option linter.all false
set_option maxRecDepth 100000
set_option maxHeartbeats 4000000
namespace SwX
open PySem PySem.Spec PyProof.Rows L2 StX
/-! ### a text's signs as a list, its length -/
def signsV (x : Str) : List V := x.cps.toList.map fun c => V.str ⟨#[c]⟩
abbrev rListS : RCall := fun xs H Q => ∃ x, xs = [.str x] ∧ x.length ≤ sizeLine ∧ ∀ l, H l = none → Q (.ref l) (upd H l (.lst (signsV x)))
abbrev rLenS : RCall := fun xs H Q => ∃ z, xs = [.str z] ∧ z.length ≤ sizeLine ∧ Q (.int z.length) H
theorem call_lenS {X : Cx} : CallR X (.builtin "len") rLenS := call_len_str
theorem call_listS {X : Cx} (hc : X.calm = true) : CallR X (.type "list") rListS := by
  intro pins s σ H xs us Q I r h
  obtain ⟨x, rfl, hz, q⟩ := h
  obtain ⟨u, rfl, rx⟩ := vals1 r
  obtain ⟨t, rfl⟩ := rx
  refine call_list_str (I.ok.hd hc) x t (hn := hz) fun h' tk acc' c' hk hS' hacc => ?_
  have el : acc'.toList.length = acc'.size := by simp
  have ex : x.cps.toList.length = x.cps.size := by simp
  refine ⟨.ref s.heap.objs.size, upd H s.heap.objs.size (.lst (signsV x)), I.laid hk (Nat.le_refl _) (show ObjOk X.prog X.w _ h' _ (.lst (signsV x)) from ⟨?_, acc'.toList, c', ?_, ?_⟩), rfl, q _ (I.hok.fresh (Nat.le_refl _))⟩
  · show (signsV x).length ≤ sizeLine
    rw [signsV, List.length_map, ex]
    exact hz
  · refine vals_of_at (by rw [signsV, List.length_map, el, hacc.1, ex]) fun j y w h1 h2 => ?_
    obtain ⟨c, u, hcj, rfl⟩ := hacc.2 j w (by rw [← Array.getElem?_toList]; exact h2)
    rw [signsV, List.getElem?_map, Array.getElem?_toList, hcj] at h1
    cases h1
    exact ⟨u, rfl⟩
  · rw [Array.toArray_toList]; exact hS'
end SwX
namespace SwD
open PySem PySem.Spec PyProof.Rows L2 SwX StX Sw TL
local macro_rules | `(tactic| walk_at "lk") => `(tactic| first | exact lk_at | exact lk_no | ((refine' lk_by (by decide +kernel) ?wq); (case wq => walk_at "lk")))
local macro_rules | `(tactic| walk_at "pf") => `(tactic| first | exact pf_at | exact pf_nil | ((refine' pf_by (by decide +kernel) ?wq); (case wq => walk_at "pf")))
local macro_rules | `(tactic| walk_at "w1") => `(tactic| with_reducible first
  | refine w_seq ?_ | refine w_asg ?_ | refine w_name ?_ | refine w_ret ?_ | refine w_retN ?_ | refine w_drop ?_ | refine w_next ?_ | refine w_if ?_ | refine w_ifE ?_ | refine w_test ?_ | refine w_B ?_ | refine w_bl ?_
  | refine w_not ?_ | refine w_and ?_ | refine w_or ?_ | refine w_andV ?_ | refine w_orV ?_ | refine w_notV ?_ | refine w_isN ?_ | refine w_notN ?_ | refine w_yes ?_
  | refine w_c ?_ | refine w_op ?_ | refine w_un ?_ | refine w_i0 ?_ | refine w_neg ?_ | refine w_nil ?_ | refine w_cons ?_ | refine w_cb ?_ | refine w_call ?_ | refine w_tup ?_ | refine w_lst ?_
  | refine w_fld ?_ | refine w_sfld ?_ | refine w_match ?_ | refine w_case ?_ | refine w_mcons ?_ | refine w_mnil ?_ | refine w_mcap ?_ | refine w_many ?_ | refine w_myes ?_
  | refine w_sub ?_ | refine w_bm ?_ | refine w_sl ?_ | refine w_nopart ?_ | refine w_part ?_ | refine w_int ?_ | refine w_ift ?_ | refine w_iff ?_ | refine w_ifn ?_ | refine w_dget2 ?_ | refine w_star ?_ | refine w_dput ?_ | refine w_dnewK ?_ | refine w_meth ?_ | refine w_oneOf ?_ | refine w_make ?_ | refine w_lc ?_ | refine w_for ?_ | refine w_ilist ?_ | refine w_irng1 ?_ | refine w_irng2 ?_ | refine w_irng3 ?_)
local macro_rules | `(tactic| walk_at "w2") => `(tactic| first
  | ((with_reducible refine' w_var ?wh ?_); (case wh => rfl))
  | ((with_reducible refine' w_eq ?wh ?_); (case wh => rfl))
  | ((with_reducible refine' w_ne ?wh ?_); (case wh => rfl))
  | ((with_reducible refine' w_mno ?wh ?_); (case wh => decide +kernel))
  | ((with_reducible refine' w_mhit ?wh ?wl ?_); (case wh => assumption); (case wl => rfl))
  | ((with_reducible refine' w_mmiss ?wh ?wl ?_); (case wh => assumption); (case wl => simp))
  | ((with_reducible refine' w_fldA ?wh ?wc ?wn ?wl ?_); (case wh => first | assumption | exact upd_same); (case wc => assumption); (case wn => assumption); (case wl => walk_at "lk"))
  | ((with_reducible refine' w_ixl ?wh ?we ?_); (case wh => exact SqL.of (by first | assumption | exact upd_same)); (case we => rfl))
  | ((with_reducible refine' w_ixt ?wh ?we ?_); (case wh => assumption); (case we => rfl))
  | ((with_reducible refine' w_ifT ?wh ?_); (case wh => (with_reducible exact Eq.refl _)))
  | ((with_reducible refine' w_ifF ?wh ?_); (case wh => decide +kernel))
  | ((with_reducible refine' w_isiY ?wh ?wk ?_); (case wh => first | exact .int _ | exact .str _ | exact .lst (by assumption) | exact .tup (by assumption)); (case wk => decide +kernel))
  | ((with_reducible refine' w_isiN ?wh ?wk ?_); (case wh => first | exact .int _ | exact .str _ | exact .lst (by assumption) | exact .tup (by assumption)); (case wk => decide +kernel))
  | ((with_reducible refine' w_ifF ?wh ?_); (case wh => (intro z; cases z; done)))
  | ((with_reducible refine' w_setl ?wh ?we ?wl ?_); (case wh => first | assumption | exact upd_same); (case we => rfl); (case wl => rfl))
  | ((with_reducible refine' w_methA ?wh ?wl ?_); (case wh => first | assumption | exact upd_same); (case wl => walk_at "lk"))
  | ((with_reducible refine' w_sfldB ?wc ?wn ?wz ?wl ?_); (case wc => assumption); (case wn => assumption); (case wz => simp); (case wl => walk_at "pf"))
  | ((with_reducible refine' w_sfldA ?wh ?wc ?wn ?wz ?wl ?_); (case wh => assumption); (case wc => assumption); (case wn => assumption); (case wz => simp); (case wl => walk_at "pf")))
local macro_rules | `(tactic| walk_at "w") => `(tactic| repeat (first | walk_at "w1" | walk_at "w2" | (dsimp only [List.set, setAll, List.append, List.cons_append, List.nil_append])))
local macro_rules | `(tactic| walk_at "w1") => `(tactic| with_reducible first | refine w_rev ?_ | refine w_enum ?_ | refine w_itup' ?_ | refine w_bm0 ?_ | refine w_gcons ?_ | refine w_gnil ?_ | refine w_tm1' ?_ | refine w_tru ?_)
local macro_rules | `(tactic| walk_at "w1") => `(tactic| with_reducible first | refine w_dget ?_ | refine w_din ?_ | refine w_dpop ?_ | refine w_ddel ?_ | refine w_iitems ?_ | refine w_dnotin ?_ | refine w_chain ?_)
local macro_rules | `(tactic| walk_at "w2") => `(tactic| first
  | ((with_reducible refine' w_gfldB ?wv ?wc ?wn ?wz ?wl ?_); (case wv => rfl); (case wc => assumption); (case wn => assumption); (case wz => simp); (case wl => walk_at "pf"))
  | ((with_reducible refine' w_gfldA ?wv ?wh ?wc ?wn ?wz ?wl ?_); (case wv => rfl); (case wh => assumption); (case wc => assumption); (case wn => assumption); (case wz => simp); (case wl => walk_at "pf")))
local macro_rules | `(tactic| walk_at "w1") => `(tactic| with_reducible first | refine w_ienumT ?_ | refine w_kget ?_ | refine w_allT ?_)
theorem gGood4 {g : G} : True := trivial
/-- the law's own: is a guesser good within so many -/
def gGood : G → Nat → Bool
  | .non, d => decide (d < 4)
  | .next n, d => decide (d < 4) && decide (1 ≤ n ∧ n ≤ 3)
  | .stride n, d => decide (d < 4) && decide (1 ≤ n ∧ n ≤ 3)
  | .pairs n, d => decide (d < 4) && decide (1 ≤ n ∧ n ≤ 2)
  | .both a b, d => decide (d < 4) && (gGood a (d + 1) && gGood b (d + 1))
theorem gGood_far : ∀ (g : G) {d : Nat}, 4 ≤ d → gGood g d = false
  | .non, d, h => decide_eq_false (by omega)
  | .next _, d, h => by show (decide (d < 4) && _) = _; rw [decide_eq_false (by omega), Bool.false_and]
  | .stride _, d, h => by show (decide (d < 4) && _) = _; rw [decide_eq_false (by omega), Bool.false_and]
  | .pairs _, d, h => by show (decide (d < 4) && _) = _; rw [decide_eq_false (by omega), Bool.false_and]
  | .both _ _, d, h => by show (decide (d < 4) && _) = _; rw [decide_eq_false (by omega), Bool.false_and]
theorem gGood_eq : ∀ (g : G) {d : Nat}, d ≤ 3 → gGood g d = gOk g d
  | .non, d, h => decide_eq_true (by omega)
  | .next _, d, h => by show (decide (d < 4) && _) = _; rw [decide_eq_true (by omega), Bool.true_and]; rfl
  | .stride _, d, h => by show (decide (d < 4) && _) = _; rw [decide_eq_true (by omega), Bool.true_and]; rfl
  | .pairs _, d, h => by show (decide (d < 4) && _) = _; rw [decide_eq_true (by omega), Bool.true_and]; rfl
  | .both a b, d, h => by
    show (decide (d < 4) && (gGood a (d + 1) && gGood b (d + 1))) = (decide (d < 3) && (gOk a (d + 1) && gOk b (d + 1)))
    by_cases c : d < 3
    · rw [decide_eq_true c, decide_eq_true (by omega), gGood_eq a (by omega), gGood_eq b (by omega)]
    · rw [decide_eq_false c, gGood_far a (by omega), Bool.false_and, Bool.and_false, Bool.false_and]
theorem w_disp {l : List (Str × V)} {σ : L2.St} {H : Hp} {Q : VK} (z : l.length ≤ 15) (em : mergeK [] (l.map fun q => ((Sum.inr q.1 : Key), q.2)) = l.map fun q => ((Sum.inr q.1 : Key), q.2))
    (k : ∀ p H1, H p = none → H1 p = some (.dK (l.map fun q => ((Sum.inr q.1 : Key), q.2))) → Same H H1 → Q (.ref p) H1) : tDisp (l.map fun q => (tC (.str q.1), tC q.2)) σ H Q := fun p hp => by
  have key : ∀ (l2 : List (Str × V)) (H1 : Hp) (R : List (V × V) → Hp → Prop), R (l2.map fun q => (V.str q.1, q.2)) H1 → tPairs (l2.map fun q => (tC (.str q.1), tC q.2)) σ H1 R := by
    intro l2
    induction l2 with
    | nil => intro H1 R h; exact h
    | cons q r ih => intro H1 R h; exact ih H1 _ h
  refine key l _ _ ⟨upd_same, l.map fun q => ((Sum.inr q.1 : Key), q.2), ?_, by rw [List.length_map]; exact z, ?_⟩
  · rw [List.map_map]
    rfl
  · rw [em]
    refine k p _ hp upd_same (fun b o hb => ?_)
    have nb : b ≠ p := fun z => by rw [z, hp] at hb; cases hb
    rw [upd_ne nb, upd_ne nb]
    exact hb
theorem w_dgetS {P : V → Prop} {a : Addr} {kvs : List (Key × V)} {w : Str} {v : V} {H : Hp} (h : H a = some (.dK kvs)) (e : valV kvs (Sum.inr w : Key) = some v) (k : P v) : ∃ a' v', V.ref a = .ref a' ∧ DGet H a' (.str w) (some v') ∧ P v' :=
  ⟨a, v, rfl, .inl ⟨kvs, .inr w, .inl h, rfl, e.symm⟩, k⟩
def MOST3 : List (Str × V) := [("next", .int 3), ("stride", .int 3), ("pairs", .int 2)]
section
variable {K : PySem.W.Frag}
def spLawGood (n : Nat) : Sp := fun vs H Q _ => ∃ (a : Addr) (d : Nat) (g : G), vs = [.ref a, .int d] ∧ GTup H g a ∧ d ≤ 4 ∧ 4 < n + d ∧ ∀ H', Same H H' → Q (.bl (gGood g d)) H'
def t_law_is_good (K : PySem.W.Frag) (sp_law_is_good : Sp) : TS := tSeq (tIfS (tTest (tOp (rEq) (tOp (rIxT K) (tVar 0) (tC (.int 0))) (tC (.str "both")))) (tRet (tAndV (tOp (rLtI) (tVar 1) (tC (.int 4))) (tAndV (tCall sp_law_is_good [] E0 (tCons (tOp (rIxT K) (tVar 0) (tC (.int 1))) (tCons (tOp (rAddI) (tVar 1) (tC (.int 1))) (tNil)))) (tCall sp_law_is_good [] E0 (tCons (tOp (rIxT K) (tVar 0) (tC (.int 2))) (tCons (tOp (rAddI) (tVar 1) (tC (.int 1))) (tNil))))))) (tNext))
  (tSeq (tIfS (tTest (tOp (rEq) (tOp (rIxT K) (tVar 0) (tC (.int 0))) (tC (.str "none")))) (tRet (tOp (rLtI) (tVar 1) (tC (.int 4)))) (tNext))
  (tRet (tAndV (tOp (rLtI) (tVar 1) (tC (.int 4))) (tChain (rLeI) (rLeI) (tC (.int 1)) (tOp (rIxT K) (tVar 0) (tC (.int 1))) (tDGet (tDisp ((tC (.str "next"), tC (.int 3)) :: (tC (.str "stride"), tC (.int 3)) :: (tC (.str "pairs"), tC (.int 2)) :: [])) (tOp (rIxT K) (tVar 0) (tC (.int 0))))))))
theorem pu_law_is_good {vs : List V} {H : Hp} {Q : VK} {E : XK} {n : Nat} (h : spLawGood (n + 1) vs H Q E) : t_law_is_good K (spLawGood n) (B Q) (start ["_law_guesser_here", "_law_within"] vs) H := by
  obtain ⟨a, d, g, rfl, hg, hd, hn, k⟩ := h
  obtain ⟨xs, hx⟩ := gtup_at hg
  unfold t_law_is_good
  walk_at "w"
  cases g with
  | non =>
    have hs : SqT K H a [.str "none"] := .of hg
    walk_at "w"
    rw [show decide ((d : Int) < 4) = gGood .non d from decide_eq_decide.mpr (by omega)]
    exact k H (Same.refl H)
  | next m =>
    have hs : SqT K H a [.str "next", .int m] := .of hg
    walk_at "w"
    by_cases c : d < 4
    · refine w_ifT (by omega) ?_
      walk_at "w"
      by_cases c1 : 1 ≤ m
      · refine w_ifT c1 ?_
        walk_at "w"
        refine w_disp (l := MOST3) (by decide) (by rfl) fun p H1 hp h1 e1 => ?_
        have hs1 := same_seqT e1 hs
        walk_at "w"
        refine w_dgetS h1 (by rfl) ?_
        walk_at "w"
        rw [show decide (m ≤ 3) = gGood (.next m) d from by show _ = (decide (d < 4) && decide (1 ≤ m ∧ m ≤ 3)); rw [decide_eq_true c, Bool.true_and]; exact decide_eq_decide.mpr (by omega)]
        exact k H1 e1
      · refine w_ifF c1 ?_
        rw [show gGood (.next m) d = false from by show (decide (d < 4) && decide (1 ≤ m ∧ m ≤ 3)) = false; rw [decide_eq_false (show ¬ (1 ≤ m ∧ m ≤ 3) by omega), Bool.and_false]] at k
        exact k H (Same.refl H)
    · refine w_ifF (by omega) ?_
      rw [show gGood (.next m) d = false from gGood_far _ (by omega)] at k
      exact k H (Same.refl H)
  | stride m =>
    have hs : SqT K H a [.str "stride", .int m] := .of hg
    walk_at "w"
    by_cases c : d < 4
    · refine w_ifT (by omega) ?_
      walk_at "w"
      by_cases c1 : 1 ≤ m
      · refine w_ifT c1 ?_
        walk_at "w"
        refine w_disp (l := MOST3) (by decide) (by rfl) fun p H1 hp h1 e1 => ?_
        have hs1 := same_seqT e1 hs
        walk_at "w"
        refine w_dgetS h1 (by rfl) ?_
        walk_at "w"
        rw [show decide (m ≤ 3) = gGood (.stride m) d from by show _ = (decide (d < 4) && decide (1 ≤ m ∧ m ≤ 3)); rw [decide_eq_true c, Bool.true_and]; exact decide_eq_decide.mpr (by omega)]
        exact k H1 e1
      · refine w_ifF c1 ?_
        rw [show gGood (.stride m) d = false from by show (decide (d < 4) && decide (1 ≤ m ∧ m ≤ 3)) = false; rw [decide_eq_false (show ¬ (1 ≤ m ∧ m ≤ 3) by omega), Bool.and_false]] at k
        exact k H (Same.refl H)
    · refine w_ifF (by omega) ?_
      rw [show gGood (.stride m) d = false from gGood_far _ (by omega)] at k
      exact k H (Same.refl H)
  | pairs m =>
    have hs : SqT K H a [.str "pairs", .int m] := .of hg
    walk_at "w"
    by_cases c : d < 4
    · refine w_ifT (by omega) ?_
      walk_at "w"
      by_cases c1 : 1 ≤ m
      · refine w_ifT c1 ?_
        walk_at "w"
        refine w_disp (l := MOST3) (by decide) (by rfl) fun p H1 hp h1 e1 => ?_
        have hs1 := same_seqT e1 hs
        walk_at "w"
        refine w_dgetS h1 (by rfl) ?_
        walk_at "w"
        rw [show decide (m ≤ 2) = gGood (.pairs m) d from by show _ = (decide (d < 4) && decide (1 ≤ m ∧ m ≤ 2)); rw [decide_eq_true c, Bool.true_and]; exact decide_eq_decide.mpr (by omega)]
        exact k H1 e1
      · refine w_ifF c1 ?_
        rw [show gGood (.pairs m) d = false from by show (decide (d < 4) && decide (1 ≤ m ∧ m ≤ 2)) = false; rw [decide_eq_false (show ¬ (1 ≤ m ∧ m ≤ 2) by omega), Bool.and_false]] at k
        exact k H (Same.refl H)
    · refine w_ifF (by omega) ?_
      rw [show gGood (.pairs m) d = false from gGood_far _ (by omega)] at k
      exact k H (Same.refl H)
  | both x y =>
    obtain ⟨p, q, ha, hp, hq⟩ := hg
    have hs : SqT K H a [.str "both", .ref p, .ref q] := .of ha
    walk_at "w"
    by_cases c : d < 4
    · refine w_ifT (by omega) ?_
      have e : gGood (.both x y) d = (gGood x (d + 1) && gGood y (d + 1)) := by
        show (decide (d < 4) && _) = _
        rw [decide_eq_true c, Bool.true_and]
      rw [e] at k
      walk_at "w"
      refine ⟨p, d + 1, x, rfl, hp, by omega, by omega, fun H1 e1 => ?_⟩
      cases ex : gGood x (d + 1) with
      | true =>
        rw [ex] at k
        have hs1 := same_seqT e1 hs
        walk_at "w"
        refine ⟨q, d + 1, y, rfl, gtup_same e1 hq, by omega, by omega, fun H2 e2 => ?_⟩
        exact k _ (e1.trans e2)
      | false =>
        rw [ex] at k
        walk_at "w"
        exact k _ e1
    · refine w_ifF (by omega) ?_
      rw [show gGood (.both x y) d = false from gGood_far _ (by omega)] at k
      exact k H (Same.refl H)
/-! ### the guesser at a word -/
def spLawPart (K : PySem.W.Frag) (n : Nat) : Sp := fun vs H Q _ => ∃ (a : Addr) (i : Nat) (ws rest : List Str) (g : G), vs = [.ref a, .int i] ∧ SqL K H a (ws.map V.str) ∧ ws.length ≤ 1000 ∧ ws.drop i = wordsOf g ++ rest ∧ Digs g ∧ g.depth < n ∧
  ∀ H' q p, Same H H' → H' q = some (.tup [.ref p, .int ((i + (wordsOf g).length : Nat) : Int)]) → GTup H' g p → Q (.ref q) H'
def t_law_part (K : PySem.W.Frag) (sp_law_part : Sp) : TS := tSeq (tIfS (tTest (tOp (rEq) (tOp (rIxL K) (tVar 0) (tVar 1)) (tC (.str "none")))) (tRet (tTup (tCons (tTup (tCons (tC (.str "none")) (tNil))) (tCons (tOp (rAddI) (tVar 1) (tC (.int 1))) (tNil))))) (tNext))
  (tSeq (tIfS (tTest (tOp (rNe) (tOp (rIxL K) (tVar 0) (tVar 1)) (tC (.str "both")))) (tRet (tTup (tCons (tTup (tCons (tOp (rIxL K) (tVar 0) (tVar 1)) (tCons (tCB (rIntS) (tCons (tOp (rIxL K) (tVar 0) (tOp (rAddI) (tVar 1) (tC (.int 1)))) (tNil))) (tNil)))) (tCons (tOp (rAddI) (tVar 1) (tC (.int 2))) (tNil))))) (tNext))
  (tSeq (tAsg (tCall sp_law_part [] E0 (tCons (tVar 0) (tCons (tOp (rAddI) (tVar 1) (tC (.int 1))) (tNil)))) (gTup K 2 (gCons (gName 2) (gCons (gName 3) (gNil)))))
  (tSeq (tAsg (tCall sp_law_part [] E0 (tCons (tVar 0) (tCons (tVar 3) (tNil)))) (gTup K 2 (gCons (gName 4) (gCons (gName 5) (gNil)))))
  (tRet (tTup (tCons (tTup (tCons (tC (.str "both")) (tCons (tVar 2) (tCons (tVar 4) (tNil))))) (tCons (tVar 5) (tNil))))))))
theorem atI_nat {xs : List V} {i : Nat} {v : V} (h : xs[i]? = some v) : atI xs (i : Int) = some v := by
  have hl := (List.getElem?_eq_some_iff.mp h).1
  unfold atI ixN
  rw [if_pos (by omega), if_pos (by omega)]
  show xs[(i : Int).toNat]? = _
  rw [Int.toNat_natCast]
  exact h
theorem at_drop {ws : List Str} {i : Nat} {w : Str} {r : List Str} (h : ws.drop i = w :: r) : atI (ws.map V.str) (i : Int) = some (.str w) ∧ ws.drop (i + 1) = r := by
  have hlt : i < ws.length := by
    by_cases c : i < ws.length
    · exact c
    · rw [List.drop_eq_nil_of_le (by omega)] at h
      cases h
  rw [List.drop_eq_getElem_cons hlt] at h
  have h1 : ws[i] = w := (List.cons.inj h).1
  refine ⟨?_, (List.cons.inj h).2⟩
  have hm : (ws.map V.str)[i]? = some (.str w) := by rw [List.getElem?_map, List.getElem?_eq_getElem hlt, h1]; rfl
  exact atI_nat hm
theorem pu_law_part {vs : List V} {H : Hp} {Q : VK} {E : XK} {n : Nat} (h : spLawPart K (n + 1) vs H Q E) : t_law_part K (spLawPart K n) (B Q) (start ["_law_words", "_law_at", "_law_one", "_law_there", "_law_other", "_law_behind"] vs) H := by
  obtain ⟨a, i, ws, rest, g, rfl, hx, hz, hd, dg, hn, k⟩ := h
  unfold t_law_part
  walk_at "w"
  cases g with
  | non =>
    have hd : ws.drop i = ("none" : Str) :: rest := hd
    obtain ⟨h0, _⟩ := at_drop hd
    refine w_ixl hx h0 ?_
    walk_at "w"
    refine ⟨small_le (by simp), w_new fun p H1 hp e1 h1 => ?_⟩
    walk_at "w"
    refine ⟨small_le (by simp), w_new fun q H2 hq e2 h2 => ?_⟩
    exact k H2 q p (e1.trans e2) h2 (e2 _ _ h1)
  | next m =>
    have hd : ws.drop i = ("next" : Str) :: dig m :: rest := hd
    obtain ⟨h0, hd1⟩ := at_drop hd
    obtain ⟨h1, _⟩ := at_drop hd1
    have h1 : atI (ws.map V.str) ((i : Int) + 1) = some (.str (dig m)) := h1
    obtain ⟨_, _, hlen, _⟩ := fig_val (dig_fig dg.1 dg.2)
    refine w_ixl hx h0 ?_
    walk_at "w"
    refine w_ixl hx h0 ?_
    walk_at "w"
    refine w_ixl hx h0 ?_
    walk_at "w"
    refine w_ixl hx h1 ?_
    walk_at "w"
    refine w_intS (dig_val dg.1 dg.2) (by omega) ?_
    walk_at "w"
    refine ⟨small_le (by simp), w_new fun p H1 hp e1 h2 => ?_⟩
    walk_at "w"
    refine ⟨small_le (by simp), w_new fun q H2 hq e2 h3 => ?_⟩
    exact k H2 q p (e1.trans e2) h3 (e2 _ _ h2)
  | stride m =>
    have hd : ws.drop i = ("stride" : Str) :: dig m :: rest := hd
    obtain ⟨h0, hd1⟩ := at_drop hd
    obtain ⟨h1, _⟩ := at_drop hd1
    have h1 : atI (ws.map V.str) ((i : Int) + 1) = some (.str (dig m)) := h1
    obtain ⟨_, _, hlen, _⟩ := fig_val (dig_fig dg.1 dg.2)
    refine w_ixl hx h0 ?_
    walk_at "w"
    refine w_ixl hx h0 ?_
    walk_at "w"
    refine w_ixl hx h0 ?_
    walk_at "w"
    refine w_ixl hx h1 ?_
    walk_at "w"
    refine w_intS (dig_val dg.1 dg.2) (by omega) ?_
    walk_at "w"
    refine ⟨small_le (by simp), w_new fun p H1 hp e1 h2 => ?_⟩
    walk_at "w"
    refine ⟨small_le (by simp), w_new fun q H2 hq e2 h3 => ?_⟩
    exact k H2 q p (e1.trans e2) h3 (e2 _ _ h2)
  | pairs m =>
    have hd : ws.drop i = ("pairs" : Str) :: dig m :: rest := hd
    obtain ⟨h0, hd1⟩ := at_drop hd
    obtain ⟨h1, _⟩ := at_drop hd1
    have h1 : atI (ws.map V.str) ((i : Int) + 1) = some (.str (dig m)) := h1
    obtain ⟨_, _, hlen, _⟩ := fig_val (dig_fig dg.1 dg.2)
    refine w_ixl hx h0 ?_
    walk_at "w"
    refine w_ixl hx h0 ?_
    walk_at "w"
    refine w_ixl hx h0 ?_
    walk_at "w"
    refine w_ixl hx h1 ?_
    walk_at "w"
    refine w_intS (dig_val dg.1 dg.2) (by omega) ?_
    walk_at "w"
    refine ⟨small_le (by simp), w_new fun p H1 hp e1 h2 => ?_⟩
    walk_at "w"
    refine ⟨small_le (by simp), w_new fun q H2 hq e2 h3 => ?_⟩
    exact k H2 q p (e1.trans e2) h3 (e2 _ _ h2)
  | both x y =>
    have hd : ws.drop i = ("both" : Str) :: (wordsOf x ++ (wordsOf y ++ rest)) := by rw [hd]; show _ = _; simp [wordsOf]
    have hn : max x.depth y.depth + 1 < n + 1 := hn
    obtain ⟨h0, hd1⟩ := at_drop hd
    refine w_ixl hx h0 ?_
    walk_at "w"
    refine w_ixl hx h0 ?_
    walk_at "w"
    refine ⟨a, i + 1, ws, _, x, rfl, hx, hz, hd1, dg.1, by omega, fun H1 q p e1 h1 gp => ?_⟩
    refine w_gtup (SqT.of h1) rfl ?_
    walk_at "w"
    have hd2 : ws.drop (i + 1 + (wordsOf x).length) = wordsOf y ++ rest := by
      rw [← List.drop_drop, hd1, List.drop_left]
    refine ⟨a, i + 1 + (wordsOf x).length, ws, rest, y, rfl, e1.seq hx, hz, hd2, dg.2, by omega, fun H2 q2 p2 e2 h2 gp2 => ?_⟩
    refine w_gtup (SqT.of h2) rfl ?_
    walk_at "w"
    refine ⟨small_le (by simp), w_new fun t H3 ht e3 h3 => ?_⟩
    walk_at "w"
    refine ⟨small_le (by simp), w_new fun q3 H4 hq e4 h4 => ?_⟩
    refine k H4 q3 t (e1.trans (e2.trans (e3.trans e4))) ?_ ⟨p, p2, e4 _ _ h3, gtup_same (e2.trans (e3.trans e4)) gp, gtup_same (e3.trans e4) gp2⟩
    rw [h4]
    show some (HO.tup [_, V.int ((i + 1 + (wordsOf x).length + (wordsOf y).length : Nat) : Int)]) = some (HO.tup [_, V.int ((i + (("both" : Str) :: (wordsOf x ++ wordsOf y)).length : Nat) : Int)])
    rw [List.length_cons, List.length_append, show i + 1 + (wordsOf x).length + (wordsOf y).length = i + ((wordsOf x).length + (wordsOf y).length + 1) by omega]
end
end SwD
set_option Elab.async false
set_option linter.all false
set_option maxRecDepth 100000
set_option maxHeartbeats 4000000
namespace SwD
open PySem PySem.Spec PyProof.Rows L2 SwX StX Sw TL
local macro_rules | `(tactic| walk_at "lk") => `(tactic| first | exact lk_at | exact lk_no | ((refine' lk_by (by decide +kernel) ?wq); (case wq => walk_at "lk")))
local macro_rules | `(tactic| walk_at "pf") => `(tactic| first | exact pf_at | exact pf_nil | ((refine' pf_by (by decide +kernel) ?wq); (case wq => walk_at "pf")))
local macro_rules | `(tactic| walk_at "w1") => `(tactic| with_reducible first
  | refine w_seq ?_ | refine w_asg ?_ | refine w_name ?_ | refine w_ret ?_ | refine w_retN ?_ | refine w_drop ?_ | refine w_next ?_ | refine w_if ?_ | refine w_ifE ?_ | refine w_test ?_ | refine w_B ?_ | refine w_bl ?_
  | refine w_not ?_ | refine w_and ?_ | refine w_or ?_ | refine w_andV ?_ | refine w_orV ?_ | refine w_notV ?_ | refine w_isN ?_ | refine w_notN ?_ | refine w_yes ?_
  | refine w_c ?_ | refine w_op ?_ | refine w_un ?_ | refine w_i0 ?_ | refine w_neg ?_ | refine w_nil ?_ | refine w_cons ?_ | refine w_cb ?_ | refine w_call ?_ | refine w_tup ?_ | refine w_lst ?_
  | refine w_fld ?_ | refine w_sfld ?_ | refine w_match ?_ | refine w_case ?_ | refine w_mcons ?_ | refine w_mnil ?_ | refine w_mcap ?_ | refine w_many ?_ | refine w_myes ?_
  | refine w_sub ?_ | refine w_bm ?_ | refine w_sl ?_ | refine w_nopart ?_ | refine w_part ?_ | refine w_int ?_ | refine w_ift ?_ | refine w_iff ?_ | refine w_ifn ?_ | refine w_dget2 ?_ | refine w_star ?_ | refine w_dput ?_ | refine w_dnewK ?_ | refine w_meth ?_ | refine w_oneOf ?_ | refine w_make ?_ | refine w_lc ?_ | refine w_for ?_ | refine w_ilist ?_ | refine w_irng1 ?_ | refine w_irng2 ?_ | refine w_irng3 ?_)
local macro_rules | `(tactic| walk_at "w2") => `(tactic| first
  | ((with_reducible refine' w_var ?wh ?_); (case wh => rfl))
  | ((with_reducible refine' w_eq ?wh ?_); (case wh => rfl))
  | ((with_reducible refine' w_ne ?wh ?_); (case wh => rfl))
  | ((with_reducible refine' w_mno ?wh ?_); (case wh => decide +kernel))
  | ((with_reducible refine' w_mhit ?wh ?wl ?_); (case wh => assumption); (case wl => rfl))
  | ((with_reducible refine' w_mmiss ?wh ?wl ?_); (case wh => assumption); (case wl => simp))
  | ((with_reducible refine' w_fldA ?wh ?wc ?wn ?wl ?_); (case wh => first | assumption | exact upd_same); (case wc => assumption); (case wn => assumption); (case wl => walk_at "lk"))
  | ((with_reducible refine' w_ixl ?wh ?we ?_); (case wh => exact SqL.of (by first | assumption | exact upd_same)); (case we => rfl))
  | ((with_reducible refine' w_ixt ?wh ?we ?_); (case wh => assumption); (case we => rfl))
  | ((with_reducible refine' w_ifT ?wh ?_); (case wh => (with_reducible exact Eq.refl _)))
  | ((with_reducible refine' w_ifF ?wh ?_); (case wh => decide +kernel))
  | ((with_reducible refine' w_isiY ?wh ?wk ?_); (case wh => first | exact .int _ | exact .str _ | exact .lst (by assumption) | exact .tup (by assumption)); (case wk => decide +kernel))
  | ((with_reducible refine' w_isiN ?wh ?wk ?_); (case wh => first | exact .int _ | exact .str _ | exact .lst (by assumption) | exact .tup (by assumption)); (case wk => decide +kernel))
  | ((with_reducible refine' w_ifF ?wh ?_); (case wh => (intro z; cases z; done)))
  | ((with_reducible refine' w_setl ?wh ?we ?wl ?_); (case wh => first | assumption | exact upd_same); (case we => rfl); (case wl => rfl))
  | ((with_reducible refine' w_methA ?wh ?wl ?_); (case wh => first | assumption | exact upd_same); (case wl => walk_at "lk"))
  | ((with_reducible refine' w_sfldB ?wc ?wn ?wz ?wl ?_); (case wc => assumption); (case wn => assumption); (case wz => simp); (case wl => walk_at "pf"))
  | ((with_reducible refine' w_sfldA ?wh ?wc ?wn ?wz ?wl ?_); (case wh => assumption); (case wc => assumption); (case wn => assumption); (case wz => simp); (case wl => walk_at "pf")))
local macro_rules | `(tactic| walk_at "w") => `(tactic| repeat (first | walk_at "w1" | walk_at "w2" | (dsimp only [List.set, setAll, List.append, List.cons_append, List.nil_append])))
local macro_rules | `(tactic| walk_at "w1") => `(tactic| with_reducible first | refine w_rev ?_ | refine w_enum ?_ | refine w_itup' ?_ | refine w_bm0 ?_ | refine w_gcons ?_ | refine w_gnil ?_ | refine w_tm1' ?_ | refine w_tru ?_)
local macro_rules | `(tactic| walk_at "w1") => `(tactic| with_reducible first | refine w_dget ?_ | refine w_din ?_ | refine w_dpop ?_ | refine w_ddel ?_ | refine w_iitems ?_ | refine w_dnotin ?_ | refine w_chain ?_)
local macro_rules | `(tactic| walk_at "w2") => `(tactic| first
  | ((with_reducible refine' w_gfldB ?wv ?wc ?wn ?wz ?wl ?_); (case wv => rfl); (case wc => assumption); (case wn => assumption); (case wz => simp); (case wl => walk_at "pf"))
  | ((with_reducible refine' w_gfldA ?wv ?wh ?wc ?wn ?wz ?wl ?_); (case wv => rfl); (case wh => assumption); (case wc => assumption); (case wn => assumption); (case wz => simp); (case wl => walk_at "pf")))
local macro_rules | `(tactic| walk_at "w1") => `(tactic| with_reducible first | refine w_ienumT ?_ | refine w_kget ?_ | refine w_allT ?_)
def MORE4 : List (Str × List Str) := [("none", []), ("next", ["number"]), ("stride", ["number"]), ("pairs", ["number"]), ("both", ["guesser", "guesser"])]
theorem cut_last (xs : List V) (v : V) : cutV (xs ++ [v]) none (some (-1)) = xs := by
  have e : ((-1 : Int) + ((xs ++ [v]).length : Int)).toNat - 0 = xs.length := by rw [List.length_append]; simp; omega
  show ((xs ++ [v]).drop 0).take (((-1 : Int) + ((xs ++ [v]).length : Int)).toNat - 0) = xs
  rw [e, List.drop_zero, List.take_left]
theorem atI_last (xs : List V) (v : V) : atI (xs ++ [v]) (-1) = some v := by
  unfold atI ixN
  rw [if_neg (by omega)]
  have hl : (xs ++ [v]).length = xs.length + 1 := by simp
  rw [hl, if_pos (by omega)]
  show (xs ++ [v])[((-1 : Int) + ((xs.length + 1 : Nat) : Int)).toNat]? = some v
  rw [show ((-1 : Int) + ((xs.length + 1 : Nat) : Int)).toNat = xs.length by omega]
  simp
section
variable {K : PySem.W.Frag}
theorem w_inSl {neg : Bool} {a : Addr} {w : Str} {l : List Str} {H : Hp} {Q : VK} (h : SqL K H a (l.map V.str)) (k : Q (.bl (if neg then !decide (w ∈ l) else decide (w ∈ l))) H) : rIn K neg (.str w) (.ref a) H Q :=
  ⟨a, _, rfl, .inl h, rfl, flat_strs l, by rw [inV_str]; exact k⟩
theorem w_listS {x : Str} {H : Hp} {Q : VK} (z : x.length ≤ sizeLine) (k : New Q H (.lst (signsV x))) : rListS [.str x] H Q := ⟨x, rfl, z, k⟩
theorem signs_fig : signsV "0123456789" = FIG.map V.str := by rfl
theorem w_dinS {P : Option V → Prop} {a : Addr} {kvs : List (Key × V)} {w : Str} {H : Hp} (h : H a = some (.dK kvs)) (k : P (valV kvs (Sum.inr w : Key))) : ∃ a' o, V.ref a = .ref a' ∧ DGet H a' (.str w) o ∧ P o :=
  ⟨a, _, rfl, .inl ⟨kvs, .inr w, .inl h, rfl, rfl⟩, k⟩
def kv5 (q1 q2 q3 q4 q5 : Addr) : List (Key × V) := [(.inr "none", .ref q1), (.inr "next", .ref q2), (.inr "stride", .ref q3), (.inr "pairs", .ref q4), (.inr "both", .ref q5)]
theorem more_none {q1 q2 q3 q4 q5 : Addr} {w : Str} (c : canStand w "guesser" = false) : valV (kv5 q1 q2 q3 q4 q5) (Sum.inr w : Key) = none := by
  unfold canStand at c
  rw [if_neg (by decide), Bool.or_eq_false_iff] at c
  have c1 := of_decide_eq_false c.1
  have c2 := of_decide_eq_false c.2
  simp only [NUMB, List.mem_cons, List.not_mem_nil, or_false, not_or] at c1 c2
  have ne : ∀ {y : Str} {v : V}, w ≠ y → ¬ (((Sum.inr y : Key), v) : Key × V).1 = Sum.inr w := fun h z => h (Sum.inr.inj z).symm
  unfold kv5
  rw [valV_neg (ne c2.1), valV_neg (ne c1.1), valV_neg (ne c1.2.1), valV_neg (ne c1.2.2), valV_neg (ne c2.2)]
  rfl
theorem more_some {q1 q2 q3 q4 q5 : Addr} {w : Str} {H : Hp} (c : canStand w "guesser" = true) (h1 : H q1 = some (.lst [])) (h2 : H q2 = some (.lst [.str "number"])) (h3 : H q3 = some (.lst [.str "number"])) (h4 : H q4 = some (.lst [.str "number"])) (h5 : H q5 = some (.lst [.str "guesser", .str "guesser"])) :
    ∃ q, valV (kv5 q1 q2 q3 q4 q5) (Sum.inr w : Key) = some (.ref q) ∧ H q = some (.lst ((needsOf w).map V.str)) := by
  unfold canStand at c
  rw [if_neg (by decide), Bool.or_eq_true] at c
  have c : w = "next" ∨ w = "stride" ∨ w = "pairs" ∨ w = "none" ∨ w = "both" := by
    rcases c with c | c
    · have := of_decide_eq_true c
      simp only [NUMB, List.mem_cons, List.not_mem_nil, or_false] at this
      rcases this with h | h | h <;> simp [h]
    · have := of_decide_eq_true c
      simp only [List.mem_cons, List.not_mem_nil, or_false] at this
      rcases this with h | h <;> simp [h]
  rcases c with rfl | rfl | rfl | rfl | rfl
  · exact ⟨q2, by rfl, h2⟩
  · exact ⟨q3, by rfl, h3⟩
  · exact ⟨q4, by rfl, h4⟩
  · exact ⟨q1, by rfl, h1⟩
  · exact ⟨q5, by rfl, h5⟩
theorem needs_kind {w m : Str} (h : m ∈ needsOf w) : m = "number" ∨ m = "guesser" := by
  unfold needsOf at h
  split at h
  · exact .inl (List.mem_singleton.mp h)
  · split at h
    · simp only [List.mem_cons, List.not_mem_nil, or_false, or_self] at h
      exact .inr h
    · cases h
theorem shaped_strs (l : List Str) (hok : ∀ y : Str, y ∈ l → PyData.strOk y = true) : SeqAt.shaped (.list (l.map PyData.str)) = true := by
  have h1 : ∀ l : List Str, (∀ y : Str, y ∈ l → PyData.strOk y = true) → PyData.canLayAll0 (l.map PyData.str) = true := fun l => by
    induction l with
    | nil => intro _; simp [PyData.canLayAll0]
    | cons x r ih => intro h; simp [PyData.canLayAll0, PyData.canLay0, ih (fun y hy => h y (List.mem_cons_of_mem _ hy)), h x List.mem_cons_self]
  have h2 : ∀ l : List Str, PyData.depthAll (l.map PyData.str) ≤ 1 := fun l => by
    induction l with
    | nil => simp [PyData.depthAll]
    | cons x r ih =>
      simp only [List.map_cons, PyData.depthAll, PyData.depth]
      omega
  have h3 : PyData.depth (.list (l.map PyData.str)) ≤ 64 := by
    have := h2 l
    simp only [PyData.depth]
    omega
  show (PyData.canLay0 (.list (l.map PyData.str)) && decide (PyData.depth (.list (l.map PyData.str)) ≤ 64)) = true
  rw [Bool.and_eq_true]
  exact ⟨by simp only [PyData.canLay0]; exact h1 l hok, decide_eq_true h3⟩
def plV : Option Nat → V
  | none => .non
  | some p => .int p
def spLawPlace (K : PySem.W.Frag) : Sp := fun vs H Q _ => ∃ (a : Addr) (ws : List Str), vs = [.ref a] ∧ SqL K H a (ws.map V.str) ∧ ws.length ≤ 1000 ∧ ∀ H', Same H H' → Q (plV (badAt ["guesser"] 0 ws)) H'
def t_law_place (K : PySem.W.Frag) : TS := tSeq (tAsg (tLst (tCons (tC (.str "guesser")) (tNil))) (gName 1))
  (tSeq (tFor (iRng1 (tCons (tCB (rLenQ K) (tCons (tVar 0) (tNil))) (tNil))) (gName 2) (tSeq (tAsg (tOp (rIxL K) (tOp (rCat) (tLst (tCons (tC (.str "end")) (tNil))) (tVar 1)) (tUn rNegI (tC (.int 1)))) (gName 3))
  (tSeq (tIfS (tOr (tTest (tOp (rEq) (tVar 3) (tC (.str "end")))) (tAnd (tTest (tOp (rEq) (tVar 3) (tC (.str "number")))) (tTest (tOp (rIn K true) (tOp (rIxL K) (tVar 0) (tVar 2)) (tCB (rListS) (tCons (tC (.str "0123456789")) (tNil))))))) (tRet (tVar 2)) (tNext))
  (tSeq (tAsg (tSl (rSlL K) (tVar 1) (tNoPart) (tPart (tUn rNegI (tC (.int 1))))) (gName 1))
  (tIfS (tTest (tOp (rEq) (tVar 3) (tC (.str "guesser")))) (tSeq (tAsg (tDisp ((tC (.str "none"), tLst (tNil)) :: (tC (.str "next"), tLst (tCons (tC (.str "number")) (tNil))) :: (tC (.str "stride"), tLst (tCons (tC (.str "number")) (tNil))) :: (tC (.str "pairs"), tLst (tCons (tC (.str "number")) (tNil))) :: [])) (gName 4))
  (tSeq (sDPut (tVar 4) (tC (.str "both")) (tLst (tCons (tC (.str "guesser")) (tCons (tC (.str "guesser")) (tNil)))))
  (tSeq (tIfS (tB (tDNotIn (tOp (rIxL K) (tVar 0) (tVar 2)) (tVar 4))) (tRet (tVar 2)) (tNext))
  (tAsg (tOp (rCat) (tVar 1) (tDGet (tVar 4) (tOp (rIxL K) (tVar 0) (tVar 2)))) (gName 1))))) (tNext))))))
  (tRet (tIf (tTest (tOp (rEqD K) (tVar 1) (tLst (tNil)))) (tC .non) (tCB (rLenQ K) (tCons (tVar 0) (tNil))))))
theorem pu_law_place {vs : List V} {H : Hp} {Q : VK} {E : XK} (h : spLawPlace K vs H Q E) : t_law_place K (B Q) (start ["_law_words", "_law_wants", "_law_at", "_law_want", "_law_more"] vs) H := by
  obtain ⟨a, ws, rfl, hx, hz, k⟩ := h
  unfold t_law_place
  walk_at "w"
  refine ⟨small_le (by simp), w_new fun l1 H1 hl1 e1 h1 => ?_⟩
  walk_at "w"
  refine w_len (.inl (e1.seq hx)) ?_
  walk_at "w"
  rw [List.length_map]
  refine w_forr1 (fun i σ H' => ∃ l needs v2 v3 v4, σ = [some (.ref a), some (.ref l), v2, v3, v4] ∧ (∀ n : Str, n ∈ needs → n = "number" ∨ n = "guesser") ∧ badAt needs i (ws.drop i) = badAt ["guesser"] 0 ws ∧ needs.length ≤ 1 + 2 * i ∧ H' l = some (.lst (needs.reverse.map V.str)) ∧ Same H H') (by omega)
    ⟨l1, ["guesser"], _, _, _, rfl, fun n hn => .inr (List.mem_singleton.mp hn), rfl, by simp, h1, e1⟩ (fun i σ H' hi p => ?_) (fun σ H' p => ?_)
  · obtain ⟨l, needs, v2, v3, v4, rfl, hns, hb, hln, hl, s⟩ := p
    have hlt : i < ws.length := by omega
    have ed : ws.drop i = ws[i] :: ws.drop (i + 1) := List.drop_eq_getElem_cons hlt
    obtain ⟨hat, _⟩ := at_drop ed
    generalize ws[i] = w at ed hat
    rw [ed] at hb
    walk_at "w"
    refine ⟨small_le (by simp), w_new fun q2 H2 hq2 e2 h2 => ?_⟩
    walk_at "w"
    refine w_cat h2 (e2 _ _ hl) (small_le (by simp; omega)) (w_new fun q3 H3 hq3 e3 h3 => ?_)
    walk_at "w"
    have s3 := s.trans (e2.trans e3)
    have hl3 := e3 _ _ (e2 _ _ hl)
    cases needs with
    | nil =>
      have hb : some i = badAt ["guesser"] 0 ws := hb
      refine w_ixl (SqL.of h3) (show atI ([V.str "end"] ++ _) (-1) = some (.str "end") from atI_last [] _) ?_
      walk_at "w"
      rw [← hb] at k
      exact k _ s3
    | cons n r =>
      have hb : (if canStand w n = true then badAt (needsOf w ++ r) (i + 1) (ws.drop (i + 1)) else some i) = badAt ["guesser"] 0 ws := hb
      have hns' : ∀ m : Str, m ∈ r → m = "number" ∨ m = "guesser" := fun m hm => hns m (List.mem_cons_of_mem _ hm)
      have ew : [V.str "end"] ++ (n :: r).reverse.map V.str = ([V.str "end"] ++ r.reverse.map V.str) ++ [V.str n] := by rw [List.reverse_cons, List.map_append, List.append_assoc]; rfl
      rw [List.reverse_cons, List.map_append] at hl3
      refine w_ixl (SqL.of h3) (by rw [ew]; exact atI_last _ _) ?_
      have fin : ∀ (H4 : Hp) (l' : Addr) (v3 v4 : Option V), canStand w n = true → H4 l' = some (.lst ((needsOf w ++ r).reverse.map V.str)) → (∀ m : Str, m ∈ needsOf w → m = "number" ∨ m = "guesser") → Same H H4 →
          ∃ l needs v2 v3' v4', [some (V.ref a), some (V.ref l'), some (V.int (i : Int)), v3, v4] = [some (V.ref a), some (V.ref l), v2, v3', v4'] ∧ (∀ n : Str, n ∈ needs → n = "number" ∨ n = "guesser") ∧ badAt needs (i + 1) (ws.drop (i + 1)) = badAt ["guesser"] 0 ws ∧ needs.length ≤ 1 + 2 * (i + 1) ∧ H4 l = some (.lst (needs.reverse.map V.str)) ∧ Same H H4 := by
        intro H4 l' v3 v4 c h4 hnw s4
        rw [if_pos c] at hb
        have hnl := needs_len w
        simp only [List.length_cons] at hln
        refine ⟨l', _, _, _, _, rfl, fun m hm => ?_, hb, by rw [List.length_append]; omega, h4, s4⟩
        rcases List.mem_append.mp hm with hm | hm
        · exact hnw m hm
        · exact hns' m hm
      rcases hns n List.mem_cons_self with rfl | rfl
      · walk_at "w"
        refine w_ixl (s3.seq hx) hat ?_
        walk_at "w"
        refine w_listS (by decide) (w_new fun q4 H4 hq4 e4 h4 => ?_)
        rw [signs_fig] at h4
        refine w_inSl (SqL.of h4) ?_
        rw [if_pos rfl]
        have ec : canStand w "number" = decide (w ∈ FIG) := if_pos rfl
        by_cases c : w ∈ FIG
        · rw [decide_eq_true c] at ec ⊢
          walk_at "w"
          refine w_sll (SqL.of (e4 _ _ hl3)) (w_new fun l5 H5 hl5 e5 h5 => ?_)
          rw [show cutV (r.reverse.map V.str ++ List.map V.str ["number"]) none (some (-1)) = r.reverse.map V.str from cut_last _ _] at h5
          walk_at "w"
          obtain ⟨m, h0, h9, em⟩ := fig_dig c
          have ew : needsOf w = [] := by
            rw [em]
            exact ten (P := fun n => needsOf (dig n) = []) ⟨by decide +kernel, by decide +kernel, by decide +kernel, by decide +kernel, by decide +kernel, by decide +kernel, by decide +kernel, by decide +kernel, by decide +kernel, by decide +kernel⟩ h0 h9
          exact fin H5 l5 _ _ ec (by rw [ew]; exact h5) (by rw [ew]; intro m hm; cases hm) (s3.trans (e4.trans e5))
        · rw [decide_eq_false c] at ec ⊢
          rw [ec, if_neg (by decide)] at hb
          walk_at "w"
          rw [← hb] at k
          exact k _ (s3.trans e4)
      · walk_at "w"
        refine w_sll (SqL.of hl3) (w_new fun l5 H5 hl5 e5 h5 => ?_)
        rw [show cutV (r.reverse.map V.str ++ List.map V.str ["guesser"]) none (some (-1)) = r.reverse.map V.str from cut_last _ _] at h5
        walk_at "w"
        have s5 := s3.trans e5
        intro p hp
        unfold tPairs
        walk_at "w"
        refine ⟨small_le (by simp), w_new fun q6 H6 hq6 e6 h6 => ?_⟩
        unfold tPairs
        walk_at "w"
        refine ⟨small_le (by simp), w_new fun q7 H7 hq7 e7 h7 => ?_⟩
        unfold tPairs
        walk_at "w"
        refine ⟨small_le (by simp), w_new fun q8 H8 hq8 e8 h8 => ?_⟩
        unfold tPairs
        walk_at "w"
        refine ⟨small_le (by simp), w_new fun q9 H9 hq9 e9 h9 => ?_⟩
        unfold tPairs
        have e69 : Same H6 H9 := e7.trans (e8.trans e9)
        refine ⟨(e6.trans e69) _ _ upd_same, [(.inr "none", .ref q6), (.inr "next", .ref q7), (.inr "stride", .ref q8), (.inr "pairs", .ref q9)], rfl, by simp, ?_⟩
        walk_at "w"
        refine ⟨small_le (by simp), w_new fun q10 H10 hq10 e10 h10 => ?_⟩
        walk_at "w"
        refine w_putS (kvs' := kv5 q6 q7 q8 q9 q10) (e10 _ _ upd_same) (by show 4 < sizeLine; decide) (by rfl) ?_
        have np : ∀ {b : Addr} {o : HO}, H5 b = some o → b ≠ p := fun hb z => by rw [z, hp] at hb; cases hb
        have hp6 := e6 _ _ (show upd H5 p (.dK []) p = some (.dK []) from upd_same)
        have n6 : q6 ≠ p := fun z => by rw [z, upd_same] at hq6; cases hq6
        have n7 : q7 ≠ p := fun z => by rw [z, hp6] at hq7; cases hq7
        have n8 : q8 ≠ p := fun z => by rw [z, e7 _ _ hp6] at hq8; cases hq8
        have n9 : q9 ≠ p := fun z => by rw [z, e8 _ _ (e7 _ _ hp6)] at hq9; cases hq9
        have n10 : q10 ≠ p := fun z => by rw [z, upd_same] at hq10; cases hq10
        have up : ∀ {b : Addr} {o u : HO}, H9 b = some o → b ≠ p → upd H10 p u b = some o := fun hb nb => by
          rw [upd_ne nb]
          exact e10 _ _ (by rw [upd_ne nb]; exact hb)
        have u5 : ∀ {b : Addr} {o u : HO}, H5 b = some o → upd H10 p u b = some o := fun hb => up ((e6.trans e69) _ _ (by rw [upd_ne (np hb)]; exact hb)) (np hb)
        have s11 : Same H (upd H10 p (.dK (kv5 q6 q7 q8 q9 q10))) := fun b o hb => u5 (s5 _ _ hb)
        walk_at "w"
        refine w_ixl (s11.seq hx) hat ?_
        walk_at "w"
        refine w_dinS upd_same ?_
        cases c : canStand w "guesser" with
        | false =>
          rw [c, if_neg (by decide)] at hb
          rw [more_none c]
          refine ⟨true, rfl, ?_⟩
          rw [if_pos rfl]
          walk_at "w"
          rw [← hb] at k
          exact k _ s11
        | true =>
          obtain ⟨q, ev, hq⟩ := more_some (q1 := q6) (q2 := q7) (q3 := q8) (q4 := q9) (q5 := q10) (H := upd H10 p (.dK (kv5 q6 q7 q8 q9 q10))) c (up (e69 _ _ h6) n6) (up (e8.trans e9 _ _ h7) n7) (up (e9 _ _ h8) n8) (up h9 n9) (by rw [upd_ne n10]; exact h10)
          rw [ev]
          refine ⟨false, rfl, ?_⟩
          rw [if_neg (by decide)]
          walk_at "w"
          refine w_ixl (s11.seq hx) hat ?_
          walk_at "w"
          refine w_dgetS upd_same ev ?_
          have hnw := needs_len w
          simp only [List.length_cons] at hln
          refine w_cat (u5 h5) hq (small_le (by simp; omega)) (w_new fun q12 H12 hq12 e12 h12 => ?_)
          refine fin H12 q12 _ _ c ?_ (fun m hm => needs_kind hm) (s11.trans e12)
          rw [h12, List.reverse_append, needs_rev, List.map_append]
  · obtain ⟨l, needs, v2, v3, v4, rfl, hns, hb, hln, hl, s⟩ := p
    rw [show ((ws.length : Int)).toNat = ws.length by omega, List.drop_length] at hb
    walk_at "w"
    refine ⟨small_le (by simp), w_new fun q1 H2 hq1 e2 hq1' => ?_⟩
    have nl : needs.length ≤ 2001 := by omega
    have hl2 := e2 _ _ hl
    have dps : ∀ ys : List Str, DpAll K H2 (ys.map V.str) (ys.map PyData.str) := fun ys => by
      induction ys with
      | nil => exact .nil
      | cons y r ih => exact .cons (.str y) ih
    refine ⟨.list (needs.reverse.map PyData.str), .list [], .lst (SqL.of hl2) (dps _), .lst (SqL.of hq1') .nil, shaped_strs _ (fun y hy => by rcases hns y (List.mem_reverse.mp hy) with rfl | rfl <;> decide +kernel), by decide, ?_⟩
    cases needs with
    | nil =>
      have hb : none = badAt ["guesser"] 0 ws := hb
      rw [show PyData.eqv (.list (([] : List Str).reverse.map PyData.str)) (.list []) = true by rfl]
      walk_at "w"
      rw [← hb] at k
      exact k _ (s.trans e2)
    | cons n r =>
      have hb : some ws.length = badAt ["guesser"] 0 ws := hb
      rw [show PyData.eqv (.list ((n :: r).reverse.map PyData.str)) (.list []) = false by rw [List.reverse_cons, List.map_append]; cases r.reverse.map PyData.str <;> rfl]
      walk_at "w"
      refine w_len (.inl ((s.trans e2).seq hx)) ?_
      rw [List.length_map]
      rw [← hb] at k
      exact k _ (s.trans e2)
end
end SwD
set_option Elab.async false
set_option linter.all false
set_option maxRecDepth 100000
set_option maxHeartbeats 4000000
namespace SwD
open PySem PySem.Spec PyProof.Rows L2 SwX StX Sw TL
local macro_rules | `(tactic| walk_at "lk") => `(tactic| first | exact lk_at | exact lk_no | ((refine' lk_by (by decide +kernel) ?wq); (case wq => walk_at "lk")))
local macro_rules | `(tactic| walk_at "pf") => `(tactic| first | exact pf_at | exact pf_nil | ((refine' pf_by (by decide +kernel) ?wq); (case wq => walk_at "pf")))
local macro_rules | `(tactic| walk_at "w1") => `(tactic| with_reducible first
  | refine w_seq ?_ | refine w_asg ?_ | refine w_name ?_ | refine w_ret ?_ | refine w_retN ?_ | refine w_drop ?_ | refine w_next ?_ | refine w_if ?_ | refine w_ifE ?_ | refine w_test ?_ | refine w_B ?_ | refine w_bl ?_
  | refine w_not ?_ | refine w_and ?_ | refine w_or ?_ | refine w_andV ?_ | refine w_orV ?_ | refine w_notV ?_ | refine w_isN ?_ | refine w_notN ?_ | refine w_yes ?_
  | refine w_c ?_ | refine w_op ?_ | refine w_un ?_ | refine w_i0 ?_ | refine w_neg ?_ | refine w_nil ?_ | refine w_cons ?_ | refine w_cb ?_ | refine w_call ?_ | refine w_tup ?_ | refine w_lst ?_
  | refine w_fld ?_ | refine w_sfld ?_ | refine w_match ?_ | refine w_case ?_ | refine w_mcons ?_ | refine w_mnil ?_ | refine w_mcap ?_ | refine w_many ?_ | refine w_myes ?_
  | refine w_sub ?_ | refine w_bm ?_ | refine w_sl ?_ | refine w_nopart ?_ | refine w_part ?_ | refine w_int ?_ | refine w_ift ?_ | refine w_iff ?_ | refine w_ifn ?_ | refine w_dget2 ?_ | refine w_star ?_ | refine w_dput ?_ | refine w_dnewK ?_ | refine w_meth ?_ | refine w_oneOf ?_ | refine w_make ?_ | refine w_lc ?_ | refine w_for ?_ | refine w_ilist ?_ | refine w_irng1 ?_ | refine w_irng2 ?_ | refine w_irng3 ?_)
local macro_rules | `(tactic| walk_at "w2") => `(tactic| first
  | ((with_reducible refine' w_var ?wh ?_); (case wh => rfl))
  | ((with_reducible refine' w_eq ?wh ?_); (case wh => rfl))
  | ((with_reducible refine' w_ne ?wh ?_); (case wh => rfl))
  | ((with_reducible refine' w_mno ?wh ?_); (case wh => decide +kernel))
  | ((with_reducible refine' w_mhit ?wh ?wl ?_); (case wh => assumption); (case wl => rfl))
  | ((with_reducible refine' w_mmiss ?wh ?wl ?_); (case wh => assumption); (case wl => simp))
  | ((with_reducible refine' w_fldA ?wh ?wc ?wn ?wl ?_); (case wh => first | assumption | exact upd_same); (case wc => assumption); (case wn => assumption); (case wl => walk_at "lk"))
  | ((with_reducible refine' w_ixl ?wh ?we ?_); (case wh => exact SqL.of (by first | assumption | exact upd_same)); (case we => rfl))
  | ((with_reducible refine' w_ixt ?wh ?we ?_); (case wh => assumption); (case we => rfl))
  | ((with_reducible refine' w_ifT ?wh ?_); (case wh => (with_reducible exact Eq.refl _)))
  | ((with_reducible refine' w_ifF ?wh ?_); (case wh => decide +kernel))
  | ((with_reducible refine' w_isiY ?wh ?wk ?_); (case wh => first | exact .int _ | exact .str _ | exact .lst (by assumption) | exact .tup (by assumption)); (case wk => decide +kernel))
  | ((with_reducible refine' w_isiN ?wh ?wk ?_); (case wh => first | exact .int _ | exact .str _ | exact .lst (by assumption) | exact .tup (by assumption)); (case wk => decide +kernel))
  | ((with_reducible refine' w_ifF ?wh ?_); (case wh => (intro z; cases z; done)))
  | ((with_reducible refine' w_setl ?wh ?we ?wl ?_); (case wh => first | assumption | exact upd_same); (case we => rfl); (case wl => rfl))
  | ((with_reducible refine' w_methA ?wh ?wl ?_); (case wh => first | assumption | exact upd_same); (case wl => walk_at "lk"))
  | ((with_reducible refine' w_sfldB ?wc ?wn ?wz ?wl ?_); (case wc => assumption); (case wn => assumption); (case wz => simp); (case wl => walk_at "pf"))
  | ((with_reducible refine' w_sfldA ?wh ?wc ?wn ?wz ?wl ?_); (case wh => assumption); (case wc => assumption); (case wn => assumption); (case wz => simp); (case wl => walk_at "pf")))
local macro_rules | `(tactic| walk_at "w") => `(tactic| repeat (first | walk_at "w1" | walk_at "w2" | (dsimp only [List.set, setAll, List.append, List.cons_append, List.nil_append])))
local macro_rules | `(tactic| walk_at "w1") => `(tactic| with_reducible first | refine w_rev ?_ | refine w_enum ?_ | refine w_itup' ?_ | refine w_bm0 ?_ | refine w_gcons ?_ | refine w_gnil ?_ | refine w_tm1' ?_ | refine w_tru ?_)
local macro_rules | `(tactic| walk_at "w1") => `(tactic| with_reducible first | refine w_dget ?_ | refine w_din ?_ | refine w_dpop ?_ | refine w_ddel ?_ | refine w_iitems ?_ | refine w_dnotin ?_ | refine w_chain ?_)
local macro_rules | `(tactic| walk_at "w2") => `(tactic| first
  | ((with_reducible refine' w_gfldB ?wv ?wc ?wn ?wz ?wl ?_); (case wv => rfl); (case wc => assumption); (case wn => assumption); (case wz => simp); (case wl => walk_at "pf"))
  | ((with_reducible refine' w_gfldA ?wv ?wh ?wc ?wn ?wz ?wl ?_); (case wv => rfl); (case wh => assumption); (case wc => assumption); (case wn => assumption); (case wz => simp); (case wl => walk_at "pf")))
local macro_rules | `(tactic| walk_at "w1") => `(tactic| with_reducible first | refine w_ienumT ?_ | refine w_kget ?_ | refine w_allT ?_)
section
variable {K : PySem.W.Frag}
/-- what is answered of a text -/
def Ans (y : Str) (H : Hp) (Q : VK) : Prop := (∀ p, badAt ["guesser"] 0 (Txt.split y " ") = some p → ∀ H' q, Same H H' → H' q = some (.tup [.str "text", .int (p : Nat)]) → Q (.ref q) H') ∧
  (∀ g, Digs g → Txt.split y " " = wordsOf g → (gOk g 0 = true → ∀ H' q t, Same H H' → H' q = some (.tup [.str "read", .ref t]) → GTup H' g t → Q (.ref q) H') ∧ (gOk g 0 = false → ∀ H' q, Same H H' → H' q = some (.tup [.str "guesser", .non]) → Q (.ref q) H'))
theorem text_deep : ∀ g : G, 5 * g.depth ≤ (textOf g).length
  | .non => Nat.zero_le _
  | .next _ => Nat.zero_le _
  | .stride _ => Nat.zero_le _
  | .pairs _ => Nat.zero_le _
  | .both a b => by
    have h1 := text_deep a
    have h2 := text_deep b
    have e : (textOf (.both a b)).length = 5 + (textOf a).length + 1 + (textOf b).length := by
      show (_ ++ _ ++ _ ++ _ : Str).length = _
      rw [Str.length_append, Str.length_append, Str.length_append]
      rfl
    rw [e]
    show 5 * (max a.depth b.depth + 1) ≤ _
    omega
theorem deep_of {y : Str} {g : G} (h : Txt.split y " " = wordsOf g) : 5 * g.depth ≤ y.length := by
  have e : textOf g = y := by rw [text_words, ← h, join_eq]; exact PySem.StrLaws.join_split y " "
  have := text_deep g
  rw [e] at this
  exact this
def spLawDue : Sp := fun vs H Q _ => ∃ y : Str, vs = [.str y] ∧ y.length ≤ 990 ∧ Ans y H Q
def t_law_due (K : PySem.W.Frag) (sp_law_place sp_law_part sp_law_is_good : Sp) : TS := tSeq (tAsg (tIf (tTest (tOp (rNe) (tVar 0) (tC (.str "")))) (tM1 rSplit (tVar 0) (tC (.str " "))) (tLst (tNil))) (gName 1))
  (tSeq (tAsg (tCall sp_law_place [] E0 (tCons (tVar 1) (tNil))) (gName 2))
  (tSeq (tIfS (tB (tNotN (tVar 2))) (tRet (tTup (tCons (tC (.str "text")) (tCons (tVar 2) (tNil))))) (tNext))
  (tSeq (tAsg (tOp (rIxT K) (tCall sp_law_part [] E0 (tCons (tVar 1) (tCons (tC (.int 0)) (tNil)))) (tC (.int 0))) (gName 3))
  (tRet (tIf (tB (tCall sp_law_is_good [] E0 (tCons (tVar 3) (tCons (tC (.int 0)) (tNil))))) (tTup (tCons (tC (.str "read")) (tCons (tVar 3) (tNil)))) (tTup (tCons (tC (.str "guesser")) (tCons (tC .non) (tNil)))))))))
theorem pu_law_due {vs : List V} {H : Hp} {Q : VK} {E : XK} (h : spLawDue vs H Q E) : t_law_due K (spLawPlace K) (spLawPart K 200) (spLawGood 5) (B Q) (start ["_law_text_here", "_law_words", "_law_place_here", "_law_found"] vs) H := by
  obtain ⟨y, rfl, hy, k1, k2⟩ := h
  have hw := split_le y " "
  unfold t_law_due
  have go : ∀ (H1 : Hp) (l : Addr) (ws : List Str), Same H H1 → H1 l = some (.lst (ws.map V.str)) → ws.length ≤ 1000 → badAt ["guesser"] 0 ws = badAt ["guesser"] 0 (Txt.split y " ") → (badAt ["guesser"] 0 ws = none → ws = Txt.split y " ") →
      (tSeq (tAsg (tCall (spLawPlace K) [] E0 (tCons (tVar 1) (tNil))) (gName 2))
  (tSeq (tIfS (tB (tNotN (tVar 2))) (tRet (tTup (tCons (tC (.str "text")) (tCons (tVar 2) (tNil))))) (tNext))
  (tSeq (tAsg (tOp (rIxT K) (tCall (spLawPart K 200) [] E0 (tCons (tVar 1) (tCons (tC (.int 0)) (tNil)))) (tC (.int 0))) (gName 3))
  (tRet (tIf (tB (tCall (spLawGood 5) [] E0 (tCons (tVar 3) (tCons (tC (.int 0)) (tNil))))) (tTup (tCons (tC (.str "read")) (tCons (tVar 3) (tNil)))) (tTup (tCons (tC (.str "guesser")) (tCons (tC .non) (tNil))))))))) (B Q) [some (.str y), some (.ref l), none, none] H1 := by
    intro H1 l ws s h1 hl eb ew
    walk_at "w"
    refine ⟨l, ws, rfl, SqL.of h1, hl, fun H2 e2 => ?_⟩
    cases hb : badAt ["guesser"] 0 ws with
    | some p =>
      rw [hb] at eb
      show gName 2 (.int (p : Nat)) _ _ _
      walk_at "w"
      refine ⟨small_le (by simp), w_new fun q H3 hq e3 h3 => ?_⟩
      exact k1 p eb.symm H3 q (s.trans (e2.trans e3)) h3
    | none =>
      have ew := ew hb
      subst ew
      obtain ⟨g, dg, eg⟩ := parsed hb
      have hdp := deep_of eg
      obtain ⟨k3, k4⟩ := k2 g dg eg
      show gName 2 .non _ _ _
      walk_at "w"
      refine ⟨l, 0, Txt.split y " ", [], g, rfl, SqL.of (e2 _ _ h1), hl, by rw [List.append_nil]; exact eg, dg, by omega, fun H3 q t e3 h3 gt => ?_⟩
      walk_at "w"
      refine w_ixt (SqT.of h3) rfl ?_
      walk_at "w"
      refine ⟨t, 0, g, rfl, gt, by omega, by omega, fun H4 e4 => ?_⟩
      rw [gGood_eq g (by omega)]
      have s4 := s.trans (e2.trans (e3.trans e4))
      cases ok : gOk g 0 with
      | true =>
        walk_at "w"
        refine ⟨small_le (by simp), w_new fun q5 H5 hq5 e5 h5 => ?_⟩
        exact k3 ok H5 q5 t (s4.trans e5) h5 (gtup_same (e4.trans e5) gt)
      | false =>
        walk_at "w"
        refine ⟨small_le (by simp), w_new fun q5 H5 hq5 e5 h5 => ?_⟩
        exact k4 ok H5 q5 (s4.trans e5) h5
  refine w_seq (w_asg ?_)
  by_cases c : y = ""
  · subst c
    walk_at "w"
    refine ⟨small_le (by simp), w_new fun l H1 hl e1 h1 => ?_⟩
    exact go H1 l [] e1 h1 (by simp) (by decide +kernel) (fun z => by cases z)
  · walk_at "w"
    rw [str_eq, decide_eq_false c]
    walk_at "w"
    refine ⟨⟨_, rfl⟩, ?_⟩
    walk_at "w"
    refine w_split (by decide +kernel) (small_le (by omega)) (w_new fun l H1 hl e1 h1 => ?_)
    exact go H1 l _ e1 h1 (by omega) rfl (fun _ => rfl)
/-! ### what is read, an error being caught -/
def tTryAs (K : PySem.W.Frag) (C : Addr) (i : Nat) (tb : WX → TS) (ts : Addr → Value → Option Addr → TS) : TS := fun D σ H => tb (wAs K (.ref C) i ts (fun _ _ _ _ => False) D) D σ H
structure XFacts (K : PySem.W.Frag) (cW cS cG cR cA cT : Addr) : Prop where
  mT : PySem.W.exmOne K (.ref cT) (.ref cW) = some true
  mG : PySem.W.exmOne K (.ref cG) (.ref cW) = some true
  iT : XIs K cT
  iG : XIs K cG
  vT : PySem.W.kitOne K (.ref cT) (.type "ValueError") = some true
  vG : PySem.W.kitOne K (.ref cG) (.type "ValueError") = some true
  tt : PySem.W.kitOne K (.ref cT) (.ref cT) = some true
  tg : PySem.W.kitOne K (.ref cT) (.ref cG) = some false
  ta : PySem.W.kitOne K (.ref cT) (.ref cA) = some false
  tr : PySem.W.kitOne K (.ref cT) (.ref cR) = some false
  ts : PySem.W.kitOne K (.ref cT) (.ref cS) = some false
  gt : PySem.W.kitOne K (.ref cG) (.ref cT) = some false
  gg : PySem.W.kitOne K (.ref cG) (.ref cG) = some true
  ga : PySem.W.kitOne K (.ref cG) (.ref cA) = some false
  gr : PySem.W.kitOne K (.ref cG) (.ref cR) = some false
  gs : PySem.W.kitOne K (.ref cG) (.ref cS) = some false
theorem xd_same {H H' : Hp} {d : Option Addr} (e : Same H H') (h : XDict H d) : XDict H' d := h.imp id fun ⟨dd, fs, e1, h1⟩ => ⟨dd, fs, e1, e _ _ h1⟩
theorem w_isX {a D : Addr} {d : Option Addr} {c : V} {cv : Value} {b : Bool} {H : Hp} {Q : VK} (C : XIs K D) (xd : XDict H d) (k : ClsV c cv) (e : PySem.W.kitOne K (.ref D) cv = some b) (q : Q (.bl b) H) : rIsX K a (.ref D) d [.ref a, c] H Q :=
  ⟨D, c, cv, b, rfl, C, xd, rfl, k, e, q⟩
theorem w_isXT {a D t : Addr} {d : Option Addr} {cs : List V} {us : List Value} {b : Bool} {H : Hp} {Q : VK} (C : XIs K D) (xd : XDict H d) (ht : H t = some (.tup cs)) (k : Paired ClsV cs us) (e : PySem.W.kitAny K (.ref D) us = some b) (q : Q (.bl b) H) : rIsXT K a (.ref D) d [.ref a, .ref t] H Q :=
  ⟨D, t, cs, us, b, rfl, C, xd, rfl, ht, k, e, q⟩
theorem w_cntB {p : Addr} {bs : List Bool} {c : Bool} {H : Hp} {Q : VK} (h : SqL K H p (bs.map V.bl)) (q : Q (.int (bs.count c : Nat)) H) : rCntB K (.ref p) [.bl c] H Q := ⟨p, bs, c, rfl, rfl, h, q⟩
theorem kit3 {t c1 c2 c3 : Value} (h1 : PySem.W.kitOne K t c1 = some false) (h2 : PySem.W.kitOne K t c2 = some false) (h3 : PySem.W.kitOne K t c3 = some false) : PySem.W.kitAny K t [c1, c2, c3] = some false :=
  kitAny_cons h1 (fun _ => kitAny_cons h2 (fun _ => kitAny_cons h3 (fun _ => rfl) (fun z => by cases z)) (fun z => by cases z)) (fun z => by cases z)
def spLawReading : Sp := fun vs H Q _ => ∃ y : Str, vs = [.str y] ∧ y.length ≤ 990 ∧ Ans y H Q
def t_law_reading (K : PySem.W.Frag) (c_WellError c_BadSetting c_BadGuesser c_BadRow c_BadAsk c_BadText : Addr) (sp_read : Sp) : TS := tTryAs K c_WellError 1 (fun W => tRet (tTup (tCons (tC (.str "read")) (tCons (tCallS sp_read (WE W) (tCons (tVar 0) (tNil))) (tNil))))) (fun a cls d => tSeq (tAsg (tLst (tCons (tCB (rIsX K a cls d) (tCons (tVar 1) (tCons (tC (.ref c_BadText)) (tNil)))) (tCons (tCB (rIsX K a cls d) (tCons (tVar 1) (tCons (tC (.ref c_BadGuesser)) (tNil)))) (tCons (tCB (rIsXT K a cls d) (tCons (tVar 1) (tCons (tTup (tCons (tC (.ref c_BadAsk)) (tCons (tC (.ref c_BadRow)) (tCons (tC (.ref c_BadSetting)) (tNil))))) (tNil)))) (tNil))))) (gName 2))
  (tSeq (tIfS (tOr (tNot (tB (tCB (rIsX K a cls d) (tCons (tVar 1) (tCons (tC (.ty "ValueError")) (tNil)))))) (tOr (tTest (tOp (rNe) (tBM K "list" (rCntB K) (tVar 2) (tCons (tC (.bl true)) (tNil))) (tC (.int 1)))) (tB (tOp (rIxL K) (tVar 2) (tC (.int 2)))))) (tRet (tTup (tCons (tC (.str "other")) (tCons (tC .non) (tNil))))) (tNext))
  (tRet (tIf (tB (tOp (rIxL K) (tVar 2) (tC (.int 0)))) (tTup (tCons (tC (.str "text")) (tCons (tXf a cls d c_BadText "place" (tVar 1)) (tNil)))) (tTup (tCons (tC (.str "guesser")) (tCons (tC .non) (tNil))))))))
theorem pu_law_reading {cW cS cG cR cA cT : Addr} (F : XFacts K cW cS cG cR cA cT) {vs : List V} {H : Hp} {Q : VK} {E : XK} (h : spLawReading vs H Q E) : t_law_reading K cW cS cG cR cA cT (spReadX cT cG) (B Q) (start ["_law_text_here", "e", "_law_kinds"] vs) H := by
  obtain ⟨y, rfl, hy, k1, k2⟩ := h
  have hw := split_le y " "
  unfold t_law_reading tTryAs
  walk_at "w"
  unfold tCallS
  walk_at "w"
  refine ⟨y, rfl, by omega, by omega, fun p hp H1 d s hd => ?_, fun g dg eg => ⟨fun ok H1 t s gt => ?_, fun nk H1 s => ?_⟩⟩
  · refine ⟨true, F.mT, fun _ a ha => ?_, fun z => by cases z⟩
    have xd : XDict H1 (some d) := .inr ⟨d, _, rfl, hd⟩
    walk_at "w"
    refine w_isX F.iT xd (.own _) F.tt ?_
    walk_at "w"
    refine w_isX F.iT xd (.own _) F.tg ?_
    walk_at "w"
    refine ⟨show 3 ≤ sizeLine by decide, w_new fun t2 H2 ht2 e2 h2 => ?_⟩
    have xd2 := xd_same e2 xd
    walk_at "w"
    refine w_isXT F.iT xd2 h2 (.cons (.own _) (.cons (.own _) (.cons (.own _) .nil))) (kit3 F.ta F.tr F.ts) ?_
    walk_at "w"
    refine ⟨show 3 ≤ sizeLine by decide, w_new fun l H3 hl e3 h3 => ?_⟩
    have xd3 := xd_same e3 xd2
    walk_at "w"
    refine w_isX F.iT xd3 (.ty _) F.vT ?_
    walk_at "w"
    have hc : SqL K H3 l (([true, false, false] : List Bool).map V.bl) := SqL.of h3
    refine ⟨.inl ⟨rfl, _, SqL.of h3⟩, ?_⟩
    walk_at "w"
    refine w_cntB hc ?_
    walk_at "w"
    rw [if_pos (show decide (V.int ((List.count true [true, false, false] : Nat) : Int) = V.int 1) = true by decide)]
    walk_at "w"
    have hd3 := e3 _ _ (e2 _ _ hd)
    refine ⟨_, rfl, rfl, rfl, d, _, _, rfl, hd3, lk_at, ?_⟩
    walk_at "w"
    refine ⟨small_le (by simp), w_new fun q H4 hq e4 h4 => ?_⟩
    exact k1 p hp H4 q (s.trans (e2.trans (e3.trans e4))) h4
  · walk_at "w"
    refine ⟨small_le (by simp), w_new fun q H2 hq e2 h2 => ?_⟩
    exact (k2 g dg eg).1 ok H2 q t (s.trans e2) h2 (gtup_same e2 gt)
  · refine ⟨true, F.mG, fun _ a ha => ?_, fun z => by cases z⟩
    have xd : XDict H1 none := .inl rfl
    walk_at "w"
    refine w_isX F.iG xd (.own _) F.gt ?_
    walk_at "w"
    refine w_isX F.iG xd (.own _) F.gg ?_
    walk_at "w"
    refine ⟨show 3 ≤ sizeLine by decide, w_new fun t2 H2 ht2 e2 h2 => ?_⟩
    have xd2 := xd_same e2 xd
    walk_at "w"
    refine w_isXT F.iG xd2 h2 (.cons (.own _) (.cons (.own _) (.cons (.own _) .nil))) (kit3 F.ga F.gr F.gs) ?_
    walk_at "w"
    refine ⟨show 3 ≤ sizeLine by decide, w_new fun l H3 hl e3 h3 => ?_⟩
    have xd3 := xd_same e3 xd2
    walk_at "w"
    refine w_isX F.iG xd3 (.ty _) F.vG ?_
    walk_at "w"
    have hc : SqL K H3 l (([false, true, false] : List Bool).map V.bl) := SqL.of h3
    refine ⟨.inl ⟨rfl, _, SqL.of h3⟩, ?_⟩
    walk_at "w"
    refine w_cntB hc ?_
    walk_at "w"
    rw [if_pos (show decide (V.int ((List.count true [false, true, false] : Nat) : Int) = V.int 1) = true by decide)]
    walk_at "w"
    refine ⟨small_le (by simp), w_new fun q H4 hq e4 h4 => ?_⟩
    exact (k2 g dg eg).2 nk H4 q (s.trans (e2.trans (e3.trans e4))) h4
end
end SwD
set_option Elab.async false
set_option linter.all false
set_option maxRecDepth 100000
set_option maxHeartbeats 4000000
namespace SwD
open PySem PySem.Spec PyProof.Rows L2 SwX StX Sw TL
local macro_rules | `(tactic| walk_at "lk") => `(tactic| first | exact lk_at | exact lk_no | ((refine' lk_by (by decide +kernel) ?wq); (case wq => walk_at "lk")))
local macro_rules | `(tactic| walk_at "pf") => `(tactic| first | exact pf_at | exact pf_nil | ((refine' pf_by (by decide +kernel) ?wq); (case wq => walk_at "pf")))
local macro_rules | `(tactic| walk_at "w1") => `(tactic| with_reducible first
  | refine w_seq ?_ | refine w_asg ?_ | refine w_name ?_ | refine w_ret ?_ | refine w_retN ?_ | refine w_drop ?_ | refine w_next ?_ | refine w_if ?_ | refine w_ifE ?_ | refine w_test ?_ | refine w_B ?_ | refine w_bl ?_
  | refine w_not ?_ | refine w_and ?_ | refine w_or ?_ | refine w_andV ?_ | refine w_orV ?_ | refine w_notV ?_ | refine w_isN ?_ | refine w_notN ?_ | refine w_yes ?_
  | refine w_c ?_ | refine w_op ?_ | refine w_un ?_ | refine w_i0 ?_ | refine w_neg ?_ | refine w_nil ?_ | refine w_cons ?_ | refine w_cb ?_ | refine w_call ?_ | refine w_tup ?_ | refine w_lst ?_
  | refine w_fld ?_ | refine w_sfld ?_ | refine w_match ?_ | refine w_case ?_ | refine w_mcons ?_ | refine w_mnil ?_ | refine w_mcap ?_ | refine w_many ?_ | refine w_myes ?_
  | refine w_sub ?_ | refine w_bm ?_ | refine w_sl ?_ | refine w_nopart ?_ | refine w_part ?_ | refine w_int ?_ | refine w_ift ?_ | refine w_iff ?_ | refine w_ifn ?_ | refine w_dget2 ?_ | refine w_star ?_ | refine w_dput ?_ | refine w_dnewK ?_ | refine w_meth ?_ | refine w_oneOf ?_ | refine w_make ?_ | refine w_lc ?_ | refine w_for ?_ | refine w_ilist ?_ | refine w_irng1 ?_ | refine w_irng2 ?_ | refine w_irng3 ?_)
local macro_rules | `(tactic| walk_at "w2") => `(tactic| first
  | ((with_reducible refine' w_var ?wh ?_); (case wh => rfl))
  | ((with_reducible refine' w_eq ?wh ?_); (case wh => rfl))
  | ((with_reducible refine' w_ne ?wh ?_); (case wh => rfl))
  | ((with_reducible refine' w_mno ?wh ?_); (case wh => decide +kernel))
  | ((with_reducible refine' w_mhit ?wh ?wl ?_); (case wh => assumption); (case wl => rfl))
  | ((with_reducible refine' w_mmiss ?wh ?wl ?_); (case wh => assumption); (case wl => simp))
  | ((with_reducible refine' w_fldA ?wh ?wc ?wn ?wl ?_); (case wh => first | assumption | exact upd_same); (case wc => assumption); (case wn => assumption); (case wl => walk_at "lk"))
  | ((with_reducible refine' w_ixl ?wh ?we ?_); (case wh => exact SqL.of (by first | assumption | exact upd_same)); (case we => rfl))
  | ((with_reducible refine' w_ixt ?wh ?we ?_); (case wh => assumption); (case we => rfl))
  | ((with_reducible refine' w_ifT ?wh ?_); (case wh => (with_reducible exact Eq.refl _)))
  | ((with_reducible refine' w_ifF ?wh ?_); (case wh => decide +kernel))
  | ((with_reducible refine' w_isiY ?wh ?wk ?_); (case wh => first | exact .int _ | exact .str _ | exact .lst (by assumption) | exact .tup (by assumption)); (case wk => decide +kernel))
  | ((with_reducible refine' w_isiN ?wh ?wk ?_); (case wh => first | exact .int _ | exact .str _ | exact .lst (by assumption) | exact .tup (by assumption)); (case wk => decide +kernel))
  | ((with_reducible refine' w_ifF ?wh ?_); (case wh => (intro z; cases z; done)))
  | ((with_reducible refine' w_setl ?wh ?we ?wl ?_); (case wh => first | assumption | exact upd_same); (case we => rfl); (case wl => rfl))
  | ((with_reducible refine' w_methA ?wh ?wl ?_); (case wh => first | assumption | exact upd_same); (case wl => walk_at "lk"))
  | ((with_reducible refine' w_sfldB ?wc ?wn ?wz ?wl ?_); (case wc => assumption); (case wn => assumption); (case wz => simp); (case wl => walk_at "pf"))
  | ((with_reducible refine' w_sfldA ?wh ?wc ?wn ?wz ?wl ?_); (case wh => assumption); (case wc => assumption); (case wn => assumption); (case wz => simp); (case wl => walk_at "pf")))
local macro_rules | `(tactic| walk_at "w") => `(tactic| repeat (first | walk_at "w1" | walk_at "w2" | (dsimp only [List.set, setAll, List.append, List.cons_append, List.nil_append])))
local macro_rules | `(tactic| walk_at "w1") => `(tactic| with_reducible first | refine w_rev ?_ | refine w_enum ?_ | refine w_itup' ?_ | refine w_bm0 ?_ | refine w_gcons ?_ | refine w_gnil ?_ | refine w_tm1' ?_ | refine w_tru ?_)
local macro_rules | `(tactic| walk_at "w1") => `(tactic| with_reducible first | refine w_dget ?_ | refine w_din ?_ | refine w_dpop ?_ | refine w_ddel ?_ | refine w_iitems ?_ | refine w_dnotin ?_ | refine w_chain ?_)
local macro_rules | `(tactic| walk_at "w2") => `(tactic| first
  | ((with_reducible refine' w_gfldB ?wv ?wc ?wn ?wz ?wl ?_); (case wv => rfl); (case wc => assumption); (case wn => assumption); (case wz => simp); (case wl => walk_at "pf"))
  | ((with_reducible refine' w_gfldA ?wv ?wh ?wc ?wn ?wz ?wl ?_); (case wv => rfl); (case wh => assumption); (case wc => assumption); (case wn => assumption); (case wz => simp); (case wl => walk_at "pf")))
local macro_rules | `(tactic| walk_at "w1") => `(tactic| with_reducible first | refine w_ienumT ?_ | refine w_kget ?_ | refine w_allT ?_)
/-- the weight of words -/
def wt (ws : List Str) : Nat := (ws.map (·.length)).sum + ws.length
theorem wt_app (a b : List Str) : wt (a ++ b) = wt a + wt b := by
  unfold wt
  rw [List.map_append, List.sum_append, List.length_append]
  omega
theorem wt_cut (k : Nat) (ws : List Str) : wt (ws.take k) + wt (ws.drop k) = wt ws := by
  rw [← wt_app, List.take_append_drop]
theorem join_le : ∀ ws : List Str, (Txt.join " " ws).length ≤ wt ws
  | [] => by rw [join_eq]; exact Nat.zero_le _
  | [x] => by
    rw [join_eq]
    show x.length ≤ ([x].map (·.length)).sum + 1
    simp
  | x :: z :: r => by
    have ih := join_le (z :: r)
    rw [join_eq] at ih ⊢
    show (x ++ " " ++ Str.join " " (z :: r)).length ≤ _
    rw [Str.length_append, Str.length_append]
    have e : wt (x :: z :: r) = x.length + 1 + wt (z :: r) := by
      unfold wt
      simp only [List.map_cons, List.sum_cons, List.length_cons]
      omega
    rw [e]
    have : (" " : Str).length = 1 := by decide
    omega
theorem cut_mid (xs : List V) (k : Nat) : cutV xs (some (k : Int)) (some ((k : Int) + 1)) = (xs.drop k).take 1 := by
  unfold cutV
  rw [HT.sIx_nat, show ((k : Int) + 1) = ((k + 1 : Nat) : Int) by omega, HT.sIx_nat]
  by_cases h : k < xs.length
  · rw [Nat.min_eq_left (by omega), Nat.min_eq_left (by omega), show k + 1 - k = 1 by omega]
  · rw [Nat.min_eq_right (by omega), Nat.min_eq_right (by omega), List.drop_of_length_le (Nat.le_refl _), List.drop_of_length_le (by omega)]
    simp
theorem cutS_two (y : Str) {a b : Int} (h0 : 0 ≤ a) (h1 : a ≤ b) : (cutS y none (some a)).length + (cutS y (some b) none).length ≤ y.length := by
  obtain ⟨m, rfl⟩ := Int.eq_ofNat_of_zero_le h0
  obtain ⟨n, rfl⟩ := Int.eq_ofNat_of_zero_le (Int.le_trans h0 h1)
  have ly : y.cps.toList.length = y.length := by show _ = y.cps.size; simp
  have e1 : (cutS y none (some (m : Int))).length = ((y.cps.toList.drop 0).take (min m y.length - 0)).length := by
    show Array.size _ = _
    unfold cutS
    rw [HT.sIx_nat]
    simp [HT.sIx_none]
  have e2 : (cutS y (some (n : Int)) none).length = ((y.cps.toList.drop (min n y.length)).take (y.length - min n y.length)).length := by
    show Array.size _ = _
    unfold cutS
    rw [HT.sIx_nat]
    simp [HT.sIx_none]
  rw [e1, e2, List.length_take, List.length_take, List.length_drop, List.length_drop, ly]
  omega
theorem atI_natG {α : Type} {xs : List α} {i : Nat} {v : α} (h : xs[i]? = some v) : atI xs (i : Int) = some v := by
  have hl := (List.getElem?_eq_some_iff.mp h).1
  unfold atI ixN
  rw [if_pos (by omega), if_pos (by omega)]
  show xs[(i : Int).toNat]? = _
  rw [Int.toNat_natCast]
  exact h
section
variable {K : PySem.W.Frag}
def spLawSpoilt (K : PySem.W.Frag) : Sp := fun vs H Q _ => ∃ (r : Addr) (y : Str), vs = [.ref r, .str y] ∧ y.length ≤ 500 ∧ RowAt K H r ∧ ∀ H' (y' : Str), y'.length ≤ 2 * y.length + 9 → RowAt K H' r → Out (Is r) H H' → Q (.str y') H'
def t_law_spoilt (K : PySem.W.Frag) (sp_law_taken : Sp) : TS := tSeq (tAsg (tCall sp_law_taken [] E0 (tCons (tVar 0) (tCons (tC (.int 8)) (tNil)))) (gName 2))
  (tSeq (tAsg (tCall sp_law_taken [] E0 (tCons (tVar 0) (tCons (tOp (rAddI) (tCB (rLenS) (tCons (tVar 1) (tNil))) (tC (.int 1))) (tNil)))) (gName 3))
  (tSeq (tAsg (tC (.str " !#$&'()*+,-./0123456789:;<=>?@ABCDEFGHIJKLMNOPQRSTUVWXYZ[]^_abcdefghijklmnopqrstuvwxyz{|}~")) (gName 4))
  (tSeq (tAsg (tOp (rIxL K) (tLst (tCons (tC (.str "0123459 nextbohsrid-")) (tCons (tVar 4) (tNil)))) (tOp (rDivI) (tCall sp_law_taken [] E0 (tCons (tVar 0) (tCons (tC (.int 3)) (tNil)))) (tC (.int 2)))) (gName 5))
  (tSeq (tAsg (tOp (rIxS) (tVar 5) (tCall sp_law_taken [] E0 (tCons (tVar 0) (tCons (tCB (rLenS) (tCons (tVar 5) (tNil))) (tNil))))) (gName 6))
  (tSeq (tIfS (tTest (tOp (rLtI) (tVar 2) (tC (.int 3)))) (tRet (tOp (rAddStr) (tOp (rAddStr) (tSl (rSlS) (tVar 1) (tNoPart) (tPart (tVar 3))) (tOp (rIxL K) (tLst (tCons (tVar 6) (tCons (tC (.str "")) (tCons (tC (.str " ")) (tNil))))) (tVar 2))) (tSl (rSlS) (tVar 1) (tPart (tOp (rAddI) (tVar 3) (tCB (rInt1) (tCons (tOp (rGtI) (tVar 2) (tC (.int 0))) (tNil))))) (tNoPart)))) (tNext))
  (tSeq (tAsg (tM1 rSplit (tVar 1) (tC (.str " "))) (gName 7))
  (tSeq (tAsg (tCall sp_law_taken [] E0 (tCons (tVar 0) (tCons (tCB (rLenQ K) (tCons (tVar 7) (tNil))) (tNil)))) (gName 8))
  (tSeq (tAsg (tLst (tCons (tC (.str "")) (tCons (tC (.str "0")) (tCons (tC (.str "1")) (tCons (tC (.str "2")) (tCons (tC (.str "3")) (tCons (tC (.str "4")) (tCons (tC (.str "9")) (tCons (tC (.str "10")) (tCons (tC (.str "none")) (tCons (tC (.str "next")) (tCons (tC (.str "stride")) (tCons (tC (.str "pairs")) (tCons (tC (.str "both")) (tCons (tC (.str "-1")) (tNil)))))))))))))))) (gName 9))
  (tSeq (tIfS (tTest (tOp (rEq) (tVar 2) (tC (.int 3)))) (tAsg (tOp (rCat) (tSl (rSlL K) (tVar 7) (tNoPart) (tPart (tVar 8))) (tSl (rSlL K) (tVar 7) (tPart (tOp (rAddI) (tVar 8) (tC (.int 1)))) (tNoPart))) (gName 7)) (tNext))
  (tSeq (tIfS (tTest (tOp (rEq) (tVar 2) (tC (.int 4)))) (tAsg (tOp (rCat) (tSl (rSlL K) (tVar 7) (tNoPart) (tPart (tOp (rAddI) (tVar 8) (tC (.int 1))))) (tSl (rSlL K) (tVar 7) (tPart (tVar 8)) (tNoPart))) (gName 7)) (tNext))
  (tSeq (tIfS (tTest (tOp (rEq) (tVar 2) (tC (.int 5)))) (tSeq (tAsg (tOp (rCat) (tSl (rSlL K) (tVar 7) (tNoPart) (tPart (tVar 8))) (tSl (rSlL K) (tVar 7) (tPart (tOp (rAddI) (tVar 8) (tC (.int 1)))) (tNoPart))) (gName 10))
  (tSeq (tAsg (tCall sp_law_taken [] E0 (tCons (tVar 0) (tCons (tOp (rAddI) (tCB (rLenQ K) (tCons (tVar 10) (tNil))) (tC (.int 1))) (tNil)))) (gName 11))
  (tAsg (tOp (rCat) (tOp (rCat) (tSl (rSlL K) (tVar 10) (tNoPart) (tPart (tVar 11))) (tSl (rSlL K) (tVar 7) (tPart (tVar 8)) (tPart (tOp (rAddI) (tVar 8) (tC (.int 1)))))) (tSl (rSlL K) (tVar 10) (tPart (tVar 11)) (tNoPart))) (gName 7)))) (tNext))
  (tSeq (tIfS (tTest (tOp (rGtI) (tVar 2) (tC (.int 5)))) (tAsg (tOp (rCat) (tOp (rCat) (tSl (rSlL K) (tVar 7) (tNoPart) (tPart (tVar 8))) (tLst (tCons (tOp (rIxL K) (tVar 9) (tCall sp_law_taken [] E0 (tCons (tVar 0) (tCons (tC (.int 14)) (tNil))))) (tNil)))) (tSl (rSlL K) (tVar 7) (tPart (tOp (rAddI) (tVar 8) (tC (.int 1)))) (tNoPart))) (gName 7)) (tNext))
  (tRet (tM1 (rJoin K) (tC (.str " ")) (tVar 7)))))))))))))))
def ODD : List Str := ["", "0", "1", "2", "3", "4", "9", "10", "none", "next", "stride", "pairs", "both", "-1"]
theorem sp_fin {Q : VK} {H Hx : Hp} {r q : Addr} {y : Str} {wsx : List Str} {v2 v3 v4 v5 v6 v8 v9 v10 v11 : Option V} (k : ∀ H' (y' : Str), y'.length ≤ 2 * y.length + 9 → RowAt K H' r → Out (Is r) H H' → Q (.str y') H') (hy : y.length ≤ 500)
    (row : RowAt K Hx r) (o : Out (Is r) H Hx) (hq : Hx q = some (.lst (wsx.map V.str))) (hw : wt wsx ≤ 2 * y.length + 9) :
    (tRet (tM1 (rJoin K) (tC (.str " ")) (tVar 7))) (B Q) [some (.ref r), some (.str y), v2, v3, v4, v5, v6, some (.ref q), v8, v9, v10, v11] Hx := by
  walk_at "w"
  refine ⟨⟨_, rfl⟩, ?_⟩
  walk_at "w"
  refine w_join (SqL.of hq) ?_ ?_
  · show _ + _ * 1 ≤ _
    unfold wt at hw
    omega
  · exact k Hx _ (Nat.le_trans (join_le wsx) hw) row o
theorem sp_six {Q : VK} {H Hx : Hp} {r q od : Addr} {y : Str} {wsx : List Str} {way : Int} {m : Nat} {v3 v4 v5 v6 v10 v11 : Option V} (k : ∀ H' (y' : Str), y'.length ≤ 2 * y.length + 9 → RowAt K H' r → Out (Is r) H H' → Q (.str y') H') (hy : y.length ≤ 500)
    (row : RowAt K Hx r) (o : Out (Is r) H Hx) (hq : Hx q = some (.lst (wsx.map V.str))) (nq : q ≠ r) (ho : Hx od = some (.lst (ODD.map V.str))) (no : od ≠ r) (hw : wt wsx ≤ 2 * y.length + 2) :
    (tSeq (tIfS (tTest (tOp (rGtI) (tVar 2) (tC (.int 5)))) (tAsg (tOp (rCat) (tOp (rCat) (tSl (rSlL K) (tVar 7) (tNoPart) (tPart (tVar 8))) (tLst (tCons (tOp (rIxL K) (tVar 9) (tCall (spTaken K) [] E0 (tCons (tVar 0) (tCons (tC (.int 14)) (tNil))))) (tNil)))) (tSl (rSlL K) (tVar 7) (tPart (tOp (rAddI) (tVar 8) (tC (.int 1)))) (tNoPart))) (gName 7)) (tNext))
  (tRet (tM1 (rJoin K) (tC (.str " ")) (tVar 7)))) (B Q) [some (.ref r), some (.str y), some (.int way), v3, v4, v5, v6, some (.ref q), some (.int (m : Int)), some (.ref od), v10, v11] Hx := by
  have lw : wsx.length ≤ wt wsx := Nat.le_add_left _ _
  walk_at "w"
  refine w_if2 (fun c => ?_) (fun c => ?_)
  · walk_at "w"
    refine w_sll (SqL.of hq) (w_new fun p1 H1 hp1 e1 h1 => ?_)
    rw [cut_take _ (by omega)] at h1
    walk_at "w"
    refine ⟨r, 14, rfl, by decide, row_same e1 row, fun H2 i i0 i1 row2 o2 => ?_⟩
    walk_at "w"
    have ho2 := o2 _ _ (e1 _ _ ho) no
    obtain ⟨w', hw', hl'⟩ : ∃ w' : Str, atI (ODD.map V.str) i = some (.str w') ∧ w'.length ≤ 6 := by
      have hc : i = 0 ∨ i = 1 ∨ i = 2 ∨ i = 3 ∨ i = 4 ∨ i = 5 ∨ i = 6 ∨ i = 7 ∨ i = 8 ∨ i = 9 ∨ i = 10 ∨ i = 11 ∨ i = 12 ∨ i = 13 := by omega
      rcases hc with rfl | rfl | rfl | rfl | rfl | rfl | rfl | rfl | rfl | rfl | rfl | rfl | rfl | rfl <;> exact ⟨_, rfl, by decide⟩
    refine w_ixl (SqL.of ho2) hw' ?_
    walk_at "w"
    refine ⟨small_le (by simp), w_new fun p3 H3 hp3 e3 h3 => ?_⟩
    have np1 := row_new row hp1
    have h13 := e3 _ _ (o2 _ _ h1 np1)
    have lt1 : ((wsx.map V.str).take (m : Int).toNat).length ≤ wsx.length := by rw [List.length_take, List.length_map]; omega
    refine w_cat h13 h3 (small_le (by rw [List.length_singleton]; omega)) (w_new fun p4 H4 hp4 e4 h4 => ?_)
    walk_at "w"
    have hq4 := e4 _ _ (e3 _ _ (o2 _ _ (e1 _ _ hq) nq))
    refine w_sll (SqL.of hq4) (w_new fun p5 H5 hp5 e5 h5 => ?_)
    rw [cut_drop _ (by omega)] at h5
    have lt5 : ((wsx.map V.str).drop ((m : Int) + 1).toNat).length ≤ wsx.length := by rw [List.length_drop, List.length_map]; omega
    refine w_cat (e5 _ _ h4) h5 (small_le (by rw [List.length_append, List.length_singleton]; omega)) (w_new fun p6 H6 hp6 e6 h6 => ?_)
    walk_at "w"
    have row6 := row_same (e3.trans (e4.trans (e5.trans e6))) row2
    have o6 : Out (Is r) H H6 := o.trans ((same_out e1).trans (o2.trans (same_out (e3.trans (e4.trans (e5.trans e6))))))
    refine sp_fin (wsx := wsx.take (m : Int).toNat ++ [w'] ++ wsx.drop ((m : Int) + 1).toNat) k hy row6 o6 (by rw [h6, List.map_append, List.map_append, List.map_take, List.map_drop]; rfl) ?_
    rw [wt_app, wt_app]
    have c1 := wt_cut (m : Int).toNat wsx
    have c2 : wt (wsx.drop ((m : Int) + 1).toNat) ≤ wt (wsx.drop (m : Int).toNat) := by
      have := wt_cut 1 (wsx.drop (m : Int).toNat)
      rw [List.drop_drop, show (m : Int).toNat + 1 = ((m : Int) + 1).toNat by omega] at this
      omega
    have c3 : wt [w'] = w'.length + 1 := by unfold wt; simp
    omega
  · walk_at "w"
    exact sp_fin k hy row o hq (by omega)
theorem sp_five {Q : VK} {H Hx : Hp} {r q od : Addr} {y : Str} {wsx : List Str} {way : Int} {m : Nat} {v3 v4 v5 v6 v10 v11 : Option V} (k : ∀ H' (y' : Str), y'.length ≤ 2 * y.length + 9 → RowAt K H' r → Out (Is r) H H' → Q (.str y') H') (hy : y.length ≤ 500)
    (row : RowAt K Hx r) (o : Out (Is r) H Hx) (hq : Hx q = some (.lst (wsx.map V.str))) (nq : q ≠ r) (ho : Hx od = some (.lst (ODD.map V.str))) (no : od ≠ r) (hw : wt wsx ≤ 2 * y.length + 2) :
    (tSeq (tIfS (tTest (tOp (rEq) (tVar 2) (tC (.int 5)))) (tSeq (tAsg (tOp (rCat) (tSl (rSlL K) (tVar 7) (tNoPart) (tPart (tVar 8))) (tSl (rSlL K) (tVar 7) (tPart (tOp (rAddI) (tVar 8) (tC (.int 1)))) (tNoPart))) (gName 10))
  (tSeq (tAsg (tCall (spTaken K) [] E0 (tCons (tVar 0) (tCons (tOp (rAddI) (tCB (rLenQ K) (tCons (tVar 10) (tNil))) (tC (.int 1))) (tNil)))) (gName 11))
  (tAsg (tOp (rCat) (tOp (rCat) (tSl (rSlL K) (tVar 10) (tNoPart) (tPart (tVar 11))) (tSl (rSlL K) (tVar 7) (tPart (tVar 8)) (tPart (tOp (rAddI) (tVar 8) (tC (.int 1)))))) (tSl (rSlL K) (tVar 10) (tPart (tVar 11)) (tNoPart))) (gName 7)))) (tNext))
  (tSeq (tIfS (tTest (tOp (rGtI) (tVar 2) (tC (.int 5)))) (tAsg (tOp (rCat) (tOp (rCat) (tSl (rSlL K) (tVar 7) (tNoPart) (tPart (tVar 8))) (tLst (tCons (tOp (rIxL K) (tVar 9) (tCall (spTaken K) [] E0 (tCons (tVar 0) (tCons (tC (.int 14)) (tNil))))) (tNil)))) (tSl (rSlL K) (tVar 7) (tPart (tOp (rAddI) (tVar 8) (tC (.int 1)))) (tNoPart))) (gName 7)) (tNext))
  (tRet (tM1 (rJoin K) (tC (.str " ")) (tVar 7))))) (B Q) [some (.ref r), some (.str y), some (.int way), v3, v4, v5, v6, some (.ref q), some (.int (m : Int)), some (.ref od), v10, v11] Hx := by
  have lw : wsx.length ≤ wt wsx := Nat.le_add_left _ _
  have cm := wt_cut (m : Int).toNat wsx
  have cm1 := wt_cut ((m : Int) + 1).toNat wsx
  have c1 := wt_cut 1 (wsx.drop (m : Int).toNat)
  rw [List.drop_drop, show (m : Int).toNat + 1 = ((m : Int) + 1).toNat by omega] at c1
  walk_at "w"
  refine w_if2 (fun c => ?_) (fun c => ?_)
  · walk_at "w"
    refine w_sll (SqL.of hq) (w_new fun p1 H1 hp1 e1 h1 => ?_)
    rw [cut_take _ (by omega)] at h1
    walk_at "w"
    refine w_sll (SqL.of (e1 _ _ hq)) (w_new fun p2 H2 hp2 e2 h2 => ?_)
    rw [cut_drop _ (by omega)] at h2
    have lt1 : ((wsx.map V.str).take (m : Int).toNat).length ≤ wsx.length := by rw [List.length_take, List.length_map]; omega
    have lt2 : ((wsx.map V.str).drop ((m : Int) + 1).toNat).length ≤ wsx.length := by rw [List.length_drop, List.length_map]; omega
    refine w_cat (e2 _ _ h1) h2 (small_le (by omega)) (w_new fun p3 H3 hp3 e3 h3 => ?_)
    have h3' : H3 p3 = some (.lst ((wsx.take (m : Int).toNat ++ wsx.drop ((m : Int) + 1).toNat).map V.str)) := by rw [h3, List.map_append, List.map_take, List.map_drop]
    have hrest : wt (wsx.take (m : Int).toNat ++ wsx.drop ((m : Int) + 1).toNat) = wt (wsx.take (m : Int).toNat) + wt (wsx.drop ((m : Int) + 1).toNat) := wt_app _ _
    generalize wsx.take (m : Int).toNat ++ wsx.drop ((m : Int) + 1).toNat = rs at h3' hrest
    clear h3
    have lr : rs.length ≤ wt rs := Nat.le_add_left _ _
    have e13 : Same Hx H3 := e1.trans (e2.trans e3)
    have row3 := row_same e13 row
    walk_at "w"
    refine w_len (.inl (SqL.of h3')) ?_
    rw [List.length_map]
    walk_at "w"
    refine ⟨r, (rs.length : Int) + 1, rfl, by omega, row3, fun H4 j j0 j1 row4 o4 => ?_⟩
    have np3 : p3 ≠ r := row_new (row_same (e1.trans e2) row) hp3
    have h43 := o4 _ _ h3' np3
    have hq4 := o4 _ _ (e13 _ _ hq) nq
    have ho4 := o4 _ _ (e13 _ _ ho) no
    obtain ⟨jn, rfl⟩ := Int.eq_ofNat_of_zero_le j0
    walk_at "w"
    refine w_sll (SqL.of h43) (w_new fun p5 H5 hp5 e5 h5 => ?_)
    rw [cut_take _ (by omega)] at h5
    walk_at "w"
    refine w_sll (SqL.of (e5 _ _ hq4)) (w_new fun p6 H6 hp6 e6 h6 => ?_)
    rw [cut_mid] at h6
    have l5 : ((rs.map V.str).take (jn : Int).toNat).length ≤ rs.length := by rw [List.length_take, List.length_map]; omega
    have l6 : (((wsx.map V.str).drop m).take 1).length ≤ 1 := by rw [List.length_take]; omega
    refine w_cat (e6 _ _ h5) h6 (small_le (by omega)) (w_new fun p7 H7 hp7 e7 h7 => ?_)
    walk_at "w"
    have e57 := e5.trans (e6.trans e7)
    refine w_sll (SqL.of (e57 _ _ h43)) (w_new fun p8 H8 hp8 e8 h8 => ?_)
    rw [cut_drop _ (by omega)] at h8
    have l8 : ((rs.map V.str).drop (jn : Int).toNat).length ≤ rs.length := by rw [List.length_drop, List.length_map]; omega
    refine w_cat (e8 _ _ h7) h8 (small_le (by rw [List.length_append]; omega)) (w_new fun p9 H9 hp9 e9 h9 => ?_)
    refine w_name ?_
    have e59 := e57.trans (e8.trans e9)
    have o9 : Out (Is r) H H9 := o.trans ((same_out e13).trans (o4.trans (same_out e59)))
    refine sp_six (wsx := rs.take (jn : Int).toNat ++ (wsx.drop m).take 1 ++ rs.drop (jn : Int).toNat) k hy (row_same e59 row4) o9 (by rw [h9, List.map_append, List.map_append, List.map_take, List.map_drop, List.map_take, List.map_drop]) (row_new (row_same (e57.trans e8) row4) hp9) (e59 _ _ ho4) no ?_
    have cj := wt_cut (jn : Int).toNat rs
    rw [show (m : Int).toNat = m by omega] at c1 cm hrest
    rw [wt_app, wt_app]
    omega
  · refine w_next ?_
    exact sp_six k hy row o hq nq ho no hw
theorem sp_four {Q : VK} {H Hx : Hp} {r q od : Addr} {y : Str} {wsx : List Str} {way : Int} {m : Nat} {v3 v4 v5 v6 v10 v11 : Option V} (k : ∀ H' (y' : Str), y'.length ≤ 2 * y.length + 9 → RowAt K H' r → Out (Is r) H H' → Q (.str y') H') (hy : y.length ≤ 500)
    (row : RowAt K Hx r) (o : Out (Is r) H Hx) (hq : Hx q = some (.lst (wsx.map V.str))) (nq : q ≠ r) (ho : Hx od = some (.lst (ODD.map V.str))) (no : od ≠ r) (hw : wt wsx ≤ y.length + 1) :
    (tSeq (tIfS (tTest (tOp (rEq) (tVar 2) (tC (.int 4)))) (tAsg (tOp (rCat) (tSl (rSlL K) (tVar 7) (tNoPart) (tPart (tOp (rAddI) (tVar 8) (tC (.int 1))))) (tSl (rSlL K) (tVar 7) (tPart (tVar 8)) (tNoPart))) (gName 7)) (tNext))
  (tSeq (tIfS (tTest (tOp (rEq) (tVar 2) (tC (.int 5)))) (tSeq (tAsg (tOp (rCat) (tSl (rSlL K) (tVar 7) (tNoPart) (tPart (tVar 8))) (tSl (rSlL K) (tVar 7) (tPart (tOp (rAddI) (tVar 8) (tC (.int 1)))) (tNoPart))) (gName 10))
  (tSeq (tAsg (tCall (spTaken K) [] E0 (tCons (tVar 0) (tCons (tOp (rAddI) (tCB (rLenQ K) (tCons (tVar 10) (tNil))) (tC (.int 1))) (tNil)))) (gName 11))
  (tAsg (tOp (rCat) (tOp (rCat) (tSl (rSlL K) (tVar 10) (tNoPart) (tPart (tVar 11))) (tSl (rSlL K) (tVar 7) (tPart (tVar 8)) (tPart (tOp (rAddI) (tVar 8) (tC (.int 1)))))) (tSl (rSlL K) (tVar 10) (tPart (tVar 11)) (tNoPart))) (gName 7)))) (tNext))
  (tSeq (tIfS (tTest (tOp (rGtI) (tVar 2) (tC (.int 5)))) (tAsg (tOp (rCat) (tOp (rCat) (tSl (rSlL K) (tVar 7) (tNoPart) (tPart (tVar 8))) (tLst (tCons (tOp (rIxL K) (tVar 9) (tCall (spTaken K) [] E0 (tCons (tVar 0) (tCons (tC (.int 14)) (tNil))))) (tNil)))) (tSl (rSlL K) (tVar 7) (tPart (tOp (rAddI) (tVar 8) (tC (.int 1)))) (tNoPart))) (gName 7)) (tNext))
  (tRet (tM1 (rJoin K) (tC (.str " ")) (tVar 7)))))) (B Q) [some (.ref r), some (.str y), some (.int way), v3, v4, v5, v6, some (.ref q), some (.int (m : Int)), some (.ref od), v10, v11] Hx := by
  have lw : wsx.length ≤ wt wsx := Nat.le_add_left _ _
  have cm := wt_cut (m : Int).toNat wsx
  have cm1 := wt_cut ((m : Int) + 1).toNat wsx
  have c1 := wt_cut 1 (wsx.drop (m : Int).toNat)
  rw [List.drop_drop, show (m : Int).toNat + 1 = ((m : Int) + 1).toNat by omega] at c1
  walk_at "w"
  refine w_if2 (fun c => ?_) (fun c => ?_)
  · walk_at "w"
    refine w_sll (SqL.of hq) (w_new fun p1 H1 hp1 e1 h1 => ?_)
    rw [cut_take _ (by omega)] at h1
    walk_at "w"
    refine w_sll (SqL.of (e1 _ _ hq)) (w_new fun p2 H2 hp2 e2 h2 => ?_)
    rw [cut_drop _ (by omega)] at h2
    have lt1 : ((wsx.map V.str).take ((m : Int) + 1).toNat).length ≤ wsx.length := by rw [List.length_take, List.length_map]; omega
    have lt2 : ((wsx.map V.str).drop (m : Int).toNat).length ≤ wsx.length := by rw [List.length_drop, List.length_map]; omega
    refine w_cat (e2 _ _ h1) h2 (small_le (by omega)) (w_new fun p3 H3 hp3 e3 h3 => ?_)
    refine w_name ?_
    have e13 : Same Hx H3 := e1.trans (e2.trans e3)
    refine sp_five (wsx := wsx.take ((m : Int) + 1).toNat ++ wsx.drop (m : Int).toNat) k hy (row_same e13 row) (o.trans (same_out e13)) (by rw [h3, List.map_append, List.map_take, List.map_drop]) (row_new (row_same (e1.trans e2) row) hp3) (e13 _ _ ho) no ?_
    rw [wt_app]
    omega
  · refine w_next ?_
    exact sp_five k hy row o hq nq ho no (by omega)
theorem sp_three {Q : VK} {H Hx : Hp} {r q od : Addr} {y : Str} {wsx : List Str} {way : Int} {m : Nat} {v3 v4 v5 v6 v10 v11 : Option V} (k : ∀ H' (y' : Str), y'.length ≤ 2 * y.length + 9 → RowAt K H' r → Out (Is r) H H' → Q (.str y') H') (hy : y.length ≤ 500)
    (row : RowAt K Hx r) (o : Out (Is r) H Hx) (hq : Hx q = some (.lst (wsx.map V.str))) (nq : q ≠ r) (ho : Hx od = some (.lst (ODD.map V.str))) (no : od ≠ r) (hw : wt wsx ≤ y.length + 1) :
    (tSeq (tIfS (tTest (tOp (rEq) (tVar 2) (tC (.int 3)))) (tAsg (tOp (rCat) (tSl (rSlL K) (tVar 7) (tNoPart) (tPart (tVar 8))) (tSl (rSlL K) (tVar 7) (tPart (tOp (rAddI) (tVar 8) (tC (.int 1)))) (tNoPart))) (gName 7)) (tNext))
  (tSeq (tIfS (tTest (tOp (rEq) (tVar 2) (tC (.int 4)))) (tAsg (tOp (rCat) (tSl (rSlL K) (tVar 7) (tNoPart) (tPart (tOp (rAddI) (tVar 8) (tC (.int 1))))) (tSl (rSlL K) (tVar 7) (tPart (tVar 8)) (tNoPart))) (gName 7)) (tNext))
  (tSeq (tIfS (tTest (tOp (rEq) (tVar 2) (tC (.int 5)))) (tSeq (tAsg (tOp (rCat) (tSl (rSlL K) (tVar 7) (tNoPart) (tPart (tVar 8))) (tSl (rSlL K) (tVar 7) (tPart (tOp (rAddI) (tVar 8) (tC (.int 1)))) (tNoPart))) (gName 10))
  (tSeq (tAsg (tCall (spTaken K) [] E0 (tCons (tVar 0) (tCons (tOp (rAddI) (tCB (rLenQ K) (tCons (tVar 10) (tNil))) (tC (.int 1))) (tNil)))) (gName 11))
  (tAsg (tOp (rCat) (tOp (rCat) (tSl (rSlL K) (tVar 10) (tNoPart) (tPart (tVar 11))) (tSl (rSlL K) (tVar 7) (tPart (tVar 8)) (tPart (tOp (rAddI) (tVar 8) (tC (.int 1)))))) (tSl (rSlL K) (tVar 10) (tPart (tVar 11)) (tNoPart))) (gName 7)))) (tNext))
  (tSeq (tIfS (tTest (tOp (rGtI) (tVar 2) (tC (.int 5)))) (tAsg (tOp (rCat) (tOp (rCat) (tSl (rSlL K) (tVar 7) (tNoPart) (tPart (tVar 8))) (tLst (tCons (tOp (rIxL K) (tVar 9) (tCall (spTaken K) [] E0 (tCons (tVar 0) (tCons (tC (.int 14)) (tNil))))) (tNil)))) (tSl (rSlL K) (tVar 7) (tPart (tOp (rAddI) (tVar 8) (tC (.int 1)))) (tNoPart))) (gName 7)) (tNext))
  (tRet (tM1 (rJoin K) (tC (.str " ")) (tVar 7))))))) (B Q) [some (.ref r), some (.str y), some (.int way), v3, v4, v5, v6, some (.ref q), some (.int (m : Int)), some (.ref od), v10, v11] Hx := by
  have lw : wsx.length ≤ wt wsx := Nat.le_add_left _ _
  have cm := wt_cut (m : Int).toNat wsx
  have cm1 := wt_cut ((m : Int) + 1).toNat wsx
  have c1 := wt_cut 1 (wsx.drop (m : Int).toNat)
  rw [List.drop_drop, show (m : Int).toNat + 1 = ((m : Int) + 1).toNat by omega] at c1
  walk_at "w"
  refine w_if2 (fun c => ?_) (fun c => ?_)
  · walk_at "w"
    refine w_sll (SqL.of hq) (w_new fun p1 H1 hp1 e1 h1 => ?_)
    rw [cut_take _ (by omega)] at h1
    walk_at "w"
    refine w_sll (SqL.of (e1 _ _ hq)) (w_new fun p2 H2 hp2 e2 h2 => ?_)
    rw [cut_drop _ (by omega)] at h2
    have lt1 : ((wsx.map V.str).take (m : Int).toNat).length ≤ wsx.length := by rw [List.length_take, List.length_map]; omega
    have lt2 : ((wsx.map V.str).drop ((m : Int) + 1).toNat).length ≤ wsx.length := by rw [List.length_drop, List.length_map]; omega
    refine w_cat (e2 _ _ h1) h2 (small_le (by omega)) (w_new fun p3 H3 hp3 e3 h3 => ?_)
    refine w_name ?_
    have e13 : Same Hx H3 := e1.trans (e2.trans e3)
    refine sp_four (wsx := wsx.take (m : Int).toNat ++ wsx.drop ((m : Int) + 1).toNat) k hy (row_same e13 row) (o.trans (same_out e13)) (by rw [h3, List.map_append, List.map_take, List.map_drop]) (row_new (row_same (e1.trans e2) row) hp3) (e13 _ _ ho) no ?_
    rw [wt_app]
    omega
  · refine w_next ?_
    exact sp_four k hy row o hq nq ho no (by omega)
theorem pu_law_spoilt {vs : List V} {H : Hp} {Q : VK} {E : XK} (h : spLawSpoilt K vs H Q E) : t_law_spoilt K (spTaken K) (B Q) (start ["_law_row", "_law_text_here", "_law_way", "_law_at", "_law_whole", "_law_signs", "_law_sign", "_law_words", "_law_k", "_law_odd", "_law_rest", "_law_j"] vs) H := by
  obtain ⟨r, y, rfl, hy, row, k⟩ := h
  unfold t_law_spoilt
  walk_at "w"
  refine ⟨r, 8, rfl, by decide, row, fun H1 way w0 w1 row1 o1 => ?_⟩
  walk_at "w"
  refine ⟨y, rfl, by rw [sizeLine_eq]; omega, ?_⟩
  walk_at "w"
  refine ⟨r, (y.length : Int) + 1, rfl, by omega, row1, fun H2 at_ a0 a1 row2 o2 => ?_⟩
  walk_at "w"
  refine ⟨small_le (by simp), w_new fun p3 H3 hp3 e3 h3 => ?_⟩
  walk_at "w"
  refine ⟨r, 3, rfl, by decide, row_same e3 row2, fun H4 c c0 c1 row4 o4 => ?_⟩
  walk_at "w"
  have h34 := o4 _ _ h3 (row_new row2 hp3)
  refine ⟨c, 2, rfl, rfl, ⟨by decide, by decide⟩, ?_⟩
  obtain ⟨sg, hsg, g1, g2⟩ : ∃ sg : Str, atI [V.str "0123459 nextbohsrid-", V.str " !#$&'()*+,-./0123456789:;<=>?@ABCDEFGHIJKLMNOPQRSTUVWXYZ[]^_abcdefghijklmnopqrstuvwxyz{|}~"] (c / 2) = some (.str sg) ∧ 1 ≤ sg.length ∧ sg.length ≤ 200 := by
    have hc : c = 0 ∨ c = 1 ∨ c = 2 := by omega
    rcases hc with rfl | rfl | rfl
    · exact ⟨_, rfl, by decide, by decide⟩
    · exact ⟨_, rfl, by decide, by decide⟩
    · exact ⟨_, rfl, by decide, by decide⟩
  refine w_ixl (SqL.of h34) hsg ?_
  walk_at "w"
  refine ⟨sg, rfl, by rw [sizeLine_eq]; omega, ?_⟩
  walk_at "w"
  refine ⟨r, (sg.length : Int), rfl, by omega, row4, fun H5 i i0 i1 row5 o5 => ?_⟩
  walk_at "w"
  have o05 : Out (Is r) H H5 := o1.trans (o2.trans ((same_out e3).trans (o4.trans o5)))
  obtain ⟨n, rfl⟩ := Int.eq_ofNat_of_zero_le i0
  have ln : n < sg.cps.toList.length := by
    have : sg.cps.toList.length = sg.length := by show _ = sg.cps.size; simp
    omega
  refine ⟨sg, n, _, rfl, rfl, by rw [sizeLine_eq]; omega, atI_natG (List.getElem?_eq_getElem ln), ?_⟩
  generalize sg.cps.toList[n] = cp
  walk_at "w"
  refine w_if2 (fun c3 => ?_) (fun c3 => ?_)
  · walk_at "w"
    refine ⟨y, rfl, by rw [sizeLine_eq]; omega, ?_⟩
    walk_at "w"
    refine ⟨small_le (by simp), w_new fun p6 H6 hp6 e6 h6 => ?_⟩
    obtain ⟨s1, hs1, hl1⟩ : ∃ s1 : Str, atI [V.str ⟨#[cp]⟩, V.str "", V.str " "] way = some (.str s1) ∧ s1.length ≤ 1 := by
      have hc : way = 0 ∨ way = 1 ∨ way = 2 := by omega
      rcases hc with rfl | rfl | rfl
      · exact ⟨_, rfl, Nat.le_refl _⟩
      · exact ⟨_, rfl, by decide⟩
      · exact ⟨_, rfl, by decide⟩
    walk_at "w"
    refine w_ixl (SqL.of h6) hs1 ?_
    have hcut := cutS_length y none (some at_)
    refine w_addS (by rw [sizeLine_eq]; omega) ?_
    walk_at "w"
    refine .inr ⟨_, rfl, ?_⟩
    obtain ⟨cc, ecc, h0c, h1c⟩ : ∃ cc : Int, (if decide (0 < way) = true then (1 : Int) else 0) = cc ∧ 0 ≤ cc ∧ cc ≤ 1 := by
      by_cases h : 0 < way
      · exact ⟨1, by rw [decide_eq_true h, if_pos rfl], by decide, by decide⟩
      · exact ⟨0, by rw [decide_eq_false h, if_neg (by decide)], by decide, by decide⟩
    rw [ecc]
    walk_at "w"
    refine ⟨y, rfl, by rw [sizeLine_eq]; omega, ?_⟩
    have htwo := cutS_two y a0 (show at_ ≤ at_ + cc by omega)
    have el : (cutS y none (some at_) ++ s1).length = (cutS y none (some at_)).length + s1.length := Str.length_append _ _
    refine w_addS (by rw [sizeLine_eq]; omega) ?_
    refine k H6 _ ?_ (row_same e6 row5) (o05.trans (same_out e6))
    rw [Str.length_append]
    omega
  · walk_at "w"
    refine ⟨⟨_, rfl⟩, ?_⟩
    walk_at "w"
    refine w_split (by decide +kernel) (small_le (by omega)) (w_new fun q7 H7 hq7 e7 h7 => ?_)
    have hwt : wt (Txt.split y " ") ≤ y.length + 1 := split_weight y " " (by decide)
    have hpos := split_pos y " "
    generalize Txt.split y " " = ws at h7 hwt hpos
    have lw : ws.length ≤ wt ws := Nat.le_add_left _ _
    have row7 := row_same e7 row5
    have o07 := o05.trans (same_out e7)
    walk_at "w"
    refine w_len (.inl (SqL.of h7)) ?_
    rw [List.length_map]
    walk_at "w"
    refine ⟨r, (ws.length : Int), rfl, by omega, row7, fun H8 i8 j0 j1 row8 o8 => ?_⟩
    have n7 := row_new row5 hq7
    have h78 := o8 _ _ h7 n7
    obtain ⟨m8, rfl⟩ := Int.eq_ofNat_of_zero_le j0
    walk_at "w"
    refine ⟨by decide, w_new fun od H9 hod e9 h9 => ?_⟩
    refine w_name ?_
    exact sp_three (q := q7) (od := od) (wsx := ws) (m := m8) k hy (row_same e9 row8) (o07.trans (o8.trans (same_out e9))) (e9 _ _ h78) n7 h9 (row_new row8 hod) (by omega)
end
end SwD
set_option Elab.async false
set_option linter.all false
set_option maxRecDepth 100000
set_option maxHeartbeats 4000000
namespace SwD
open PySem PySem.Spec PyProof.Rows L2 SwX StX Sw TL
local macro_rules | `(tactic| walk_at "lk") => `(tactic| first | exact lk_at | exact lk_no | ((refine' lk_by (by decide +kernel) ?wq); (case wq => walk_at "lk")))
local macro_rules | `(tactic| walk_at "pf") => `(tactic| first | exact pf_at | exact pf_nil | ((refine' pf_by (by decide +kernel) ?wq); (case wq => walk_at "pf")))
local macro_rules | `(tactic| walk_at "w1") => `(tactic| with_reducible first
  | refine w_seq ?_ | refine w_asg ?_ | refine w_name ?_ | refine w_ret ?_ | refine w_retN ?_ | refine w_drop ?_ | refine w_next ?_ | refine w_if ?_ | refine w_ifE ?_ | refine w_test ?_ | refine w_B ?_ | refine w_bl ?_
  | refine w_not ?_ | refine w_and ?_ | refine w_or ?_ | refine w_andV ?_ | refine w_orV ?_ | refine w_notV ?_ | refine w_isN ?_ | refine w_notN ?_ | refine w_yes ?_
  | refine w_c ?_ | refine w_op ?_ | refine w_un ?_ | refine w_i0 ?_ | refine w_neg ?_ | refine w_nil ?_ | refine w_cons ?_ | refine w_cb ?_ | refine w_call ?_ | refine w_tup ?_ | refine w_lst ?_
  | refine w_fld ?_ | refine w_sfld ?_ | refine w_match ?_ | refine w_case ?_ | refine w_mcons ?_ | refine w_mnil ?_ | refine w_mcap ?_ | refine w_many ?_ | refine w_myes ?_
  | refine w_sub ?_ | refine w_bm ?_ | refine w_sl ?_ | refine w_nopart ?_ | refine w_part ?_ | refine w_int ?_ | refine w_ift ?_ | refine w_iff ?_ | refine w_ifn ?_ | refine w_dget2 ?_ | refine w_star ?_ | refine w_dput ?_ | refine w_dnewK ?_ | refine w_meth ?_ | refine w_oneOf ?_ | refine w_make ?_ | refine w_lc ?_ | refine w_for ?_ | refine w_ilist ?_ | refine w_irng1 ?_ | refine w_irng2 ?_ | refine w_irng3 ?_)
local macro_rules | `(tactic| walk_at "w2") => `(tactic| first
  | ((with_reducible refine' w_var ?wh ?_); (case wh => rfl))
  | ((with_reducible refine' w_eq ?wh ?_); (case wh => rfl))
  | ((with_reducible refine' w_ne ?wh ?_); (case wh => rfl))
  | ((with_reducible refine' w_mno ?wh ?_); (case wh => decide +kernel))
  | ((with_reducible refine' w_mhit ?wh ?wl ?_); (case wh => assumption); (case wl => rfl))
  | ((with_reducible refine' w_mmiss ?wh ?wl ?_); (case wh => assumption); (case wl => simp))
  | ((with_reducible refine' w_fldA ?wh ?wc ?wn ?wl ?_); (case wh => first | assumption | exact upd_same); (case wc => assumption); (case wn => assumption); (case wl => walk_at "lk"))
  | ((with_reducible refine' w_ixl ?wh ?we ?_); (case wh => exact SqL.of (by first | assumption | exact upd_same)); (case we => rfl))
  | ((with_reducible refine' w_ixt ?wh ?we ?_); (case wh => assumption); (case we => rfl))
  | ((with_reducible refine' w_ifT ?wh ?_); (case wh => (with_reducible exact Eq.refl _)))
  | ((with_reducible refine' w_ifF ?wh ?_); (case wh => decide +kernel))
  | ((with_reducible refine' w_isiY ?wh ?wk ?_); (case wh => first | exact .int _ | exact .str _ | exact .lst (by assumption) | exact .tup (by assumption)); (case wk => decide +kernel))
  | ((with_reducible refine' w_isiN ?wh ?wk ?_); (case wh => first | exact .int _ | exact .str _ | exact .lst (by assumption) | exact .tup (by assumption)); (case wk => decide +kernel))
  | ((with_reducible refine' w_ifF ?wh ?_); (case wh => (intro z; cases z; done)))
  | ((with_reducible refine' w_setl ?wh ?we ?wl ?_); (case wh => first | assumption | exact upd_same); (case we => rfl); (case wl => rfl))
  | ((with_reducible refine' w_methA ?wh ?wl ?_); (case wh => first | assumption | exact upd_same); (case wl => walk_at "lk"))
  | ((with_reducible refine' w_sfldB ?wc ?wn ?wz ?wl ?_); (case wc => assumption); (case wn => assumption); (case wz => simp); (case wl => walk_at "pf"))
  | ((with_reducible refine' w_sfldA ?wh ?wc ?wn ?wz ?wl ?_); (case wh => assumption); (case wc => assumption); (case wn => assumption); (case wz => simp); (case wl => walk_at "pf")))
local macro_rules | `(tactic| walk_at "w") => `(tactic| repeat (first | walk_at "w1" | walk_at "w2" | (dsimp only [List.set, setAll, List.append, List.cons_append, List.nil_append])))
/-- as spLawAlike, or nothing and nothing, or two pairs of the word and nothing -/
def spLawAlikeX : Nat → Sp
  | 0 => fun _ _ _ _ => False
  | n + 1 => fun vs H Q E => spLawAlike (n + 1) vs H Q E ∨ (vs = [.non, .non] ∧ ∀ H', Same H H' → Q (.bl true) H') ∨
      (0 < n ∧ ∃ a b : Addr, vs = [.ref a, .ref b] ∧ H a = some (.tup [.str "guesser", .non]) ∧ H b = some (.tup [.str "guesser", .non]) ∧ ∀ H', Same H H' → Q (.bl true) H')
section
variable {K : PySem.W.Frag}
theorem pair_tail {D : Ends} {H : Hp} {n : Nat} {a b : Addr} (h1 : H a = some (.tup [.str "guesser", .non])) (h2 : H b = some (.tup [.str "guesser", .non])) (k : ∀ H', Same H H' → D.rt (.bl true) H') :
    (tSeq (tIfS (tTest (tOp (rNe) (tCB (rLenQ K) (tCons (tVar 0) (tNil))) (tCB (rLenQ K) (tCons (tVar 1) (tNil))))) (tRet (tC (.bl false))) (tNext))
  (tRet (tOp (rEqD K) (tLc (iRng1 (tCons (tCB (rLenQ K) (tCons (tVar 1) (tNil))) (tNil))) (gName 2) (tNot (tB (tCall (spLawAlikeX (n + 1)) [] E0 (tCons (tOp (rIx K) (tVar 0) (tVar 2)) (tCons (tOp (rIx K) (tVar 1) (tVar 2)) (tNil)))))) (tVar 2) [2]) (tLst (tNil))))) D [some (.ref a), some (.ref b), none] H := by
  have q1 : ∀ H', Same H H' → SqL K H' a [.str "guesser", .non] ∨ SqT K H' a [.str "guesser", .non] := fun H' e => .inr (SqT.of (e _ _ h1))
  have q2 : ∀ H', Same H H' → SqL K H' b [.str "guesser", .non] ∨ SqT K H' b [.str "guesser", .non] := fun H' e => .inr (SqT.of (e _ _ h2))
  walk_at "w"
  refine w_len (q1 _ (Same.refl _)) ?_
  walk_at "w"
  refine w_len (q2 _ (Same.refl _)) ?_
  walk_at "w"
  refine w_len (q2 _ (Same.refl _)) ?_
  walk_at "w"
  refine w_lcr1 (fun _ => false) id (by decide) (by decide) (fun _ => rfl) (fun i hi H' e R r => ?_) (fun i _ hc => by cases hc) (fun p H1 hp e1 h => ?_)
  · walk_at "w"
    have hi : i = 0 ∨ i = 1 := by simp at hi; omega
    rcases hi with rfl | rfl
    · refine seq_ix (n := 0) (.inr (e _ _ h1)) rfl ?_
      walk_at "w"
      refine seq_ix (n := 0) (.inr (e _ _ h2)) rfl ?_
      walk_at "w"
      refine .inl ⟨.str "guesser", _, _, rfl, .str _, .str _, fits_str (by decide +kernel), fun H2 e2 => ?_⟩
      walk_at "w"
      exact r _ e2
    · refine seq_ix (n := 1) (.inr (e _ _ h1)) rfl ?_
      walk_at "w"
      refine seq_ix (n := 1) (.inr (e _ _ h2)) rfl ?_
      walk_at "w"
      refine .inr (.inl ⟨rfl, fun H2 e2 => ?_⟩)
      walk_at "w"
      exact r _ e2
  · rw [added_no] at h
    walk_at "w"
    refine ⟨by decide, w_new fun p2 H2 hp2 e2 h2 => ?_⟩
    refine ⟨_, _, .lst (SqL.of (e2 _ _ h)) .nil, .lst (SqL.of h2) .nil, by decide, by decide, ?_⟩
    exact k _ (e1.trans e2)
theorem pu_alike_pair {a b : Addr} {H : Hp} {Q : VK} {n : Nat} (ha : H a = some (.tup [.str "guesser", .non])) (hb : H b = some (.tup [.str "guesser", .non])) (k : ∀ H', Same H H' → Q (.bl true) H') :
    t_law_alike K (spLawAlikeX (n + 1)) (B Q) (start ["_law_found", "_law_due_here", "_law_k"] [.ref a, .ref b]) H := by
  unfold t_law_alike
  walk_at "w"
  refine ⟨by decide, w_new fun p H1 hp e1 h1 => ?_⟩
  walk_at "w1"
  refine w_isiTL h1 (.tup (e1 _ _ ha)) kit_tl2 ?_
  refine w_bl (w_ifn (w_ift ?_))
  refine w_next ?_
  exact pair_tail (e1 _ _ ha) (e1 _ _ hb) (fun H' e => k H' (e1.trans e))
theorem pu_alike_non {H : Hp} {Q : VK} {n : Nat} (k : ∀ H', Same H H' → Q (.bl true) H') : t_law_alike K (spLawAlikeX n) (B Q) (start ["_law_found", "_law_due_here", "_law_k"] [.non, .non]) H := by
  unfold t_law_alike
  walk_at "w"
  refine w_isiN .non (by decide +kernel) ?_
  walk_at "w"
  refine w_isiN .non (by decide +kernel) ?_
  walk_at "w"
  trace_state
  exact k _ (Same.refl _)
end
end SwD
set_option Elab.async false
set_option linter.all false
set_option maxRecDepth 100000
set_option maxHeartbeats 4000000
namespace SwD
open PySem PySem.Spec PyProof.Rows L2 SwX StX Sw TL
local macro_rules | `(tactic| walk_at "lk") => `(tactic| first | exact lk_at | exact lk_no | ((refine' lk_by (by decide +kernel) ?wq); (case wq => walk_at "lk")))
local macro_rules | `(tactic| walk_at "pf") => `(tactic| first | exact pf_at | exact pf_nil | ((refine' pf_by (by decide +kernel) ?wq); (case wq => walk_at "pf")))
local macro_rules | `(tactic| walk_at "w1") => `(tactic| with_reducible first
  | refine w_seq ?_ | refine w_asg ?_ | refine w_name ?_ | refine w_ret ?_ | refine w_retN ?_ | refine w_drop ?_ | refine w_next ?_ | refine w_if ?_ | refine w_ifE ?_ | refine w_test ?_ | refine w_B ?_ | refine w_bl ?_
  | refine w_not ?_ | refine w_and ?_ | refine w_or ?_ | refine w_andV ?_ | refine w_orV ?_ | refine w_notV ?_ | refine w_isN ?_ | refine w_notN ?_ | refine w_yes ?_
  | refine w_c ?_ | refine w_op ?_ | refine w_un ?_ | refine w_i0 ?_ | refine w_neg ?_ | refine w_nil ?_ | refine w_cons ?_ | refine w_cb ?_ | refine w_call ?_ | refine w_tup ?_ | refine w_lst ?_
  | refine w_fld ?_ | refine w_sfld ?_ | refine w_match ?_ | refine w_case ?_ | refine w_mcons ?_ | refine w_mnil ?_ | refine w_mcap ?_ | refine w_many ?_ | refine w_myes ?_
  | refine w_sub ?_ | refine w_bm ?_ | refine w_sl ?_ | refine w_nopart ?_ | refine w_part ?_ | refine w_int ?_ | refine w_ift ?_ | refine w_iff ?_ | refine w_ifn ?_ | refine w_dget2 ?_ | refine w_star ?_ | refine w_dput ?_ | refine w_dnewK ?_ | refine w_meth ?_ | refine w_oneOf ?_ | refine w_make ?_ | refine w_lc ?_ | refine w_for ?_ | refine w_ilist ?_ | refine w_irng1 ?_ | refine w_irng2 ?_ | refine w_irng3 ?_)
local macro_rules | `(tactic| walk_at "w2") => `(tactic| first
  | ((with_reducible refine' w_var ?wh ?_); (case wh => rfl))
  | ((with_reducible refine' w_eq ?wh ?_); (case wh => rfl))
  | ((with_reducible refine' w_ne ?wh ?_); (case wh => rfl))
  | ((with_reducible refine' w_mno ?wh ?_); (case wh => decide +kernel))
  | ((with_reducible refine' w_mhit ?wh ?wl ?_); (case wh => assumption); (case wl => rfl))
  | ((with_reducible refine' w_mmiss ?wh ?wl ?_); (case wh => assumption); (case wl => simp))
  | ((with_reducible refine' w_fldA ?wh ?wc ?wn ?wl ?_); (case wh => first | assumption | exact upd_same); (case wc => assumption); (case wn => assumption); (case wl => walk_at "lk"))
  | ((with_reducible refine' w_ixl ?wh ?we ?_); (case wh => exact SqL.of (by first | assumption | exact upd_same)); (case we => rfl))
  | ((with_reducible refine' w_ixt ?wh ?we ?_); (case wh => assumption); (case we => rfl))
  | ((with_reducible refine' w_ifT ?wh ?_); (case wh => (with_reducible exact Eq.refl _)))
  | ((with_reducible refine' w_ifF ?wh ?_); (case wh => decide +kernel))
  | ((with_reducible refine' w_isiY ?wh ?wk ?_); (case wh => first | exact .int _ | exact .str _ | exact .lst (by assumption) | exact .tup (by assumption)); (case wk => decide +kernel))
  | ((with_reducible refine' w_isiN ?wh ?wk ?_); (case wh => first | exact .int _ | exact .str _ | exact .lst (by assumption) | exact .tup (by assumption)); (case wk => decide +kernel))
  | ((with_reducible refine' w_ifF ?wh ?_); (case wh => (intro z; cases z; done)))
  | ((with_reducible refine' w_setl ?wh ?we ?wl ?_); (case wh => first | assumption | exact upd_same); (case we => rfl); (case wl => rfl))
  | ((with_reducible refine' w_methA ?wh ?wl ?_); (case wh => first | assumption | exact upd_same); (case wl => walk_at "lk"))
  | ((with_reducible refine' w_sfldB ?wc ?wn ?wz ?wl ?_); (case wc => assumption); (case wn => assumption); (case wz => simp); (case wl => walk_at "pf"))
  | ((with_reducible refine' w_sfldA ?wh ?wc ?wn ?wz ?wl ?_); (case wh => assumption); (case wc => assumption); (case wn => assumption); (case wz => simp); (case wl => walk_at "pf")))
local macro_rules | `(tactic| walk_at "w") => `(tactic| repeat (first | walk_at "w1" | walk_at "w2" | (dsimp only [List.set, setAll, List.append, List.cons_append, List.nil_append])))
theorem badAt_words : ∀ {g : G}, Digs g → ∀ (r : List Str) (i : Nat) (rest : List Str), badAt ("guesser" :: r) i (wordsOf g ++ rest) = badAt r (i + (wordsOf g).length) rest := by
  have one : ∀ {w : Str} {r : List Str} {i : Nat} {rest : List Str}, canStand w "guesser" = true → badAt ("guesser" :: r) i (w :: rest) = badAt (needsOf w ++ r) (i + 1) rest := fun {w r i rest} c => by
    show (if _ then _ else _) = _
    rw [if_pos c]
  have num : ∀ {n : Int} {r : List Str} {i : Nat} {rest : List Str}, 0 ≤ n → n ≤ 9 → badAt ("number" :: r) i (dig n :: rest) = badAt r (i + 1) rest := fun {n r i rest} h0 h9 => by
    have e : canStand (dig n) "number" = true := by
      unfold canStand
      rw [if_pos rfl]
      exact decide_eq_true (dig_fig h0 h9)
    have e2 : needsOf (dig n) = [] := ten (P := fun n => needsOf (dig n) = []) ⟨by decide +kernel, by decide +kernel, by decide +kernel, by decide +kernel, by decide +kernel, by decide +kernel, by decide +kernel, by decide +kernel, by decide +kernel, by decide +kernel⟩ h0 h9
    show (if _ then _ else _) = _
    rw [if_pos e, e2]
    rfl
  intro g
  induction g with
  | non => intro _ r i rest; exact (one (by decide +kernel)).trans (by rw [show needsOf "none" = [] by decide +kernel]; rfl)
  | next n => intro d r i rest; exact (one (by decide +kernel)).trans (by rw [show needsOf "next" = [("number" : Str)] by decide +kernel]; exact num d.1 d.2)
  | stride n => intro d r i rest; exact (one (by decide +kernel)).trans (by rw [show needsOf "stride" = [("number" : Str)] by decide +kernel]; exact num d.1 d.2)
  | pairs n => intro d r i rest; exact (one (by decide +kernel)).trans (by rw [show needsOf "pairs" = [("number" : Str)] by decide +kernel]; exact num d.1 d.2)
  | both a b iha ihb =>
    intro d r i rest
    show badAt ("guesser" :: r) i (("both" : Str) :: (wordsOf a ++ wordsOf b) ++ rest) = badAt r (i + (("both" : Str) :: (wordsOf a ++ wordsOf b)).length) rest
    rw [List.cons_append, one (by decide +kernel), show needsOf "both" = [("guesser" : Str), "guesser"] by decide +kernel, List.append_assoc]
    show badAt ("guesser" :: "guesser" :: r) (i + 1) (wordsOf a ++ (wordsOf b ++ rest)) = _
    rw [iha d.1, ihb d.2, List.length_cons, List.length_append]
    congr 1
    omega
theorem badAt_good {g : G} (d : Digs g) : badAt ["guesser"] 0 (wordsOf g) = none := by
  have := badAt_words d [] 0 []
  rw [List.append_nil] at this
  exact this
theorem words_inj {g g' : G} (d : Digs g) (d' : Digs g') (h : wordsOf g = wordsOf g') : g = g' := by
  have h1 := made_of d []
  rw [h, made_of d' []] at h1
  injection h1 with h1
  injection h1 with h1
  injection h1 with h1
  exact h1.symm
theorem gOk_deep : ∀ {g : G} {d : Nat}, d ≤ 3 → gOk g d = true → g.depth + d ≤ 3
  | .non, d, h, _ => by show 0 + d ≤ 3; omega
  | .next _, d, h, _ => by show 0 + d ≤ 3; omega
  | .stride _, d, h, _ => by show 0 + d ≤ 3; omega
  | .pairs _, d, h, _ => by show 0 + d ≤ 3; omega
  | .both a b, d, h, e => by
    have e : (decide (d < 3) && (gOk a (d + 1) && gOk b (d + 1))) = true := e
    rw [Bool.and_eq_true, Bool.and_eq_true] at e
    have c := of_decide_eq_true e.1
    have h1 := gOk_deep (g := a) (d := d + 1) (by omega) e.2.1
    have h2 := gOk_deep (g := b) (d := d + 1) (by omega) e.2.2
    show max a.depth b.depth + 1 + d ≤ 3
    omega
theorem text_leaf2 {g : G} (ok : g.ok) : g.depth = 0 → (textOf g).length ≤ 8 := by
  cases g with
  | non => intro _; decide +kernel
  | next n =>
    intro _
    have h : n = 1 ∨ n = 2 ∨ n = 3 := by have := ok.1; have := ok.2; omega
    rcases h with rfl | rfl | rfl <;> decide +kernel
  | stride n =>
    intro _
    have h : n = 1 ∨ n = 2 ∨ n = 3 := by have := ok.1; have := ok.2; omega
    rcases h with rfl | rfl | rfl <;> decide +kernel
  | pairs n =>
    intro _
    have h : n = 1 ∨ n = 2 := by have := ok.1; have := ok.2; omega
    rcases h with rfl | rfl <;> decide +kernel
  | both a b => intro z; cases z
theorem text_len2 : ∀ {g : G}, g.ok → (textOf g).length + 6 ≤ 14 * 2 ^ g.depth
  | .non, ok => by have := text_leaf2 (g := .non) ok rfl; show _ + 6 ≤ 14 * 2 ^ 0; omega
  | .next n, ok => by have := text_leaf2 (g := .next n) ok rfl; show _ + 6 ≤ 14 * 2 ^ 0; omega
  | .stride n, ok => by have := text_leaf2 (g := .stride n) ok rfl; show _ + 6 ≤ 14 * 2 ^ 0; omega
  | .pairs n, ok => by have := text_leaf2 (g := .pairs n) ok rfl; show _ + 6 ≤ 14 * 2 ^ 0; omega
  | .both a b, ok => by
    have h1 := text_len2 ok.1
    have h2 := text_len2 ok.2
    have p1 : 2 ^ a.depth ≤ 2 ^ (max a.depth b.depth) := Nat.pow_le_pow_right (by decide) (by omega)
    have p2 : 2 ^ b.depth ≤ 2 ^ (max a.depth b.depth) := Nat.pow_le_pow_right (by decide) (by omega)
    have e : (textOf (.both a b)).length = 5 + (textOf a).length + 1 + (textOf b).length := by
      show (_ ++ _ ++ _ ++ _ : Str).length = _
      rw [Str.length_append, Str.length_append, Str.length_append]
      rfl
    rw [e]
    show _ ≤ 14 * 2 ^ (max a.depth b.depth + 1)
    rw [Nat.pow_succ]
    omega
theorem text_106 {g : G} (ok : g.ok) (dp : g.depth ≤ 3) : (textOf g).length ≤ 106 := by
  have := text_len2 ok
  have : 2 ^ g.depth ≤ 2 ^ 3 := Nat.pow_le_pow_right (by decide) dp
  omega
section
variable {K : PySem.W.Frag}
def spLaw (K : PySem.W.Frag) : Sp := fun vs H Q _ => ∃ a ns, vs = [.ref a] ∧ Scr K H a (List.map V.int ns) ∧ ∀ H', Q (.bl true) H'
def ODDS : List Str := ["", " ", "none ", " none", "next", "next 0", "next 4", "stride 3 ", "pairs 3", "both", "both none", "none none", "both none none none", "both both none none", "next 01", "both both both both none none none none none"]
/-- both answers of a text are alike -/
theorem both_ans {y : Str} {H : Hp} {P : V → V → Hp → Prop}
    (k : ∀ H' q q' d, Same H H' → DAt H' d (.ref q) → DAt H' d (.ref q') → fits 100000 5 d → P (.ref q) (.ref q') H')
    (kn : ∀ H' q q', Same H H' → H' q = some (.tup [.str "guesser", .non]) → H' q' = some (.tup [.str "guesser", .non]) → P (.ref q) (.ref q') H') :
    Ans y H fun v H1 => Ans y H1 fun v' H2 => P v v' H2 := by
  refine ⟨fun p hp H1 q e1 h1 => ⟨fun p' hp' H2 q' e2 h2 => ?_, fun g dg eg => ?_⟩, fun g dg eg => ⟨fun ok H1 q t e1 h1 gt => ⟨fun p' hp' => ?_, fun g' dg' eg' => ⟨fun ok' H2 q' t' e2 h2 gt' => ?_, fun nk => ?_⟩⟩, fun nk H1 q e1 h1 => ⟨fun p' hp' => ?_, fun g' dg' eg' => ⟨fun ok' => ?_, fun nk' H2 q' e2 h2 => ?_⟩⟩⟩⟩
  · rw [hp] at hp'
    cases hp'
    refine k H2 q q' (.tup [.str "text", .int (p : Nat)]) (e1.trans e2) (.tup (e2 _ _ h1) (.cons (.str _) (.cons (.int _) .nil))) (.tup h2 (.cons (.str _) (.cons (.int _) .nil))) ⟨by simp, fun x hx => ?_⟩
    rcases List.mem_cons.mp hx with rfl | hx
    · exact fits_str (by decide +kernel)
    · rw [List.mem_singleton.mp hx]
      exact fits_int
  · rw [eg, badAt_good dg] at hp
    cases hp
  · rw [eg, badAt_good dg] at hp'
    cases hp'
  · have := words_inj dg dg' (eg.symm.trans eg')
    subst this
    have dp := gOk_deep (g := g) (d := 0) (by omega) ok
    refine k H2 q q' (.tup [.str "read", datG g]) (e1.trans e2) (.tup (e2 _ _ h1) (.cons (.str _) (.cons (dat_g (gtup_same e2 gt)) .nil))) (.tup h2 (.cons (.str _) (.cons (dat_g gt') .nil))) ⟨by simp, fun x hx => ?_⟩
    rcases List.mem_cons.mp hx with rfl | hx
    · exact fits_str (by decide +kernel)
    · rw [List.mem_singleton.mp hx]
      exact fits_g (n := 4) (Nat.lt_succ_of_le (by omega))
  · have := words_inj dg dg' (eg.symm.trans eg')
    subst this
    rw [ok] at nk
    cases nk
  · rw [eg, badAt_good dg] at hp'
    cases hp'
  · have := words_inj dg dg' (eg.symm.trans eg')
    subst this
    rw [nk] at ok'
    cases ok'
  · exact kn H2 q q' (e1.trans e2) (e2 _ _ h1) h2
theorem Ans.mono {y : Str} {H : Hp} {Q Q' : VK} (h : Ans y H Q) (k : ∀ v H', Q v H' → Q' v H') : Ans y H Q' :=
  ⟨fun p hp H' q e x => k _ _ (h.1 p hp H' q e x), fun g dg eg => ⟨fun ok H' q t e x gt => k _ _ ((h.2 g dg eg).1 ok H' q t e x gt), fun nk H' q e x => k _ _ ((h.2 g dg eg).2 nk H' q e x)⟩⟩
def bnd : Nat → Nat
  | 0 => 106
  | n + 1 => 2 * bnd n + 9
def Twin (H H2 : Hp) (v v' : V) : Prop := ∃ q q', v = .ref q ∧ v' = .ref q' ∧ Same H H2 ∧ ((∃ d, DAt H2 d (.ref q) ∧ DAt H2 d (.ref q') ∧ fits 100000 5 d) ∨ (H2 q = some (.tup [.str "guesser", .non]) ∧ H2 q' = some (.tup [.str "guesser", .non])))
def t_law (K : PySem.W.Frag) (sp_law_taken sp_law_alike sp_law_guesser sp_law_text sp_law_due sp_law_reading sp_law_spoilt : Sp) : TS := tSeq (tAsg (tLst (tCons (tVar 0) (tCons (tC (.int 0)) (tCons (tC (.int 0)) (tNil))))) (gName 1))
  (tSeq (tAsg (tLst (tCons (tC (.str "")) (tCons (tC (.str " ")) (tCons (tC (.str "none ")) (tCons (tC (.str " none")) (tCons (tC (.str "next")) (tCons (tC (.str "next 0")) (tCons (tC (.str "next 4")) (tCons (tC (.str "stride 3 ")) (tCons (tC (.str "pairs 3")) (tCons (tC (.str "both")) (tCons (tC (.str "both none")) (tNil))))))))))))) (gName 2))
  (tSeq (tAsg (tOp (rCat) (tVar 2) (tLst (tCons (tC (.str "none none")) (tCons (tC (.str "both none none none")) (tCons (tC (.str "both both none none")) (tCons (tC (.str "next 01")) (tNil))))))) (gName 2))
  (tSeq (tDrop (tBM K "list" rAppend (tVar 2) (tCons (tC (.str "both both both both none none none none none")) (tNil))))
  (tSeq (tFor (iRng1 (tCons (tC (.int 5)) (tNil))) (gName 3) (tSeq (tAsg (tCall sp_law_text [] E0 (tCons (tCall sp_law_guesser [] E0 (tCons (tVar 1) (tCons (tC (.int 3)) (tNil)))) (tNil))) (gName 4))
  (tSeq (tFor (iRng1 (tCons (tCall sp_law_taken [] E0 (tCons (tVar 1) (tCons (tC (.int 4)) (tNil)))) (tNil))) (gName 5) (tAsg (tCall sp_law_spoilt [] E0 (tCons (tVar 1) (tCons (tVar 4) (tNil)))) (gName 4)))
  (tFor (iList K (tLst (tCons (tVar 4) (tCons (tOp (rIxL K) (tVar 2) (tCall sp_law_taken [] E0 (tCons (tVar 1) (tCons (tC (.int 16)) (tNil))))) (tNil))))) (gName 6) (tIfS (tNot (tB (tCall sp_law_alike [] E0 (tCons (tCall sp_law_reading [] E0 (tCons (tVar 6) (tNil))) (tCons (tCall sp_law_due [] E0 (tCons (tVar 6) (tNil))) (tNil)))))) (tRet (tC (.bl false))) (tNext))))))
  (tRet (tC (.bl true)))))))
theorem pu_law {vs : List V} {H : Hp} {Q : VK} {E : XK} (h : spLaw K vs H Q E) : t_law K (spTaken K) (spLawAlikeX 6) (spLawGuesser K 4) (spLawText 4) spLawDue spLawReading (spLawSpoilt K) (B Q) (start ["_law_script", "_law_row", "_law_odd", "_law_turn", "_law_text_here", "_law_change", "_law_some"] vs) H := by
  obtain ⟨a, ns, rfl, hs, k⟩ := h
  unfold t_law
  walk_at "w"
  refine ⟨small_le (by simp), w_new fun r H1 hr e1 h1 => ?_⟩
  have row1 : RowAt K H1 r := ⟨a, 0, 0, ns, h1, by decide, by decide, by decide, scr_keep (fun o u z => e1 _ _ z) hs⟩
  walk_at "w"
  refine ⟨small_le (by simp), w_new fun q2 H2 hq2 e2 h2 => ?_⟩
  walk_at "w"
  refine ⟨small_le (by simp), w_new fun q3 H3 hq3 e3 h3 => ?_⟩
  walk_at "w"
  refine w_cat (e3 _ _ h2) h3 (small_le (by simp)) (w_new fun od H4 hod e4 h4 => ?_)
  have row4 := row_same (e2.trans (e3.trans e4)) row1
  have nod := row_new (row_same (e2.trans e3) row1) hod
  walk_at "w"
  refine ⟨.inl ⟨rfl, _, SqL.of h4⟩, ?_⟩
  walk_at "w"
  refine w_app h4 (small_lt (by simp)) ?_
  have row5 := row_put (u := .lst (([V.str "", V.str " ", V.str "none ", V.str " none", V.str "next", V.str "next 0", V.str "next 4", V.str "stride 3 ", V.str "pairs 3", V.str "both", V.str "both none"] ++ [V.str "none none", V.str "both none none none", V.str "both both none none", V.str "next 01"]) ++ [V.str "both both both both none none none none none"])) row4 h4 nod
  walk_at "w"
  refine w_forr1 (fun i σ H' => ∃ v3 v4 v5 v6, σ = [some (.ref a), some (.ref r), some (.ref od), v3, v4, v5, v6] ∧ RowAt K H' r ∧ H' od = some (.lst (ODDS.map V.str))) (by decide) ⟨_, _, _, _, rfl, row5, upd_same⟩ (fun i σ H' hi p => ?_) (fun σ H' p => ?_)
  · obtain ⟨v3, v4, v5, v6, rfl, row, hod⟩ := p
    walk_at "w"
    refine ⟨r, 3, rfl, by decide, by decide, by decide, row, fun H6 b g ok dp gt row6 o6 => ?_⟩
    walk_at "w"
    refine ⟨b, g, rfl, ok, by omega, by omega, gt, fun H7 e7 => ?_⟩
    walk_at "w"
    refine ⟨r, 4, rfl, by decide, row_same e7 row6, fun H8 m m0 m1 row8 o8 => ?_⟩
    have hod8 := o8 _ _ (e7 _ _ (o6 _ _ hod nod)) nod
    have hb0 : (textOf g).length ≤ bnd 0 := text_106 ok (by omega)
    walk_at "w"
    refine w_forr1 (fun j σ H' => ∃ v5 y, σ = [some (.ref a), some (.ref r), some (.ref od), some (.int (i : Int)), some (.str y), v5, v6] ∧ y.length ≤ bnd j ∧ RowAt K H' r ∧ H' od = some (.lst (ODDS.map V.str))) (by omega) ⟨_, textOf g, rfl, hb0, row8, hod8⟩ (fun j σ H9 hj p => ?_) (fun σ H9 p => ?_)
    · obtain ⟨v5, y, rfl, hy, row9, hod9⟩ := p
      have hy2 : bnd j ≤ 451 := by
        have : j = 0 ∨ j = 1 ∨ j = 2 := by omega
        rcases this with rfl | rfl | rfl <;> decide
      walk_at "w"
      refine ⟨r, y, rfl, by omega, row9, fun H10 y' hy' row10 o10 => ?_⟩
      walk_at "w"
      exact ⟨_, y', rfl, by show _ ≤ 2 * bnd j + 9; omega, row10, o10 _ _ hod9 nod⟩
    · obtain ⟨v5, y, rfl, hy, row9, hod9⟩ := p
      have hy2 : bnd m.toNat ≤ 911 := by
        have : m = 0 ∨ m = 1 ∨ m = 2 ∨ m = 3 := by omega
        rcases this with rfl | rfl | rfl | rfl <;> decide
      walk_at "w"
      refine ⟨r, 16, rfl, by decide, row9, fun H10 c c0 c1 row10 o10 => ?_⟩
      have hod10 := o10 _ _ hod9 nod
      obtain ⟨z, hz, hzl⟩ : ∃ z : Str, atI (ODDS.map V.str) c = some (.str z) ∧ z.length ≤ 990 := by
        have hc : c = 0 ∨ c = 1 ∨ c = 2 ∨ c = 3 ∨ c = 4 ∨ c = 5 ∨ c = 6 ∨ c = 7 ∨ c = 8 ∨ c = 9 ∨ c = 10 ∨ c = 11 ∨ c = 12 ∨ c = 13 ∨ c = 14 ∨ c = 15 := by omega
        rcases hc with rfl | rfl | rfl | rfl | rfl | rfl | rfl | rfl | rfl | rfl | rfl | rfl | rfl | rfl | rfl | rfl <;> exact ⟨_, rfl, by decide⟩
      walk_at "w"
      refine w_ixl (SqL.of hod10) hz ?_
      walk_at "w"
      refine ⟨small_le (by simp), w_new fun l H11 hl e11 h11 => ?_⟩
      refine w_forl (fun j σ H' => ∃ v6, σ = [some (.ref a), some (.ref r), some (.ref od), some (.int (i : Int)), some (.str y), v5, v6] ∧ Same H11 H') (SqL.of h11) ⟨_, rfl, Same.refl _⟩ (fun j σ H' _ p => ?_) (fun j x σ H' hj p => ?_) (fun σ H' p => ?_)
      · obtain ⟨_, _, s⟩ := p
        exact SqL.of (s _ _ h11)
      · obtain ⟨v6, rfl, s⟩ := p
        obtain ⟨w, rfl, hw⟩ : ∃ w : Str, x = .str w ∧ w.length ≤ 990 := by
          have := List.mem_of_getElem? hj
          rcases List.mem_cons.mp this with rfl | this
          · exact ⟨y, rfl, by omega⟩
          · exact ⟨z, List.mem_singleton.mp this, hzl⟩
        walk_at "w"
        refine ⟨w, rfl, hw, (both_ans (P := fun v v' H2 => Twin H' H2 v v') (fun H2 q q' d e h h' f => ⟨q, q', rfl, rfl, e, .inl ⟨d, h, h', f⟩⟩) (fun H2 q q' e h h' => ⟨q, q', rfl, rfl, e, .inr ⟨h, h'⟩⟩)).mono fun v H1 ha => ?_⟩
        walk_at "w"
        refine ⟨w, rfl, hw, ha.mono fun v' H2 tw => ?_⟩
        obtain ⟨q, q', rfl, rfl, e2, tw⟩ := tw
        walk_at "w"
        have done : ∀ H3, Same H2 H3 → ∃ v6', [some (V.ref a), some (V.ref r), some (V.ref od), some (V.int (i : Int)), some (V.str y), v5, some (V.str w)] = [some (V.ref a), some (V.ref r), some (V.ref od), some (V.int (i : Int)), some (V.str y), v5, v6'] ∧ Same H11 H3 := fun H3 e3 => ⟨_, rfl, s.trans (e2.trans e3)⟩
        rcases tw with ⟨d, h1, h2, f⟩ | ⟨h1, h2⟩
        · refine .inl ⟨d, _, _, rfl, h1, h2, f, fun H3 e3 => ?_⟩
          walk_at "w"
          exact done H3 e3
        · refine .inr (.inr ⟨by decide, q, q', rfl, h1, h2, fun H3 e3 => ?_⟩)
          walk_at "w"
          exact done H3 e3
      · obtain ⟨v6, rfl, s⟩ := p
        exact ⟨_, _, _, _, rfl, row_same (e11.trans s) row10, s _ _ (e11 _ _ hod10)⟩
  · obtain ⟨v3, v4, v5, v6, rfl, row, hod⟩ := p
    walk_at "w"
    exact k _
end
end SwD
set_option Elab.async false
set_option linter.all false
set_option maxRecDepth 100000
set_option maxHeartbeats 4000000
namespace SwD
open PySem PySem.Spec PyProof.Rows L2 SwX StX Sw
/-! ### the text by places -/
def topS (i : Nat) : Stmt := PySem.Challenge.pw_stridewell_k13_texts_that_tell_no_guesse.main.body.getD i (.Pass ⟨0, 0, 0, 0⟩)
abbrev s_BadText_init : Stmt := inClass (topS 6) 0
theorem ss_BadText_init : SupScope ["self", "place"] "place" (defScope s_BadText_init) := ⟨rfl, rfl, rfl, rfl, by decide +kernel, rfl, rfl, rfl, rfl, by decide +kernel, free_of (by decide +kernel)⟩
abbrev s_is_guesser : Stmt := topS 9
theorem sc_is_guesser : FnScope ["guesser", "boths", "many", "times", "one", "other"] ["guesser", "boths"] (defScope s_is_guesser) := ⟨rfl, rfl, rfl, by decide +kernel, rfl, by decide +kernel, by decide +kernel⟩
abbrev s_check_guesser : Stmt := topS 10
theorem sc_check_guesser : FnScope ["guesser"] ["guesser"] (defScope s_check_guesser) := ⟨rfl, rfl, rfl, by decide +kernel, rfl, by decide +kernel, by decide +kernel⟩
abbrev s_needs_of : Stmt := topS 14
theorem sc_needs_of : FnScope ["word"] ["word"] (defScope s_needs_of) := ⟨rfl, rfl, rfl, by decide +kernel, rfl, by decide +kernel, by decide +kernel⟩
abbrev s_can_stand : Stmt := topS 15
theorem sc_can_stand : FnScope ["word", "need"] ["word", "need"] (defScope s_can_stand) := ⟨rfl, rfl, rfl, by decide +kernel, rfl, by decide +kernel, by decide +kernel⟩
abbrev s_check_words : Stmt := topS 16
theorem sc_check_words : FnScope ["words", "needs", "place", "word"] ["words"] (defScope s_check_words) := ⟨rfl, rfl, rfl, by decide +kernel, rfl, by decide +kernel, by decide +kernel⟩
abbrev s_made : Stmt := topS 17
theorem sc_made : FnScope ["words", "parts", "word", "taken", "_"] ["words"] (defScope s_made) := ⟨rfl, rfl, rfl, by decide +kernel, rfl, by decide +kernel, by decide +kernel⟩
abbrev s_read : Stmt := topS 18
theorem sc_read : FnScope ["text", "words", "guesser"] ["text"] (defScope s_read) := ⟨rfl, rfl, rfl, by decide +kernel, rfl, by decide +kernel, by decide +kernel⟩
abbrev s_law_taken : Stmt := topS 20
theorem sc_law_taken : FnScope ["_law_row", "_law_many", "_law_cell"] ["_law_row", "_law_many"] (defScope s_law_taken) := ⟨rfl, rfl, rfl, by decide +kernel, rfl, by decide +kernel, by decide +kernel⟩
abbrev s_law_alike : Stmt := topS 21
theorem sc_law_alike : FnScope ["_law_found", "_law_due_here", "_law_k"] ["_law_found", "_law_due_here"] (defScope s_law_alike) := ⟨rfl, rfl, rfl, by decide +kernel, rfl, by decide +kernel, by decide +kernel⟩
abbrev s_law_guesser : Stmt := topS 22
theorem sc_law_guesser : FnScope ["_law_row", "_law_within", "_law_way", "_law_one", "_law_sorts"] ["_law_row", "_law_within"] (defScope s_law_guesser) := ⟨rfl, rfl, rfl, by decide +kernel, rfl, by decide +kernel, by decide +kernel⟩
abbrev s_law_text : Stmt := topS 23
theorem sc_law_text : FnScope ["_law_guesser_here", "_law_part_here"] ["_law_guesser_here"] (defScope s_law_text) := ⟨rfl, rfl, rfl, by decide +kernel, rfl, by decide +kernel, by decide +kernel⟩
abbrev s_law_place : Stmt := topS 24
theorem sc_law_place : FnScope ["_law_words", "_law_wants", "_law_at", "_law_want", "_law_more"] ["_law_words"] (defScope s_law_place) := ⟨rfl, rfl, rfl, by decide +kernel, rfl, by decide +kernel, by decide +kernel⟩
abbrev s_law_part : Stmt := topS 25
theorem sc_law_part : FnScope ["_law_words", "_law_at", "_law_one", "_law_there", "_law_other", "_law_behind"] ["_law_words", "_law_at"] (defScope s_law_part) := ⟨rfl, rfl, rfl, by decide +kernel, rfl, by decide +kernel, by decide +kernel⟩
abbrev s_law_is_good : Stmt := topS 26
theorem sc_law_is_good : FnScope ["_law_guesser_here", "_law_within"] ["_law_guesser_here", "_law_within"] (defScope s_law_is_good) := ⟨rfl, rfl, rfl, by decide +kernel, rfl, by decide +kernel, by decide +kernel⟩
abbrev s_law_due : Stmt := topS 27
theorem sc_law_due : FnScope ["_law_text_here", "_law_words", "_law_place_here", "_law_found"] ["_law_text_here"] (defScope s_law_due) := ⟨rfl, rfl, rfl, by decide +kernel, rfl, by decide +kernel, by decide +kernel⟩
abbrev s_law_reading : Stmt := topS 28
theorem sc_law_reading : FnScope ["_law_text_here", "e", "_law_kinds"] ["_law_text_here"] (defScope s_law_reading) := ⟨rfl, rfl, rfl, by decide +kernel, rfl, by decide +kernel, by decide +kernel⟩
abbrev s_law_spoilt : Stmt := topS 29
theorem sc_law_spoilt : FnScope ["_law_row", "_law_text_here", "_law_way", "_law_at", "_law_whole", "_law_signs", "_law_sign", "_law_words", "_law_k", "_law_odd", "_law_rest", "_law_j"] ["_law_row", "_law_text_here"] (defScope s_law_spoilt) := ⟨rfl, rfl, rfl, by decide +kernel, rfl, by decide +kernel, by decide +kernel⟩
abbrev s_law : Stmt := topS 30
theorem sc_law : FnScope ["_law_script", "_law_row", "_law_odd", "_law_turn", "_law_text_here", "_law_change", "_law_some"] ["_law_script"] (defScope s_law) := ⟨rfl, rfl, rfl, by decide +kernel, rfl, by decide +kernel, by decide +kernel⟩
structure Top (K : PySem.W.Frag) (mg : Str → Option Value) where
  f_is_guesser : Addr
  fd_is_guesser : FuncData
  F_is_guesser : Fun K "is_guesser" "is_guesser" s_is_guesser f_is_guesser fd_is_guesser
  g_is_guesser : mg "is_guesser" = some (.ref f_is_guesser)
  f_check_guesser : Addr
  fd_check_guesser : FuncData
  F_check_guesser : Fun K "check_guesser" "check_guesser" s_check_guesser f_check_guesser fd_check_guesser
  g_check_guesser : mg "check_guesser" = some (.ref f_check_guesser)
  f_needs_of : Addr
  fd_needs_of : FuncData
  F_needs_of : Fun K "needs_of" "needs_of" s_needs_of f_needs_of fd_needs_of
  g_needs_of : mg "needs_of" = some (.ref f_needs_of)
  f_can_stand : Addr
  fd_can_stand : FuncData
  F_can_stand : Fun K "can_stand" "can_stand" s_can_stand f_can_stand fd_can_stand
  g_can_stand : mg "can_stand" = some (.ref f_can_stand)
  f_check_words : Addr
  fd_check_words : FuncData
  F_check_words : Fun K "check_words" "check_words" s_check_words f_check_words fd_check_words
  g_check_words : mg "check_words" = some (.ref f_check_words)
  f_made : Addr
  fd_made : FuncData
  F_made : Fun K "made" "made" s_made f_made fd_made
  g_made : mg "made" = some (.ref f_made)
  f_read : Addr
  fd_read : FuncData
  F_read : Fun K "read" "read" s_read f_read fd_read
  g_read : mg "read" = some (.ref f_read)
  f_law_taken : Addr
  fd_law_taken : FuncData
  F_law_taken : Fun K "_law_taken" "_law_taken" s_law_taken f_law_taken fd_law_taken
  g_law_taken : mg "_law_taken" = some (.ref f_law_taken)
  f_law_alike : Addr
  fd_law_alike : FuncData
  F_law_alike : Fun K "_law_alike" "_law_alike" s_law_alike f_law_alike fd_law_alike
  g_law_alike : mg "_law_alike" = some (.ref f_law_alike)
  f_law_guesser : Addr
  fd_law_guesser : FuncData
  F_law_guesser : Fun K "_law_guesser" "_law_guesser" s_law_guesser f_law_guesser fd_law_guesser
  g_law_guesser : mg "_law_guesser" = some (.ref f_law_guesser)
  f_law_text : Addr
  fd_law_text : FuncData
  F_law_text : Fun K "_law_text" "_law_text" s_law_text f_law_text fd_law_text
  g_law_text : mg "_law_text" = some (.ref f_law_text)
  f_law_place : Addr
  fd_law_place : FuncData
  F_law_place : Fun K "_law_place" "_law_place" s_law_place f_law_place fd_law_place
  g_law_place : mg "_law_place" = some (.ref f_law_place)
  f_law_part : Addr
  fd_law_part : FuncData
  F_law_part : Fun K "_law_part" "_law_part" s_law_part f_law_part fd_law_part
  g_law_part : mg "_law_part" = some (.ref f_law_part)
  f_law_is_good : Addr
  fd_law_is_good : FuncData
  F_law_is_good : Fun K "_law_is_good" "_law_is_good" s_law_is_good f_law_is_good fd_law_is_good
  g_law_is_good : mg "_law_is_good" = some (.ref f_law_is_good)
  f_law_due : Addr
  fd_law_due : FuncData
  F_law_due : Fun K "_law_due" "_law_due" s_law_due f_law_due fd_law_due
  g_law_due : mg "_law_due" = some (.ref f_law_due)
  f_law_reading : Addr
  fd_law_reading : FuncData
  F_law_reading : Fun K "_law_reading" "_law_reading" s_law_reading f_law_reading fd_law_reading
  g_law_reading : mg "_law_reading" = some (.ref f_law_reading)
  f_law_spoilt : Addr
  fd_law_spoilt : FuncData
  F_law_spoilt : Fun K "_law_spoilt" "_law_spoilt" s_law_spoilt f_law_spoilt fd_law_spoilt
  g_law_spoilt : mg "_law_spoilt" = some (.ref f_law_spoilt)
  f_law : Addr
  fd_law : FuncData
  F_law : Fun K "law" "law" s_law f_law fd_law
  g_law : mg "law" = some (.ref f_law)
  t_MOST_BOTHS : Tok
  k_MOST_BOTHS : mg "MOST_BOTHS" = some (.int 3 t_MOST_BOTHS)
  c_NUMBERED : Addr
  k_NUMBERED : mg "NUMBERED" = some (.ref c_NUMBERED)
  s_NUMBERED : ∀ H, SqT K H c_NUMBERED [.str "next", .str "stride", .str "pairs"]
  c_FIGURES : Addr
  k_FIGURES : mg "FIGURES" = some (.ref c_FIGURES)
  s_FIGURES : ∀ H, SqT K H c_FIGURES [.str "0", .str "1", .str "2", .str "3", .str "4", .str "5", .str "6", .str "7", .str "8", .str "9"]
  c_WellError : Addr
  g_WellError : mg "WellError" = some (.ref c_WellError)
  c_BadSetting : Addr
  g_BadSetting : mg "BadSetting" = some (.ref c_BadSetting)
  c_BadGuesser : Addr
  g_BadGuesser : mg "BadGuesser" = some (.ref c_BadGuesser)
  c_BadRow : Addr
  g_BadRow : mg "BadRow" = some (.ref c_BadRow)
  c_BadAsk : Addr
  g_BadAsk : mg "BadAsk" = some (.ref c_BadAsk)
  c_BadText : Addr
  g_BadText : mg "BadText" = some (.ref c_BadText)
  xi_BadGuesser : XIs K c_BadGuesser
  eb_BadGuesser : PySem.W.subIn K (.ref c_BadGuesser) (.type "BaseException") = some true
  et_BadGuesser : PySem.W.typeIn K (.ref c_BadGuesser) = some (.type "type")
  kc_BadGuesser : PySem.W.keepIn K (.ref c_BadGuesser) = true
  xm_BadGuesser_WellError : PySem.W.exmOne K (.ref c_BadGuesser) (.ref c_WellError) = some true
  ki_BadGuesser_BadText : PySem.W.kitOne K (.ref c_BadGuesser) (.ref c_BadText) = some false
  ki_BadGuesser_BadGuesser : PySem.W.kitOne K (.ref c_BadGuesser) (.ref c_BadGuesser) = some true
  ki_BadGuesser_BadAsk : PySem.W.kitOne K (.ref c_BadGuesser) (.ref c_BadAsk) = some false
  ki_BadGuesser_BadRow : PySem.W.kitOne K (.ref c_BadGuesser) (.ref c_BadRow) = some false
  ki_BadGuesser_BadSetting : PySem.W.kitOne K (.ref c_BadGuesser) (.ref c_BadSetting) = some false
  kv_BadGuesser : PySem.W.kitOne K (.ref c_BadGuesser) (.type "ValueError") = some true
  xi_BadText : XIs K c_BadText
  eb_BadText : PySem.W.subIn K (.ref c_BadText) (.type "BaseException") = some true
  et_BadText : PySem.W.typeIn K (.ref c_BadText) = some (.type "type")
  kc_BadText : PySem.W.keepIn K (.ref c_BadText) = true
  xm_BadText_WellError : PySem.W.exmOne K (.ref c_BadText) (.ref c_WellError) = some true
  ki_BadText_BadText : PySem.W.kitOne K (.ref c_BadText) (.ref c_BadText) = some true
  ki_BadText_BadGuesser : PySem.W.kitOne K (.ref c_BadText) (.ref c_BadGuesser) = some false
  ki_BadText_BadAsk : PySem.W.kitOne K (.ref c_BadText) (.ref c_BadAsk) = some false
  ki_BadText_BadRow : PySem.W.kitOne K (.ref c_BadText) (.ref c_BadRow) = some false
  ki_BadText_BadSetting : PySem.W.kitOne K (.ref c_BadText) (.ref c_BadSetting) = some false
  kv_BadText : PySem.W.kitOne K (.ref c_BadText) (.type "ValueError") = some true
  ex_BadGuesser : PySem.W.excIn K c_BadGuesser [.type "ValueError", .type "Exception", .type "BaseException", .type "object"] "ValueError.__new__" = true
  oe_BadText : OexC K c_BadText
  cs_BadText : ClsS K c_BadText
  xf_BadText : XfC K c_BadText
  no_BadText_place : PySem.W.findIn K (.ref c_BadText) "place" = some none
  f_BadText_init : Addr
  x_BadText_init : Addr
  fd_BadText_init : FuncData
  F_BadText_init : ∀ P : Program, (P.main.file : Str) = "/claim/cut.py" → FunS P K "__init__" "BadText.__init__" s_BadText_init f_BadText_init fd_BadText_init c_BadText x_BadText_init
  b_BadText_init : Binds K fd_BadText_init ["self", "place"] []
  ic_BadText : PySem.W.findIn K (.ref c_BadText) "__init__" = some (some (.ref f_BadText_init))
  ti_BadText : PySem.W.typeIn K (.ref f_BadText_init) = some (.type "function")
  z_ValueError : mg "ValueError" = none
  z_bool : mg "bool" = none
  z_enumerate : mg "enumerate" = none
  z_int : mg "int" = none
  z_isinstance : mg "isinstance" = none
  z_len : mg "len" = none
  z_list : mg "list" = none
  z_range : mg "range" = none
  z_reversed : mg "reversed" = none
  z_str : mg "str" = none
  z_super : mg "super" = none
  z_tuple : mg "tuple" = none
theorem b_is_guesser {K : PySem.W.Frag} {mg : Str → Option Value} (T : Top K mg) : Binds K T.fd_is_guesser ["guesser", "boths"] [] := T.F_is_guesser.binds (ps := ["guesser", "boths"]) fun _ _ _ _ _ _ us hl => match us, hl with | [_, _], _ => rfl
theorem b_check_guesser {K : PySem.W.Frag} {mg : Str → Option Value} (T : Top K mg) : Binds K T.fd_check_guesser ["guesser"] [] := T.F_check_guesser.binds (ps := ["guesser"]) fun _ _ _ _ _ _ us hl => match us, hl with | [_], _ => rfl
theorem b_needs_of {K : PySem.W.Frag} {mg : Str → Option Value} (T : Top K mg) : Binds K T.fd_needs_of ["word"] [] := T.F_needs_of.binds (ps := ["word"]) fun _ _ _ _ _ _ us hl => match us, hl with | [_], _ => rfl
theorem b_can_stand {K : PySem.W.Frag} {mg : Str → Option Value} (T : Top K mg) : Binds K T.fd_can_stand ["word", "need"] [] := T.F_can_stand.binds (ps := ["word", "need"]) fun _ _ _ _ _ _ us hl => match us, hl with | [_, _], _ => rfl
theorem b_check_words {K : PySem.W.Frag} {mg : Str → Option Value} (T : Top K mg) : Binds K T.fd_check_words ["words"] [] := T.F_check_words.binds (ps := ["words"]) fun _ _ _ _ _ _ us hl => match us, hl with | [_], _ => rfl
theorem b_made {K : PySem.W.Frag} {mg : Str → Option Value} (T : Top K mg) : Binds K T.fd_made ["words"] [] := T.F_made.binds (ps := ["words"]) fun _ _ _ _ _ _ us hl => match us, hl with | [_], _ => rfl
theorem b_read {K : PySem.W.Frag} {mg : Str → Option Value} (T : Top K mg) : Binds K T.fd_read ["text"] [] := T.F_read.binds (ps := ["text"]) fun _ _ _ _ _ _ us hl => match us, hl with | [_], _ => rfl
theorem b_law_taken {K : PySem.W.Frag} {mg : Str → Option Value} (T : Top K mg) : Binds K T.fd_law_taken ["_law_row", "_law_many"] [] := T.F_law_taken.binds (ps := ["_law_row", "_law_many"]) fun _ _ _ _ _ _ us hl => match us, hl with | [_, _], _ => rfl
theorem b_law_alike {K : PySem.W.Frag} {mg : Str → Option Value} (T : Top K mg) : Binds K T.fd_law_alike ["_law_found", "_law_due_here"] [] := T.F_law_alike.binds (ps := ["_law_found", "_law_due_here"]) fun _ _ _ _ _ _ us hl => match us, hl with | [_, _], _ => rfl
theorem b_law_guesser {K : PySem.W.Frag} {mg : Str → Option Value} (T : Top K mg) : Binds K T.fd_law_guesser ["_law_row", "_law_within"] [] := T.F_law_guesser.binds (ps := ["_law_row", "_law_within"]) fun _ _ _ _ _ _ us hl => match us, hl with | [_, _], _ => rfl
theorem b_law_text {K : PySem.W.Frag} {mg : Str → Option Value} (T : Top K mg) : Binds K T.fd_law_text ["_law_guesser_here"] [] := T.F_law_text.binds (ps := ["_law_guesser_here"]) fun _ _ _ _ _ _ us hl => match us, hl with | [_], _ => rfl
theorem b_law_place {K : PySem.W.Frag} {mg : Str → Option Value} (T : Top K mg) : Binds K T.fd_law_place ["_law_words"] [] := T.F_law_place.binds (ps := ["_law_words"]) fun _ _ _ _ _ _ us hl => match us, hl with | [_], _ => rfl
theorem b_law_part {K : PySem.W.Frag} {mg : Str → Option Value} (T : Top K mg) : Binds K T.fd_law_part ["_law_words", "_law_at"] [] := T.F_law_part.binds (ps := ["_law_words", "_law_at"]) fun _ _ _ _ _ _ us hl => match us, hl with | [_, _], _ => rfl
theorem b_law_is_good {K : PySem.W.Frag} {mg : Str → Option Value} (T : Top K mg) : Binds K T.fd_law_is_good ["_law_guesser_here", "_law_within"] [] := T.F_law_is_good.binds (ps := ["_law_guesser_here", "_law_within"]) fun _ _ _ _ _ _ us hl => match us, hl with | [_, _], _ => rfl
theorem b_law_due {K : PySem.W.Frag} {mg : Str → Option Value} (T : Top K mg) : Binds K T.fd_law_due ["_law_text_here"] [] := T.F_law_due.binds (ps := ["_law_text_here"]) fun _ _ _ _ _ _ us hl => match us, hl with | [_], _ => rfl
theorem b_law_reading {K : PySem.W.Frag} {mg : Str → Option Value} (T : Top K mg) : Binds K T.fd_law_reading ["_law_text_here"] [] := T.F_law_reading.binds (ps := ["_law_text_here"]) fun _ _ _ _ _ _ us hl => match us, hl with | [_], _ => rfl
theorem b_law_spoilt {K : PySem.W.Frag} {mg : Str → Option Value} (T : Top K mg) : Binds K T.fd_law_spoilt ["_law_row", "_law_text_here"] [] := T.F_law_spoilt.binds (ps := ["_law_row", "_law_text_here"]) fun _ _ _ _ _ _ us hl => match us, hl with | [_, _], _ => rfl
theorem b_law {K : PySem.W.Frag} {mg : Str → Option Value} (T : Top K mg) : Binds K T.fd_law ["_law_script"] [] := T.F_law.binds (ps := ["_law_script"]) fun _ _ _ _ _ _ us hl => match us, hl with | [_], _ => rfl
/-- nothing can be asked of it -/
theorem none_ok {P : Program} {w : World} {K : PySem.W.Frag} {mg : Str → Option Value} {base : Heap} {f : Addr} {fd : FuncData} {ps : List Str} {sp : Sp} {k : Nat} (no : ∀ vs H Q E, ¬ sp vs H Q E) : FnOk P w K mg base CX0 k f fd ps sp :=
  ⟨fun vs H Q E h => absurd h (no vs H Q E), fun A outer s H args us vs Q E _ _ _ _ h => absurd h (no vs H Q E)⟩

section
variable {P : Program} {w : World} {K : PySem.W.Frag} {mg : Str → Option Value} {base : Heap}
theorem ok_law_taken (T : Top K mg) : FnOk P w K mg base CX0 1 T.f_law_taken T.fd_law_taken ["_law_row", "_law_many"] (spTaken K) := by
  refine T.F_law_taken.ok sc_law_taken (fun vs H Q E h => by obtain ⟨r, m, rfl, _⟩ := h; rfl) (fun cdv A outer s H vs Q E hr h => ⟨t_law_taken K, PSs.nox ?_, pu_law_taken h⟩)
  have hu := hu_of hr; exact pss_cons (ps_asg (pe_op op_add (pe_ix ix_list (pv 0) (pe_int) (fun _ _ => rfl)) (pe_int)) (pg_sub (pv 0) (pe_int) set_list))   (pss_cons (ps_if (pt_cmpR op_gt (pe_ix ix_list (pv 0) (pe_int) (fun _ _ => rfl)) (pe_callB call_len_seq (by rfl) T.z_len PySem.boot_len (pa_cons (pe_ix ix_list (pv 0) (pe_int) (fun _ _ => rfl)) (pa_nil))) (nomark _)) (pss_cons (ps_asg (pe_op op_mod (pe_op op_add (pe_op op_mul (pe_ix ix_list (pv 0) (pe_int) (fun _ _ => rfl)) (pe_int)) (pe_int)) (pe_int)) (pg_sub (pv 0) (pe_int) set_list))   (pss_one (ps_ret (pe_op op_mod (pe_op op_fdiv (pe_ix ix_list (pv 0) (pe_int) (fun _ _ => rfl)) (pe_int)) (pv 1))))) (pss_nil))   (pss_cons (ps_set (i := 2) sc_law_taken.nd rfl (.inl rfl) (pe_ix ix_list (pe_ix ix_list (pv 0) (pe_int) (fun _ _ => rfl)) (pe_op op_sub (pe_ix ix_list (pv 0) (pe_int) (fun _ _ => rfl)) (pe_int)) (fun _ _ => rfl)))   (pss_cons (ps_asg (pe_op op_mod (pe_op op_add (pe_op op_add (pe_op op_mul (pe_ix ix_list (pv 0) (pe_int) (fun _ _ => rfl)) (pe_int)) (pv 2)) (pe_int)) (pe_int)) (pg_sub (pv 0) (pe_int) set_list))   (pss_one (ps_ret (pe_op op_mod (pv 2) (pv 1)))))))

theorem ok_law_guesser (T : Top K mg) : ∀ n, FnOk P w K mg base CX0 (n + 1) T.f_law_guesser T.fd_law_guesser ["_law_row", "_law_within"] (spLawGuesser K n)
  | 0 => none_ok (fun vs H Q E h => by obtain ⟨r, d, _, _, _, hn, _⟩ := h; omega)
  | n + 1 => by
    have G_law_guesser := ok_law_guesser T n
    have G_law_taken := ok_law_taken (P := P) (w := w) (base := base) T
    refine T.F_law_guesser.ok sc_law_guesser (fun vs H Q E h => by obtain ⟨r, d, rfl, _⟩ := h; rfl) (fun cdv A outer s H vs Q E hr h => ⟨t_law_guesser K (spTaken K) (spLawGuesser K n), PSs.nox ?_, pu_law_guesser h⟩)
    have hu := hu_of hr; exact pss_cons (ps_set (i := 2) sc_law_guesser.nd rfl (.inl rfl) (pe_call G_law_taken (hr.mono (by omega)) rfl (T.g_law_taken) (T.F_law_taken.kp) (b_law_taken T) .nil pass0 (pa_cons (pv 0) (pa_cons (pe_ix ix_list (pe_lst (pa_cons (pe_int) (pa_cons (pe_int) (pa_nil)))) (pe_callTy call_int1 (by rfl) T.z_int (by decide +kernel) (pa_cons (pe_cmpR op_gt (pv 1) (pe_int) (nomark _)) (pa_nil))) (fun _ _ => rfl)) (pa_nil)))))   (pss_cons (ps_if (pt_cmpR op_gt (pv 2) (pe_int) (nomark _)) (pss_cons (ps_set (i := 3) sc_law_guesser.nd rfl (.inl rfl) (pe_call G_law_guesser (hr.mono (by omega)) rfl (T.g_law_guesser) (T.F_law_guesser.kp) (b_law_guesser T) .nil pass0 (pa_cons (pv 0) (pa_cons (pe_op op_sub (pv 1) (pe_int)) (pa_nil)))))   (pss_one (ps_ret (pe_tup (pa_cons (pe_str) (pa_cons (pv 3) (pa_cons (pe_call G_law_guesser (hr.mono (by omega)) rfl (T.g_law_guesser) (T.F_law_guesser.kp) (b_law_guesser T) .nil pass0 (pa_cons (pv 0) (pa_cons (pe_op op_sub (pv 1) (pe_int)) (pa_nil)))) (pa_nil)))))))) (pss_nil))   (pss_cons (ps_set (i := 4) sc_law_guesser.nd rfl (.inl rfl) (pe_lst (pa_cons (pe_tup (pa_cons (pe_str) (pa_nil))) (pa_cons (pe_tup (pa_cons (pe_str) (pa_cons (pe_op op_add (pe_int) (pe_call G_law_taken (hr.mono (by omega)) rfl (T.g_law_taken) (T.F_law_taken.kp) (b_law_taken T) .nil pass0 (pa_cons (pv 0) (pa_cons (pe_int) (pa_nil))))) (pa_nil)))) (pa_cons (pe_tup (pa_cons (pe_str) (pa_cons (pe_op op_add (pe_int) (pe_call G_law_taken (hr.mono (by omega)) rfl (T.g_law_taken) (T.F_law_taken.kp) (b_law_taken T) .nil pass0 (pa_cons (pv 0) (pa_cons (pe_int) (pa_nil))))) (pa_nil)))) (pa_nil))))))   (pss_cons (ps_set (i := 4) sc_law_guesser.nd rfl (.inl rfl) (pe_op op_cat (pv 4) (pe_lst (pa_cons (pe_tup (pa_cons (pe_str) (pa_cons (pe_op op_add (pe_int) (pe_call G_law_taken (hr.mono (by omega)) rfl (T.g_law_taken) (T.F_law_taken.kp) (b_law_taken T) .nil pass0 (pa_cons (pv 0) (pa_cons (pe_int) (pa_nil))))) (pa_nil)))) (pa_cons (pe_tup (pa_cons (pe_str) (pa_cons (pe_int) (pa_nil)))) (pa_cons (pe_tup (pa_cons (pe_str) (pa_cons (pe_int) (pa_nil)))) (pa_nil)))))))   (pss_one (ps_ret (pe_ix ix_list (pv 4) (pv 2) (fun _ _ => rfl)))))))

theorem alikeX_of : ∀ (n : Nat) (vs : List V) (H : Hp) (Q : VK) (E : XK), spLawAlike n vs H Q E → spLawAlikeX n vs H Q E
  | 0, _, _, _, _, h => h
  | _ + 1, _, _, _, _, h => .inl h
theorem ok_law_alikeX (T : Top K mg) : ∀ n, FnOk P w K mg base CX0 n T.f_law_alike T.fd_law_alike ["_law_found", "_law_due_here"] (spLawAlikeX n)
  | 0 => none_ok (fun vs H Q E h => h)
  | n + 1 => by
    have G0 := ok_law_alikeX T n
    have G1 : FnOk P w K mg base CX0 n T.f_law_alike T.fd_law_alike ["_law_found", "_law_due_here"] (spLawAlike n) := G0.imp (alikeX_of n)
    refine T.F_law_alike.ok sc_law_alike (fun vs H Q E h => ?_) (fun cdv A outer s H vs Q E hr h => ?_)
    · rcases h with ⟨d, x, y, rfl, _⟩ | ⟨rfl, _⟩ | ⟨_, a, b, rfl, _⟩ <;> rfl
    · rcases h with h | ⟨rfl, k⟩ | ⟨hn, a, b, rfl, h1, h2, k⟩
      · refine ⟨t_law_alike K (spLawAlike n), PSs.nox ?_, pu_law_alike h⟩
        have G_law_alike := G1
        have hu := hu_of hr; exact pss_cons (ps_if (PW.pt (pw_or (pt_val (pe_callB call_isi (by rfl) T.z_isinstance (by decide +kernel) (pa_cons (pv 1) (pa_cons (pe_bltn (v := .ty "tuple") (by rfl) T.z_tuple (by decide +kernel) rfl) (pa_nil))))) (pw_or1 (pt_val (pe_callB call_isi (by rfl) T.z_isinstance (by decide +kernel) (pa_cons (pv 1) (pa_cons (pe_bltn (v := .ty "list") (by rfl) T.z_list (by decide +kernel) rfl) (pa_nil)))))))) (pss_cons (ps_if (PW.pt (pw_or (pt_cmpR op_ne (pe_callB call_isi (by rfl) T.z_isinstance (by decide +kernel) (pa_cons (pv 0) (pa_cons (pe_bltn (v := .ty "tuple") (by rfl) T.z_tuple (by decide +kernel) rfl) (pa_nil)))) (pe_callB call_isi (by rfl) T.z_isinstance (by decide +kernel) (pa_cons (pv 1) (pa_cons (pe_bltn (v := .ty "tuple") (by rfl) T.z_tuple (by decide +kernel) rfl) (pa_nil)))) (nomark _)) (pw_or1 (pt_not (pt_val (pe_callB call_isiT (by rfl) T.z_isinstance (by decide +kernel) (pa_cons (pv 0) (pa_cons (pe_tup (pa_cons (pe_bltn (v := .ty "tuple") (by rfl) T.z_tuple (by decide +kernel) rfl) (pa_cons (pe_bltn (v := .ty "list") (by rfl) T.z_list (by decide +kernel) rfl) (pa_nil)))) (pa_nil))))))))) (pss_one (ps_ret (pe_bl))) (pss_nil))   (pss_cons (ps_if (pt_cmpR op_ne (pe_callB call_len_seq (by rfl) T.z_len PySem.boot_len (pa_cons (pv 0) (pa_nil))) (pe_callB call_len_seq (by rfl) T.z_len PySem.boot_len (pa_cons (pv 1) (pa_nil))) (nomark _)) (pss_one (ps_ret (pe_bl))) (pss_nil))   (pss_one (ps_ret (pe_cmpR (op_eqD hr.units) (pe_lc (own := [("_law_k", 2)]) (g := gName 2) (tt := tNot (tB (tCall _ [] E0 (tCons (tOp (rIx K) (tVar 0) (tVar 2)) (tCons (tOp (rIx K) (tVar 1) (tVar 2)) (tNil)))))) (by rfl) sc_law_alike.nd (pi_range1 (by rfl) T.z_range (pa_cons (pe_callB call_len_seq (by rfl) T.z_len PySem.boot_len (pa_cons (pv 1) (pa_nil))) (pa_nil))) (blkOk_by (own := [("_law_k", 2)]) (N := ["_law_found", "_law_due_here", "_law_k"]) (sc := defScope s_law_alike) (by decide +kernel)) (fun _ _ _ _ _ => pg_name (i := 2) sc_law_alike.nd rfl (.inl rfl)) (fun _ _ _ _ _ => pts_one (pt_not (pt_val (pe_call G_law_alike (hr.mono (by omega)) rfl (T.g_law_alike) (T.F_law_alike.kp) (b_law_alike T) .nil pass0 (pa_cons (pe_ix ix_seq (pv 0) (pv 2) (fun _ _ => rfl)) (pa_cons (pe_ix ix_seq (pv 1) (pv 2) (fun _ _ => rfl)) (pa_nil))))))) (fun _ _ _ _ _ => pv 2)) (pe_lst (pa_nil)) (nomark _)))))) (pss_nil))   (pss_cons (ps_if (PW.pt (pw_or (pt_cmp (pc_isN (pv 1)) rfl) (pw_or1 (pt_cmp (pc_isN (pv 0)) rfl)))) (pss_one (ps_ret (pe_and (pe_cmp (pc_isN (pv 1)) rfl) (pe_one (pe_cmp (pc_isN (pv 0)) rfl))))) (pss_nil))   (pss_cons (ps_if (PW.pt (pw_or (pt_val (pe_callB call_isi (by rfl) T.z_isinstance (by decide +kernel) (pa_cons (pv 1) (pa_cons (pe_bltn (v := .ty "bool") (by rfl) T.z_bool (by decide +kernel) rfl) (pa_nil))))) (pw_or1 (pt_val (pe_callB call_isi (by rfl) T.z_isinstance (by decide +kernel) (pa_cons (pv 0) (pa_cons (pe_bltn (v := .ty "bool") (by rfl) T.z_bool (by decide +kernel) rfl) (pa_nil)))))))) (pss_one (ps_ret (pe_and (pe_callB call_isi (by rfl) T.z_isinstance (by decide +kernel) (pa_cons (pv 1) (pa_cons (pe_bltn (v := .ty "bool") (by rfl) T.z_bool (by decide +kernel) rfl) (pa_nil)))) (pe_and (pe_callB call_isi (by rfl) T.z_isinstance (by decide +kernel) (pa_cons (pv 0) (pa_cons (pe_bltn (v := .ty "bool") (by rfl) T.z_bool (by decide +kernel) rfl) (pa_nil)))) (pe_one (pe_cmpR (op_eqD hr.units) (pv 0) (pv 1) (nomark _))))))) (pss_nil))   (pss_cons (ps_if (pt_val (pe_callB call_isi (by rfl) T.z_isinstance (by decide +kernel) (pa_cons (pv 1) (pa_cons (pe_bltn (v := .ty "str") (by rfl) T.z_str (by decide +kernel) rfl) (pa_nil))))) (pss_one (ps_ret (pe_and (pe_callB call_isi (by rfl) T.z_isinstance (by decide +kernel) (pa_cons (pv 0) (pa_cons (pe_bltn (v := .ty "str") (by rfl) T.z_str (by decide +kernel) rfl) (pa_nil)))) (pe_one (pe_cmpR (op_eqD hr.units) (pv 0) (pv 1) (nomark _)))))) (pss_nil))   (pss_one (ps_ret (pe_and (pe_callB call_isi (by rfl) T.z_isinstance (by decide +kernel) (pa_cons (pv 0) (pa_cons (pe_bltn (v := .ty "int") (by rfl) T.z_int (by decide +kernel) rfl) (pa_nil)))) (pe_one (pe_cmpR (op_eqD hr.units) (pv 0) (pv 1) (nomark _)))))))))
      · refine ⟨t_law_alike K (spLawAlikeX n), PSs.nox ?_, pu_alike_non k⟩
        have G_law_alike := G0
        have hu := hu_of hr; exact pss_cons (ps_if (PW.pt (pw_or (pt_val (pe_callB call_isi (by rfl) T.z_isinstance (by decide +kernel) (pa_cons (pv 1) (pa_cons (pe_bltn (v := .ty "tuple") (by rfl) T.z_tuple (by decide +kernel) rfl) (pa_nil))))) (pw_or1 (pt_val (pe_callB call_isi (by rfl) T.z_isinstance (by decide +kernel) (pa_cons (pv 1) (pa_cons (pe_bltn (v := .ty "list") (by rfl) T.z_list (by decide +kernel) rfl) (pa_nil)))))))) (pss_cons (ps_if (PW.pt (pw_or (pt_cmpR op_ne (pe_callB call_isi (by rfl) T.z_isinstance (by decide +kernel) (pa_cons (pv 0) (pa_cons (pe_bltn (v := .ty "tuple") (by rfl) T.z_tuple (by decide +kernel) rfl) (pa_nil)))) (pe_callB call_isi (by rfl) T.z_isinstance (by decide +kernel) (pa_cons (pv 1) (pa_cons (pe_bltn (v := .ty "tuple") (by rfl) T.z_tuple (by decide +kernel) rfl) (pa_nil)))) (nomark _)) (pw_or1 (pt_not (pt_val (pe_callB call_isiT (by rfl) T.z_isinstance (by decide +kernel) (pa_cons (pv 0) (pa_cons (pe_tup (pa_cons (pe_bltn (v := .ty "tuple") (by rfl) T.z_tuple (by decide +kernel) rfl) (pa_cons (pe_bltn (v := .ty "list") (by rfl) T.z_list (by decide +kernel) rfl) (pa_nil)))) (pa_nil))))))))) (pss_one (ps_ret (pe_bl))) (pss_nil))   (pss_cons (ps_if (pt_cmpR op_ne (pe_callB call_len_seq (by rfl) T.z_len PySem.boot_len (pa_cons (pv 0) (pa_nil))) (pe_callB call_len_seq (by rfl) T.z_len PySem.boot_len (pa_cons (pv 1) (pa_nil))) (nomark _)) (pss_one (ps_ret (pe_bl))) (pss_nil))   (pss_one (ps_ret (pe_cmpR (op_eqD hr.units) (pe_lc (own := [("_law_k", 2)]) (g := gName 2) (tt := tNot (tB (tCall _ [] E0 (tCons (tOp (rIx K) (tVar 0) (tVar 2)) (tCons (tOp (rIx K) (tVar 1) (tVar 2)) (tNil)))))) (by rfl) sc_law_alike.nd (pi_range1 (by rfl) T.z_range (pa_cons (pe_callB call_len_seq (by rfl) T.z_len PySem.boot_len (pa_cons (pv 1) (pa_nil))) (pa_nil))) (blkOk_by (own := [("_law_k", 2)]) (N := ["_law_found", "_law_due_here", "_law_k"]) (sc := defScope s_law_alike) (by decide +kernel)) (fun _ _ _ _ _ => pg_name (i := 2) sc_law_alike.nd rfl (.inl rfl)) (fun _ _ _ _ _ => pts_one (pt_not (pt_val (pe_call G_law_alike (hr.mono (by omega)) rfl (T.g_law_alike) (T.F_law_alike.kp) (b_law_alike T) .nil pass0 (pa_cons (pe_ix ix_seq (pv 0) (pv 2) (fun _ _ => rfl)) (pa_cons (pe_ix ix_seq (pv 1) (pv 2) (fun _ _ => rfl)) (pa_nil))))))) (fun _ _ _ _ _ => pv 2)) (pe_lst (pa_nil)) (nomark _)))))) (pss_nil))   (pss_cons (ps_if (PW.pt (pw_or (pt_cmp (pc_isN (pv 1)) rfl) (pw_or1 (pt_cmp (pc_isN (pv 0)) rfl)))) (pss_one (ps_ret (pe_and (pe_cmp (pc_isN (pv 1)) rfl) (pe_one (pe_cmp (pc_isN (pv 0)) rfl))))) (pss_nil))   (pss_cons (ps_if (PW.pt (pw_or (pt_val (pe_callB call_isi (by rfl) T.z_isinstance (by decide +kernel) (pa_cons (pv 1) (pa_cons (pe_bltn (v := .ty "bool") (by rfl) T.z_bool (by decide +kernel) rfl) (pa_nil))))) (pw_or1 (pt_val (pe_callB call_isi (by rfl) T.z_isinstance (by decide +kernel) (pa_cons (pv 0) (pa_cons (pe_bltn (v := .ty "bool") (by rfl) T.z_bool (by decide +kernel) rfl) (pa_nil)))))))) (pss_one (ps_ret (pe_and (pe_callB call_isi (by rfl) T.z_isinstance (by decide +kernel) (pa_cons (pv 1) (pa_cons (pe_bltn (v := .ty "bool") (by rfl) T.z_bool (by decide +kernel) rfl) (pa_nil)))) (pe_and (pe_callB call_isi (by rfl) T.z_isinstance (by decide +kernel) (pa_cons (pv 0) (pa_cons (pe_bltn (v := .ty "bool") (by rfl) T.z_bool (by decide +kernel) rfl) (pa_nil)))) (pe_one (pe_cmpR (op_eqD hr.units) (pv 0) (pv 1) (nomark _))))))) (pss_nil))   (pss_cons (ps_if (pt_val (pe_callB call_isi (by rfl) T.z_isinstance (by decide +kernel) (pa_cons (pv 1) (pa_cons (pe_bltn (v := .ty "str") (by rfl) T.z_str (by decide +kernel) rfl) (pa_nil))))) (pss_one (ps_ret (pe_and (pe_callB call_isi (by rfl) T.z_isinstance (by decide +kernel) (pa_cons (pv 0) (pa_cons (pe_bltn (v := .ty "str") (by rfl) T.z_str (by decide +kernel) rfl) (pa_nil)))) (pe_one (pe_cmpR (op_eqD hr.units) (pv 0) (pv 1) (nomark _)))))) (pss_nil))   (pss_one (ps_ret (pe_and (pe_callB call_isi (by rfl) T.z_isinstance (by decide +kernel) (pa_cons (pv 0) (pa_cons (pe_bltn (v := .ty "int") (by rfl) T.z_int (by decide +kernel) rfl) (pa_nil)))) (pe_one (pe_cmpR (op_eqD hr.units) (pv 0) (pv 1) (nomark _)))))))))
      · cases n with
        | zero => exact absurd hn (by decide)
        | succ m =>
          refine ⟨t_law_alike K (spLawAlikeX (m + 1)), PSs.nox ?_, pu_alike_pair h1 h2 k⟩
          have G_law_alike := G0
          have hu := hu_of hr; exact pss_cons (ps_if (PW.pt (pw_or (pt_val (pe_callB call_isi (by rfl) T.z_isinstance (by decide +kernel) (pa_cons (pv 1) (pa_cons (pe_bltn (v := .ty "tuple") (by rfl) T.z_tuple (by decide +kernel) rfl) (pa_nil))))) (pw_or1 (pt_val (pe_callB call_isi (by rfl) T.z_isinstance (by decide +kernel) (pa_cons (pv 1) (pa_cons (pe_bltn (v := .ty "list") (by rfl) T.z_list (by decide +kernel) rfl) (pa_nil)))))))) (pss_cons (ps_if (PW.pt (pw_or (pt_cmpR op_ne (pe_callB call_isi (by rfl) T.z_isinstance (by decide +kernel) (pa_cons (pv 0) (pa_cons (pe_bltn (v := .ty "tuple") (by rfl) T.z_tuple (by decide +kernel) rfl) (pa_nil)))) (pe_callB call_isi (by rfl) T.z_isinstance (by decide +kernel) (pa_cons (pv 1) (pa_cons (pe_bltn (v := .ty "tuple") (by rfl) T.z_tuple (by decide +kernel) rfl) (pa_nil)))) (nomark _)) (pw_or1 (pt_not (pt_val (pe_callB call_isiT (by rfl) T.z_isinstance (by decide +kernel) (pa_cons (pv 0) (pa_cons (pe_tup (pa_cons (pe_bltn (v := .ty "tuple") (by rfl) T.z_tuple (by decide +kernel) rfl) (pa_cons (pe_bltn (v := .ty "list") (by rfl) T.z_list (by decide +kernel) rfl) (pa_nil)))) (pa_nil))))))))) (pss_one (ps_ret (pe_bl))) (pss_nil))   (pss_cons (ps_if (pt_cmpR op_ne (pe_callB call_len_seq (by rfl) T.z_len PySem.boot_len (pa_cons (pv 0) (pa_nil))) (pe_callB call_len_seq (by rfl) T.z_len PySem.boot_len (pa_cons (pv 1) (pa_nil))) (nomark _)) (pss_one (ps_ret (pe_bl))) (pss_nil))   (pss_one (ps_ret (pe_cmpR (op_eqD hr.units) (pe_lc (own := [("_law_k", 2)]) (g := gName 2) (tt := tNot (tB (tCall _ [] E0 (tCons (tOp (rIx K) (tVar 0) (tVar 2)) (tCons (tOp (rIx K) (tVar 1) (tVar 2)) (tNil)))))) (by rfl) sc_law_alike.nd (pi_range1 (by rfl) T.z_range (pa_cons (pe_callB call_len_seq (by rfl) T.z_len PySem.boot_len (pa_cons (pv 1) (pa_nil))) (pa_nil))) (blkOk_by (own := [("_law_k", 2)]) (N := ["_law_found", "_law_due_here", "_law_k"]) (sc := defScope s_law_alike) (by decide +kernel)) (fun _ _ _ _ _ => pg_name (i := 2) sc_law_alike.nd rfl (.inl rfl)) (fun _ _ _ _ _ => pts_one (pt_not (pt_val (pe_call G_law_alike (hr.mono (by omega)) rfl (T.g_law_alike) (T.F_law_alike.kp) (b_law_alike T) .nil pass0 (pa_cons (pe_ix ix_seq (pv 0) (pv 2) (fun _ _ => rfl)) (pa_cons (pe_ix ix_seq (pv 1) (pv 2) (fun _ _ => rfl)) (pa_nil))))))) (fun _ _ _ _ _ => pv 2)) (pe_lst (pa_nil)) (nomark _)))))) (pss_nil))   (pss_cons (ps_if (PW.pt (pw_or (pt_cmp (pc_isN (pv 1)) rfl) (pw_or1 (pt_cmp (pc_isN (pv 0)) rfl)))) (pss_one (ps_ret (pe_and (pe_cmp (pc_isN (pv 1)) rfl) (pe_one (pe_cmp (pc_isN (pv 0)) rfl))))) (pss_nil))   (pss_cons (ps_if (PW.pt (pw_or (pt_val (pe_callB call_isi (by rfl) T.z_isinstance (by decide +kernel) (pa_cons (pv 1) (pa_cons (pe_bltn (v := .ty "bool") (by rfl) T.z_bool (by decide +kernel) rfl) (pa_nil))))) (pw_or1 (pt_val (pe_callB call_isi (by rfl) T.z_isinstance (by decide +kernel) (pa_cons (pv 0) (pa_cons (pe_bltn (v := .ty "bool") (by rfl) T.z_bool (by decide +kernel) rfl) (pa_nil)))))))) (pss_one (ps_ret (pe_and (pe_callB call_isi (by rfl) T.z_isinstance (by decide +kernel) (pa_cons (pv 1) (pa_cons (pe_bltn (v := .ty "bool") (by rfl) T.z_bool (by decide +kernel) rfl) (pa_nil)))) (pe_and (pe_callB call_isi (by rfl) T.z_isinstance (by decide +kernel) (pa_cons (pv 0) (pa_cons (pe_bltn (v := .ty "bool") (by rfl) T.z_bool (by decide +kernel) rfl) (pa_nil)))) (pe_one (pe_cmpR (op_eqD hr.units) (pv 0) (pv 1) (nomark _))))))) (pss_nil))   (pss_cons (ps_if (pt_val (pe_callB call_isi (by rfl) T.z_isinstance (by decide +kernel) (pa_cons (pv 1) (pa_cons (pe_bltn (v := .ty "str") (by rfl) T.z_str (by decide +kernel) rfl) (pa_nil))))) (pss_one (ps_ret (pe_and (pe_callB call_isi (by rfl) T.z_isinstance (by decide +kernel) (pa_cons (pv 0) (pa_cons (pe_bltn (v := .ty "str") (by rfl) T.z_str (by decide +kernel) rfl) (pa_nil)))) (pe_one (pe_cmpR (op_eqD hr.units) (pv 0) (pv 1) (nomark _)))))) (pss_nil))   (pss_one (ps_ret (pe_and (pe_callB call_isi (by rfl) T.z_isinstance (by decide +kernel) (pa_cons (pv 0) (pa_cons (pe_bltn (v := .ty "int") (by rfl) T.z_int (by decide +kernel) rfl) (pa_nil)))) (pe_one (pe_cmpR (op_eqD hr.units) (pv 0) (pv 1) (nomark _)))))))))

theorem ok_law_text (T : Top K mg) : ∀ n, FnOk P w K mg base CX0 (n + 1) T.f_law_text T.fd_law_text ["_law_guesser_here"] (spLawText n)
  | 0 => none_ok (fun vs H Q E h => by obtain ⟨a, g, _, _, _, hn, _⟩ := h; omega)
  | n + 1 => by
    have G_law_text := ok_law_text T n
    refine T.F_law_text.ok sc_law_text (fun vs H Q E h => by obtain ⟨a, g, rfl, _⟩ := h; rfl) (fun cdv A outer s H vs Q E hr h => ⟨t_law_text K (spLawText n), PSs.nox ?_, pu_law_text h⟩)
    have hu := hu_of hr; exact pss_cons (ps_if (pt_cmpR op_eq (pe_ix ix_tup (pv 0) (pe_int) (fun _ _ => rfl)) (pe_str) (nomark _)) (pss_one (ps_ret (pe_op op_add_str (pe_op op_add_str (pe_op op_add_str (pe_str) (pe_call G_law_text (hr.mono (by omega)) rfl (T.g_law_text) (T.F_law_text.kp) (b_law_text T) .nil pass0 (pa_cons (pe_ix ix_tup (pv 0) (pe_int) (fun _ _ => rfl)) (pa_nil)))) (pe_str)) (pe_call G_law_text (hr.mono (by omega)) rfl (T.g_law_text) (T.F_law_text.kp) (b_law_text T) .nil pass0 (pa_cons (pe_ix ix_tup (pv 0) (pe_int) (fun _ _ => rfl)) (pa_nil)))))) (pss_nil))   (pss_one (ps_ret (pe_join (pe_str) (pe_lc (own := [("_law_part_here", 1)]) (g := gName 1) (tt := tYes) (by rfl) sc_law_text.nd (pi_tup (pv 0)) (blkOk_by (own := [("_law_part_here", 1)]) (N := ["_law_guesser_here", "_law_part_here"]) (sc := defScope s_law_text) (by decide +kernel)) (fun _ _ _ _ _ => pg_name (i := 1) sc_law_text.nd rfl (.inl rfl)) (fun _ _ _ _ _ => pts_nil) (fun _ _ _ _ _ => pe_callTy call_str1 (by rfl) T.z_str (by decide +kernel) (pa_cons (pv 1) (pa_nil)))))))

theorem msg_small {m : Nat} (h : m ≤ 1000) : (Str.empty ++ ("the text is none by its word " : Str) ++ (Str.ofString (toString ((m : Nat) : Int)))).length ≤ sizeLine := by
  have key : ∀ m : Fin 1001, (Str.empty ++ ("the text is none by its word " : Str) ++ (Str.ofString (toString (((m : Nat)) : Int)))).length ≤ 100 := by decide +kernel
  have := key ⟨m, by omega⟩
  rw [sizeLine_eq]
  have h2 : (Str.empty ++ ("the text is none by its word " : Str) ++ (Str.ofString (toString ((m : Nat) : Int)))).length ≤ 100 := this
  omega
theorem log_small {m : Nat} (h : m ≤ 1000) : ((m : Nat) : Int).natAbs.log2 < 1920 := by
  have key : ∀ m : Fin 1001, ((m : Nat) : Int).natAbs.log2 < 1920 := by decide +kernel
  exact key ⟨m, by omega⟩
theorem ok_BadText_init (hP : SupP P) (T : Top K mg) : FnOk P w K mg base CX0 1 T.f_BadText_init T.fd_BadText_init ["self", "place"] (spXInit GInit T.c_BadText "place") := by
  refine init_ok (k := 0) (ta := tCons (fun σ H Q => tJs [tC (.str "the text is none by its word "), tFmt (tVar 1)] Str.empty σ H fun out H1 => Q (.str out) H1) tNil) (T.F_BadText_init P hP.file) ss_BadText_init T.cs_BadText T.z_super hP.sup T.no_BadText_place rfl rfl rfl (by decide) (by decide) ?_ ?_ (fun _ => rfl) (fun _ => rfl) (fun _ => rfl)
  · intro a y H Q gy hq
    obtain ⟨n, hn, rfl⟩ := gy
    refine ⟨_, rfl, ?_, _, rfl, .inr ⟨n, rfl, log_small hn, _, rfl, msg_small hn, hq _ (by simp)⟩⟩
    rw [sizeLine_eq]
    decide +kernel
  · intro X hN hS
    refine pa_cons (pe_joined (.cons pe_str (.cons (pe_fmt (pe_var ?_ (.inl ?_) (by decide) (by decide))) .nil))) pa_nil
    · rw [hN]; rfl
    · rw [hS]; rfl
theorem ok_is_guesserX (T : Top K mg) : ∀ n, FnOk P w K mg base CX0 n T.f_is_guesser T.fd_is_guesser ["guesser", "boths"] (spIsGX n)
  | 0 => none_ok (fun vs H Q E h => by obtain ⟨a, d, g, _, _, h1, h2, _⟩ := h; omega)
  | n + 1 => by
    have G_is_guesser := ok_is_guesserX T n
    refine T.F_is_guesser.ok sc_is_guesser (fun vs H Q E h => by obtain ⟨a, d, g, rfl, _⟩ := h; rfl) (fun cdv A outer s H vs Q E hr h => ⟨t_is_guesser K (spIsGX n), PSs.nox ?_, pu_is_guesserX h⟩)
    have hu := hu_of hr; exact pss_cons (ps_if (pt_not (pt_val (pe_callB call_isi (by rfl) T.z_isinstance (by decide +kernel) (pa_cons (pv 0) (pa_cons (pe_bltn (v := .ty "tuple") (by rfl) T.z_tuple (by decide +kernel) rfl) (pa_nil)))))) (pss_one (ps_ret (pe_bl))) (pss_nil))   (pss_one (ps_match (pv 0) (pcs_cons sc_is_guesser.nd (pm_seq (by rfl) (pms_cons (pm_val (pe_str)) (pms_nil))) (.nil) (pss_one (ps_ret (pe_bl)))     (pcs_cons sc_is_guesser.nd (pm_seq (by rfl) (pms_cons (pm_val (pe_str)) (pms_cons (pm_cap) (pms_nil)))) (.cons ⟨rfl, (.inl rfl), .inr rfl⟩ (.nil)) (pss_one (ps_ret (pe_cmpR op_in_seq (pv 2) (pe_tup (pa_cons (pe_int) (pa_cons (pe_int) (pa_cons (pe_int) (pa_nil))))) (by rfl))))     (pcs_cons sc_is_guesser.nd (pm_seq (by rfl) (pms_cons (pm_val (pe_str)) (pms_cons (pm_cap) (pms_nil)))) (.cons ⟨rfl, (.inl rfl), .inr rfl⟩ (.nil)) (pss_one (ps_ret (pe_cmpR op_in_seq (pv 3) (pe_tup (pa_cons (pe_int) (pa_cons (pe_int) (pa_cons (pe_int) (pa_nil))))) (by rfl))))     (pcs_cons sc_is_guesser.nd (pm_seq (by rfl) (pms_cons (pm_val (pe_str)) (pms_cons (pm_cap) (pms_nil)))) (.cons ⟨rfl, (.inl rfl), .inr rfl⟩ (.nil)) (pss_one (ps_ret (pe_cmpR op_in_seq (pv 2) (pe_tup (pa_cons (pe_int) (pa_cons (pe_int) (pa_nil)))) (by rfl))))     (pcs_cons sc_is_guesser.nd (pm_seq (by rfl) (pms_cons (pm_val (pe_str)) (pms_cons (pm_cap) (pms_cons (pm_cap) (pms_nil))))) (.cons ⟨rfl, (.inl rfl), .inr rfl⟩ (.cons ⟨rfl, (.inl rfl), .inr rfl⟩ (.nil))) (pss_one (ps_ret (pe_and (pe_cmpR op_lt (pv 1) (pe_glob rfl T.k_MOST_BOTHS ⟨_, rfl⟩) (nomark _)) (pe_and (pe_call G_is_guesser (hr.mono (by omega)) rfl (T.g_is_guesser) (T.F_is_guesser.kp) (b_is_guesser T) .nil pass0 (pa_cons (pv 4) (pa_cons (pe_op op_add (pv 1) (pe_int)) (pa_nil)))) (pe_one (pe_call G_is_guesser (hr.mono (by omega)) rfl (T.g_is_guesser) (T.F_is_guesser.kp) (b_is_guesser T) .nil pass0 (pa_cons (pv 5) (pa_cons (pe_op op_add (pv 1) (pe_int)) (pa_nil)))))))))     (pcs_cons sc_is_guesser.nd (pm_any) (.nil) (pss_one (ps_ret (pe_bl)))     (pcs_nil)))))))))
theorem ok_check_guesserX (T : Top K mg) : FnOk P w K mg base (L2.CX P w) 5 T.f_check_guesser T.fd_check_guesser ["guesser"] (spCheckX T.c_BadGuesser) := by
  have G_is_guesser := ok_is_guesserX (P := P) (w := w) (base := base) T 4
  refine T.F_check_guesser.okX sc_check_guesser (fun vs H Q E h => by obtain ⟨a, g, rfl, _⟩ := h; rfl) (fun cdv A outer s H vs Q E hr h => ⟨t_check_guesserX K T.c_BadGuesser (spIsGX 4) E, ?_, pu_check_guesserX h⟩)
  have hu := hu_of hr; exact pss_one (ps_if (pt_not (pt_val (pe_call G_is_guesser (hr.mono (by omega)) rfl (T.g_is_guesser) (T.F_is_guesser.kp) (b_is_guesser T) .nil pass0 (pa_cons (pv 0) (pa_cons (pe_int) (pa_nil)))))) (pss_one (ps_raise rfl (takes_of rfl rfl rfl rfl) (pmk_own F.excBase_ValueError T.ex_BadGuesser T.g_BadGuesser T.kc_BadGuesser (raises_own T.eb_BadGuesser T.et_BadGuesser) rfl))) (pss_nil))
theorem ok_needs_of (T : Top K mg) : FnOk P w K mg base CX0 1 T.f_needs_of T.fd_needs_of ["word"] spNeedsOf := by
  refine T.F_needs_of.ok sc_needs_of (fun vs H Q E h => by obtain ⟨a, rfl, _⟩ := h; rfl) (fun cdv A outer s H vs Q E hr h => ⟨t_needs_of K T.c_NUMBERED, PSs.nox ?_, pu_needs_of T.s_NUMBERED h⟩)
  have hu := hu_of hr; exact pss_cons (ps_if (pt_cmpR op_in_seq (pv 0) (pe_glob rfl T.k_NUMBERED rfl) (by rfl)) (pss_one (ps_ret (pe_lst (pa_cons (pe_str) (pa_nil))))) (pss_nil))   (pss_cons (ps_if (pt_cmpR op_eq (pv 0) (pe_str) (nomark _)) (pss_one (ps_ret (pe_lst (pa_cons (pe_str) (pa_cons (pe_str) (pa_nil)))))) (pss_nil))   (pss_one (ps_ret (pe_lst (pa_nil)))))
theorem ok_can_stand (T : Top K mg) : FnOk P w K mg base CX0 1 T.f_can_stand T.fd_can_stand ["word", "need"] spCanStand := by
  refine T.F_can_stand.ok sc_can_stand (fun vs H Q E h => by obtain ⟨a, b, rfl, _⟩ := h; rfl) (fun cdv A outer s H vs Q E hr h => ⟨t_can_stand K T.c_FIGURES T.c_NUMBERED, PSs.nox ?_, pu_can_stand T.s_FIGURES T.s_NUMBERED h⟩)
  have hu := hu_of hr; exact pss_cons (ps_if (pt_cmpR op_eq (pv 1) (pe_str) (nomark _)) (pss_one (ps_ret (pe_cmpR op_in_seq (pv 0) (pe_glob rfl T.k_FIGURES rfl) (by rfl)))) (pss_nil))   (pss_one (ps_ret (pe_or (pe_cmpR op_in_seq (pv 0) (pe_glob rfl T.k_NUMBERED rfl) (by rfl)) (pe_one (pe_cmpR op_in_seq (pv 0) (pe_tup (pa_cons (pe_str) (pa_cons (pe_str) (pa_nil)))) (by rfl))))))
theorem ok_check_wordsX (hP : SupP P) (T : Top K mg) : FnOk P w K mg base (L2.CX P w) 3 T.f_check_words T.fd_check_words ["words"] (spCheckWordsX K T.c_BadText) := by
  have G_can_stand := ok_can_stand (P := P) (w := w) (base := base) T
  have G_needs_of := ok_needs_of (P := P) (w := w) (base := base) T
  have G_BadText_init := ok_BadText_init (w := w) (base := base) hP T
  refine T.F_check_words.okX sc_check_words (fun vs H Q E h => by obtain ⟨a, ws, rfl, _⟩ := h; rfl) (fun cdv A outer s H vs Q E hr h => ⟨t_check_wordsX K T.c_BadText spCanStand spNeedsOf E, ?_, pu_check_wordsX h⟩)
  have hu := hu_of hr; exact pss_cons (ps_set (i := 1) sc_check_words.nd rfl (.inl rfl) (pe_lst (pa_cons (pe_str) (pa_nil))))   (pss_cons (ps_for (passes_of rfl) rfl (pi_enum (by rfl) T.z_enumerate (pa_cons (pv 0) (pa_nil))) (pg_tup (by rfl) (pgs_cons (pg_name (i := 2) sc_check_words.nd rfl (.inl rfl)) (pgs_cons (pg_name (i := 3) sc_check_words.nd rfl (.inl rfl)) (pgs_nil)))) (pss_cons (ps_if (PW.pt (pw_or (pt_not (pt_truth (pv 1) (by intro _; rfl))) (pw_or1 (pt_not (pt_val (pe_call G_can_stand (hr.mono (by omega)) rfl (T.g_can_stand) (T.F_can_stand.kp) (b_can_stand T) .nil pass0 (pa_cons (pv 3) (pa_cons (pe_bm0 PySem.F.plainAttrs_list PySem.F.slot_list_pop PySem.F.type_list_pop mt_pop (pv 1)) (pa_nil))))))))) (pss_one (ps_raise rfl (takes_of rfl rfl rfl rfl) (pmk_oex T.oe_BadText T.ic_BadText T.ti_BadText G_BadText_init (hr.mono (by omega)) T.b_BadText_init .nil pass0 rfl T.g_BadText (pa_cons (pv 2) (pa_nil))))) (pss_nil))   (pss_one (ps_expr (pe_bm PySem.F.plainAttrs_list PySem.F.slot_list_extend PySem.F.type_list_extend mt_extend (pv 1) (pa_cons (pe_call G_needs_of (hr.mono (by omega)) rfl (T.g_needs_of) (T.F_needs_of.kp) (b_needs_of T) .nil pass0 (pa_cons (pv 3) (pa_nil))) (pa_nil)))))))   (pss_one (ps_if (pt_truth (pv 1) (by intro _; rfl)) (pss_one (ps_raise rfl (takes_of rfl rfl rfl rfl) (pmk_oex T.oe_BadText T.ic_BadText T.ti_BadText G_BadText_init (hr.mono (by omega)) T.b_BadText_init .nil pass0 rfl T.g_BadText (pa_cons (pe_callB call_len_seq (by rfl) T.z_len PySem.boot_len (pa_cons (pv 0) (pa_nil))) (pa_nil))))) (pss_nil))))
theorem ok_made (T : Top K mg) : FnOk P w K mg base CX0 2 T.f_made T.fd_made ["words"] (spMadeOf K) := by
  have G_needs_of := ok_needs_of (P := P) (w := w) (base := base) T
  refine T.F_made.ok sc_made (fun vs H Q E h => by obtain ⟨a, ws, g, rfl, _⟩ := h; rfl) (fun cdv A outer s H vs Q E hr h => ⟨t_made K T.c_FIGURES spNeedsOf, PSs.nox ?_, pu_made T.s_FIGURES h⟩)
  have hu := hu_of hr; exact pss_cons (ps_set (i := 1) sc_made.nd rfl (.inr rfl) (pe_lst (pa_nil)))   (pss_cons (ps_for PassesOwn.never rfl (pi_reversed (by rfl) T.z_reversed (pa_cons (pv 0) (pa_nil))) (pg_name (i := 2) sc_made.nd rfl (.inl rfl)) (pss_one (ps_if (pt_cmpR op_in_seq (pv 2) (pe_glob rfl T.k_FIGURES rfl) (by rfl)) (pss_one (ps_expr (pe_bm PySem.F.plainAttrs_list PySem.F.slot_list_append PySem.F.type_list_append mt_append (pv 1) (pa_cons (pe_callTy call_int_str (by rfl) T.z_int (by decide +kernel) (pa_cons (pv 2) (pa_nil))) (pa_nil))))) (pss_cons (ps_setLc (i := 3) (own := [("_", 4)]) (g := gName 4) (tt := tYes) (by rfl) sc_made.nd rfl rfl (sw_true rfl rfl rfl (by decide +kernel)) (pi_list (pe_call G_needs_of (hr.mono (by omega)) rfl (T.g_needs_of) (T.F_needs_of.kp) (b_needs_of T) .nil pass0 (pa_cons (pv 2) (pa_nil)))) (blkOk_by (own := [("_", 4)]) (N := ["words", "parts", "word", "taken", "_"]) (sc := defScope s_made) (by decide +kernel)) (fun _ _ _ _ _ => pg_name (i := 4) sc_made.nd rfl (.inl rfl)) (fun _ _ _ _ _ => pts_nil) (fun _ _ _ _ _ => pe_bm0 PySem.F.plainAttrs_list PySem.F.slot_list_pop PySem.F.type_list_pop mt_pop (pv 1)))   (pss_one (ps_expr (pe_bm PySem.F.plainAttrs_list PySem.F.slot_list_append PySem.F.type_list_append mt_append (pv 1) (pa_cons (pe_tup (pa_cons (pv 2) (pa_star (pv 3) (pa_nil)))) (pa_nil)))))))))   (pss_one (ps_ret (pe_bm0 PySem.F.plainAttrs_list PySem.F.slot_list_pop PySem.F.type_list_pop mt_pop (pv 1)))))
theorem ok_readX (hP : SupP P) (T : Top K mg) : FnOk P w K mg base (L2.CX P w) 6 T.f_read T.fd_read ["text"] (spReadX T.c_BadText T.c_BadGuesser) := by
  have G_check_words := ok_check_wordsX (w := w) (base := base) hP T
  have G_made := ok_made (P := P) (w := w) (base := base) T
  have G_check_guesser := ok_check_guesserX (P := P) (w := w) (base := base) T
  refine T.F_read.okX sc_read (fun vs H Q E h => by obtain ⟨y, rfl, _⟩ := h; rfl) (fun cdv A outer s H vs Q E hr h => ⟨t_readX (spCheckWordsX K T.c_BadText) (spMadeOf K) (spCheckX T.c_BadGuesser) E, ?_, pu_readX h⟩)
  have hu := hu_of hr; exact pss_cons (ps_set (i := 1) sc_read.nd rfl (.inl rfl) (pe_split (pv 0) (pe_str)))   (pss_cons (ps_expr (pe_call G_check_words (hr.mono (by omega)) rfl (T.g_check_words) (T.F_check_words.kp) (b_check_words T) .nil (passes_call (takes_of rfl rfl rfl rfl) (fun _ _ _ _ h => h)) (pa_cons (pv 1) (pa_nil))))   (pss_cons (ps_set (i := 2) sc_read.nd rfl (.inl rfl) (pe_call G_made (hr.mono (by omega)) rfl (T.g_made) (T.F_made.kp) (b_made T) .nil pass0 (pa_cons (pv 1) (pa_nil))))   (pss_cons (ps_expr (pe_call G_check_guesser (hr.mono (by omega)) rfl (T.g_check_guesser) (T.F_check_guesser.kp) (b_check_guesser T) .nil (passes_call (takes_of rfl rfl rfl rfl) (fun _ _ _ _ h => h)) (pa_cons (pv 2) (pa_nil))))   (pss_one (ps_ret (pv 2))))))

theorem xfacts (T : Top K mg) : XFacts K T.c_WellError T.c_BadSetting T.c_BadGuesser T.c_BadRow T.c_BadAsk T.c_BadText :=
  ⟨T.xm_BadText_WellError, T.xm_BadGuesser_WellError, T.xi_BadText, T.xi_BadGuesser, T.kv_BadText, T.kv_BadGuesser, T.ki_BadText_BadText, T.ki_BadText_BadGuesser, T.ki_BadText_BadAsk, T.ki_BadText_BadRow, T.ki_BadText_BadSetting,
    T.ki_BadGuesser_BadText, T.ki_BadGuesser_BadGuesser, T.ki_BadGuesser_BadAsk, T.ki_BadGuesser_BadRow, T.ki_BadGuesser_BadSetting⟩
theorem ok_law_is_good (T : Top K mg) : ∀ n, FnOk P w K mg base CX0 n T.f_law_is_good T.fd_law_is_good ["_law_guesser_here", "_law_within"] (spLawGood n)
  | 0 => none_ok (fun vs H Q E h => by obtain ⟨a, d, g, _, _, h1, h2, _⟩ := h; omega)
  | n + 1 => by
    have G_law_is_good := ok_law_is_good T n
    refine T.F_law_is_good.ok sc_law_is_good (fun vs H Q E h => by obtain ⟨a, d, g, rfl, _⟩ := h; rfl) (fun cdv A outer s H vs Q E hr h => ⟨t_law_is_good K (spLawGood n), PSs.nox ?_, pu_law_is_good h⟩)
    have hu := hu_of hr; exact pss_cons (ps_if (pt_cmpR op_eq (pe_ix ix_tup (pv 0) (pe_int) (fun _ _ => rfl)) (pe_str) (nomark _)) (pss_one (ps_ret (pe_and (pe_cmpR op_lt (pv 1) (pe_int) (nomark _)) (pe_and (pe_call G_law_is_good (hr.mono (by omega)) rfl (T.g_law_is_good) (T.F_law_is_good.kp) (b_law_is_good T) .nil pass0 (pa_cons (pe_ix ix_tup (pv 0) (pe_int) (fun _ _ => rfl)) (pa_cons (pe_op op_add (pv 1) (pe_int)) (pa_nil)))) (pe_one (pe_call G_law_is_good (hr.mono (by omega)) rfl (T.g_law_is_good) (T.F_law_is_good.kp) (b_law_is_good T) .nil pass0 (pa_cons (pe_ix ix_tup (pv 0) (pe_int) (fun _ _ => rfl)) (pa_cons (pe_op op_add (pv 1) (pe_int)) (pa_nil))))))))) (pss_nil))   (pss_cons (ps_if (pt_cmpR op_eq (pe_ix ix_tup (pv 0) (pe_int) (fun _ _ => rfl)) (pe_str) (nomark _)) (pss_one (ps_ret (pe_cmpR op_lt (pv 1) (pe_int) (nomark _)))) (pss_nil))   (pss_one (ps_ret (pe_and (pe_cmpR op_lt (pv 1) (pe_int) (nomark _)) (pe_one (pe_chain op_le op_le (pe_int) (pe_ix ix_tup (pv 0) (pe_int) (fun _ _ => rfl)) (pe_dget hu (pe_disp (pps_cons (pe_str) (pe_int) (pps_cons (pe_str) (pe_int) (pps_cons (pe_str) (pe_int) (pps_nil)))) (by rfl) (by rfl) (fun z => by cases z) (by decide)) (pe_ix ix_tup (pv 0) (pe_int) (fun _ _ => rfl)) (fun _ _ => rfl))))))))
theorem ok_law_part (T : Top K mg) : ∀ n, FnOk P w K mg base CX0 n T.f_law_part T.fd_law_part ["_law_words", "_law_at"] (spLawPart K n)
  | 0 => none_ok (fun vs H Q E h => by obtain ⟨a, i, ws, rest, g, _, _, _, _, _, h1, _⟩ := h; omega)
  | n + 1 => by
    have G_law_part := ok_law_part T n
    refine T.F_law_part.ok sc_law_part (fun vs H Q E h => by obtain ⟨a, i, ws, rest, g, rfl, _⟩ := h; rfl) (fun cdv A outer s H vs Q E hr h => ⟨t_law_part K (spLawPart K n), PSs.nox ?_, pu_law_part h⟩)
    have hu := hu_of hr; exact pss_cons (ps_if (pt_cmpR op_eq (pe_ix ix_list (pv 0) (pv 1) (fun _ _ => rfl)) (pe_str) (nomark _)) (pss_one (ps_ret (pe_tup (pa_cons (pe_tup (pa_cons (pe_str) (pa_nil))) (pa_cons (pe_op op_add (pv 1) (pe_int)) (pa_nil)))))) (pss_nil))   (pss_cons (ps_if (pt_cmpR op_ne (pe_ix ix_list (pv 0) (pv 1) (fun _ _ => rfl)) (pe_str) (nomark _)) (pss_one (ps_ret (pe_tup (pa_cons (pe_tup (pa_cons (pe_ix ix_list (pv 0) (pv 1) (fun _ _ => rfl)) (pa_cons (pe_callTy call_int_str (by rfl) T.z_int (by decide +kernel) (pa_cons (pe_ix ix_list (pv 0) (pe_op op_add (pv 1) (pe_int)) (fun _ _ => rfl)) (pa_nil))) (pa_nil)))) (pa_cons (pe_op op_add (pv 1) (pe_int)) (pa_nil)))))) (pss_nil))   (pss_cons (ps_asg (pe_call G_law_part (hr.mono (by omega)) rfl (T.g_law_part) (T.F_law_part.kp) (b_law_part T) .nil pass0 (pa_cons (pv 0) (pa_cons (pe_op op_add (pv 1) (pe_int)) (pa_nil)))) (pg_tup (by rfl) (pgs_cons (pg_name (i := 2) sc_law_part.nd rfl (.inl rfl)) (pgs_cons (pg_name (i := 3) sc_law_part.nd rfl (.inl rfl)) (pgs_nil)))))   (pss_cons (ps_asg (pe_call G_law_part (hr.mono (by omega)) rfl (T.g_law_part) (T.F_law_part.kp) (b_law_part T) .nil pass0 (pa_cons (pv 0) (pa_cons (pv 3) (pa_nil)))) (pg_tup (by rfl) (pgs_cons (pg_name (i := 4) sc_law_part.nd rfl (.inl rfl)) (pgs_cons (pg_name (i := 5) sc_law_part.nd rfl (.inl rfl)) (pgs_nil)))))   (pss_one (ps_ret (pe_tup (pa_cons (pe_tup (pa_cons (pe_str) (pa_cons (pv 2) (pa_cons (pv 4) (pa_nil))))) (pa_cons (pv 5) (pa_nil)))))))))
theorem ok_law_place (T : Top K mg) : FnOk P w K mg base CX0 1 T.f_law_place T.fd_law_place ["_law_words"] (spLawPlace K) := by
  refine T.F_law_place.ok sc_law_place (fun vs H Q E h => by obtain ⟨a, ws, rfl, _⟩ := h; rfl) (fun cdv A outer s H vs Q E hr h => ⟨t_law_place K, PSs.nox ?_, pu_law_place h⟩)
  have hu := hu_of hr; exact pss_cons (ps_set (i := 1) sc_law_place.nd rfl (.inl rfl) (pe_lst (pa_cons (pe_str) (pa_nil))))   (pss_cons (ps_for PassesOwn.never rfl (pi_range1 (by rfl) T.z_range (pa_cons (pe_callB call_len_seq (by rfl) T.z_len PySem.boot_len (pa_cons (pv 0) (pa_nil))) (pa_nil))) (pg_name (i := 2) sc_law_place.nd rfl (.inl rfl)) (pss_cons (ps_set (i := 3) sc_law_place.nd rfl (.inl rfl) (pe_ix ix_list (pe_op op_cat (pe_lst (pa_cons (pe_str) (pa_nil))) (pv 1)) (pe_un un_neg (pe_int)) (fun _ _ => rfl)))   (pss_cons (ps_if (PW.pt (pw_or (pt_cmpR op_eq (pv 3) (pe_str) (nomark _)) (pw_or1 (PW.pt (pw_and (pt_cmpR op_eq (pv 3) (pe_str) (nomark _)) (pw_and1 (pt_cmpR op_notIn_seq (pe_ix ix_list (pv 0) (pv 2) (fun _ _ => rfl)) (pe_callTy (call_listS rfl) (by rfl) T.z_list (by decide +kernel) (pa_cons (pe_str) (pa_nil))) (by rfl)))))))) (pss_one (ps_ret (pv 2))) (pss_nil))   (pss_cons (ps_set (i := 1) sc_law_place.nd rfl (.inl rfl) (pe_slice sl_list (pv 1) (po_none) (po_some (pe_un un_neg (pe_int)))))   (pss_one (ps_if (pt_cmpR op_eq (pv 3) (pe_str) (nomark _)) (pss_cons (ps_set (i := 4) sc_law_place.nd rfl (.inl rfl) (pe_disp (pps_cons (pe_str) (pe_lst (pa_nil)) (pps_cons (pe_str) (pe_lst (pa_cons (pe_str) (pa_nil))) (pps_cons (pe_str) (pe_lst (pa_cons (pe_str) (pa_nil))) (pps_cons (pe_str) (pe_lst (pa_cons (pe_str) (pa_nil))) (pps_nil))))) (by rfl) (by rfl) (fun z => by cases z) (by decide)))   (pss_cons (ps_dput hu (pv 4) (pe_str) (pe_lst (pa_cons (pe_str) (pa_cons (pe_str) (pa_nil)))) rfl)   (pss_cons (ps_if (pt_cmp (pc_dnotin hu (pe_ix ix_list (pv 0) (pv 2) (fun _ _ => rfl)) (pv 4))) (pss_one (ps_ret (pv 2))) (pss_nil))   (pss_one (ps_set (i := 1) sc_law_place.nd rfl (.inl rfl) (pe_op op_cat (pv 1) (pe_dget hu (pv 4) (pe_ix ix_list (pv 0) (pv 2) (fun _ _ => rfl)) (fun _ _ => rfl)))))))) (pss_nil)))))))   (pss_one (ps_ret (pe_ifExp (pt_cmpR (op_eqD hr.units) (pv 1) (pe_lst (pa_nil)) (nomark _)) (pe_non) (pe_callB call_len_seq (by rfl) T.z_len PySem.boot_len (pa_cons (pv 0) (pa_nil)))))))
theorem ok_law_due (T : Top K mg) : FnOk P w K mg base CX0 201 T.f_law_due T.fd_law_due ["_law_text_here"] spLawDue := by
  have G_law_place := ok_law_place (P := P) (w := w) (base := base) T
  have G_law_part := ok_law_part (P := P) (w := w) (base := base) T 200
  have G_law_is_good := ok_law_is_good (P := P) (w := w) (base := base) T 5
  refine T.F_law_due.ok sc_law_due (fun vs H Q E h => by obtain ⟨y, rfl, _⟩ := h; rfl) (fun cdv A outer s H vs Q E hr h => ⟨t_law_due K (spLawPlace K) (spLawPart K 200) (spLawGood 5), PSs.nox ?_, pu_law_due h⟩)
  have hu := hu_of hr; exact pss_cons (ps_set (i := 1) sc_law_due.nd rfl (.inl rfl) (pe_ifExp (pt_cmpR op_ne (pv 0) (pe_str) (nomark _)) (pe_split (pv 0) (pe_str)) (pe_lst (pa_nil))))   (pss_cons (ps_set (i := 2) sc_law_due.nd rfl (.inl rfl) (pe_call G_law_place (hr.mono (by omega)) rfl (T.g_law_place) (T.F_law_place.kp) (b_law_place T) .nil pass0 (pa_cons (pv 1) (pa_nil))))   (pss_cons (ps_if (pt_cmp (pc_notN (pv 2)) rfl) (pss_one (ps_ret (pe_tup (pa_cons (pe_str) (pa_cons (pv 2) (pa_nil)))))) (pss_nil))   (pss_cons (ps_set (i := 3) sc_law_due.nd rfl (.inl rfl) (pe_ix ix_tup (pe_call G_law_part (hr.mono (by omega)) rfl (T.g_law_part) (T.F_law_part.kp) (b_law_part T) .nil pass0 (pa_cons (pv 1) (pa_cons (pe_int) (pa_nil)))) (pe_int) (fun _ _ => rfl)))   (pss_one (ps_ret (pe_ifExp (pt_val (pe_call G_law_is_good (hr.mono (by omega)) rfl (T.g_law_is_good) (T.F_law_is_good.kp) (b_law_is_good T) .nil pass0 (pa_cons (pv 3) (pa_cons (pe_int) (pa_nil))))) (pe_tup (pa_cons (pe_str) (pa_cons (pv 3) (pa_nil)))) (pe_tup (pa_cons (pe_str) (pa_cons (pe_non) (pa_nil))))))))))
theorem ok_law_reading (hP : SupP P) (T : Top K mg) : FnOk P w K mg base CX0 8 T.f_law_reading T.fd_law_reading ["_law_text_here"] spLawReading := by
  have G_read := ok_readX (w := w) (base := base) hP T
  refine T.F_law_reading.ok sc_law_reading (fun vs H Q E h => by obtain ⟨y, rfl, _⟩ := h; rfl) (fun cdv A outer s H vs Q E hr h => ⟨t_law_reading K T.c_WellError T.c_BadSetting T.c_BadGuesser T.c_BadRow T.c_BadAsk T.c_BadText (spReadX T.c_BadText T.c_BadGuesser), PSs.nox ?_, pu_law_reading (xfacts T) h⟩)
  have hu := hu_of hr; exact pss_one (ps_try_as rfl rfl sc_law_reading.nd rfl rfl ⟨by rfl, by decide, .inl T.g_WellError⟩ takes0 (fun W pn xe tk po => pss_one (ps_ret (pe_tup (pa_cons (pe_str) (pa_cons (pe_callS G_read (hr.mono (by omega)) (by rfl) (T.g_read) (T.F_read.kp) (b_read T) (fun σ => passAt tk σ) (pa_cons (pv 0) (pa_nil))) (pa_nil)))))) (fun a oe cls d pn hz hf => pss_cons (ps_set (i := 2) sc_law_reading.nd rfl (.inl rfl) (pe_lst (pa_cons (pe_callB (call_isX hz hf) (by rfl) T.z_isinstance (by decide +kernel) (pa_cons (pv 1) (pa_cons (pe_glob rfl T.g_BadText rfl) (pa_nil)))) (pa_cons (pe_callB (call_isX hz hf) (by rfl) T.z_isinstance (by decide +kernel) (pa_cons (pv 1) (pa_cons (pe_glob rfl T.g_BadGuesser rfl) (pa_nil)))) (pa_cons (pe_callB (call_isXT hz hf) (by rfl) T.z_isinstance (by decide +kernel) (pa_cons (pv 1) (pa_cons (pe_tup (pa_cons (pe_glob rfl T.g_BadAsk rfl) (pa_cons (pe_glob rfl T.g_BadRow rfl) (pa_cons (pe_glob rfl T.g_BadSetting rfl) (pa_nil))))) (pa_nil)))) (pa_nil))))))   (pss_cons (ps_if (PW.pt (pw_or (pt_not (pt_val (pe_callB (call_isX hz hf) (by rfl) T.z_isinstance (by decide +kernel) (pa_cons (pv 1) (pa_cons (pe_bltn (v := .ty "ValueError") (by rfl) T.z_ValueError (by decide +kernel) rfl) (pa_nil)))))) (pw_or (pt_cmpR op_ne (pe_bm PySem.F.plainAttrs_list PySem.F.slot_list_count PySem.F.type_list_count mt_lcountB (pv 2) (pa_cons (pe_bl) (pa_nil))) (pe_int) (nomark _)) (pw_or1 (pt_val (pe_ix ix_list (pv 2) (pe_int) (fun _ _ => rfl))))))) (pss_one (ps_ret (pe_tup (pa_cons (pe_str) (pa_cons (pe_non) (pa_nil)))))) (pss_nil))   (pss_one (ps_ret (pe_ifExp (pt_val (pe_ix ix_list (pv 2) (pe_int) (fun _ _ => rfl))) (pe_tup (pa_cons (pe_str) (pa_cons (pe_xf T.xf_BadText T.no_BadText_place hz hf (pv 1)) (pa_nil)))) (pe_tup (pa_cons (pe_str) (pa_cons (pe_non) (pa_nil))))))))))
theorem ok_law_spoilt (T : Top K mg) : FnOk P w K mg base CX0 2 T.f_law_spoilt T.fd_law_spoilt ["_law_row", "_law_text_here"] (spLawSpoilt K) := by
  have G_law_taken := ok_law_taken (P := P) (w := w) (base := base) T
  refine T.F_law_spoilt.ok sc_law_spoilt (fun vs H Q E h => by obtain ⟨r, y, rfl, _⟩ := h; rfl) (fun cdv A outer s H vs Q E hr h => ⟨t_law_spoilt K (spTaken K), PSs.nox ?_, pu_law_spoilt h⟩)
  have hu := hu_of hr; exact pss_cons (ps_set (i := 2) sc_law_spoilt.nd rfl (.inl rfl) (pe_call G_law_taken (hr.mono (by omega)) rfl (T.g_law_taken) (T.F_law_taken.kp) (b_law_taken T) .nil pass0 (pa_cons (pv 0) (pa_cons (pe_int) (pa_nil)))))   (pss_cons (ps_set (i := 3) sc_law_spoilt.nd rfl (.inl rfl) (pe_call G_law_taken (hr.mono (by omega)) rfl (T.g_law_taken) (T.F_law_taken.kp) (b_law_taken T) .nil pass0 (pa_cons (pv 0) (pa_cons (pe_op op_add (pe_callB call_lenS (by rfl) T.z_len PySem.boot_len (pa_cons (pv 1) (pa_nil))) (pe_int)) (pa_nil)))))   (pss_cons (ps_set (i := 4) sc_law_spoilt.nd rfl (.inl rfl) (pe_str))   (pss_cons (ps_set (i := 5) sc_law_spoilt.nd rfl (.inl rfl) (pe_ix ix_list (pe_lst (pa_cons (pe_str) (pa_cons (pv 4) (pa_nil)))) (pe_op op_fdiv (pe_call G_law_taken (hr.mono (by omega)) rfl (T.g_law_taken) (T.F_law_taken.kp) (b_law_taken T) .nil pass0 (pa_cons (pv 0) (pa_cons (pe_int) (pa_nil)))) (pe_int)) (fun _ _ => rfl)))   (pss_cons (ps_set (i := 6) sc_law_spoilt.nd rfl (.inl rfl) (pe_ix ix_str (pv 5) (pe_call G_law_taken (hr.mono (by omega)) rfl (T.g_law_taken) (T.F_law_taken.kp) (b_law_taken T) .nil pass0 (pa_cons (pv 0) (pa_cons (pe_callB call_lenS (by rfl) T.z_len PySem.boot_len (pa_cons (pv 5) (pa_nil))) (pa_nil)))) (fun _ _ => rfl)))   (pss_cons (ps_if (pt_cmpR op_lt (pv 2) (pe_int) (nomark _)) (pss_one (ps_ret (pe_op op_add_str (pe_op op_add_str (pe_slice sl_str (pv 1) (po_none) (po_some (pv 3))) (pe_ix ix_list (pe_lst (pa_cons (pv 6) (pa_cons (pe_str) (pa_cons (pe_str) (pa_nil))))) (pv 2) (fun _ _ => rfl))) (pe_slice sl_str (pv 1) (po_some (pe_op op_add (pv 3) (pe_callTy call_int1 (by rfl) T.z_int (by decide +kernel) (pa_cons (pe_cmpR op_gt (pv 2) (pe_int) (nomark _)) (pa_nil))))) (po_none))))) (pss_nil))   (pss_cons (ps_set (i := 7) sc_law_spoilt.nd rfl (.inl rfl) (pe_split (pv 1) (pe_str)))   (pss_cons (ps_set (i := 8) sc_law_spoilt.nd rfl (.inl rfl) (pe_call G_law_taken (hr.mono (by omega)) rfl (T.g_law_taken) (T.F_law_taken.kp) (b_law_taken T) .nil pass0 (pa_cons (pv 0) (pa_cons (pe_callB call_len_seq (by rfl) T.z_len PySem.boot_len (pa_cons (pv 7) (pa_nil))) (pa_nil)))))   (pss_cons (ps_set (i := 9) sc_law_spoilt.nd rfl (.inl rfl) (pe_lst (pa_cons (pe_str) (pa_cons (pe_str) (pa_cons (pe_str) (pa_cons (pe_str) (pa_cons (pe_str) (pa_cons (pe_str) (pa_cons (pe_str) (pa_cons (pe_str) (pa_cons (pe_str) (pa_cons (pe_str) (pa_cons (pe_str) (pa_cons (pe_str) (pa_cons (pe_str) (pa_cons (pe_str) (pa_nil)))))))))))))))))   (pss_cons (ps_if (pt_cmpR op_eq (pv 2) (pe_int) (nomark _)) (pss_one (ps_set (i := 7) sc_law_spoilt.nd rfl (.inl rfl) (pe_op op_cat (pe_slice sl_list (pv 7) (po_none) (po_some (pv 8))) (pe_slice sl_list (pv 7) (po_some (pe_op op_add (pv 8) (pe_int))) (po_none))))) (pss_nil))   (pss_cons (ps_if (pt_cmpR op_eq (pv 2) (pe_int) (nomark _)) (pss_one (ps_set (i := 7) sc_law_spoilt.nd rfl (.inl rfl) (pe_op op_cat (pe_slice sl_list (pv 7) (po_none) (po_some (pe_op op_add (pv 8) (pe_int)))) (pe_slice sl_list (pv 7) (po_some (pv 8)) (po_none))))) (pss_nil))   (pss_cons (ps_if (pt_cmpR op_eq (pv 2) (pe_int) (nomark _)) (pss_cons (ps_set (i := 10) sc_law_spoilt.nd rfl (.inl rfl) (pe_op op_cat (pe_slice sl_list (pv 7) (po_none) (po_some (pv 8))) (pe_slice sl_list (pv 7) (po_some (pe_op op_add (pv 8) (pe_int))) (po_none))))   (pss_cons (ps_set (i := 11) sc_law_spoilt.nd rfl (.inl rfl) (pe_call G_law_taken (hr.mono (by omega)) rfl (T.g_law_taken) (T.F_law_taken.kp) (b_law_taken T) .nil pass0 (pa_cons (pv 0) (pa_cons (pe_op op_add (pe_callB call_len_seq (by rfl) T.z_len PySem.boot_len (pa_cons (pv 10) (pa_nil))) (pe_int)) (pa_nil)))))   (pss_one (ps_set (i := 7) sc_law_spoilt.nd rfl (.inl rfl) (pe_op op_cat (pe_op op_cat (pe_slice sl_list (pv 10) (po_none) (po_some (pv 11))) (pe_slice sl_list (pv 7) (po_some (pv 8)) (po_some (pe_op op_add (pv 8) (pe_int))))) (pe_slice sl_list (pv 10) (po_some (pv 11)) (po_none))))))) (pss_nil))   (pss_cons (ps_if (pt_cmpR op_gt (pv 2) (pe_int) (nomark _)) (pss_one (ps_set (i := 7) sc_law_spoilt.nd rfl (.inl rfl) (pe_op op_cat (pe_op op_cat (pe_slice sl_list (pv 7) (po_none) (po_some (pv 8))) (pe_lst (pa_cons (pe_ix ix_list (pv 9) (pe_call G_law_taken (hr.mono (by omega)) rfl (T.g_law_taken) (T.F_law_taken.kp) (b_law_taken T) .nil pass0 (pa_cons (pv 0) (pa_cons (pe_int) (pa_nil)))) (fun _ _ => rfl)) (pa_nil)))) (pe_slice sl_list (pv 7) (po_some (pe_op op_add (pv 8) (pe_int))) (po_none))))) (pss_nil))   (pss_one (ps_ret (pe_join (pe_str) (pv 7))))))))))))))))

end
theorem ok_law {P : Program} {w : World} {K : PySem.W.Frag} {mg : Str → Option Value} {base : Heap} (hP : SupP P) (T : Top K mg) : FnOk P w K mg base CX0 203 T.f_law T.fd_law ["_law_script"] (spLaw K) := by
  have G_law_taken := ok_law_taken (P := P) (w := w) (base := base) T
  have G_law_guesser := ok_law_guesser (P := P) (w := w) (base := base) T 4
  have G_law_alike := ok_law_alikeX (P := P) (w := w) (base := base) T 6
  have G_law_text := ok_law_text (P := P) (w := w) (base := base) T 4
  have G_law_due := ok_law_due (P := P) (w := w) (base := base) T
  have G_law_reading := ok_law_reading (w := w) (base := base) hP T
  have G_law_spoilt := ok_law_spoilt (P := P) (w := w) (base := base) T
  refine T.F_law.ok sc_law (fun vs H Q E h => by obtain ⟨a, ns, rfl, _⟩ := h; rfl) (fun cdv A outer s H vs Q E hr h => ⟨t_law K (spTaken K) (spLawAlikeX 6) (spLawGuesser K 4) (spLawText 4) spLawDue spLawReading (spLawSpoilt K), PSs.nox ?_, pu_law h⟩)
  have hu := hu_of hr; exact pss_cons (ps_set (i := 1) sc_law.nd rfl (.inl rfl) (pe_lst (pa_cons (pv 0) (pa_cons (pe_int) (pa_cons (pe_int) (pa_nil))))))   (pss_cons (ps_set (i := 2) sc_law.nd rfl (.inl rfl) (pe_lst (pa_cons (pe_str) (pa_cons (pe_str) (pa_cons (pe_str) (pa_cons (pe_str) (pa_cons (pe_str) (pa_cons (pe_str) (pa_cons (pe_str) (pa_cons (pe_str) (pa_cons (pe_str) (pa_cons (pe_str) (pa_cons (pe_str) (pa_nil))))))))))))))   (pss_cons (ps_set (i := 2) sc_law.nd rfl (.inl rfl) (pe_op op_cat (pv 2) (pe_lst (pa_cons (pe_str) (pa_cons (pe_str) (pa_cons (pe_str) (pa_cons (pe_str) (pa_nil))))))))   (pss_cons (ps_expr (pe_bm PySem.F.plainAttrs_list PySem.F.slot_list_append PySem.F.type_list_append mt_append (pv 2) (pa_cons (pe_str) (pa_nil))))   (pss_cons (ps_for PassesOwn.never rfl (pi_range1 (by rfl) T.z_range (pa_cons (pe_int) (pa_nil))) (pg_name (i := 3) sc_law.nd rfl (.inl rfl)) (pss_cons (ps_set (i := 4) sc_law.nd rfl (.inl rfl) (pe_call G_law_text (hr.mono (by omega)) rfl (T.g_law_text) (T.F_law_text.kp) (b_law_text T) .nil pass0 (pa_cons (pe_call G_law_guesser (hr.mono (by omega)) rfl (T.g_law_guesser) (T.F_law_guesser.kp) (b_law_guesser T) .nil pass0 (pa_cons (pv 1) (pa_cons (pe_int) (pa_nil)))) (pa_nil))))   (pss_cons (ps_for PassesOwn.never rfl (pi_range1 (by rfl) T.z_range (pa_cons (pe_call G_law_taken (hr.mono (by omega)) rfl (T.g_law_taken) (T.F_law_taken.kp) (b_law_taken T) .nil pass0 (pa_cons (pv 1) (pa_cons (pe_int) (pa_nil)))) (pa_nil))) (pg_name (i := 5) sc_law.nd rfl (.inl rfl)) (pss_one (ps_set (i := 4) sc_law.nd rfl (.inl rfl) (pe_call G_law_spoilt (hr.mono (by omega)) rfl (T.g_law_spoilt) (T.F_law_spoilt.kp) (b_law_spoilt T) .nil pass0 (pa_cons (pv 1) (pa_cons (pv 4) (pa_nil)))))))   (pss_one (ps_for PassesOwn.never rfl (pi_list (pe_lst (pa_cons (pv 4) (pa_cons (pe_ix ix_list (pv 2) (pe_call G_law_taken (hr.mono (by omega)) rfl (T.g_law_taken) (T.F_law_taken.kp) (b_law_taken T) .nil pass0 (pa_cons (pv 1) (pa_cons (pe_int) (pa_nil)))) (fun _ _ => rfl)) (pa_nil))))) (pg_name (i := 6) sc_law.nd rfl (.inl rfl)) (pss_one (ps_if (pt_not (pt_val (pe_call G_law_alike (hr.mono (by omega)) rfl (T.g_law_alike) (T.F_law_alike.kp) (b_law_alike T) .nil pass0 (pa_cons (pe_call G_law_reading (hr.mono (by omega)) rfl (T.g_law_reading) (T.F_law_reading.kp) (b_law_reading T) .nil pass0 (pa_cons (pv 6) (pa_nil))) (pa_cons (pe_call G_law_due (hr.mono (by omega)) rfl (T.g_law_due) (T.F_law_due.kp) (b_law_due T) .nil pass0 (pa_cons (pv 6) (pa_nil))) (pa_nil)))))) (pss_one (ps_ret (pe_bl))) (pss_nil))))))))   (pss_one (ps_ret (pe_bl)))))))
/-! ### what the top has left -/
theorem mk_top {K : PySem.W.Frag} {h : Heap} {mg : Str → Option Value} (X : K.In h) (G : h.Ns mainGlobals mg)
    {f_is_guesser : Addr} {od_is_guesser an_is_guesser : Option Addr} {sl_is_guesser : Array (Option Value)} {oc_is_guesser kV_is_guesser dc_is_guesser pm_is_guesser cd_is_guesser ct_is_guesser : Value}
    {f_check_guesser : Addr} {od_check_guesser an_check_guesser : Option Addr} {sl_check_guesser : Array (Option Value)} {oc_check_guesser kV_check_guesser dc_check_guesser pm_check_guesser cd_check_guesser ct_check_guesser : Value}
    {f_needs_of : Addr} {od_needs_of an_needs_of : Option Addr} {sl_needs_of : Array (Option Value)} {oc_needs_of kV_needs_of dc_needs_of pm_needs_of cd_needs_of ct_needs_of : Value}
    {f_can_stand : Addr} {od_can_stand an_can_stand : Option Addr} {sl_can_stand : Array (Option Value)} {oc_can_stand kV_can_stand dc_can_stand pm_can_stand cd_can_stand ct_can_stand : Value}
    {f_check_words : Addr} {od_check_words an_check_words : Option Addr} {sl_check_words : Array (Option Value)} {oc_check_words kV_check_words dc_check_words pm_check_words cd_check_words ct_check_words : Value}
    {f_made : Addr} {od_made an_made : Option Addr} {sl_made : Array (Option Value)} {oc_made kV_made dc_made pm_made cd_made ct_made : Value}
    {f_read : Addr} {od_read an_read : Option Addr} {sl_read : Array (Option Value)} {oc_read kV_read dc_read pm_read cd_read ct_read : Value}
    {f_law_taken : Addr} {od_law_taken an_law_taken : Option Addr} {sl_law_taken : Array (Option Value)} {oc_law_taken kV_law_taken dc_law_taken pm_law_taken cd_law_taken ct_law_taken : Value}
    {f_law_alike : Addr} {od_law_alike an_law_alike : Option Addr} {sl_law_alike : Array (Option Value)} {oc_law_alike kV_law_alike dc_law_alike pm_law_alike cd_law_alike ct_law_alike : Value}
    {f_law_guesser : Addr} {od_law_guesser an_law_guesser : Option Addr} {sl_law_guesser : Array (Option Value)} {oc_law_guesser kV_law_guesser dc_law_guesser pm_law_guesser cd_law_guesser ct_law_guesser : Value}
    {f_law_text : Addr} {od_law_text an_law_text : Option Addr} {sl_law_text : Array (Option Value)} {oc_law_text kV_law_text dc_law_text pm_law_text cd_law_text ct_law_text : Value}
    {f_law_place : Addr} {od_law_place an_law_place : Option Addr} {sl_law_place : Array (Option Value)} {oc_law_place kV_law_place dc_law_place pm_law_place cd_law_place ct_law_place : Value}
    {f_law_part : Addr} {od_law_part an_law_part : Option Addr} {sl_law_part : Array (Option Value)} {oc_law_part kV_law_part dc_law_part pm_law_part cd_law_part ct_law_part : Value}
    {f_law_is_good : Addr} {od_law_is_good an_law_is_good : Option Addr} {sl_law_is_good : Array (Option Value)} {oc_law_is_good kV_law_is_good dc_law_is_good pm_law_is_good cd_law_is_good ct_law_is_good : Value}
    {f_law_due : Addr} {od_law_due an_law_due : Option Addr} {sl_law_due : Array (Option Value)} {oc_law_due kV_law_due dc_law_due pm_law_due cd_law_due ct_law_due : Value}
    {f_law_reading : Addr} {od_law_reading an_law_reading : Option Addr} {sl_law_reading : Array (Option Value)} {oc_law_reading kV_law_reading dc_law_reading pm_law_reading cd_law_reading ct_law_reading : Value}
    {f_law_spoilt : Addr} {od_law_spoilt an_law_spoilt : Option Addr} {sl_law_spoilt : Array (Option Value)} {oc_law_spoilt kV_law_spoilt dc_law_spoilt pm_law_spoilt cd_law_spoilt ct_law_spoilt : Value}
    {f_law : Addr} {od_law an_law : Option Addr} {sl_law : Array (Option Value)} {oc_law kV_law dc_law pm_law cd_law ct_law : Value}
    {t_MOST_BOTHS : Tok}
    {c_NUMBERED : Addr} {tk_NUMBERED_0 tk_NUMBERED_1 tk_NUMBERED_2 : Tok} {ob_NUMBERED : Nat} {od_NUMBERED : Option Addr} {sl_NUMBERED : Array (Option Value)}
    {c_FIGURES : Addr} {tk_FIGURES_0 tk_FIGURES_1 tk_FIGURES_2 tk_FIGURES_3 tk_FIGURES_4 tk_FIGURES_5 tk_FIGURES_6 tk_FIGURES_7 tk_FIGURES_8 tk_FIGURES_9 : Tok} {ob_FIGURES : Nat} {od_FIGURES : Option Addr} {sl_FIGURES : Array (Option Value)}
    {c_WellError : Addr}
    {c_BadSetting : Addr}
    {c_BadGuesser : Addr}
    {c_BadRow : Addr}
    {c_BadAsk : Addr}
    {c_BadText : Addr}
    {f_BadText_init x_BadText_init c2_BadText_init : Addr} {od_BadText_init an_BadText_init cdd_BadText_init cld_BadText_init : Option Addr} {sl_BadText_init csl_BadText_init ccs_BadText_init : Array (Option Value)} {oc_BadText_init kV_BadText_init dc_BadText_init pm_BadText_init ct_BadText_init ccl_BadText_init cl_BadText_init : Value} {vs_BadText_init : Array Value} {tf_BadText_init : Tok}
    (a_is_guesser : PySem.W.nsIn K mainGlobals "is_guesser" = some (some (.ref f_is_guesser)))
    (l_is_guesser : K.lookup f_is_guesser = some ⟨oc_is_guesser, od_is_guesser, .func (PySem.W.fnOf "is_guesser" "is_guesser" (defArgs s_is_guesser) (defBody s_is_guesser) (defScope s_is_guesser) .none kV_is_guesser dc_is_guesser pm_is_guesser an_is_guesser cd_is_guesser ct_is_guesser), sl_is_guesser⟩)
    (cdk_is_guesser : PySem.W.codeIn K cd_is_guesser "is_guesser" = true)
    (kp_is_guesser : PySem.W.keepIn K (.ref f_is_guesser) = true)
    (a_check_guesser : PySem.W.nsIn K mainGlobals "check_guesser" = some (some (.ref f_check_guesser)))
    (l_check_guesser : K.lookup f_check_guesser = some ⟨oc_check_guesser, od_check_guesser, .func (PySem.W.fnOf "check_guesser" "check_guesser" (defArgs s_check_guesser) (defBody s_check_guesser) (defScope s_check_guesser) .none kV_check_guesser dc_check_guesser pm_check_guesser an_check_guesser cd_check_guesser ct_check_guesser), sl_check_guesser⟩)
    (cdk_check_guesser : PySem.W.codeIn K cd_check_guesser "check_guesser" = true)
    (kp_check_guesser : PySem.W.keepIn K (.ref f_check_guesser) = true)
    (a_needs_of : PySem.W.nsIn K mainGlobals "needs_of" = some (some (.ref f_needs_of)))
    (l_needs_of : K.lookup f_needs_of = some ⟨oc_needs_of, od_needs_of, .func (PySem.W.fnOf "needs_of" "needs_of" (defArgs s_needs_of) (defBody s_needs_of) (defScope s_needs_of) .none kV_needs_of dc_needs_of pm_needs_of an_needs_of cd_needs_of ct_needs_of), sl_needs_of⟩)
    (cdk_needs_of : PySem.W.codeIn K cd_needs_of "needs_of" = true)
    (kp_needs_of : PySem.W.keepIn K (.ref f_needs_of) = true)
    (a_can_stand : PySem.W.nsIn K mainGlobals "can_stand" = some (some (.ref f_can_stand)))
    (l_can_stand : K.lookup f_can_stand = some ⟨oc_can_stand, od_can_stand, .func (PySem.W.fnOf "can_stand" "can_stand" (defArgs s_can_stand) (defBody s_can_stand) (defScope s_can_stand) .none kV_can_stand dc_can_stand pm_can_stand an_can_stand cd_can_stand ct_can_stand), sl_can_stand⟩)
    (cdk_can_stand : PySem.W.codeIn K cd_can_stand "can_stand" = true)
    (kp_can_stand : PySem.W.keepIn K (.ref f_can_stand) = true)
    (a_check_words : PySem.W.nsIn K mainGlobals "check_words" = some (some (.ref f_check_words)))
    (l_check_words : K.lookup f_check_words = some ⟨oc_check_words, od_check_words, .func (PySem.W.fnOf "check_words" "check_words" (defArgs s_check_words) (defBody s_check_words) (defScope s_check_words) .none kV_check_words dc_check_words pm_check_words an_check_words cd_check_words ct_check_words), sl_check_words⟩)
    (cdk_check_words : PySem.W.codeIn K cd_check_words "check_words" = true)
    (kp_check_words : PySem.W.keepIn K (.ref f_check_words) = true)
    (a_made : PySem.W.nsIn K mainGlobals "made" = some (some (.ref f_made)))
    (l_made : K.lookup f_made = some ⟨oc_made, od_made, .func (PySem.W.fnOf "made" "made" (defArgs s_made) (defBody s_made) (defScope s_made) .none kV_made dc_made pm_made an_made cd_made ct_made), sl_made⟩)
    (cdk_made : PySem.W.codeIn K cd_made "made" = true)
    (kp_made : PySem.W.keepIn K (.ref f_made) = true)
    (a_read : PySem.W.nsIn K mainGlobals "read" = some (some (.ref f_read)))
    (l_read : K.lookup f_read = some ⟨oc_read, od_read, .func (PySem.W.fnOf "read" "read" (defArgs s_read) (defBody s_read) (defScope s_read) .none kV_read dc_read pm_read an_read cd_read ct_read), sl_read⟩)
    (cdk_read : PySem.W.codeIn K cd_read "read" = true)
    (kp_read : PySem.W.keepIn K (.ref f_read) = true)
    (a_law_taken : PySem.W.nsIn K mainGlobals "_law_taken" = some (some (.ref f_law_taken)))
    (l_law_taken : K.lookup f_law_taken = some ⟨oc_law_taken, od_law_taken, .func (PySem.W.fnOf "_law_taken" "_law_taken" (defArgs s_law_taken) (defBody s_law_taken) (defScope s_law_taken) .none kV_law_taken dc_law_taken pm_law_taken an_law_taken cd_law_taken ct_law_taken), sl_law_taken⟩)
    (cdk_law_taken : PySem.W.codeIn K cd_law_taken "_law_taken" = true)
    (kp_law_taken : PySem.W.keepIn K (.ref f_law_taken) = true)
    (a_law_alike : PySem.W.nsIn K mainGlobals "_law_alike" = some (some (.ref f_law_alike)))
    (l_law_alike : K.lookup f_law_alike = some ⟨oc_law_alike, od_law_alike, .func (PySem.W.fnOf "_law_alike" "_law_alike" (defArgs s_law_alike) (defBody s_law_alike) (defScope s_law_alike) .none kV_law_alike dc_law_alike pm_law_alike an_law_alike cd_law_alike ct_law_alike), sl_law_alike⟩)
    (cdk_law_alike : PySem.W.codeIn K cd_law_alike "_law_alike" = true)
    (kp_law_alike : PySem.W.keepIn K (.ref f_law_alike) = true)
    (a_law_guesser : PySem.W.nsIn K mainGlobals "_law_guesser" = some (some (.ref f_law_guesser)))
    (l_law_guesser : K.lookup f_law_guesser = some ⟨oc_law_guesser, od_law_guesser, .func (PySem.W.fnOf "_law_guesser" "_law_guesser" (defArgs s_law_guesser) (defBody s_law_guesser) (defScope s_law_guesser) .none kV_law_guesser dc_law_guesser pm_law_guesser an_law_guesser cd_law_guesser ct_law_guesser), sl_law_guesser⟩)
    (cdk_law_guesser : PySem.W.codeIn K cd_law_guesser "_law_guesser" = true)
    (kp_law_guesser : PySem.W.keepIn K (.ref f_law_guesser) = true)
    (a_law_text : PySem.W.nsIn K mainGlobals "_law_text" = some (some (.ref f_law_text)))
    (l_law_text : K.lookup f_law_text = some ⟨oc_law_text, od_law_text, .func (PySem.W.fnOf "_law_text" "_law_text" (defArgs s_law_text) (defBody s_law_text) (defScope s_law_text) .none kV_law_text dc_law_text pm_law_text an_law_text cd_law_text ct_law_text), sl_law_text⟩)
    (cdk_law_text : PySem.W.codeIn K cd_law_text "_law_text" = true)
    (kp_law_text : PySem.W.keepIn K (.ref f_law_text) = true)
    (a_law_place : PySem.W.nsIn K mainGlobals "_law_place" = some (some (.ref f_law_place)))
    (l_law_place : K.lookup f_law_place = some ⟨oc_law_place, od_law_place, .func (PySem.W.fnOf "_law_place" "_law_place" (defArgs s_law_place) (defBody s_law_place) (defScope s_law_place) .none kV_law_place dc_law_place pm_law_place an_law_place cd_law_place ct_law_place), sl_law_place⟩)
    (cdk_law_place : PySem.W.codeIn K cd_law_place "_law_place" = true)
    (kp_law_place : PySem.W.keepIn K (.ref f_law_place) = true)
    (a_law_part : PySem.W.nsIn K mainGlobals "_law_part" = some (some (.ref f_law_part)))
    (l_law_part : K.lookup f_law_part = some ⟨oc_law_part, od_law_part, .func (PySem.W.fnOf "_law_part" "_law_part" (defArgs s_law_part) (defBody s_law_part) (defScope s_law_part) .none kV_law_part dc_law_part pm_law_part an_law_part cd_law_part ct_law_part), sl_law_part⟩)
    (cdk_law_part : PySem.W.codeIn K cd_law_part "_law_part" = true)
    (kp_law_part : PySem.W.keepIn K (.ref f_law_part) = true)
    (a_law_is_good : PySem.W.nsIn K mainGlobals "_law_is_good" = some (some (.ref f_law_is_good)))
    (l_law_is_good : K.lookup f_law_is_good = some ⟨oc_law_is_good, od_law_is_good, .func (PySem.W.fnOf "_law_is_good" "_law_is_good" (defArgs s_law_is_good) (defBody s_law_is_good) (defScope s_law_is_good) .none kV_law_is_good dc_law_is_good pm_law_is_good an_law_is_good cd_law_is_good ct_law_is_good), sl_law_is_good⟩)
    (cdk_law_is_good : PySem.W.codeIn K cd_law_is_good "_law_is_good" = true)
    (kp_law_is_good : PySem.W.keepIn K (.ref f_law_is_good) = true)
    (a_law_due : PySem.W.nsIn K mainGlobals "_law_due" = some (some (.ref f_law_due)))
    (l_law_due : K.lookup f_law_due = some ⟨oc_law_due, od_law_due, .func (PySem.W.fnOf "_law_due" "_law_due" (defArgs s_law_due) (defBody s_law_due) (defScope s_law_due) .none kV_law_due dc_law_due pm_law_due an_law_due cd_law_due ct_law_due), sl_law_due⟩)
    (cdk_law_due : PySem.W.codeIn K cd_law_due "_law_due" = true)
    (kp_law_due : PySem.W.keepIn K (.ref f_law_due) = true)
    (a_law_reading : PySem.W.nsIn K mainGlobals "_law_reading" = some (some (.ref f_law_reading)))
    (l_law_reading : K.lookup f_law_reading = some ⟨oc_law_reading, od_law_reading, .func (PySem.W.fnOf "_law_reading" "_law_reading" (defArgs s_law_reading) (defBody s_law_reading) (defScope s_law_reading) .none kV_law_reading dc_law_reading pm_law_reading an_law_reading cd_law_reading ct_law_reading), sl_law_reading⟩)
    (cdk_law_reading : PySem.W.codeIn K cd_law_reading "_law_reading" = true)
    (kp_law_reading : PySem.W.keepIn K (.ref f_law_reading) = true)
    (a_law_spoilt : PySem.W.nsIn K mainGlobals "_law_spoilt" = some (some (.ref f_law_spoilt)))
    (l_law_spoilt : K.lookup f_law_spoilt = some ⟨oc_law_spoilt, od_law_spoilt, .func (PySem.W.fnOf "_law_spoilt" "_law_spoilt" (defArgs s_law_spoilt) (defBody s_law_spoilt) (defScope s_law_spoilt) .none kV_law_spoilt dc_law_spoilt pm_law_spoilt an_law_spoilt cd_law_spoilt ct_law_spoilt), sl_law_spoilt⟩)
    (cdk_law_spoilt : PySem.W.codeIn K cd_law_spoilt "_law_spoilt" = true)
    (kp_law_spoilt : PySem.W.keepIn K (.ref f_law_spoilt) = true)
    (a_law : PySem.W.nsIn K mainGlobals "law" = some (some (.ref f_law)))
    (l_law : K.lookup f_law = some ⟨oc_law, od_law, .func (PySem.W.fnOf "law" "law" (defArgs s_law) (defBody s_law) (defScope s_law) .none kV_law dc_law pm_law an_law cd_law ct_law), sl_law⟩)
    (cdk_law : PySem.W.codeIn K cd_law "law" = true)
    (kp_law : PySem.W.keepIn K (.ref f_law) = true)
    (k_MOST_BOTHS : PySem.W.nsIn K mainGlobals "MOST_BOTHS" = some (some (.int 3 t_MOST_BOTHS)))
    (k_NUMBERED : PySem.W.nsIn K mainGlobals "NUMBERED" = some (some (.ref c_NUMBERED)))
    (l_NUMBERED : K.lookup c_NUMBERED = some ⟨.type "tuple", od_NUMBERED, .seq #[.str "next" tk_NUMBERED_0, .str "stride" tk_NUMBERED_1, .str "pairs" tk_NUMBERED_2] ob_NUMBERED, sl_NUMBERED⟩)
    (k_FIGURES : PySem.W.nsIn K mainGlobals "FIGURES" = some (some (.ref c_FIGURES)))
    (l_FIGURES : K.lookup c_FIGURES = some ⟨.type "tuple", od_FIGURES, .seq #[.str "0" tk_FIGURES_0, .str "1" tk_FIGURES_1, .str "2" tk_FIGURES_2, .str "3" tk_FIGURES_3, .str "4" tk_FIGURES_4, .str "5" tk_FIGURES_5, .str "6" tk_FIGURES_6, .str "7" tk_FIGURES_7, .str "8" tk_FIGURES_8, .str "9" tk_FIGURES_9] ob_FIGURES, sl_FIGURES⟩)
    (a_WellError : PySem.W.nsIn K mainGlobals "WellError" = some (some (.ref c_WellError)))
    (a_BadSetting : PySem.W.nsIn K mainGlobals "BadSetting" = some (some (.ref c_BadSetting)))
    (a_BadGuesser : PySem.W.nsIn K mainGlobals "BadGuesser" = some (some (.ref c_BadGuesser)))
    (a_BadRow : PySem.W.nsIn K mainGlobals "BadRow" = some (some (.ref c_BadRow)))
    (a_BadAsk : PySem.W.nsIn K mainGlobals "BadAsk" = some (some (.ref c_BadAsk)))
    (a_BadText : PySem.W.nsIn K mainGlobals "BadText" = some (some (.ref c_BadText)))
    (xcl_BadGuesser : (PySem.W.clsIn K c_BadGuesser).isSome = true)
    (xga_BadGuesser : PySem.W.findIn K (.ref c_BadGuesser) "__getattribute__" = some (some (.builtin "BaseException.__getattribute__")))
    (xgt_BadGuesser : PySem.W.findIn K (.ref c_BadGuesser) "__getattr__" = some none)
    (xeb_BadGuesser : PySem.W.subIn K (.ref c_BadGuesser) (.type "BaseException") = some true)
    (xha_BadGuesser : PySem.W.findIn K (.ref c_BadGuesser) "__class__" = some (some (.builtin "object.__class__")))
    (xhn_BadGuesser : PySem.W.specialIn K (.builtin "object.__class__") "__get__" = some (some (.builtin "getset_descriptor.__get__")))
    (xht_BadGuesser : PySem.W.takesIn K (.builtin "object.__class__") = some true)
    (xhm_BadGuesser : PySem.W.mroIn K c_BadGuesser (.type "object") = some true)
    (xet_BadGuesser : PySem.W.typeIn K (.ref c_BadGuesser) = some (.type "type"))
    (xkc_BadGuesser : PySem.W.keepIn K (.ref c_BadGuesser) = true)
    (xm_BadGuesser_WellError : PySem.W.exmOne K (.ref c_BadGuesser) (.ref c_WellError) = some true)
    (ki_BadGuesser_BadText : PySem.W.kitOne K (.ref c_BadGuesser) (.ref c_BadText) = some false)
    (ki_BadGuesser_BadGuesser : PySem.W.kitOne K (.ref c_BadGuesser) (.ref c_BadGuesser) = some true)
    (ki_BadGuesser_BadAsk : PySem.W.kitOne K (.ref c_BadGuesser) (.ref c_BadAsk) = some false)
    (ki_BadGuesser_BadRow : PySem.W.kitOne K (.ref c_BadGuesser) (.ref c_BadRow) = some false)
    (ki_BadGuesser_BadSetting : PySem.W.kitOne K (.ref c_BadGuesser) (.ref c_BadSetting) = some false)
    (kv_BadGuesser : PySem.W.kitOne K (.ref c_BadGuesser) (.type "ValueError") = some true)
    (xcl_BadText : (PySem.W.clsIn K c_BadText).isSome = true)
    (xga_BadText : PySem.W.findIn K (.ref c_BadText) "__getattribute__" = some (some (.builtin "BaseException.__getattribute__")))
    (xgt_BadText : PySem.W.findIn K (.ref c_BadText) "__getattr__" = some none)
    (xeb_BadText : PySem.W.subIn K (.ref c_BadText) (.type "BaseException") = some true)
    (xha_BadText : PySem.W.findIn K (.ref c_BadText) "__class__" = some (some (.builtin "object.__class__")))
    (xhn_BadText : PySem.W.specialIn K (.builtin "object.__class__") "__get__" = some (some (.builtin "getset_descriptor.__get__")))
    (xht_BadText : PySem.W.takesIn K (.builtin "object.__class__") = some true)
    (xhm_BadText : PySem.W.mroIn K c_BadText (.type "object") = some true)
    (xet_BadText : PySem.W.typeIn K (.ref c_BadText) = some (.type "type"))
    (xkc_BadText : PySem.W.keepIn K (.ref c_BadText) = true)
    (xm_BadText_WellError : PySem.W.exmOne K (.ref c_BadText) (.ref c_WellError) = some true)
    (ki_BadText_BadText : PySem.W.kitOne K (.ref c_BadText) (.ref c_BadText) = some true)
    (ki_BadText_BadGuesser : PySem.W.kitOne K (.ref c_BadText) (.ref c_BadGuesser) = some false)
    (ki_BadText_BadAsk : PySem.W.kitOne K (.ref c_BadText) (.ref c_BadAsk) = some false)
    (ki_BadText_BadRow : PySem.W.kitOne K (.ref c_BadText) (.ref c_BadRow) = some false)
    (ki_BadText_BadSetting : PySem.W.kitOne K (.ref c_BadText) (.ref c_BadSetting) = some false)
    (kv_BadText : PySem.W.kitOne K (.ref c_BadText) (.type "ValueError") = some true)
    (xx_BadGuesser : PySem.W.excIn K c_BadGuesser [.type "ValueError", .type "Exception", .type "BaseException", .type "object"] "ValueError.__new__" = true)
    (xob_BadText : oexB K c_BadText = true)
    (xsa_BadText : PySem.W.findIn K (.ref c_BadText) "__setattr__" = some (some (.builtin "object.__setattr__")))
    (xop_BadText : PySem.W.nsIn K cStatics "thirdparty.any" = some none)
    (xsu_BadText : PySem.W.ks_superIn K c_BadText c_BadText "__init__" = some (some (.builtin "ValueError.__init__")))
    (xve_BadText : PySem.W.subIn K (.ref c_BadText) (.type "ValueError") = some true)
    (xse_BadText : PySem.W.mroIn K c_BadText (.ref c_BadText) = some true)
    (xhd_BadText : PySem.W.hasDictIn K c_BadText = true)
    (xno_BadText : PySem.W.findIn K (.ref c_BadText) "place" = some none)
    (a_BadText_init : PySem.W.findIn K (.ref c_BadText) "__init__" = some (some (.ref f_BadText_init)))
    (l_BadText_init : K.lookup f_BadText_init = some ⟨oc_BadText_init, od_BadText_init, .func (PySem.W.ksFn "__init__" "BadText.__init__" (defArgs s_BadText_init) (defBody s_BadText_init) (defScope s_BadText_init) .none kV_BadText_init dc_BadText_init pm_BadText_init an_BadText_init (.ref c2_BadText_init) ct_BadText_init x_BadText_init), sl_BadText_init⟩)
    (cdk_BadText_init : PySem.W.codeIn K (.ref c2_BadText_init) "BadText.__init__" = true)
    (lc_BadText_init : K.lookup c2_BadText_init = some ⟨ccl_BadText_init, cdd_BadText_init, .fields vs_BadText_init, ccs_BadText_init⟩)
    (vp_BadText_init : vs_BadText_init[2]? = some (.str "/claim/cut.py" tf_BadText_init))
    (lx_BadText_init : K.lookup x_BadText_init = some ⟨cl_BadText_init, cld_BadText_init, .cell (some (.ref c_BadText)), csl_BadText_init⟩)
    (xti_BadText_init : PySem.W.typeIn K (.ref f_BadText_init) = some (.type "function"))
    (z_ValueError : PySem.W.nsIn K mainGlobals "ValueError" = some none)
    (z_bool : PySem.W.nsIn K mainGlobals "bool" = some none)
    (z_enumerate : PySem.W.nsIn K mainGlobals "enumerate" = some none)
    (z_int : PySem.W.nsIn K mainGlobals "int" = some none)
    (z_isinstance : PySem.W.nsIn K mainGlobals "isinstance" = some none)
    (z_len : PySem.W.nsIn K mainGlobals "len" = some none)
    (z_list : PySem.W.nsIn K mainGlobals "list" = some none)
    (z_range : PySem.W.nsIn K mainGlobals "range" = some none)
    (z_reversed : PySem.W.nsIn K mainGlobals "reversed" = some none)
    (z_str : PySem.W.nsIn K mainGlobals "str" = some none)
    (z_super : PySem.W.nsIn K mainGlobals "super" = some none)
    (z_tuple : PySem.W.nsIn K mainGlobals "tuple" = some none) : Nonempty (Top K mg) := ⟨{
    f_is_guesser := f_is_guesser
    fd_is_guesser := PySem.W.fnOf "is_guesser" "is_guesser" (defArgs s_is_guesser) (defBody s_is_guesser) (defScope s_is_guesser) .none kV_is_guesser dc_is_guesser pm_is_guesser an_is_guesser cd_is_guesser ct_is_guesser
    F_is_guesser := fun_mk l_is_guesser cdk_is_guesser kp_is_guesser
    g_is_guesser := PySem.W.mg_of X G a_is_guesser
    f_check_guesser := f_check_guesser
    fd_check_guesser := PySem.W.fnOf "check_guesser" "check_guesser" (defArgs s_check_guesser) (defBody s_check_guesser) (defScope s_check_guesser) .none kV_check_guesser dc_check_guesser pm_check_guesser an_check_guesser cd_check_guesser ct_check_guesser
    F_check_guesser := fun_mk l_check_guesser cdk_check_guesser kp_check_guesser
    g_check_guesser := PySem.W.mg_of X G a_check_guesser
    f_needs_of := f_needs_of
    fd_needs_of := PySem.W.fnOf "needs_of" "needs_of" (defArgs s_needs_of) (defBody s_needs_of) (defScope s_needs_of) .none kV_needs_of dc_needs_of pm_needs_of an_needs_of cd_needs_of ct_needs_of
    F_needs_of := fun_mk l_needs_of cdk_needs_of kp_needs_of
    g_needs_of := PySem.W.mg_of X G a_needs_of
    f_can_stand := f_can_stand
    fd_can_stand := PySem.W.fnOf "can_stand" "can_stand" (defArgs s_can_stand) (defBody s_can_stand) (defScope s_can_stand) .none kV_can_stand dc_can_stand pm_can_stand an_can_stand cd_can_stand ct_can_stand
    F_can_stand := fun_mk l_can_stand cdk_can_stand kp_can_stand
    g_can_stand := PySem.W.mg_of X G a_can_stand
    f_check_words := f_check_words
    fd_check_words := PySem.W.fnOf "check_words" "check_words" (defArgs s_check_words) (defBody s_check_words) (defScope s_check_words) .none kV_check_words dc_check_words pm_check_words an_check_words cd_check_words ct_check_words
    F_check_words := fun_mk l_check_words cdk_check_words kp_check_words
    g_check_words := PySem.W.mg_of X G a_check_words
    f_made := f_made
    fd_made := PySem.W.fnOf "made" "made" (defArgs s_made) (defBody s_made) (defScope s_made) .none kV_made dc_made pm_made an_made cd_made ct_made
    F_made := fun_mk l_made cdk_made kp_made
    g_made := PySem.W.mg_of X G a_made
    f_read := f_read
    fd_read := PySem.W.fnOf "read" "read" (defArgs s_read) (defBody s_read) (defScope s_read) .none kV_read dc_read pm_read an_read cd_read ct_read
    F_read := fun_mk l_read cdk_read kp_read
    g_read := PySem.W.mg_of X G a_read
    f_law_taken := f_law_taken
    fd_law_taken := PySem.W.fnOf "_law_taken" "_law_taken" (defArgs s_law_taken) (defBody s_law_taken) (defScope s_law_taken) .none kV_law_taken dc_law_taken pm_law_taken an_law_taken cd_law_taken ct_law_taken
    F_law_taken := fun_mk l_law_taken cdk_law_taken kp_law_taken
    g_law_taken := PySem.W.mg_of X G a_law_taken
    f_law_alike := f_law_alike
    fd_law_alike := PySem.W.fnOf "_law_alike" "_law_alike" (defArgs s_law_alike) (defBody s_law_alike) (defScope s_law_alike) .none kV_law_alike dc_law_alike pm_law_alike an_law_alike cd_law_alike ct_law_alike
    F_law_alike := fun_mk l_law_alike cdk_law_alike kp_law_alike
    g_law_alike := PySem.W.mg_of X G a_law_alike
    f_law_guesser := f_law_guesser
    fd_law_guesser := PySem.W.fnOf "_law_guesser" "_law_guesser" (defArgs s_law_guesser) (defBody s_law_guesser) (defScope s_law_guesser) .none kV_law_guesser dc_law_guesser pm_law_guesser an_law_guesser cd_law_guesser ct_law_guesser
    F_law_guesser := fun_mk l_law_guesser cdk_law_guesser kp_law_guesser
    g_law_guesser := PySem.W.mg_of X G a_law_guesser
    f_law_text := f_law_text
    fd_law_text := PySem.W.fnOf "_law_text" "_law_text" (defArgs s_law_text) (defBody s_law_text) (defScope s_law_text) .none kV_law_text dc_law_text pm_law_text an_law_text cd_law_text ct_law_text
    F_law_text := fun_mk l_law_text cdk_law_text kp_law_text
    g_law_text := PySem.W.mg_of X G a_law_text
    f_law_place := f_law_place
    fd_law_place := PySem.W.fnOf "_law_place" "_law_place" (defArgs s_law_place) (defBody s_law_place) (defScope s_law_place) .none kV_law_place dc_law_place pm_law_place an_law_place cd_law_place ct_law_place
    F_law_place := fun_mk l_law_place cdk_law_place kp_law_place
    g_law_place := PySem.W.mg_of X G a_law_place
    f_law_part := f_law_part
    fd_law_part := PySem.W.fnOf "_law_part" "_law_part" (defArgs s_law_part) (defBody s_law_part) (defScope s_law_part) .none kV_law_part dc_law_part pm_law_part an_law_part cd_law_part ct_law_part
    F_law_part := fun_mk l_law_part cdk_law_part kp_law_part
    g_law_part := PySem.W.mg_of X G a_law_part
    f_law_is_good := f_law_is_good
    fd_law_is_good := PySem.W.fnOf "_law_is_good" "_law_is_good" (defArgs s_law_is_good) (defBody s_law_is_good) (defScope s_law_is_good) .none kV_law_is_good dc_law_is_good pm_law_is_good an_law_is_good cd_law_is_good ct_law_is_good
    F_law_is_good := fun_mk l_law_is_good cdk_law_is_good kp_law_is_good
    g_law_is_good := PySem.W.mg_of X G a_law_is_good
    f_law_due := f_law_due
    fd_law_due := PySem.W.fnOf "_law_due" "_law_due" (defArgs s_law_due) (defBody s_law_due) (defScope s_law_due) .none kV_law_due dc_law_due pm_law_due an_law_due cd_law_due ct_law_due
    F_law_due := fun_mk l_law_due cdk_law_due kp_law_due
    g_law_due := PySem.W.mg_of X G a_law_due
    f_law_reading := f_law_reading
    fd_law_reading := PySem.W.fnOf "_law_reading" "_law_reading" (defArgs s_law_reading) (defBody s_law_reading) (defScope s_law_reading) .none kV_law_reading dc_law_reading pm_law_reading an_law_reading cd_law_reading ct_law_reading
    F_law_reading := fun_mk l_law_reading cdk_law_reading kp_law_reading
    g_law_reading := PySem.W.mg_of X G a_law_reading
    f_law_spoilt := f_law_spoilt
    fd_law_spoilt := PySem.W.fnOf "_law_spoilt" "_law_spoilt" (defArgs s_law_spoilt) (defBody s_law_spoilt) (defScope s_law_spoilt) .none kV_law_spoilt dc_law_spoilt pm_law_spoilt an_law_spoilt cd_law_spoilt ct_law_spoilt
    F_law_spoilt := fun_mk l_law_spoilt cdk_law_spoilt kp_law_spoilt
    g_law_spoilt := PySem.W.mg_of X G a_law_spoilt
    f_law := f_law
    fd_law := PySem.W.fnOf "law" "law" (defArgs s_law) (defBody s_law) (defScope s_law) .none kV_law dc_law pm_law an_law cd_law ct_law
    F_law := fun_mk l_law cdk_law kp_law
    g_law := PySem.W.mg_of X G a_law
    t_MOST_BOTHS := t_MOST_BOTHS
    k_MOST_BOTHS := PySem.W.mg_of X G k_MOST_BOTHS
    c_NUMBERED := c_NUMBERED
    k_NUMBERED := PySem.W.mg_of X G k_NUMBERED
    s_NUMBERED := fun H => .inr ⟨_, _, _, l_NUMBERED, rfl, rfl, (show 3 ≤ sizeLine by decide), .cons ⟨_, rfl⟩ (.cons ⟨_, rfl⟩ (.cons ⟨_, rfl⟩ (.nil)))⟩
    c_FIGURES := c_FIGURES
    k_FIGURES := PySem.W.mg_of X G k_FIGURES
    s_FIGURES := fun H => .inr ⟨_, _, _, l_FIGURES, rfl, rfl, (show 10 ≤ sizeLine by decide), .cons ⟨_, rfl⟩ (.cons ⟨_, rfl⟩ (.cons ⟨_, rfl⟩ (.cons ⟨_, rfl⟩ (.cons ⟨_, rfl⟩ (.cons ⟨_, rfl⟩ (.cons ⟨_, rfl⟩ (.cons ⟨_, rfl⟩ (.cons ⟨_, rfl⟩ (.cons ⟨_, rfl⟩ (.nil))))))))))⟩
    c_WellError := c_WellError
    g_WellError := PySem.W.mg_of X G a_WellError
    c_BadSetting := c_BadSetting
    g_BadSetting := PySem.W.mg_of X G a_BadSetting
    c_BadGuesser := c_BadGuesser
    g_BadGuesser := PySem.W.mg_of X G a_BadGuesser
    c_BadRow := c_BadRow
    g_BadRow := PySem.W.mg_of X G a_BadRow
    c_BadAsk := c_BadAsk
    g_BadAsk := PySem.W.mg_of X G a_BadAsk
    c_BadText := c_BadText
    g_BadText := PySem.W.mg_of X G a_BadText
    xi_BadGuesser := ⟨xcl_BadGuesser, xga_BadGuesser, xgt_BadGuesser, xeb_BadGuesser, xha_BadGuesser, xhn_BadGuesser, xht_BadGuesser, xhm_BadGuesser⟩
    eb_BadGuesser := xeb_BadGuesser
    et_BadGuesser := xet_BadGuesser
    kc_BadGuesser := xkc_BadGuesser
    xm_BadGuesser_WellError := xm_BadGuesser_WellError
    ki_BadGuesser_BadText := ki_BadGuesser_BadText
    ki_BadGuesser_BadGuesser := ki_BadGuesser_BadGuesser
    ki_BadGuesser_BadAsk := ki_BadGuesser_BadAsk
    ki_BadGuesser_BadRow := ki_BadGuesser_BadRow
    ki_BadGuesser_BadSetting := ki_BadGuesser_BadSetting
    kv_BadGuesser := kv_BadGuesser
    xi_BadText := ⟨xcl_BadText, xga_BadText, xgt_BadText, xeb_BadText, xha_BadText, xhn_BadText, xht_BadText, xhm_BadText⟩
    eb_BadText := xeb_BadText
    et_BadText := xet_BadText
    kc_BadText := xkc_BadText
    xm_BadText_WellError := xm_BadText_WellError
    ki_BadText_BadText := ki_BadText_BadText
    ki_BadText_BadGuesser := ki_BadText_BadGuesser
    ki_BadText_BadAsk := ki_BadText_BadAsk
    ki_BadText_BadRow := ki_BadText_BadRow
    ki_BadText_BadSetting := ki_BadText_BadSetting
    kv_BadText := kv_BadText
    ex_BadGuesser := xx_BadGuesser
    oe_BadText := oex_mk xob_BadText xsa_BadText xeb_BadText xet_BadText xkc_BadText
    cs_BadText := ⟨oex_mk xob_BadText xsa_BadText xeb_BadText xet_BadText xkc_BadText, cd_of xcl_BadText, xop_BadText, xsu_BadText, xve_BadText, xse_BadText⟩
    xf_BadText := ⟨xga_BadText, xgt_BadText, xeb_BadText, xhd_BadText⟩
    no_BadText_place := xno_BadText
    f_BadText_init := f_BadText_init
    x_BadText_init := x_BadText_init
    fd_BadText_init := PySem.W.ksFn "__init__" "BadText.__init__" (defArgs s_BadText_init) (defBody s_BadText_init) (defScope s_BadText_init) .none kV_BadText_init dc_BadText_init pm_BadText_init an_BadText_init (.ref c2_BadText_init) ct_BadText_init x_BadText_init
    F_BadText_init := fun P hp => funS_mk l_BadText_init cdk_BadText_init lc_BadText_init vp_BadText_init lx_BadText_init hp
    b_BadText_init := .all fun us hl => match us, hl with | [_, _], _ => rfl
    ic_BadText := a_BadText_init
    ti_BadText := xti_BadText_init
    z_ValueError := PySem.W.mg_none_of X G z_ValueError
    z_bool := PySem.W.mg_none_of X G z_bool
    z_enumerate := PySem.W.mg_none_of X G z_enumerate
    z_int := PySem.W.mg_none_of X G z_int
    z_isinstance := PySem.W.mg_none_of X G z_isinstance
    z_len := PySem.W.mg_none_of X G z_len
    z_list := PySem.W.mg_none_of X G z_list
    z_range := PySem.W.mg_none_of X G z_range
    z_reversed := PySem.W.mg_none_of X G z_reversed
    z_str := PySem.W.mg_none_of X G z_str
    z_super := PySem.W.mg_none_of X G z_super
    z_tuple := PySem.W.mg_none_of X G z_tuple }⟩
theorem walk {l : PySem.W.OpenLaw} {q : Program} {loose : List Str} {XP : (Str → Option Value) → Heap → Prop} {YP : World → Heap → Prop} {d : DefRec} {K : Params → PySem.W.Frag} (hn : l.most = some 63) (hdf : d.params.defaults = []) (hname : d.name = "law") (hP : SupP l.prog)
    (hY : ∀ (w : World) (h : Heap), YP w h → (K w.params).In h)
    (F : ∀ (w : World) (mg : Str → Option Value) (h : Heap), (K w.params).In h → h.Ns mainGlobals mg → Nonempty (Top (K w.params) mg)) :
    PySem.W.WalkO q loose XP YP l.row.toRowW d [] (fun f vs => PySem.call f vs) :=
  L2.walk_of (n := 63) (k := 230) (x := "_law_script") (CX := fun _ => CX0) (sp := fun w => spLaw (K w.params)) hn (by decide) hdf ⟨rfl, by decide, by decide⟩ hY
    (fun w mg fa h KX G hmg => by
      obtain ⟨T⟩ := F w mg h KX G
      rw [hname] at hmg
      have e := hmg.symm.trans T.g_law
      cases e
      obtain ⟨oc, od, kV, doc, pm, an, cdv, ct, osl, efd, _, _⟩ := T.F_law.ex
      refine ⟨T.fd_law, fun s v => ?_, fun base _ _ => (ok_law hP T).mono (by decide)⟩
      rw [efd]
      exact .of_eq rfl)
    (fun _ _ a ns hl ho hS => ⟨a, ns, rfl, scr_of ho hS, fun _ => rfl⟩) fun _ _ _ _ _ z => z

end SwD
set_option Elab.async false
open PySem PySem.W PyProof.Rows
set_option maxRecDepth 100000 in
set_option maxHeartbeats 0 in
theorem PySem.Challenge.cw_stridewell_k13_texts_that_tell_no_guesse_holds : PySem.Challenge.rw_stridewell_k13_texts_that_tell_no_guesse.Holds := by
  w_on; o_law; k_head; (case hw => w_witness2)
  k_fill
  refine SwD.walk (l := PySem.Challenge.rw_stridewell_k13_texts_that_tell_no_guesse) rfl rfl rfl ?hP (fun w h Y => PySem.W.kIn_of Y) ?F
  case hP => exact ⟨rfl, rfl⟩
  case F =>
    intro w mg h KX G
    refine' SwD.mk_top KX G ?q0 ?q1 ?q2 ?q3 ?q4 ?q5 ?q6 ?q7 ?q8 ?q9 ?q10 ?q11 ?q12 ?q13 ?q14 ?q15 ?q16 ?q17 ?q18 ?q19 ?q20 ?q21 ?q22 ?q23 ?q24 ?q25 ?q26 ?q27 ?q28 ?q29 ?q30 ?q31 ?q32 ?q33 ?q34 ?q35 ?q36 ?q37 ?q38 ?q39 ?q40 ?q41 ?q42 ?q43 ?q44 ?q45 ?q46 ?q47 ?q48 ?q49 ?q50 ?q51 ?q52 ?q53 ?q54 ?q55 ?q56 ?q57 ?q58 ?q59 ?q60 ?q61 ?q62 ?q63 ?q64 ?q65 ?q66 ?q67 ?q68 ?q69 ?q70 ?q71 ?q72 ?q73 ?q74 ?q75 ?q76 ?q77 ?q78 ?q79 ?q80 ?q81 ?q82 ?q83 ?q84 ?q85 ?q86 ?q87 ?q88 ?q89 ?q90 ?q91 ?q92 ?q93 ?q94 ?q95 ?q96 ?q97 ?q98 ?q99 ?q100 ?q101 ?q102 ?q103 ?q104 ?q105 ?q106 ?q107 ?q108 ?q109 ?q110 ?q111 ?q112 ?q113 ?q114 ?q115 ?q116 ?q117 ?q118 ?q119 ?q120 ?q121 ?q122 ?q123 ?q124 ?q125 ?q126 ?q127 ?q128 ?q129 ?q130 ?q131 ?q132 ?q133 ?q134 ?q135 ?q136 ?q137 ?q138 ?q139 ?q140 ?q141 ?q142 ?q143 ?q144
    (case q0 => k_is)
    (case q1 => k_is)
    (case q2 => k_is)
    (case q3 => k_is)
    (case q4 => k_is)
    (case q5 => k_is)
    (case q6 => k_is)
    (case q7 => k_is)
    (case q8 => k_is)
    (case q9 => k_is)
    (case q10 => k_is)
    (case q11 => k_is)
    (case q12 => k_is)
    (case q13 => k_is)
    (case q14 => k_is)
    (case q15 => k_is)
    (case q16 => k_is)
    (case q17 => k_is)
    (case q18 => k_is)
    (case q19 => k_is)
    (case q20 => k_is)
    (case q21 => k_is)
    (case q22 => k_is)
    (case q23 => k_is)
    (case q24 => k_is)
    (case q25 => k_is)
    (case q26 => k_is)
    (case q27 => k_is)
    (case q28 => k_is)
    (case q29 => k_is)
    (case q30 => k_is)
    (case q31 => k_is)
    (case q32 => k_is)
    (case q33 => k_is)
    (case q34 => k_is)
    (case q35 => k_is)
    (case q36 => k_is)
    (case q37 => k_is)
    (case q38 => k_is)
    (case q39 => k_is)
    (case q40 => k_is)
    (case q41 => k_is)
    (case q42 => k_is)
    (case q43 => k_is)
    (case q44 => k_is)
    (case q45 => k_is)
    (case q46 => k_is)
    (case q47 => k_is)
    (case q48 => k_is)
    (case q49 => k_is)
    (case q50 => k_is)
    (case q51 => k_is)
    (case q52 => k_is)
    (case q53 => k_is)
    (case q54 => k_is)
    (case q55 => k_is)
    (case q56 => k_is)
    (case q57 => k_is)
    (case q58 => k_is)
    (case q59 => k_is)
    (case q60 => k_is)
    (case q61 => k_is)
    (case q62 => k_is)
    (case q63 => k_is)
    (case q64 => k_is)
    (case q65 => k_is)
    (case q66 => k_is)
    (case q67 => k_is)
    (case q68 => k_is)
    (case q69 => k_is)
    (case q70 => k_is)
    (case q71 => k_is)
    (case q72 => k_is)
    (case q73 => k_is)
    (case q74 => k_is)
    (case q75 => k_is)
    (case q76 => k_is)
    (case q77 => k_is)
    (case q78 => k_is)
    (case q79 => k_is)
    (case q80 => k_is)
    (case q81 => k_is)
    (case q82 => k_is)
    (case q83 => kernel_rfl)
    (case q84 => k_is)
    (case q85 => k_is)
    (case q86 => k_is)
    (case q87 => k_is)
    (case q88 => k_is)
    (case q89 => k_is)
    (case q90 => k_is)
    (case q91 => k_is)
    (case q92 => k_is)
    (case q93 => kts_exm)
    (case q94 => kit_is)
    (case q95 => kit_is)
    (case q96 => kit_is)
    (case q97 => kit_is)
    (case q98 => kit_is)
    (case q99 => kit_is)
    (case q100 => kernel_rfl)
    (case q101 => k_is)
    (case q102 => k_is)
    (case q103 => k_is)
    (case q104 => k_is)
    (case q105 => k_is)
    (case q106 => k_is)
    (case q107 => k_is)
    (case q108 => k_is)
    (case q109 => k_is)
    (case q110 => kts_exm)
    (case q111 => kit_is)
    (case q112 => kit_is)
    (case q113 => kit_is)
    (case q114 => kit_is)
    (case q115 => kit_is)
    (case q116 => kit_is)
    (case q117 => k_exc)
    (case q118 => kernel_rfl)
    (case q119 => k_is)
    (case q120 => k_is)
    (case q121 => ks_is)
    (case q122 => k_is)
    (case q123 => k_is)
    (case q124 => k_is)
    (case q125 => k_is)
    (case q126 => k_is)
    (case q127 => k_is)
    (case q128 => k_is)
    (case q129 => k_is)
    (case q130 => exact rfl)
    (case q131 => k_is)
    (case q132 => k_is)
    (case q133 => k_is)
    (case q134 => k_is)
    (case q135 => k_is)
    (case q136 => k_is)
    (case q137 => k_is)
    (case q138 => k_is)
    (case q139 => k_is)
    (case q140 => k_is)
    (case q141 => k_is)
    (case q142 => k_is)
    (case q143 => k_is)
    (case q144 => k_is)
