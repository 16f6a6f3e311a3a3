import PyProof.Rows.All
import Wide.All
import OpenK.AllK
import Wide.FinOn
import HandS.Base
import HandS.Call
import HandS.List
import HandS.ForMost
import HandS.Flow
import HandS.IsInst
import HandS.Star
import HandS.Steps
import HandS.RaiseMore
import HandS.Walk
import HandS.Text
import HandS.Iter
import HandS.Conv
import HandS.AnyAll
import HandS.EndTab
import KE.GoesEnum
import HandS.Zip
import KE.KTupSum
import PySem.Challenge.RW_stridewell_k05_whole_never_another_answe
set_option Elab.async false
set_option linter.all false
set_option maxRecDepth 100000
/-! match over tuples: patterns that are written texts, names, `_`, sequences of such -/
namespace SwX
open PySem PySem.Spec PyProof.Rows L2
abbrev TM := V → L2.St → Hp → (Option (List V) → Hp → Prop) → Prop
abbrev TMs := List V → L2.St → Hp → (Option (List V) → Hp → Prop) → Prop
/-- what a pattern captures: the names in order, their values -/
def Capt (ns : List Str) : Option (List V) → Option (List (Str × Value)) → Prop
  | some vs, some bs => bs.map (·.1) = ns ∧ Vals vs (bs.map (·.2))
  | none, none => True
  | _, _ => False
def MP (X : Cx) (pins : List (Addr × Obj)) (σ : L2.St) (ns : List Str) (Q : Option (List V) → Hp → Prop) (r : Option (List (Str × Value))) (s' : Shared) : Prop :=
  ∃ ro H', Inv X pins σ H' s' ∧ Capt ns ro r ∧ Q ro H'
structure PM (X : Cx) (p : Pattern) (ns : List Str) (t : TM) : Prop where
  run : ∀ (pins : List (Addr × Obj)) (s : Shared) (σ : L2.St) (H : Hp) (v : V) (u : Value) (Q : Option (List V) → Hp → Prop), Inv X pins σ H s → RelV v u → t v σ H Q →
    wpAny (model X.prog X.w) X.A (matchPattern p X.env u) (MP X pins σ ns Q) X.xe s
structure PMs (X : Cx) (ps : List Pattern) (ns : List Str) (t : TMs) : Prop where
  run : ∀ (pins : List (Addr × Obj)) (s : Shared) (σ : L2.St) (H : Hp) (vs : List V) (us : List Value) (Q : Option (List V) → Hp → Prop), Inv X pins σ H s → Vals vs us → t vs σ H Q →
    wpAny (model X.prog X.w) X.A (matchEach ps X.env us) (MP X pins σ ns Q) X.xe s
section
variable {X : Cx} {pos : Pos}
def mCap : TM := fun v _ H Q => Q (some [v]) H
def mAny : TM := fun _ _ H Q => Q (some []) H
def mVal (w : V) : TM := fun v _ H Q => scal v w = true ∧ Q (if decide (v = w) = true then some [] else none) H
theorem pm_cap {x : Str} : PM X (.MatchAs none (some x) pos) [x] mCap :=
  ⟨fun _ _ _ H v u _ I r h => wpAny_matchPattern_Capture ⟨some [v], H, I, ⟨rfl, .cons r .nil⟩, h⟩⟩
theorem pm_any : PM X (.MatchAs none none pos) [] mAny :=
  ⟨fun _ _ _ H _ _ _ I _ h => wpAny_matchPattern_Capture ⟨some [], H, I, ⟨rfl, .nil⟩, h⟩⟩
theorem pm_val {e : Expr} {w : V} (he : PE X e (tC w)) : PM X (.MatchValue e pos) [] (mVal w) := by
  refine ⟨fun pins s σ H v u Q I r h => ?_⟩
  obtain ⟨hs, h⟩ := h
  refine wpAny_matchPattern_Value (thn (he.run pins s σ H (fun x H1 => x = w ∧ H1 = H) I ⟨rfl, rfl⟩) fun y s1 ⟨x, H1, I1, r1, ex, eH⟩ => ?_)
  subst ex
  subst eH
  refine thn (op_eq pins s1 σ H1 v x u y (fun z H2 => z = .bl (decide (v = x)) ∧ H2 = H1) I1 r r1 ⟨hs, rfl, rfl⟩) fun z s2 ⟨zv, H2, I2, r2, ez, eH⟩ => ?_
  subst ez
  subst eH
  cases r2
  refine wpAny_truthy_bool ?_
  cases hd : decide (v = x) with
  | true =>
    rw [if_pos rfl]
    rw [hd, if_pos rfl] at h
    exact ⟨some [], H2, I2, ⟨rfl, .nil⟩, h⟩
  | false =>
    rw [if_neg (by decide)]
    rw [hd, if_neg (by decide)] at h
    exact ⟨none, H2, I2, trivial, h⟩
def msNil : TMs := fun vs _ H Q => vs = [] ∧ Q (some []) H
def msCons (t : TM) (u : TMs) : TMs := fun vs σ H Q => ∃ v r, vs = v :: r ∧ t v σ H fun ro H1 => match ro with
  | none => Q none H1
  | some a => u r σ H1 fun ro2 H2 => match ro2 with
    | none => Q none H2
    | some b => Q (some (a ++ b)) H2
theorem pms_nil : PMs X [] [] msNil := by
  refine ⟨fun pins s σ H vs us Q I r h => ?_⟩
  obtain ⟨e, h⟩ := h
  subst e
  cases r
  exact wpAny_matchEach_nil ⟨some [], H, I, ⟨rfl, .nil⟩, h⟩
theorem pms_cons {p : Pattern} {ps : List Pattern} {n1 n2 : List Str} {t : TM} {u : TMs} (h1 : PM X p n1 t) (h2 : PMs X ps n2 u) (hp : p.isStar = false := by rfl) : PMs X (p :: ps) (n1 ++ n2) (msCons t u) := by
  refine ⟨fun pins s σ H vs us Q I r h => ?_⟩
  obtain ⟨v, vr, e, h⟩ := h
  subst e
  cases r with
  | cons r rr =>
    refine wpAny_matchEach_cons (thn (h1.run pins s σ H _ _ _ I r h) fun ra s1 ⟨ro, H1, I1, c1, q1⟩ => ?_) hp
    cases ra with
    | none =>
      cases ro with
      | some _ => exact c1.elim
      | none => exact ⟨none, H1, I1, trivial, q1⟩
    | some bs =>
      cases ro with
      | none => exact c1.elim
      | some a =>
        refine thn (h2.run pins s1 σ H1 _ _ _ I1 rr q1) fun rb s2 ⟨ro2, H2, I2, c2, q2⟩ => ?_
        cases rb with
        | none =>
          cases ro2 with
          | some _ => exact c2.elim
          | none => exact ⟨none, H2, I2, trivial, q2⟩
        | some cs =>
          cases ro2 with
          | none => exact c2.elim
          | some b =>
            refine ⟨some (a ++ b), H2, I2, ⟨?_, ?_⟩, q2⟩
            · rw [List.map_append, c1.1, c2.1]
            · rw [List.map_append]
              exact c1.2.append c2.2
/-- a sequence pattern over a tuple -/
def mSeq (K : PySem.W.Frag) (n : Nat) (t : TMs) : TM := fun v σ H Q => ∃ a xs, v = .ref a ∧ SqT K H a xs ∧ if xs.length = n then t xs σ H Q else Q none H
theorem pm_seq {ps : List Pattern} {ns : List Str} {t : TMs} {n : Nat} (hc : X.calm = true) (h : PMs X ps ns t) (hn : ps.length = n := by rfl) (hstar : ps.findIdx? (·.isStar) = none := by rfl)
    (hwild : (ps.all fun p => p.isWildcard || (p.isStar && p.names.isEmpty)) = false := by rfl) : PM X (.MatchSequence ps pos) ns (mSeq X.K n t) := by
  refine ⟨fun pins s σ H v u Q I r hw => ?_⟩
  obtain ⟨a, xs, e, hx, hw⟩ := hw
  subst e
  obtain rfl : u = Value.ref a := r
  obtain ⟨its, rv, ht, hz⟩ := I.tuple hx
  have hfit : (its.toArray.size : Int) < 2 ^ 63 := by
    have e1 := rv.length
    have e2 : its.toArray.size = its.length := by simp
    have e3 : sizeLine < 2 ^ 62 := by decide
    omega
  by_cases hl : xs.length = n
  · rw [if_pos hl] at hw
    have hsz : its.toArray.size = ps.length := by
      have e1 := rv.length
      have e2 : its.toArray.size = its.length := by simp
      omega
    refine matchSeq_tuple_hit ht hfit hsz ?_ hstar hwild
    rw [← hsz]
    refine unpackItems_tuple (I.ok.hd hc) ht fun h' hx' => ?_
    have I1 : Inv X pins σ H { s with toks := s.toks + 1 + 1, heap := h' } := I.kept (t' := s.toks + 1 + 1) fun b o e => hx' b o (Nat.ne_of_lt (Heap.lt_size e)) e
    exact h.run pins _ σ H xs its.toArray.toList Q I1 (by simpa using rv) hw
  · rw [if_neg hl] at hw
    have hsz : its.toArray.size ≠ ps.length := by
      have e1 := rv.length
      have e2 : its.toArray.size = its.length := by simp
      omega
    refine matchSeq_tuple_miss ht hfit hsz ?_ hstar hwild
    exact ⟨none, H, I.tok _, trivial, hw⟩
/-- the captured values go to their slots, in order -/
def setAll : L2.St → List Nat → List V → L2.St
  | σ, i :: is, v :: vs => setAll (σ.set i (some v)) is vs
  | σ, _, _ => σ
structure SlotOk (X : Cx) (i : Nat) (x : Str) : Prop where
  at_ : X.N[i]? = some x
  loc : Loc X.env.scope x
  fn : X.fn x = true ∨ X.env.scope.names.lookup x = some .local
theorem bind_all {M : Model} {A : Around} {E : Value → Shared → Prop} (hN : X.N.Nodup) {pins : List (Addr × Obj)} {H : Hp} {Q : Unit → Shared → Prop} : ∀ (ns : List Str) (is : List Nat) (bs : List (Str × Value)) (vs : List V) (σ : L2.St) (s : Shared), Paired (SlotOk X) is ns → bs.map (·.1) = ns → Vals vs (bs.map (·.2)) → Inv X pins σ H s →
    (∀ s', Inv X pins (setAll σ is vs) H s' → Q () s') → wpAny M A (assignInOrder (bs.map fun (n, _) => bindName X.env n) (bs.map (·.2))) Q E s
  | ns, is, [], vs, σ, s, hp, en, hv, I, k => by
    cases hv
    have e : setAll σ is [] = σ := by cases is <;> rfl
    rw [e] at k
    exact wpAny_assignInOrder_none (k s I)
  | ns, is, (y, u) :: bs, vs, σ, s, hp, en, hv, I, k => by
    cases hp with
    | nil => cases en
    | cons h1 hr =>
      cases hv with
      | cons r rr =>
        injection en with en1 en2
        have en1 : y = _ := en1
        subst en1
        exact wpAny_assignInOrder_more (wpAny_bindName (store_ok I hN h1.at_ h1.loc r (fun s1 I1 => bind_all hN _ _ bs _ _ s1 hr en2 rr I1 k) h1.fn))
abbrev TCs := V → Ends → L2.St → Hp → Prop
structure PCs (X : Cx) (cs : List MatchCase) (t : TCs) : Prop where
  run : ∀ (first : Bool) (pins : List (Addr × Obj)) (s : Shared) (σ : L2.St) (H : Hp) (v : V) (u : Value) (D : Ends), Inv X pins σ H s → RelV v u → t v D σ H →
    wpAny (model X.prog X.w) X.A (matchCases cs X.env u first) (SP X pins D) X.xe s
def csNil : TCs := fun _ D σ H => D.nx σ H
def csCons (t : TM) (is : List Nat) (b : TS) (r : TCs) : TCs := fun v D σ H => t v σ H fun ro H1 => match ro with
  | none => r v D σ H1
  | some vs => b D (setAll σ is vs) H1
theorem pcs_nil : PCs X [] csNil := ⟨fun _ _ _ σ H _ _ _ I _ h => wpAny_matchCases_nil ⟨σ, H, I, h⟩⟩
theorem pcs_cons {p : Pattern} {ns : List Str} {is : List Nat} {body : List Stmt} {rest : List MatchCase} {t : TM} {b : TS} {r : TCs} (hN : X.N.Nodup) (hp : PM X p ns t) (hs : Paired (SlotOk X) is ns) (hb : PSs X body b) (hr : PCs X rest r) :
    PCs X (⟨p, none, body⟩ :: rest) (csCons t is b r) := by
  refine ⟨fun first pins s σ H v u D I rv h => ?_⟩
  refine wpAny_matchCases_cons (thn (hp.run pins s σ H v u _ I rv h) fun ra s1 ⟨ro, H1, I1, c1, q1⟩ => ?_)
  cases ra with
  | none =>
    cases ro with
    | some _ => exact c1.elim
    | none => exact hr.run false pins s1 σ H1 v u D I1 rv q1
  | some bs =>
    cases ro with
    | none => exact c1.elim
    | some vs => exact bind_all hN ns is bs vs σ s1 hs c1.1 c1.2 I1 fun s2 I2 => hb.run pins s2 _ H1 D I2 q1
def tMatch (te : TE) (tc : TCs) : TS := fun D σ H => te σ H fun v H1 => tc v D σ H1
theorem ps_match {e : Expr} {cs : List MatchCase} {te : TE} {tc : TCs} (he : PE X e te) (hc : PCs X cs tc) : PS X (.Match e cs pos) (tMatch te tc) := by
  refine ⟨fun pins s σ H D I h => ?_⟩
  exact wpAny_Match (thn (he.run pins s σ H _ I h) fun u s1 ⟨v, H1, I1, r1, q1⟩ => hc.run true pins s1 σ H1 v u D I1 r1 q1)
end

/-! ### a method of an object whose class is one of several -/
section
variable {X : Cx}
structure Of (X : Cx) (CX : CXT) (E : XK) (m : Str) (sp : Sp) (C : Addr) : Prop where
  ex : ∃ (f : Addr) (fd : FuncData) (k : Nat) (ps : List Str), Cls X.K C ∧ Meth X.K C m f ∧ FnOk X.prog X.w X.K X.mg X.base CX k f fd ps sp ∧ Room k X.A ∧ Binds X.K fd ps [] ∧ Passes CX X E
def tOneOf {ι : Type} (R : ι → Addr) (m : Str) (sp : ι → Sp) (E : XK) (ta : TE) (t : TA) : TE := fun σ H Q => ta σ H fun x H1 => ∃ a i dx fs, x = .ref a ∧ H1 a = some (.ins (R i) dx fs) ∧ fs.lookup m = none ∧
  t σ H1 fun vs H2 => sp i (x :: vs) H2 Q E
theorem pe_methOf {CX : CXT} {ι : Type} {R : ι → Addr} {E : XK} {m : Str} {sp : ι → Sp} {pos apos : Pos} {e o : Expr} {es : List Expr} {ta : TE} {t : TA} {pl : Sem Bool} (hR : ∀ i, Of X CX E m (sp i) (R i)) (he : PE X o ta) (ha : PA X (e :: es) t)
    (hst : starEach (e :: es) X.env = (false, eval e X.env) :: starEach es X.env := by rfl) (hpl : (backTo pos (starEach es X.env)).any (·.1) = false := by rfl)
    (ht : eval (.Call (.Attribute o m apos) (e :: es) [] pos) X.env = (do
      let ov ← eval o X.env
      standAt apos.atName
      let (f, first) ← holding [ov] (getMethod ov m pl)
      callWith pos f first (backTo pos (starEach (e :: es) X.env)) (backToKw pos (keywordEach [] X.env))) := by rfl) :
    PE X (.Call (.Attribute o m apos) (e :: es) [] pos) (tOneOf R m sp E ta t) := by
  refine ⟨fun pins s σ H Q I h => ?_⟩
  refine PySem.W.methodCall_KW (pl := pl) (thn (he.run pins s σ H _ I h) fun u s1 ⟨x, H1, I1, rx, a, i, dx, fs, ex, ea, l, q⟩ => ?_) ht
  subst ex
  obtain rfl : u = Value.ref a := rx
  obtain ⟨f, fd, k, ps, c, hm, F, hr, hb, hx⟩ := (hR i).ex
  refine getmeth_ok I1 ea c hm l ?_
  refine PySem.W.callWith_K (first := [.ref a]) (h₀ := X.base) I.ok.mod.kin hm.kp (thn (ha.run pos pins s1 σ H1 _ I1 q) fun us s2 ⟨vs, H2, I2, r, q2⟩ => ⟨I2.kIn, ?_⟩) hst hpl
  exact run_fn (us := .ref a :: us) (vs := .ref a :: vs) (dvs := []) F hr hb .nil hx I2 (.cons rfl r) (by rw [List.append_nil]; exact q2)
end
/-! ### C() of a class whose __init__ is object's -/
section
variable {X : Cx}
def tMakeN (C : Addr) : TE := fun _ H Q => ∀ x dx, H x = none → H dx = none → dx ≠ x → Q (.ref x) (upd (upd H dx (.own x)) x (.ins C dx []))
structure MkN (K : PySem.W.Frag) (C : Addr) : Prop where
  makes : PySem.W.makesIn K C = true
  init : PySem.W.findIn K (.ref C) "__init__" = some (some (.builtin "object.__init__"))
  kp : PySem.W.keepIn K (.ref C) = true
theorem pe_makeN {C : Addr} {x : Str} {p pos : Pos} (M : MkN X.K C) (hg : Gl X x) (hm : X.mg x = some (.ref C)) (hdb : (x == ("__debug__" : Str)) = false := by decide) : PE X (.Call (.Name x p) [] [] pos) (tMakeN C) := by
  refine ⟨fun pins s σ H Q I h => ?_⟩
  refine wpAny_Call_Name_kw (ld_glob I hg hm ?_ hdb)
  refine PySem.W.callWith_K0 I.kIn M.kp (wpAny_call ?_)
  have hq := h (s.heap.objs.size + 1) s.heap.objs.size (I.hok.fresh (Nat.le_succ _)) (I.hok.fresh (Nat.le_refl _)) (Nat.ne_of_lt (Nat.lt_succ_self _))
  have I2 := Inv.made (C := C) I
  have Y := PySem.W.makes_of (M := model X.prog X.w) I.kIn M.makes
  refine make_map0 I.kIn M.makes M.init (fun self => PySem.W.Looks.of_pure (PySem.W.oi_bind self)) ?_
  have e2 : ((s.heap.push PySem.W.emptyDict).push (PySem.W.instObj C s.heap.objs.size)).get? (s.heap.objs.size + 1) = some (PySem.W.instObj C s.heap.objs.size) := by
    have := Heap.get?_push_size (s.heap.push PySem.W.emptyDict) (o := PySem.W.instObj C s.heap.objs.size) rfl
    rwa [Heap.size_push] at this
  have t1 : PySem.W.Looks (model X.prog X.w) ((s.heap.push PySem.W.emptyDict).push (PySem.W.instObj C s.heap.objs.size)) (typeOf (.ref (s.heap.objs.size + 1))) (.ref C) := (PySem.W.Looks.ld e2).andThen .now
  have t2 : PySem.W.Looks (model X.prog X.w) ((s.heap.push PySem.W.emptyDict).push (PySem.W.instObj C s.heap.objs.size)) (isInstance (.ref (s.heap.objs.size + 1)) (.type "object")) true := t1.andThen (Y.top.keeps fun b o e => Heap.get?_push_of_some _ (Heap.get?_push_of_some _ e))
  refine codeAny_call_builtin PySem.W.oi_plain PySem.W.entry_oi (@PySem.W.check_slot (model X.prog X.w) _ _ _ "object.__init__" "object" "__init__" (.ref (s.heap.objs.size + 1)) [] [] _ PySem.W.oi_kind PySem.W.oi_split t2 (PySem.W.oi_args (.ref (s.heap.objs.size + 1))) ?_)
  rw [PySem.W.oi_run]
  exact wpAny_pure (And.intro rfl ⟨V.ref (s.heap.objs.size + 1), _, I2, rfl, hq⟩)
end
end SwX
set_option Elab.async false
set_option linter.all false
set_option maxRecDepth 100000
set_option maxHeartbeats 2000000
namespace SwX
open PySem PySem.Spec PyProof.Rows L2 StX
/-! ### the readings' short names -/
abbrev rAddI : R2 := rI0 fun i j => .int (i + j)
abbrev rSubI : R2 := rI0 fun i j => .int (i - j)
abbrev rMulI : R2 := rI CMul fun i j => .int (i * j)
abbrev rDivI : R2 := rI CDiv fun i j => .int (i / j)
abbrev rModI : R2 := rI (fun _ j => 0 < j) fun i j => .int (i % j)
abbrev rPowI : R2 := rI CPow fun i j => .int (i ^ j.toNat)
abbrev rLtI : R2 := rI0 fun i j => .bl (decide (i < j))
abbrev rLeI : R2 := rI0 fun i j => .bl (decide (i ≤ j))
abbrev rGtI : R2 := rI0 fun i j => .bl (decide (j < i))
abbrev rGeI : R2 := rI0 fun i j => .bl (decide (j ≤ i))
abbrev rNegI : V → Hp → VK → Prop := rU fun i => .int (-i)
abbrev RCall := List V → Hp → VK → Prop
abbrev rLenQ (K : PySem.W.Frag) : RCall := fun xs H Q => ∃ p ys, xs = [.ref p] ∧ (SqL K H p ys ∨ SqT K H p ys) ∧ Q (.int ys.length) H
abbrev rInt1 : RCall := fun xs H Q => (∃ i, xs = [.int i] ∧ Q (.int i) H) ∨ ∃ k, xs = [.bl k] ∧ Q (.int (if k then 1 else 0)) H
abbrev rListOf (K : PySem.W.Frag) : RCall := fun xs H Q => ∃ p ys, xs = [.ref p] ∧ (SqL K H p ys ∨ SqT K H p ys) ∧ ∀ l, H l = none → Q (.ref l) (upd H l (.lst ys))
abbrev rTupleOf (K : PySem.W.Frag) : RCall := fun xs H Q => ∃ p ys, xs = [.ref p] ∧ ((SqL K H p ys ∧ ∀ l, H l = none → Q (.ref l) (upd H l (.tup ys))) ∨ (SqT K H p ys ∧ Q (.ref p) H))
abbrev rMax2I : RCall := fun xs H Q => ∃ i j, xs = [.int i, .int j] ∧ Q (.int (if j > i then j else i)) H
abbrev rMin2I : RCall := fun xs H Q => ∃ i j, xs = [.int i, .int j] ∧ Q (.int (if j < i then j else i)) H
/-! ### what stays -/
theorem same_upd {H : Hp} {p : Addr} {o : HO} (h : H p = none) : Same H (upd H p o) := fun b u q => by
  rw [upd_ne (ne_of_none q h)]
  exact q
/-- all that was there and is not in M is as it was -/
def Out (M : Addr → Prop) (H H' : Hp) : Prop := ∀ b o, H b = some o → ¬ M b → H' b = some o
theorem same_out {M : Addr → Prop} {H H' : Hp} (e : Same H H') : Out M H H' := fun b o h _ => e b o h
theorem Out.refl {M : Addr → Prop} {H : Hp} : Out M H H := fun _ _ h _ => h
theorem Out.trans {M : Addr → Prop} {H H1 H2 : Hp} (a : Out M H H1) (b : Out M H1 H2) : Out M H H2 := fun c o h m => b c o (a c o h m) m
theorem Out.mono {M M' : Addr → Prop} {H H1 : Hp} (a : Out M H H1) (h : ∀ b, M b → M' b) : Out M' H H1 := fun c o e m => a c o e fun z => m (h c z)
theorem Out.at {M : Addr → Prop} {H H' : Hp} {b : Addr} {o : HO} (a : Out M H H') (h : H b = some o) (m : ¬ M b) : H' b = some o := a b o h m
theorem Out.trans2 {M M' : Addr → Prop} {H H1 H2 : Hp} (a : Out M H H1) (b : Out M' H1 H2) (m : ∀ x, M' x → M x ∨ H x = none) : Out M H H2 := fun c o e z => b c o (a c o e z) fun w => by
  rcases m c w with q | q
  · exact z q
  · rw [e] at q
    cases q
/-- one address alone -/
def Is (a : Addr) : Addr → Prop := fun b => b = a
theorem out_upd {a : Addr} {H : Hp} {o : HO} : Out (Is a) H (upd H a o) := fun b u h m => by
  rw [upd_ne m]
  exact h
theorem rd_out {M : Addr → Prop} {H H' : Hp} {a : Addr} {u : HO} (e : Out M H H') (m : ¬ M a) (h : Rd H a u) : Rd H' a u := by
  rcases h with h | ⟨o, h⟩
  · exact .inl (e _ _ h m)
  · exact .inr ⟨o, e _ _ h m⟩
theorem sql_out {K : PySem.W.Frag} {M : Addr → Prop} {H H' : Hp} {a : Addr} {xs : List V} (e : Out M H H') (m : ¬ M a) (h : SqL K H a xs) : SqL K H' a xs := by
  rcases h with h | h
  · exact .inl (rd_out e m h)
  · exact .inr h
theorem free_back {H H' : Hp} {p : Addr} (e : Same H H') (h : H' p = none) : H p = none := e.free h
theorem out_free {M : Addr → Prop} {H H' : Hp} {p : Addr} (e : Out M H H') (h : H' p = none) (m : ¬ M p) : H p = none := by
  cases q : H p with
  | none => rfl
  | some o =>
    rw [e p o q m] at h
    cases h
/-- what is wanted of a new object -/
def New (Q : VK) (H : Hp) (o : HO) : Prop := ∀ p, H p = none → Q (.ref p) (upd H p o)
/-! ### attributes by name -/
theorem lk_at {k : Str} {v : V} {r : List (Str × V)} : List.lookup k ((k, v) :: r) = some v := by
  have e : (k == k) = true := beq_self_eq_true k
  simp only [List.lookup, e]
theorem lk_by {k g : Str} {v : V} {r : List (Str × V)} {o : Option V} (h : (k == g) = false) (q : List.lookup k r = o) : List.lookup k ((g, v) :: r) = o := by
  simp only [List.lookup, h]
  exact q
theorem lk_no {k : Str} : List.lookup k ([] : List (Str × V)) = none := rfl
theorem pf_at {f : Str} {v x : V} {r : List (Str × V)} : L2.putF f v ((f, x) :: r) = (f, v) :: r := if_pos rfl
theorem pf_by {f g : Str} {v x : V} {r r' : List (Str × V)} (h : ¬ g = f) (q : L2.putF f v r = r') : L2.putF f v ((g, x) :: r) = (g, x) :: r' := (if_neg h).trans (congrArg _ q)
theorem pf_nil {f : Str} {v : V} : L2.putF f v [] = [(f, v)] := rfl
local macro_rules | `(tactic| walk_at "lk") => `(tactic| first | exact lk_at | exact lk_no | ((refine' lk_by (by decide +kernel) ?wq); (case wq => walk_at "lk")))
local macro_rules | `(tactic| walk_at "pf") => `(tactic| first | exact pf_at | exact pf_nil | ((refine' pf_by (by decide +kernel) ?wq); (case wq => walk_at "pf")))
section
variable {K : PySem.W.Frag} {σ : L2.St} {H : Hp} {Q : VK} {D : Ends} {ta tb te : TE} {t u : TS} {v : V} {i : Nat}
/-! ### what is to be shown of a reading, by its head -/
theorem w_var (h : σ[i]? = some (some v)) (k : Q v H) : tVar i σ H Q := ⟨v, h, k⟩
theorem w_c (k : Q v H) : tC v σ H Q := k
theorem w_op {r : R2} (k : ta σ H fun x H1 => tb σ H1 fun y H2 => r x y H2 Q) : tOp r ta tb σ H Q := k
theorem w_un {r : V → Hp → VK → Prop} (k : ta σ H fun x H1 => r x H1 Q) : tUn r ta σ H Q := k
theorem w_i0 {g : Int → Int → V} {a b : Int} (k : Q (g a b) H) : rI0 g (.int a) (.int b) H Q := ⟨a, b, rfl, rfl, k⟩
theorem w_i {C : Int → Int → Prop} {g : Int → Int → V} {a b : Int} (h : C a b) (k : Q (g a b) H) : rI C g (.int a) (.int b) H Q := ⟨a, b, rfl, rfl, h, k⟩
theorem w_neg {g : Int → V} {a : Int} (k : Q (g a) H) : rU g (.int a) H Q := ⟨a, rfl, k⟩
theorem w_eq {x y : V} (h : scal x y = true) (k : Q (.bl (decide (x = y))) H) : rEq x y H Q := ⟨h, k⟩
theorem w_ne {x y : V} (h : scal x y = true) (k : Q (.bl (!decide (x = y))) H) : rNe x y H Q := ⟨h, k⟩
theorem w_tup {t : TA} (k : t σ H fun xs H1 => xs.length ≤ sizeLine ∧ New Q H1 (.tup xs)) : tTup t σ H Q := k
theorem w_lst {t : TA} (k : t σ H fun xs H1 => xs.length ≤ sizeLine ∧ New Q H1 (.lst xs)) : tLst t σ H Q := k
/-- a new object -/
theorem w_new {o : HO} (k : ∀ p H', H p = none → Same H H' → H' p = some o → Q (.ref p) H') : New Q H o := fun p h => k p _ h (same_upd h) upd_same
theorem w_sll {a : Addr} {xs : List V} {lo hi : Option Int} (h : SqL K H a xs) (k : New Q H (.lst (cutV xs lo hi))) : rSlL K (.ref a) lo hi H Q := ⟨a, xs, rfl, h, k⟩
theorem w_listof {a : Addr} {xs : List V} (h : SqL K H a xs) (k : New Q H (.lst xs)) : rListOf K [.ref a] H Q := ⟨a, xs, rfl, .inl h, k⟩
theorem w_cat {a b : Addr} {xs ys : List V} (h : H a = some (.lst xs)) (h' : H b = some (.lst ys)) (z : xs.length + ys.length ≤ sizeLine) (k : New Q H (.lst (xs ++ ys))) : rCat (.ref a) (.ref b) H Q := ⟨a, b, xs, ys, rfl, rfl, h, h', z, k⟩
theorem w_rep {a : Addr} {xs : List V} {n : Int} (h : H a = some (.lst xs)) (h0 : -(2 ^ 63) ≤ n) (h1 : n < 2 ^ 63) (z : xs.length * n.toNat ≤ sizeLine) (k : New Q H (.lst (List.replicate n.toNat xs).flatten)) : rRep (.ref a) (.int n) H Q := ⟨a, n, xs, rfl, rfl, h, h0, h1, z, k⟩
theorem w_nil {Q : List V → Hp → Prop} (k : Q [] H) : tNil σ H Q := k
theorem w_cons {t : TA} {Q : List V → Hp → Prop} (k : ta σ H fun x H1 => t σ H1 fun xs H2 => Q (x :: xs) H2) : tCons ta t σ H Q := k
theorem w_cb {r : RCall} {t : TA} (k : t σ H fun xs H1 => r xs H1 Q) : tCB r t σ H Q := k
theorem w_call {sp : Sp} {dvs : List V} {E : XK} {t : TA} (k : t σ H fun xs H1 => sp (xs ++ dvs) H1 Q E) : tCall sp dvs E t σ H Q := k
theorem w_seq (k : t { D with nx := u D } σ H) : tSeq t u D σ H := k
theorem w_asg {g : TG} (k : te σ H fun x H1 => g x σ H1 D.nx) : tAsg te g D σ H := k
theorem w_name {P : L2.St → Hp → Prop} (k : P (σ.set i (some v)) H) : gName i v σ H P := k
theorem w_ret (k : te σ H D.rt) : tRet te D σ H := k
theorem w_retN (k : D.rt .non H) : tRetN D σ H := k
theorem w_drop (k : te σ H fun _ H1 => D.nx σ H1) : tDrop te D σ H := k
theorem w_next (k : D.nx σ H) : tNext D σ H := k
theorem w_if {c : TT} (k : c σ H fun b H1 => if b = true then t D σ H1 else u D σ H1) : tIfS c t u D σ H := k
theorem w_ifE {c : TT} (k : c σ H fun b H1 => if b = true then ta σ H1 Q else tb σ H1 Q) : tIf c ta tb σ H Q := k
theorem w_test {P : Bool → Hp → Prop} (k : te σ H fun x H1 => ∃ c, x = .bl c ∧ P c H1) : tTest te σ H P := k
theorem w_B {P : Bool → Hp → Prop} (k : te σ H fun x H1 => ∃ c, x = .bl c ∧ P c H1) : tB te σ H P := k
theorem w_bl {c : Bool} {P : Bool → Prop} (k : P c) : ∃ d, V.bl c = .bl d ∧ P d := ⟨c, rfl, k⟩
theorem w_not {c : TT} {P : Bool → Hp → Prop} (k : c σ H fun b H1 => P (!b) H1) : tNot c σ H P := k
theorem w_and {c d : TT} {P : Bool → Hp → Prop} (k : c σ H fun b H1 => if b = true then d σ H1 P else P false H1) : tAnd c d σ H P := k
theorem w_or {c d : TT} {P : Bool → Hp → Prop} (k : c σ H fun b H1 => if b = true then P true H1 else d σ H1 P) : tOr c d σ H P := k
theorem w_andV (k : ta σ H fun x H1 => ∃ c, x = .bl c ∧ if c = true then tb σ H1 Q else Q (.bl false) H1) : tAndV ta tb σ H Q := k
theorem w_orV (k : ta σ H fun x H1 => ∃ c, x = .bl c ∧ if c = true then Q (.bl true) H1 else tb σ H1 Q) : tOrV ta tb σ H Q := k
theorem w_notV (k : ta σ H fun x H1 => ∃ c, x = .bl c ∧ Q (.bl (!c)) H1) : tNotV ta σ H Q := k
theorem w_isN (k : ta σ H fun x H1 => Q (.bl (decide (x = .non))) H1) : tIsN ta σ H Q := k
theorem w_notN (k : ta σ H fun x H1 => Q (.bl (!decide (x = .non))) H1) : tNotN ta σ H Q := k
theorem w_yes {P : Bool → Hp → Prop} (k : P true H) : tYes σ H P := k
theorem w_fld {f : Str} (k : ta σ H fun x H1 => ∃ a C dx fs v, x = .ref a ∧ H1 a = some (.ins C dx fs) ∧ Cls K C ∧ NoAttr K C f ∧ fs.lookup f = some v ∧ Q v H1) : tFld K ta f σ H Q := k
theorem w_fldA {P : V → Prop} {f : Str} {a C dx : Addr} {fs : List (Str × V)} (h : H a = some (.ins C dx fs)) (c : Cls K C) (n : NoAttr K C f) (l : fs.lookup f = some v) (k : P v) :
    ∃ a' C dx fs v, V.ref a = .ref a' ∧ H a' = some (.ins C dx fs) ∧ Cls K C ∧ NoAttr K C f ∧ fs.lookup f = some v ∧ P v := ⟨a, C, dx, fs, v, rfl, h, c, n, l, k⟩
theorem w_sfld {f : Str} (k : tb σ H fun y H1 => ta σ H1 fun x H2 => ∃ a C dx fs, x = .ref a ∧ H2 a = some (.ins C dx fs) ∧ Cls K C ∧ NoAttr K C f ∧ fs.length < 1000 ∧ D.nx σ (upd H2 a (.ins C dx (L2.putF f y fs)))) : sFld K ta tb f D σ H := k
theorem w_sfldA {P : Hp → Prop} {f : Str} {a C dx : Addr} {fs fs' : List (Str × V)} (h : H a = some (.ins C dx fs)) (c : Cls K C) (n : NoAttr K C f) (z : fs.length < 1000) (l : L2.putF f v fs = fs') (k : P (upd H a (.ins C dx fs'))) :
    ∃ a' C dx fs, V.ref a = .ref a' ∧ H a' = some (.ins C dx fs) ∧ Cls K C ∧ NoAttr K C f ∧ fs.length < 1000 ∧ P (upd H a' (.ins C dx (L2.putF f v fs))) := ⟨a, C, dx, fs, rfl, h, c, n, z, by rw [l]; exact k⟩
theorem w_sfldB {P : Hp → Prop} {f : Str} {a C dx : Addr} {fs fs' : List (Str × V)} (c : Cls K C) (n : NoAttr K C f) (z : fs.length < 1000) (l : L2.putF f v fs = fs') (k : P (upd H a (.ins C dx fs'))) :
    ∃ a' C' dx' gs, V.ref a = .ref a' ∧ upd H a (.ins C dx fs) a' = some (.ins C' dx' gs) ∧ Cls K C' ∧ NoAttr K C' f ∧ gs.length < 1000 ∧ P (upd (upd H a (.ins C dx fs)) a' (.ins C' dx' (L2.putF f v gs))) := ⟨a, C, dx, fs, rfl, upd_same, c, n, z, by rw [l, upd_upd]; exact k⟩
theorem w_meth {C : Addr} {m : Str} {sp : Sp} {dvs : List V} {E : XK} {t : TA} (k : ta σ H fun x H1 => ∃ a dx fs, x = .ref a ∧ H1 a = some (.ins C dx fs) ∧ fs.lookup m = none ∧ t σ H1 fun vs H2 => sp (x :: (vs ++ dvs)) H2 Q E) : tMeth C m sp dvs E ta t σ H Q := k
theorem w_methA {P : Prop} {C a dx : Addr} {m : Str} {fs : List (Str × V)} (h : H a = some (.ins C dx fs)) (l : fs.lookup m = none) (k : P) : ∃ a' dx fs, V.ref a = .ref a' ∧ H a' = some (.ins C dx fs) ∧ fs.lookup m = none ∧ P := ⟨a, dx, fs, rfl, h, l, k⟩
theorem w_oneOf {ι : Type} {R : ι → Addr} {m : Str} {sp : ι → Sp} {E : XK} {t : TA} (k : ta σ H fun x H1 => ∃ a i dx fs, x = .ref a ∧ H1 a = some (.ins (R i) dx fs) ∧ fs.lookup m = none ∧ t σ H1 fun vs H2 => sp i (x :: vs) H2 Q E) : tOneOf R m sp E ta t σ H Q := k
theorem w_make {C : Addr} {sp : Sp} {dvs : List V} {E : XK} {t : TA} (k : t σ H fun vs H1 => ∀ x dx, H1 x = none → H1 dx = none → dx ≠ x → sp (.ref x :: (vs ++ dvs)) (upd (upd H1 dx (.own x)) x (.ins C dx [])) (fun v H2 => v = .non ∧ Q (.ref x) H2) E) : tMake C sp dvs E t σ H Q := k
theorem w_dget2 {ty tx : TE} (k : ta σ H fun x H1 => ∃ a, x = .ref a ∧ IsD H1 a ∧ ty σ H1 fun y H2 => tx σ H2 fun z H3 => ∃ o, DGet H3 a y o ∧ Q (o.getD z) H3) : tDGet2 ta ty tx σ H Q := k
theorem w_star {t : TA} {P : List V → Hp → Prop} (k : ta σ H fun x H1 => ∃ p xs, x = V.ref p ∧ (SqT K H1 p xs ∨ SqL K H1 p xs) ∧ t σ H1 fun ys H2 => P (xs ++ ys) H2) : tStar K ta t σ H P := k
theorem w_dput {td ty : TE} (k : tb σ H fun v H1 => td σ H1 fun x H2 => ty σ H2 fun y H3 => ∃ a H4, x = .ref a ∧ DPut H3 a y v H4 ∧ D.nx σ H4) : sDPut td ty tb D σ H := k
theorem w_dnewK (k : New Q H (.dK [])) : tDNewK σ H Q := k
theorem w_match {tc : TCs} (k : te σ H fun v H1 => tc v D σ H1) : tMatch te tc D σ H := k
theorem w_case {tm : TM} {is : List Nat} {b : TS} {r : TCs} (k : tm v σ H fun ro H1 => match ro with | none => r v D σ H1 | some vs => b D (setAll σ is vs) H1) : csCons tm is b r v D σ H := k
theorem w_mhit {n : Nat} {t : TMs} {a : Addr} {xs : List V} {P : Option (List V) → Hp → Prop} (h : SqT K H a xs) (l : xs.length = n) (k : t xs σ H P) : mSeq K n t (.ref a) σ H P := ⟨a, xs, rfl, h, by rw [if_pos l]; exact k⟩
theorem w_mmiss {n : Nat} {t : TMs} {a : Addr} {xs : List V} {P : Option (List V) → Hp → Prop} (h : SqT K H a xs) (l : xs.length ≠ n) (k : P none H) : mSeq K n t (.ref a) σ H P := ⟨a, xs, rfl, h, by rw [if_neg l]; exact k⟩
theorem w_mcons {t : TM} {u : TMs} {r : List V} {P : Option (List V) → Hp → Prop} (k : t v σ H fun ro H1 => match ro with
    | none => P none H1
    | some a => u r σ H1 fun ro2 H2 => match ro2 with
      | none => P none H2
      | some b => P (some (a ++ b)) H2) : msCons t u (v :: r) σ H P := ⟨v, r, rfl, k⟩
theorem w_mnil {P : Option (List V) → Hp → Prop} (k : P (some []) H) : msNil [] σ H P := ⟨rfl, k⟩
theorem w_mcap {P : Option (List V) → Hp → Prop} (k : P (some [v]) H) : mCap v σ H P := k
theorem w_many {P : Option (List V) → Hp → Prop} (k : P (some []) H) : mAny v σ H P := k
theorem w_myes {s : Str} {P : Option (List V) → Hp → Prop} (k : P (some []) H) : mVal (.str s) (.str s) σ H P := ⟨rfl, by rw [decide_eq_true rfl, if_pos rfl]; exact k⟩
theorem w_mno {s r : Str} {P : Option (List V) → Hp → Prop} (h : decide (V.str r = V.str s) = false) (k : P none H) : mVal (.str s) (.str r) σ H P := ⟨rfl, by rw [h, if_neg (by decide)]; exact k⟩
/-! ### lists, tuples -/
theorem w_ixl {a : Addr} {xs : List V} {n : Int} (h : SqL K H a xs) (e : atI xs n = some v) (k : Q v H) : rIxL K (.ref a) (.int n) H Q := ⟨a, xs, n, v, rfl, rfl, h, e, k⟩
theorem w_ixt {a : Addr} {xs : List V} {n : Int} (h : SqT K H a xs) (e : atI xs n = some v) (k : Q v H) : rIxT K (.ref a) (.int n) H Q := ⟨a, xs, n, v, rfl, rfl, h, e, k⟩
theorem w_len {a : Addr} {xs : List V} (h : SqL K H a xs ∨ SqT K H a xs) (k : Q (.int (xs.length : Int)) H) : rLenQ K [.ref a] H Q := ⟨a, xs, rfl, h, k⟩
theorem w_sub {to ti : TE} {ts : TSet} {P : L2.St → Hp → Prop} (k : to σ H fun o H1 => ti σ H1 fun i H2 => ts o i v H2 fun H3 => P σ H3) : gSub to ti ts v σ H P := k
theorem w_setl {a : Addr} {xs ys : List V} {n : Int} {j : Nat} {P : Hp → Prop} (h : H a = some (.lst xs)) (e : ixN xs.length n = some j) (l : xs.set j v = ys) (k : P (upd H a (.lst ys))) : rSetL (.ref a) (.int n) v H P := ⟨a, xs, n, j, rfl, rfl, h, e, by rw [l]; exact k⟩
theorem w_app {a : Addr} {xs : List V} (h : H a = some (.lst xs)) (z : xs.length < sizeLine) (k : Q .non (upd H a (.lst (xs ++ [v])))) : rAppend (.ref a) [v] H Q := ⟨a, xs, v, rfl, rfl, h, z, k⟩
theorem w_bm {T : String} {r : V → List V → Hp → VK → Prop} {t : TA} (k : ta σ H fun x H1 => tyV K T x H1 ∧ t σ H1 fun xs H2 => r x xs H2 Q) : tBM K T r ta t σ H Q := k
theorem w_sl {r : V → Option Int → Option Int → Hp → VK → Prop} {tl th : TO} (k : ta σ H fun x H1 => tl σ H1 fun l H2 => th σ H2 fun u H3 => r x l u H3 Q) : tSl r ta tl th σ H Q := k
theorem w_nopart {P : Option Int → Hp → Prop} (k : P none H) : tNoPart σ H P := k
theorem w_part {P : Option Int → Hp → Prop} (k : te σ H fun x H1 => ∃ i, x = .int i ∧ P (some i) H1) : tPart te σ H P := k
theorem w_int {n : Int} {P : Int → Prop} (k : P n) : ∃ i, V.int n = .int i ∧ P i := ⟨n, rfl, k⟩
theorem w_isi {x : V} {ty' u : Value} {b : Bool} {n : String} (e : u = .type n) (t : TyX K H x ty') (h : PySem.W.kitOne K ty' u = some b) (k : Q (.bl b) H) : rIsi K [x, .ty n] H Q := ⟨x, .ty n, ty', u, b, rfl, by rw [e]; exact .ty n, t, h, k⟩
/-- a test whose answer is known -/
theorem w_ifT {c : Prop} [Decidable c] {A B : Prop} (h : c) (k : A) : if decide c = true then A else B := by
  rw [decide_eq_true h, if_pos rfl]
  exact k
theorem w_ifF {c : Prop} [Decidable c] {A B : Prop} (h : ¬ c) (k : B) : if decide c = true then A else B := by
  rw [decide_eq_false h, if_neg (by decide)]
  exact k
theorem w_if2 {c : Prop} [Decidable c] {A B : Prop} (k1 : c → A) (k2 : ¬ c → B) : if decide c = true then A else B := by
  by_cases h : c
  · exact w_ifT h (k1 h)
  · exact w_ifF h (k2 h)
theorem w_ifn {c : Bool} {A B : Prop} (k : if c = true then B else A) : if (!c) = true then A else B := by
  cases c with
  | true =>
    rw [if_pos rfl] at k
    rw [if_neg (by decide)]
    exact k
  | false =>
    rw [if_neg (by decide)] at k
    rw [if_pos (by decide)]
    exact k
theorem w_ift {A B : Prop} (k : A) : if true = true then A else B := by
  rw [if_pos rfl]
  exact k
theorem w_iff {A B : Prop} (k : B) : if false = true then A else B := by
  rw [if_neg (by decide)]
  exact k
end
theorem inV_int (i : Int) (l : List Int) : inV (.int i) (l.map V.int) = decide (i ∈ l) := by
  unfold inV
  rw [List.any_map]
  have e : ((fun y => eqV y (V.int i)) ∘ V.int) = fun (y : Int) => y == i := by
    funext y
    rfl
  rw [e, Bool.eq_iff_iff, List.any_eq_true, decide_eq_true_iff]
  constructor
  · rintro ⟨y, hy, e⟩
    rw [← eq_of_beq e]
    exact hy
  · intro h
    exact ⟨i, h, beq_self_eq_true i⟩
theorem flat_ints (l : List Int) : (l.map V.int).all flatV = true := by
  rw [List.all_map]
  exact List.all_eq_true.mpr fun _ _ => rfl
theorem w_inl {K : PySem.W.Frag} {H : Hp} {Q : VK} {neg : Bool} {a : Addr} {i : Int} {l : List Int} (h : SqL K H a (l.map V.int)) (k : Q (.bl (if neg then !decide (i ∈ l) else decide (i ∈ l))) H) : rIn K neg (.int i) (.ref a) H Q :=
  ⟨a, _, rfl, .inl h, rfl, flat_ints l, by rw [inV_int]; exact k⟩
theorem w_inT {K : PySem.W.Frag} {H : Hp} {Q : VK} {neg : Bool} {a : Addr} {i : Int} {l : List Int} (h : SqT K H a (l.map V.int)) (k : Q (.bl (if neg then !decide (i ∈ l) else decide (i ∈ l))) H) : rIn K neg (.int i) (.ref a) H Q :=
  ⟨a, _, rfl, .inr h, rfl, flat_ints l, by rw [inV_int]; exact k⟩
theorem w_isiB {K : PySem.W.Frag} {H : Hp} {Q : VK} {x : V} {a b : String} {r : Bool} (t : TyOf K H x (.type a)) (h : kitB a b = some r) (k : Q (.bl r) H) : rIsi K [x, .ty b] H Q := ⟨x, .ty b, .type a, .type b, r, rfl, .ty b, .base t, kit_ty h, k⟩
theorem at_getD {ls : List Int} {n : Int} (h0 : 0 ≤ n) (h1 : n < (ls.length : Int)) : atI (ls.map V.int) n = some (.int (ls.getD n.toNat 0)) := by
  have hj : n.toNat < ls.length := by omega
  have e : n = ((n.toNat : Nat) : Int) := by omega
  have q := atI_nat (xs := ls.map V.int) (j := n.toNat) (v := .int ls[n.toNat]) (by rw [List.getElem?_map, List.getElem?_eq_getElem hj]; rfl)
  rw [← e] at q
  rw [q, List.getD_eq_getElem?_getD, List.getElem?_eq_getElem hj]
  rfl
theorem w_max2 {H : Hp} {Q : VK} {i j : Int} (k : Q (.int (if j > i then j else i)) H) : rMax2I [.int i, .int j] H Q := ⟨i, j, rfl, k⟩
theorem w_isiY {K : PySem.W.Frag} {H : Hp} {Q : VK} {x : V} {a b : String} (t : TyOf K H x (.type a)) (h : kitB a b = some true) (k : Q (.bl true) H) : rIsi K [x, .ty b] H Q := w_isiB t h k
theorem w_isiN {K : PySem.W.Frag} {H : Hp} {Q : VK} {x : V} {a b : String} (t : TyOf K H x (.type a)) (h : kitB a b = some false) (k : Q (.bl false) H) : rIsi K [x, .ty b] H Q := w_isiB t h k
theorem kit_tl1 {K : PySem.W.Frag} : PySem.W.kitAny K (.type "list") [.type "tuple", .type "list"] = some true := by
  unfold PySem.W.kitAny
  rw [kit_ty (show kitB "list" "tuple" = some false by decide +kernel)]
  show PySem.W.kitAny K (.type "list") [.type "list"] = some true
  unfold PySem.W.kitAny
  rw [kit_ty (show kitB "list" "list" = some true by decide +kernel)]
theorem kit_tl2 {K : PySem.W.Frag} : PySem.W.kitAny K (.type "tuple") [.type "tuple", .type "list"] = some true := by
  unfold PySem.W.kitAny
  rw [kit_ty (show kitB "tuple" "tuple" = some true by decide +kernel)]
theorem w_isiTL {K : PySem.W.Frag} {H : Hp} {Q : VK} {x : V} {p : Addr} {t : Value} (hp : H p = some (.tup [.ty "tuple", .ty "list"])) (ty' : TyOf K H x t) (h : PySem.W.kitAny K t [.type "tuple", .type "list"] = some true) (k : Q (.bl true) H) : rIsiT K [x, .ref p] H Q :=
  ⟨x, p, _, t, _, true, rfl, hp, .cons (.ty _) (.cons (.ty _) .nil), .base ty', h, k⟩
theorem small_le {n : Nat} (h : n ≤ 1000000) : n ≤ sizeLine := Nat.le_trans h (by decide)
theorem small_lt {n : Nat} (h : n ≤ 1000000) : n < sizeLine := Nat.lt_of_le_of_lt h (by decide)
/-! ### comprehensions -/
def lcK (J : It) (g : TG) (tt : TT) (te : TE) (vs : List Nat) (σ : L2.St) (H1 : Hp) (Q : VK) : Prop := ∀ D, H1 D = none → ∃ W : Nat → Nat → Hp → Prop, (∃ m, W 0 m (upd H1 D (.lst []))) ∧ ∀ i m H, W i m H →
  (J.stop i H ∧ Q (.ref D) H) ∨ (J.go i H ∧ ∃ Nx : Hp → Prop, (∀ H', Nx H' → ∃ m', m' < m ∧ W (i + 1) m' H') ∧ ∀ x H', J.yld i H x H' → g x (wipe σ vs) H' fun σ2 H2 => wipe σ2 vs = wipe σ vs ∧ tt σ2 H2 fun b H3 =>
    if b = true then te σ2 H3 fun y H4 => ∃ acc, H4 D = some (.lst acc) ∧ acc.length < sizeLine ∧ Nx (upd H4 D (.lst (acc ++ [y]))) else Nx H3)
def forK (J : It) (g : TG) (tb : TS) (D : Ends) (σ : L2.St) (H1 : Hp) : Prop := ∃ W : Nat → Nat → L2.St → Hp → Prop, (∃ m, W 0 m σ H1) ∧ ∀ i m σ H, W i m σ H →
  (J.stop i H ∧ D.nx σ H) ∨ (J.go i H ∧ ∃ N : L2.St → Hp → Prop, (∀ σ' H', N σ' H' → ∃ m', m' < m ∧ W (i + 1) m' σ' H') ∧ ∀ x H', J.yld i H x H' → g x σ H' fun σ2 H2 => tb { D with nx := N, ct := N, bk := D.nx } σ2 H2)
theorem take_more {α : Type} : ∀ {l : List α} {i : Nat} {x : α}, l[i]? = some x → l.take (i + 1) = l.take i ++ [x]
  | [], i, x, h => by simp at h
  | a :: l, 0, x, h => by
    have e : a = x := Option.some.inj h
    subst e
    rfl
  | a :: l, i + 1, x, h => by
    have ih := take_more (l := l) (i := i) (x := x) h
    show a :: l.take (i + 1) = a :: l.take i ++ [x]
    rw [ih]
    rfl
section
variable {K : PySem.W.Frag} {σ : L2.St} {H : Hp} {Q : VK} {D : Ends} {te : TE} {tt : TT} {tb : TS} {g : TG} {vs : List Nat} {j : Nat}
theorem w_lc {wi : TI} (k : wi σ H fun J H1 => lcK J g tt te vs σ H1 Q) : tLc wi g tt te vs σ H Q := k
theorem w_for {wi : TI} (k : wi σ H fun J H1 => forK J g tb D σ H1) : tFor wi g tb D σ H := k
theorem w_ilist {tl : TE} {R : It → Hp → Prop} (k : tl σ H fun x H1 => ∃ a, x = .ref a ∧ (∃ xs, SqL K H1 a xs) ∧ R (Itl K a) H1) : iList K tl σ H R := k
theorem w_irng1 {ta : TA} {R : It → Hp → Prop} (k : ta σ H fun vs H1 => ∃ j : Int, vs = [.int j] ∧ -(2 ^ 62) ≤ j ∧ j < 2 ^ 62 ∧ R (Itr 0 j.toNat) H1) : iRng1 ta σ H R := k
theorem w_irng2 {ta : TA} {R : It → Hp → Prop} (k : ta σ H fun vs H1 => ∃ i j : Int, vs = [.int i, .int j] ∧ (-(2 ^ 62) ≤ i ∧ i < 2 ^ 62 ∧ -(2 ^ 62) ≤ j ∧ j < 2 ^ 62) ∧ R (Itr i (j - i).toNat) H1) : iRng2 ta σ H R := k
theorem w_irng3 {ta : TA} {R : It → Hp → Prop} (k : ta σ H fun vs H1 => ∃ (i j c : Int) (n : Nat), vs = [.int i, .int j, .int c] ∧ RgC i j c n ∧ R (Itc i c n) H1) : iRng3 ta σ H R := k
/-- what a turn of a comprehension adds -/
def added (f : V → Bool) (g : V → V) (l : List V) : List V := (l.filter f).map g
theorem added_len (f : V → Bool) (g : V → V) (l : List V) : (added f g l).length ≤ l.length := by
  unfold added
  rw [List.length_map]
  exact List.length_filter_le _ _
theorem added_more (f : V → Bool) (g : V → V) {l : List V} {i : Nat} {x : V} (h : l[i]? = some x) : added f g (l.take (i + 1)) = if f x = true then added f g (l.take i) ++ [g x] else added f g (l.take i) := by
  unfold added
  rw [take_more h, List.filter_append, List.map_append, List.filter_cons]
  by_cases c : f x = true
  · rw [if_pos c, if_pos c]
    rfl
  · rw [if_neg c, if_neg c]
    simp
theorem lc_turn {f : V → Bool} {gv : V → V} {src : List V} {i : Nat} {x : V} {Dl : Addr} {H0 H' : Hp} {σ2 : L2.St} (hi : src[i]? = some x) (hz : src.length < sizeLine)
    (ht : ∀ H', Same H0 H' → ∀ R : Bool → Hp → Prop, (∀ H2, Same H' H2 → R (f x) H2) → tt σ2 H' R) (he : f x = true → ∀ H', Same H0 H' → ∀ R : VK, (∀ H2, Same H' H2 → R (gv x) H2) → te σ2 H' R)
    (p : H0 Dl = none ∧ Same H0 H' ∧ H' Dl = some (.lst (added f gv (src.take i)))) :
    tt σ2 H' fun b H3 => if b = true then te σ2 H3 fun y H4 => ∃ acc, H4 Dl = some (.lst acc) ∧ acc.length < sizeLine ∧ (H0 Dl = none ∧ Same H0 (upd H4 Dl (.lst (acc ++ [y]))) ∧ upd H4 Dl (.lst (acc ++ [y])) Dl = some (.lst (added f gv (src.take (i + 1)))))
      else (H0 Dl = none ∧ Same H0 H3 ∧ H3 Dl = some (.lst (added f gv (src.take (i + 1))))) := by
  obtain ⟨p1, p2, p3⟩ := p
  refine ht H' p2 _ fun H3 e3 => ?_
  have hl : (added f gv (src.take i)).length < sizeLine := by
    have h1 := added_len f gv (src.take i)
    have h2 : (src.take i).length ≤ src.length := List.length_take_le' _ _
    omega
  cases c : f x with
  | true =>
    rw [if_pos rfl]
    refine he c H3 (p2.trans e3) _ fun H4 e4 => ⟨_, e4 _ _ (e3 _ _ p3), hl, p1, fun b o hb => ?_, ?_⟩
    · rw [upd_ne (fun z => by rw [z, p1] at hb; cases hb)]
      exact e4 _ _ (e3 _ _ (p2 b o hb))
    · rw [upd_same, added_more f gv hi, if_pos c]
  | false =>
    rw [if_neg (by decide)]
    refine ⟨p1, p2.trans e3, ?_⟩
    rw [added_more f gv hi, if_neg (by rw [c]; decide)]
    exact e3 _ _ p3
theorem w_lcl {a : Addr} {src : List V} (f : V → Bool) (gv : V → V) (hx : SqL K H a src) (hz : src.length < sizeLine) (hw : ∀ x, wipe ((wipe σ vs).set j (some x)) vs = wipe σ vs)
    (ht : ∀ x, x ∈ src → ∀ H', Same H H' → ∀ R : Bool → Hp → Prop, (∀ H2, Same H' H2 → R (f x) H2) → tt ((wipe σ vs).set j (some x)) H' R) (he : ∀ x, x ∈ src → f x = true → ∀ H', Same H H' → ∀ R : VK, (∀ H2, Same H' H2 → R (gv x) H2) → te ((wipe σ vs).set j (some x)) H' R)
    (k : ∀ p H', H p = none → Same H H' → H' p = some (.lst (added f gv src)) → Q (.ref p) H') : ∃ a', V.ref a = .ref a' ∧ (∃ xs, SqL K H a' xs) ∧ lcK (Itl K a') (gName j) tt te vs σ H Q :=
  ⟨a, rfl, ⟨src, hx⟩, fun Dl hD => lc_list (xs := src) (fun i H' => H Dl = none ∧ Same H H' ∧ H' Dl = some (.lst (added f gv (src.take i)))) ⟨hD, same_upd hD, upd_same⟩ (fun i H' _ p => p.2.1.seq hx)
    (fun i x H' hi p => ⟨hw x, lc_turn hi hz (fun H1 => ht x (List.mem_of_getElem? hi) H1) (fun c H1 => he x (List.mem_of_getElem? hi) c H1) p⟩)
    (fun H' p => k Dl H' p.1 p.2.1 (by rw [← List.take_length (l := src)]; exact p.2.2))⟩
/-- the ints lo, lo + 1, .. -/
def rangeV (lo : Int) (n : Nat) : List V := (List.range n).map fun (i : Nat) => V.int (lo + (i : Int))
theorem rangeV_at {lo : Int} {n i : Nat} (h : i < n) : (rangeV lo n)[i]? = some (.int (lo + (i : Int))) := by
  unfold rangeV
  rw [List.getElem?_map, List.getElem?_range h]
  rfl
theorem rangeV_len (lo : Int) (n : Nat) : (rangeV lo n).length = n := by
  unfold rangeV
  rw [List.length_map, List.length_range]
theorem lcr {lo : Int} {n : Nat} (f : V → Bool) (gv : V → V) (hz : n < sizeLine) (hw : ∀ x, wipe ((wipe σ vs).set j (some x)) vs = wipe σ vs)
    (ht : ∀ i : Nat, i < n → ∀ H', Same H H' → ∀ R : Bool → Hp → Prop, (∀ H2, Same H' H2 → R (f (.int (lo + (i : Int)))) H2) → tt ((wipe σ vs).set j (some (.int (lo + (i : Int))))) H' R)
    (he : ∀ i : Nat, i < n → f (.int (lo + (i : Int))) = true → ∀ H', Same H H' → ∀ R : VK, (∀ H2, Same H' H2 → R (gv (.int (lo + (i : Int)))) H2) → te ((wipe σ vs).set j (some (.int (lo + (i : Int))))) H' R)
    (k : ∀ p H', H p = none → Same H H' → H' p = some (.lst (added f gv (rangeV lo n))) → Q (.ref p) H') : lcK (Itr lo n) (gName j) tt te vs σ H Q := fun Dl hD =>
  lc_range (lo := lo) (n := n) (fun i H' => H Dl = none ∧ Same H H' ∧ H' Dl = some (.lst (added f gv ((rangeV lo n).take i)))) ⟨hD, same_upd hD, upd_same⟩
    (fun i H' hi p => ⟨hw _, lc_turn (rangeV_at hi) (by rw [rangeV_len]; exact hz) (fun H1 => ht i hi H1) (fun c H1 => he i hi c H1) p⟩)
    (fun H' p => k Dl H' p.1 p.2.1 (by have e := p.2.2; rw [List.take_of_length_le (by rw [rangeV_len]; exact Nat.le_refl n)] at e; exact e))
theorem w_lcr1 {n : Int} (f : V → Bool) (gv : V → V) (h0 : -1000000 ≤ n) (h1 : n ≤ 1000000) (hw : ∀ x, wipe ((wipe σ vs).set j (some x)) vs = wipe σ vs)
    (ht : ∀ i : Nat, (i : Int) < n → ∀ H', Same H H' → ∀ R : Bool → Hp → Prop, (∀ H2, Same H' H2 → R (f (.int (i : Int))) H2) → tt ((wipe σ vs).set j (some (.int (i : Int)))) H' R)
    (he : ∀ i : Nat, (i : Int) < n → f (.int (i : Int)) = true → ∀ H', Same H H' → ∀ R : VK, (∀ H2, Same H' H2 → R (gv (.int (i : Int))) H2) → te ((wipe σ vs).set j (some (.int (i : Int)))) H' R)
    (k : ∀ p H', H p = none → Same H H' → H' p = some (.lst (added f gv (rangeV 0 n.toNat))) → Q (.ref p) H') : ∃ m : Int, [V.int n] = [.int m] ∧ -(2 ^ 62) ≤ m ∧ m < 2 ^ 62 ∧ lcK (Itr 0 m.toNat) (gName j) tt te vs σ H Q :=
  ⟨n, rfl, by omega, by omega, lcr f gv (Nat.lt_of_le_of_lt (show n.toNat ≤ 1000000 by omega) (by decide)) hw (fun i hi H1 s R r => by
      have e : (0 : Int) + (i : Int) = (i : Int) := Int.zero_add _
      simp only [e] at r ⊢
      exact ht i (by omega) H1 s R r) (fun i hi c H1 s R r => by
      have e : (0 : Int) + (i : Int) = (i : Int) := Int.zero_add _
      simp only [e] at c r ⊢
      exact he i (by omega) c H1 s R r) k⟩
theorem w_lcr2 {lo n : Int} (f : V → Bool) (gv : V → V) (h0 : -1000000 ≤ lo ∧ lo ≤ 1000000) (h1 : -1000000 ≤ n ∧ n ≤ 1000000) (hw : ∀ x, wipe ((wipe σ vs).set j (some x)) vs = wipe σ vs)
    (ht : ∀ i : Nat, lo + (i : Int) < n → ∀ H', Same H H' → ∀ R : Bool → Hp → Prop, (∀ H2, Same H' H2 → R (f (.int (lo + (i : Int)))) H2) → tt ((wipe σ vs).set j (some (.int (lo + (i : Int))))) H' R)
    (he : ∀ i : Nat, lo + (i : Int) < n → f (.int (lo + (i : Int))) = true → ∀ H', Same H H' → ∀ R : VK, (∀ H2, Same H' H2 → R (gv (.int (lo + (i : Int)))) H2) → te ((wipe σ vs).set j (some (.int (lo + (i : Int))))) H' R)
    (k : ∀ p H', H p = none → Same H H' → H' p = some (.lst (added f gv (rangeV lo (n - lo).toNat))) → Q (.ref p) H') :
    ∃ i m : Int, [V.int lo, V.int n] = [.int i, .int m] ∧ (-(2 ^ 62) ≤ i ∧ i < 2 ^ 62 ∧ -(2 ^ 62) ≤ m ∧ m < 2 ^ 62) ∧ lcK (Itr i (m - i).toNat) (gName j) tt te vs σ H Q :=
  ⟨lo, n, rfl, ⟨by omega, by omega, by omega, by omega⟩, lcr f gv (Nat.lt_of_le_of_lt (show (n - lo).toNat ≤ 2000000 by omega) (by decide)) hw (fun i hi H1 s R r => ht i (by omega) H1 s R r) (fun i hi c H1 s R r => he i (by omega) c H1 s R r) k⟩
theorem w_forl {a : Addr} {xs : List V} (Pv : Nat → L2.St → Hp → Prop) (hx : SqL K H a xs) (h0 : Pv 0 σ H) (hl : ∀ i σ H, i ≤ xs.length → Pv i σ H → SqL K H a xs)
    (hs : ∀ i x σ H, xs[i]? = some x → Pv i σ H → g x σ H fun σ2 H2 => tb { D with nx := Pv (i + 1), ct := Pv (i + 1), bk := D.nx } σ2 H2) (hd : ∀ σ H, Pv xs.length σ H → D.nx σ H) :
    ∃ a', V.ref a = .ref a' ∧ (∃ xs, SqL K H a' xs) ∧ forK (Itl K a') g tb D σ H := ⟨a, rfl, ⟨xs, hx⟩, for_list Pv h0 hl hs hd⟩
theorem w_forr1 {n : Int} (Pv : Nat → L2.St → Hp → Prop) (hn : -1000000 ≤ n ∧ n ≤ 1000000) (h0 : Pv 0 σ H)
    (hs : ∀ (i : Nat) σ H, (i : Int) < n → Pv i σ H → g (.int (i : Int)) σ H fun σ2 H2 => tb { D with nx := Pv (i + 1), ct := Pv (i + 1), bk := D.nx } σ2 H2) (hd : ∀ σ H, Pv n.toNat σ H → D.nx σ H) :
    ∃ m : Int, [V.int n] = [.int m] ∧ -(2 ^ 62) ≤ m ∧ m < 2 ^ 62 ∧ forK (Itr 0 m.toNat) g tb D σ H :=
  ⟨n, rfl, by omega, by omega, for_range (lo := 0) (n := n.toNat) Pv h0 (fun i σ H hi p => by
    have e : (0 : Int) + (i : Int) = (i : Int) := Int.zero_add _
    rw [e]
    exact hs i σ H (by omega) p) hd⟩
theorem w_forr3 {lo hi c : Int} {n : Nat} (hr : RgC lo hi c n) (Pv : Nat → L2.St → Hp → Prop) (h0 : Pv 0 σ H)
    (hs : ∀ (i : Nat) σ H, i < n → Pv i σ H → g (.int (lo + (i : Nat) * c)) σ H fun σ2 H2 => tb { D with nx := Pv (i + 1), ct := Pv (i + 1), bk := D.nx } σ2 H2) (hd : ∀ σ H, Pv n σ H → D.nx σ H) :
    ∃ (i j c' : Int) (n' : Nat), [V.int lo, V.int hi, V.int c] = [.int i, .int j, .int c'] ∧ RgC i j c' n' ∧ forK (Itc i c' n') g tb D σ H := ⟨lo, hi, c, n, rfl, hr, for_rangeC Pv h0 hs hd⟩
end
/-- one step, where nothing is to be chosen -/
local macro_rules | `(tactic| walk_at "w1") => `(tactic| with_reducible first
  | refine w_seq ?_ | refine w_asg ?_ | refine w_name ?_ | refine w_ret ?_ | refine w_retN ?_ | refine w_drop ?_ | refine w_next ?_ | refine w_if ?_ | refine w_ifE ?_ | refine w_test ?_ | refine w_B ?_ | refine w_bl ?_
  | refine w_not ?_ | refine w_and ?_ | refine w_or ?_ | refine w_andV ?_ | refine w_orV ?_ | refine w_notV ?_ | refine w_isN ?_ | refine w_notN ?_ | refine w_yes ?_
  | refine w_c ?_ | refine w_op ?_ | refine w_un ?_ | refine w_i0 ?_ | refine w_neg ?_ | refine w_nil ?_ | refine w_cons ?_ | refine w_cb ?_ | refine w_call ?_ | refine w_tup ?_ | refine w_lst ?_
  | refine w_fld ?_ | refine w_sfld ?_ | refine w_match ?_ | refine w_case ?_ | refine w_mcons ?_ | refine w_mnil ?_ | refine w_mcap ?_ | refine w_many ?_ | refine w_myes ?_
  | refine w_sub ?_ | refine w_bm ?_ | refine w_sl ?_ | refine w_nopart ?_ | refine w_part ?_ | refine w_int ?_ | refine w_ift ?_ | refine w_iff ?_ | refine w_ifn ?_ | refine w_dget2 ?_ | refine w_star ?_ | refine w_dput ?_ | refine w_dnewK ?_ | refine w_meth ?_ | refine w_oneOf ?_ | refine w_make ?_ | refine w_lc ?_ | refine w_for ?_ | refine w_ilist ?_ | refine w_irng1 ?_ | refine w_irng2 ?_ | refine w_irng3 ?_)
local macro_rules | `(tactic| walk_at "w2") => `(tactic| first
  | ((with_reducible refine' w_var ?wh ?_); (case wh => rfl))
  | ((with_reducible refine' w_eq ?wh ?_); (case wh => rfl))
  | ((with_reducible refine' w_ne ?wh ?_); (case wh => rfl))
  | ((with_reducible refine' w_mno ?wh ?_); (case wh => decide +kernel))
  | ((with_reducible refine' w_mhit ?wh ?wl ?_); (case wh => assumption); (case wl => rfl))
  | ((with_reducible refine' w_mmiss ?wh ?wl ?_); (case wh => assumption); (case wl => simp))
  | ((with_reducible refine' w_fldA ?wh ?wc ?wn ?wl ?_); (case wh => first | assumption | exact upd_same); (case wc => assumption); (case wn => assumption); (case wl => walk_at "lk"))
  | ((with_reducible refine' w_ixl ?wh ?we ?_); (case wh => exact SqL.of (by first | assumption | exact upd_same)); (case we => rfl))
  | ((with_reducible refine' w_ixt ?wh ?we ?_); (case wh => assumption); (case we => rfl))
  | ((with_reducible refine' w_ifT ?wh ?_); (case wh => (with_reducible exact Eq.refl _)))
  | ((with_reducible refine' w_ifF ?wh ?_); (case wh => decide +kernel))
  | ((with_reducible refine' w_isiY ?wh ?wk ?_); (case wh => first | exact .int _ | exact .str _ | exact .lst (by assumption) | exact .tup (by assumption)); (case wk => decide +kernel))
  | ((with_reducible refine' w_isiN ?wh ?wk ?_); (case wh => first | exact .int _ | exact .str _ | exact .lst (by assumption) | exact .tup (by assumption)); (case wk => decide +kernel))
  | ((with_reducible refine' w_ifF ?wh ?_); (case wh => (intro z; cases z; done)))
  | ((with_reducible refine' w_setl ?wh ?we ?wl ?_); (case wh => first | assumption | exact upd_same); (case we => rfl); (case wl => rfl))
  | ((with_reducible refine' w_methA ?wh ?wl ?_); (case wh => first | assumption | exact upd_same); (case wl => walk_at "lk"))
  | ((with_reducible refine' w_sfldB ?wc ?wn ?wz ?wl ?_); (case wc => assumption); (case wn => assumption); (case wz => simp); (case wl => walk_at "pf"))
  | ((with_reducible refine' w_sfldA ?wh ?wc ?wn ?wz ?wl ?_); (case wh => assumption); (case wc => assumption); (case wn => assumption); (case wz => simp); (case wl => walk_at "pf")))
local macro_rules | `(tactic| walk_at "w") => `(tactic| repeat (first | walk_at "w1" | walk_at "w2" | (dsimp only [List.set, setAll, List.append, List.cons_append, List.nil_append])))
end SwX
set_option autoImplicit false
namespace Sw
/-- a guesser as it is told -/
inductive G where
  | non
  | next (n : Int)
  | stride (n : Int)
  | pairs (n : Int)
  | both (a b : G)
def G.depth : G → Nat
  | .both a b => max a.depth b.depth + 1
  | _ => 0
def G.ok : G → Prop
  | .non => True
  | .next n => 1 ≤ n ∧ n ≤ 3
  | .stride n => 1 ≤ n ∧ n ≤ 3
  | .pairs n => 1 ≤ n ∧ n ≤ 2
  | .both a b => a.ok ∧ b.ok
/-- the state of a guesser that is told places -/
inductive S where
  | silent
  | neigh (many : Int)
  | strid (times : Int) (last : Option Int) (stride same : Int)
  | pairs (many : Int) (last : Option Int) (fol : Int → List Int)
  | both (a b : S)
def begun : G → S
  | .non => .silent
  | .next n => .neigh n
  | .stride n => .strid n none 0 0
  | .pairs n => .pairs n none fun _ => []
  | .both a b => .both (begun a) (begun b)
def nexts (p m : Int) : List Int := (List.range m.toNat).map fun (i : Nat) => p + (1 + (i : Int))
/-- the stride and how many were the same, behind one place more -/
def strideOf (last : Option Int) (s c p : Int) : Int × Int := match last with
  | none => (s, c)
  | some q => (p - q, if p - q = s then c + 1 else 1)
def behind (fol : Int → List Int) (m q p : Int) : List Int := (p :: (fol q).filter (fun x => decide (x ≠ p))).take m.toNat
def putF (fol : Int → List Int) (m q p : Int) : Int → List Int := fun k => if k = q then behind fol m q p else fol k
def folOf (last : Option Int) (fol : Int → List Int) (m p : Int) : Int → List Int := match last with
  | none => fol
  | some q => putF fol m q p
def strideSays (t p : Int) (sc : Int × Int) : List Int := if sc.1 = 0 ∨ sc.2 < t then [] else [p + sc.1]
def joined (x y : List Int) : List Int := x ++ y.filter (fun v => decide (v ∉ x))
def S.next : S → Int → S
  | .silent, _ => .silent
  | .neigh m, _ => .neigh m
  | .strid t l s c, p => .strid t (some p) (strideOf l s c p).1 (strideOf l s c p).2
  | .pairs m l f, p => .pairs m (some p) (folOf l f m p)
  | .both a b, p => .both (a.next p) (b.next p)
def S.says : S → Int → List Int
  | .silent, _ => []
  | .neigh m, p => nexts p m
  | .strid t l s c, p => strideSays t p (strideOf l s c p)
  | .pairs m l f, p => folOf l f m p p
  | .both a b, p => joined (a.says p) (b.says p)
def S.after (s : S) (l : List Int) : S := l.foldl S.next s
theorem after_nil (s : S) : s.after [] = s := rfl
theorem after_snoc (s : S) (l : List Int) (p : Int) : s.after (l ++ [p]) = (s.after l).next p := by
  unfold S.after
  rw [List.foldl_append]; rfl
def told (g : G) (l : List Int) : List (List Int) := (List.range l.length).map fun k => ((begun g).after (l.take k)).says (l.getD k 0)

/-! ### looking back -/
/-- the first of each, in order -/
def firsts : List Int → List Int
  | [] => []
  | x :: r => x :: (firsts r).filter (fun y => decide (y ≠ x))
theorem mem_firsts : ∀ {l : List Int} {x : Int}, x ∈ firsts l ↔ x ∈ l
  | [], _ => Iff.rfl
  | a :: r, x => by
    unfold firsts
    rw [List.mem_cons, List.mem_cons, List.mem_filter, mem_firsts]
    by_cases h : x = a
    · simp [h]
    · simp [h]
theorem firsts_nodup : ∀ l : List Int, (firsts l).Nodup
  | [] => List.nodup_nil
  | a :: r => by
    unfold firsts
    refine List.nodup_cons.mpr ⟨fun h => ?_, (firsts_nodup r).filter _⟩
    have := (List.mem_filter.mp h).2
    simp at this
/-- one more behind: taken if it is not there -/
def more (acc : List Int) (x : Int) : List Int := if x ∈ acc then acc else acc ++ [x]
theorem firsts_snoc : ∀ (l : List Int) (x : Int), firsts (l ++ [x]) = more (firsts l) x
  | [], x => rfl
  | a :: r, x => by
    show a :: (firsts (r ++ [x])).filter _ = more (a :: (firsts r).filter _) x
    rw [firsts_snoc r x]
    unfold more
    by_cases hx : x ∈ firsts r
    · rw [if_pos hx]
      by_cases e : x = a
      · rw [if_pos (by rw [e]; exact List.mem_cons_self)]
      · rw [if_pos (List.mem_cons_of_mem _ (List.mem_filter.mpr ⟨hx, by simp [e]⟩))]
    · rw [if_neg hx, List.filter_append]
      by_cases e : x = a
      · rw [if_pos (by rw [e]; exact List.mem_cons_self)]
        simp [e]
      · have : x ∉ a :: (firsts r).filter (fun y => decide (y ≠ a)) := by
          rw [List.mem_cons]
          rintro (h | h)
          · exact e h
          · exact hx (List.mem_filter.mp h).1
        rw [if_neg this]
        simp [e]
/-- what came behind k, the latest first: of the places, the last one first -/
def followers (k : Int) : List Int → List Int
  | p :: q :: r => if q = k then p :: followers k (q :: r) else followers k (q :: r)
  | _ => []
/-- the strides, the last one first, of the places, the last one first -/
def strides : List Int → List Int
  | p :: q :: r => (p - q) :: strides (q :: r)
  | _ => []
theorem strides_length : ∀ l : List Int, (strides l).length = l.length - 1
  | [] => rfl
  | [_] => rfl
  | p :: q :: r => by
    show (strides (q :: r)).length + 1 = _
    rw [strides_length (q :: r)]
    simp
def run : List Int → Int × Nat
  | [] => (0, 0)
  | d :: r => (d, if d = (run r).1 then (run r).2 + 1 else 1)
/-- so many strides, the last ones, are the same -/
theorem run_ge : ∀ (l : List Int) (t : Nat), 1 ≤ t → (t ≤ (run l).2 ↔ t ≤ l.length ∧ l.take t = List.replicate t (run l).1)
  | [], t, h => by
    constructor
    · intro q
      have : t ≤ 0 := q
      omega
    · rintro ⟨q, _⟩
      exact q
  | d :: r, t, h => by
    obtain ⟨u, rfl⟩ : ∃ u, t = u + 1 := ⟨t - 1, by omega⟩
    show u + 1 ≤ (if d = (run r).1 then (run r).2 + 1 else 1) ↔ u + 1 ≤ r.length + 1 ∧ d :: r.take u = d :: List.replicate u d
    by_cases hu : u = 0
    · subst hu
      constructor
      · intro _
        exact ⟨by omega, by simp⟩
      · intro _
        split <;> omega
    · have ih := run_ge r u (by omega)
      by_cases e : d = (run r).1
      · rw [if_pos e]
        rw [← e] at ih
        constructor
        · intro q
          have z := ih.mp (by omega)
          exact ⟨by omega, by rw [z.2]⟩
        · rintro ⟨q1, q2⟩
          have z := ih.mpr ⟨by omega, (List.cons.inj q2).2⟩
          omega
      · rw [if_neg e]
        constructor
        · intro q
          omega
        · rintro ⟨q1, q2⟩
          exfalso
          cases r with
          | nil =>
            have : u + 1 ≤ 1 := q1
            omega
          | cons a r =>
            obtain ⟨v, rfl⟩ : ∃ v, u = v + 1 := ⟨u - 1, by omega⟩
            have z := (List.cons.inj q2).2
            have : a = d := (List.cons.inj z).1
            exact e this.symm
/-- the law's look back: of the places, the last one first -/
def looked : G → List Int → List Int
  | _, [] => []
  | .non, _ => []
  | .next n, p :: _ => nexts p n
  | .stride n, p :: r => if n.toNat ≤ (strides (p :: r)).length ∧ (strides (p :: r)).take n.toNat = List.replicate n.toNat ((strides (p :: r)).headD 0) ∧ (strides (p :: r)).headD 0 ≠ 0 then [p + (strides (p :: r)).headD 0] else []
  | .pairs n, p :: r => (firsts (followers p (p :: r))).take n.toNat
  | .both a b, p :: r => joined (looked a (p :: r)) (looked b (p :: r))
theorem run_head : ∀ l : List Int, (run l).1 = l.headD 0
  | [] => rfl
  | _ :: _ => rfl
theorem filter_take {l : List Int} (nd : l.Nodup) (p : Int) : ∀ m : Nat, ((p :: (l.take m).filter (fun x => decide (x ≠ p))).take m) = (p :: l.filter (fun x => decide (x ≠ p))).take m := by
  have key : ∀ (l : List Int), l.Nodup → ∀ m : Nat, ((l.take (m + 1)).filter (fun x => decide (x ≠ p))).take m = (l.filter (fun x => decide (x ≠ p))).take m := by
    intro l
    induction l with
    | nil => intro _ m; simp
    | cons a r ih =>
      intro nd m
      obtain ⟨na, nr⟩ := List.nodup_cons.mp nd
      show ((a :: r.take m).filter _).take m = _
      rw [List.filter_cons, List.filter_cons]
      by_cases e : a = p
      · subst e
        rw [if_neg (by simp), if_neg (by simp)]
        have h1 : r.filter (fun x => decide (x ≠ a)) = r := List.filter_eq_self.mpr fun x hx => by
          have : x ≠ a := fun z => na (z ▸ hx)
          simp [this]
        have h2 : (r.take m).filter (fun x => decide (x ≠ a)) = r.take m := List.filter_eq_self.mpr fun x hx => by
          have : x ≠ a := fun z => na (z ▸ List.mem_of_mem_take hx)
          simp [this]
        rw [h1, h2, List.take_take, Nat.min_self]
      · rw [if_pos (by simp [e]), if_pos (by simp [e])]
        cases m with
        | zero => rfl
        | succ m =>
          rw [List.take_succ_cons, List.take_succ_cons, ih nr m]
  intro m
  cases m with
  | zero => rfl
  | succ m => rw [List.take_succ_cons, List.take_succ_cons, key l nd m]
/-- the guesser's state behind places, the last one first -/
def Stands : G → List Int → S → Prop
  | .non, _, s => s = .silent
  | .next n, _, s => s = .neigh n
  | .stride n, l, s => s = .strid n l.head? (run (strides l)).1 ((run (strides l)).2 : Int)
  | .pairs n, l, s => ∃ f, s = .pairs n l.head? f ∧ ∀ k, f k = (firsts (followers k l)).take n.toNat
  | .both a b, l, s => ∃ x y, s = .both x y ∧ Stands a l x ∧ Stands b l y
theorem stands_begun : ∀ g : G, Stands g [] (begun g)
  | .non => rfl
  | .next _ => rfl
  | .stride _ => rfl
  | .pairs _ => ⟨_, rfl, fun k => by simp [followers, firsts]⟩
  | .both a b => ⟨_, _, rfl, stands_begun a, stands_begun b⟩
theorem stride_step (l : List Int) (p : Int) : strideOf l.head? (run (strides l)).1 ((run (strides l)).2 : Int) p = ((run (strides (p :: l))).1, ((run (strides (p :: l))).2 : Int)) := by
  cases l with
  | nil => rfl
  | cons q r =>
    show (p - q, if p - q = (run (strides (q :: r))).1 then ((run (strides (q :: r))).2 : Int) + 1 else 1) = (p - q, ((if p - q = (run (strides (q :: r))).1 then (run (strides (q :: r))).2 + 1 else 1 : Nat) : Int))
    split <;> simp
theorem fol_step {n : Int} {l : List Int} {f : Int → List Int} (h : ∀ k, f k = (firsts (followers k l)).take n.toNat) (p k : Int) : folOf l.head? f n p k = (firsts (followers k (p :: l))).take n.toNat := by
  cases l with
  | nil =>
    show f k = _
    rw [h k]
    rfl
  | cons q r =>
    show (if k = q then behind f n q p else f k) = (firsts (if q = k then p :: followers k (q :: r) else followers k (q :: r))).take n.toNat
    by_cases e : k = q
    · subst e
      rw [if_pos rfl, if_pos rfl]
      unfold behind
      rw [h k]
      exact filter_take (firsts_nodup _) p n.toNat
    · rw [if_neg e, if_neg (fun z => e z.symm), h k]
theorem stands_next : ∀ {g : G} {l : List Int} {s : S} (p : Int), Stands g l s → Stands g (p :: l) (s.next p)
  | .non, _, _, _, h => by cases h; rfl
  | .next _, _, _, _, h => by cases h; rfl
  | .stride n, l, _, p, h => by
    cases h
    show S.strid _ _ _ _ = S.strid _ _ _ _
    rw [stride_step]
    rfl
  | .pairs n, l, _, p, h => by
    obtain ⟨f, rfl, hf⟩ := h
    exact ⟨_, rfl, fun k => fol_step hf p k⟩
  | .both a b, l, _, p, h => by
    obtain ⟨x, y, rfl, hx, hy⟩ := h
    exact ⟨_, _, rfl, stands_next p hx, stands_next p hy⟩
theorem stands_says : ∀ {g : G} {l : List Int} {s : S} (p : Int), g.ok → Stands g l s → s.says p = looked g (p :: l)
  | .non, _, _, _, _, h => by cases h; rfl
  | .next _, _, _, _, _, h => by cases h; rfl
  | .stride n, l, _, p, ok, h => by
    cases h
    show strideSays n p (strideOf l.head? _ _ p) = if _ then _ else _
    rw [stride_step]
    have z := run_ge (strides (p :: l)) n.toNat (by have := ok.1; omega)
    rw [run_head] at z
    unfold strideSays
    rw [run_head]
    show (if (strides (p :: l)).headD 0 = 0 ∨ ((run (strides (p :: l))).2 : Int) < n then [] else [p + (strides (p :: l)).headD 0]) = _
    have hn : 1 ≤ n := ok.1
    by_cases c : (strides (p :: l)).headD 0 = 0 ∨ ((run (strides (p :: l))).2 : Int) < n
    · rw [if_pos c, if_neg]
      rintro ⟨h1, h2, h3⟩
      have := z.mpr ⟨h1, h2⟩
      rcases c with c | c
      · exact h3 c
      · omega
    · rw [if_neg c, if_pos]
      have c1 : ¬ (strides (p :: l)).headD 0 = 0 := fun q => c (.inl q)
      have c2 : ¬ ((run (strides (p :: l))).2 : Int) < n := fun q => c (.inr q)
      have := z.mp (by omega)
      exact ⟨this.1, this.2, c1⟩
  | .pairs n, l, _, p, _, h => by
    obtain ⟨f, rfl, hf⟩ := h
    exact fol_step hf p p
  | .both a b, l, _, p, ok, h => by
    obtain ⟨x, y, rfl, hx, hy⟩ := h
    show joined _ _ = joined _ _
    rw [stands_says p ok.1 hx, stands_says p ok.2 hy]
theorem stands_after (g : G) : ∀ (l : List Int) (m : List Int) (s : S), Stands g m s → Stands g (l.reverse ++ m) (s.after l)
  | [], m, s, h => h
  | p :: r, m, s, h => by
    have := stands_after g r (p :: m) (s.next p) (stands_next p h)
    rw [List.reverse_cons, List.append_assoc]
    exact this
theorem says_looked {g : G} (ok : g.ok) (l : List Int) (p : Int) : ((begun g).after l).says p = looked g (l ++ [p]).reverse := by
  have h := stands_after g l [] (begun g) (stands_begun g)
  rw [List.append_nil] at h
  rw [stands_says p ok h, List.reverse_append]
  rfl
end Sw
set_option Elab.async false
set_option linter.all false
set_option maxRecDepth 100000
set_option maxHeartbeats 4000000
namespace SwD
open PySem PySem.Spec PyProof.Rows L2 SwX StX Sw
local macro_rules | `(tactic| walk_at "lk") => `(tactic| first | exact lk_at | exact lk_no | ((refine' lk_by (by decide +kernel) ?wq); (case wq => walk_at "lk")))
local macro_rules | `(tactic| walk_at "pf") => `(tactic| first | exact pf_at | exact pf_nil | ((refine' pf_by (by decide +kernel) ?wq); (case wq => walk_at "pf")))
local macro_rules | `(tactic| walk_at "w1") => `(tactic| with_reducible first
  | refine w_seq ?_ | refine w_asg ?_ | refine w_name ?_ | refine w_ret ?_ | refine w_retN ?_ | refine w_drop ?_ | refine w_next ?_ | refine w_if ?_ | refine w_ifE ?_ | refine w_test ?_ | refine w_B ?_ | refine w_bl ?_
  | refine w_not ?_ | refine w_and ?_ | refine w_or ?_ | refine w_andV ?_ | refine w_orV ?_ | refine w_notV ?_ | refine w_isN ?_ | refine w_notN ?_ | refine w_yes ?_
  | refine w_c ?_ | refine w_op ?_ | refine w_un ?_ | refine w_i0 ?_ | refine w_neg ?_ | refine w_nil ?_ | refine w_cons ?_ | refine w_cb ?_ | refine w_call ?_ | refine w_tup ?_ | refine w_lst ?_
  | refine w_fld ?_ | refine w_sfld ?_ | refine w_match ?_ | refine w_case ?_ | refine w_mcons ?_ | refine w_mnil ?_ | refine w_mcap ?_ | refine w_many ?_ | refine w_myes ?_
  | refine w_sub ?_ | refine w_bm ?_ | refine w_sl ?_ | refine w_nopart ?_ | refine w_part ?_ | refine w_int ?_ | refine w_ift ?_ | refine w_iff ?_ | refine w_ifn ?_ | refine w_dget2 ?_ | refine w_star ?_ | refine w_dput ?_ | refine w_dnewK ?_ | refine w_meth ?_ | refine w_oneOf ?_ | refine w_make ?_ | refine w_lc ?_ | refine w_for ?_ | refine w_ilist ?_ | refine w_irng1 ?_ | refine w_irng2 ?_ | refine w_irng3 ?_)
local macro_rules | `(tactic| walk_at "w2") => `(tactic| first
  | ((with_reducible refine' w_var ?wh ?_); (case wh => rfl))
  | ((with_reducible refine' w_eq ?wh ?_); (case wh => rfl))
  | ((with_reducible refine' w_ne ?wh ?_); (case wh => rfl))
  | ((with_reducible refine' w_mno ?wh ?_); (case wh => decide +kernel))
  | ((with_reducible refine' w_mhit ?wh ?wl ?_); (case wh => assumption); (case wl => rfl))
  | ((with_reducible refine' w_mmiss ?wh ?wl ?_); (case wh => assumption); (case wl => simp))
  | ((with_reducible refine' w_fldA ?wh ?wc ?wn ?wl ?_); (case wh => first | assumption | exact upd_same); (case wc => assumption); (case wn => assumption); (case wl => walk_at "lk"))
  | ((with_reducible refine' w_ixl ?wh ?we ?_); (case wh => exact SqL.of (by first | assumption | exact upd_same)); (case we => rfl))
  | ((with_reducible refine' w_ixt ?wh ?we ?_); (case wh => assumption); (case we => rfl))
  | ((with_reducible refine' w_ifT ?wh ?_); (case wh => (with_reducible exact Eq.refl _)))
  | ((with_reducible refine' w_ifF ?wh ?_); (case wh => decide +kernel))
  | ((with_reducible refine' w_isiY ?wh ?wk ?_); (case wh => first | exact .int _ | exact .str _ | exact .lst (by assumption) | exact .tup (by assumption)); (case wk => decide +kernel))
  | ((with_reducible refine' w_isiN ?wh ?wk ?_); (case wh => first | exact .int _ | exact .str _ | exact .lst (by assumption) | exact .tup (by assumption)); (case wk => decide +kernel))
  | ((with_reducible refine' w_ifF ?wh ?_); (case wh => (intro z; cases z; done)))
  | ((with_reducible refine' w_setl ?wh ?we ?wl ?_); (case wh => first | assumption | exact upd_same); (case we => rfl); (case wl => rfl))
  | ((with_reducible refine' w_methA ?wh ?wl ?_); (case wh => first | assumption | exact upd_same); (case wl => walk_at "lk"))
  | ((with_reducible refine' w_sfldB ?wc ?wn ?wz ?wl ?_); (case wc => assumption); (case wn => assumption); (case wz => simp); (case wl => walk_at "pf"))
  | ((with_reducible refine' w_sfldA ?wh ?wc ?wn ?wz ?wl ?_); (case wh => assumption); (case wc => assumption); (case wn => assumption); (case wz => simp); (case wl => walk_at "pf")))
local macro_rules | `(tactic| walk_at "w") => `(tactic| repeat (first | walk_at "w1" | walk_at "w2" | (dsimp only [List.set, setAll, List.append, List.cons_append, List.nil_append])))
/-! ### where the classes stand -/
structure CA where
  Silent : Addr
  Neighbours : Addr
  Strides : Addr
  Pairs : Addr
  Both : Addr
structure GF (K : PySem.W.Frag) (c : CA) : Prop where
  cN : Cls K c.Neighbours
  cS : Cls K c.Strides
  cP : Cls K c.Pairs
  cB : Cls K c.Both
  nN1 : NoAttr K c.Neighbours "many"
  nS1 : NoAttr K c.Strides "times"
  nS2 : NoAttr K c.Strides "last"
  nS3 : NoAttr K c.Strides "stride"
  nS4 : NoAttr K c.Strides "same"
  nP1 : NoAttr K c.Pairs "many"
  nP2 : NoAttr K c.Pairs "last"
  nP3 : NoAttr K c.Pairs "followers"
  nB1 : NoAttr K c.Both "one"
  nB2 : NoAttr K c.Both "other"
def optV : Option Int → V
  | none => .non
  | some i => .int i
/-! ### how a guesser's state lies in the heap: M holds all of its addresses -/
def Fol (H : Hp) (M : Addr → Prop) (o : Option V) (xs : List Int) : Prop := match o with
  | none => xs = []
  | some v => ∃ l, v = .ref l ∧ H l = some (.lst (xs.map V.int)) ∧ M l
def GAt (c : CA) (H : Hp) (N : Nat) : S → Addr → (Addr → Prop) → Prop
  | .silent, p, M => ∃ dx, H p = some (.ins c.Silent dx []) ∧ M p
  | .neigh m, p, M => ∃ dx, H p = some (.ins c.Neighbours dx [("many", .int m)]) ∧ M p
  | .strid t l s k, p, M => ∃ dx, H p = some (.ins c.Strides dx [("times", .int t), ("last", optV l), ("stride", .int s), ("same", .int k)]) ∧ M p
  | .pairs m l f, p, M => ∃ dx d kvs, H p = some (.ins c.Pairs dx [("many", .int m), ("last", optV l), ("followers", .ref d)]) ∧ M p ∧ H d = some (.dK kvs) ∧ M d ∧ kvs.length ≤ N ∧ ∀ k, Fol H M (valV kvs (Sum.inl k)) (f k)
  | .both a b, p, M => ∃ dx pa pb A B, H p = some (.ins c.Both dx [("one", .ref pa), ("other", .ref pb)]) ∧ M p ∧ GAt c H N a pa A ∧ GAt c H N b pb B ∧ (∀ x, A x → M x) ∧ (∀ x, B x → M x) ∧ (∀ x, A x → ¬ B x) ∧ ¬ A p ∧ ¬ B p
def Dom (M : Addr → Prop) (H : Hp) : Prop := ∀ a, M a → ∃ o, H a = some o
theorem fol_keep {H H' : Hp} {M : Addr → Prop} {o : Option V} {xs : List Int} (k : ∀ a, M a → H' a = H a) (h : Fol H M o xs) : Fol H' M o xs := by
  cases o with
  | none => exact h
  | some v =>
    obtain ⟨l, e, hl, m⟩ := h
    exact ⟨l, e, by rw [k l m]; exact hl, m⟩
theorem gat_keep {c : CA} {H H' : Hp} {N : Nat} : ∀ {s : S} {p : Addr} {M : Addr → Prop}, (∀ a, M a → H' a = H a) → GAt c H N s p M → GAt c H' N s p M
  | .silent, p, M, k, ⟨dx, h, m⟩ => ⟨dx, by rw [k p m]; exact h, m⟩
  | .neigh _, p, M, k, ⟨dx, h, m⟩ => ⟨dx, by rw [k p m]; exact h, m⟩
  | .strid _ _ _ _, p, M, k, ⟨dx, h, m⟩ => ⟨dx, by rw [k p m]; exact h, m⟩
  | .pairs _ _ _, p, M, k, ⟨dx, d, kvs, h, m, hd, md, hl, hf⟩ => ⟨dx, d, kvs, by rw [k p m]; exact h, m, by rw [k d md]; exact hd, md, hl, fun q => fol_keep k (hf q)⟩
  | .both _ _, p, M, k, ⟨dx, pa, pb, A, B, h, m, ha, hb, iA, iB, dj, nA, nB⟩ =>
    ⟨dx, pa, pb, A, B, by rw [k p m]; exact h, m, gat_keep (fun a q => k a (iA a q)) ha, gat_keep (fun a q => k a (iB a q)) hb, iA, iB, dj, nA, nB⟩
theorem gat_more {c : CA} {H : Hp} {N N' : Nat} (hn : N ≤ N') : ∀ {s : S} {p : Addr} {M : Addr → Prop}, GAt c H N s p M → GAt c H N' s p M
  | .silent, _, _, h => h
  | .neigh _, _, _, h => h
  | .strid _ _ _ _, _, _, h => h
  | .pairs _ _ _, _, _, ⟨dx, d, kvs, h, m, hd, md, hl, hf⟩ => ⟨dx, d, kvs, h, m, hd, md, Nat.le_trans hl hn, hf⟩
  | .both _ _, _, _, ⟨dx, pa, pb, A, B, h, m, ha, hb, r⟩ => ⟨dx, pa, pb, A, B, h, m, gat_more hn ha, gat_more hn hb, r⟩
theorem gat_own {c : CA} {H : Hp} {N : Nat} : ∀ {s : S} {p : Addr} {M : Addr → Prop}, GAt c H N s p M → M p
  | .silent, _, _, ⟨_, _, m⟩ => m
  | .neigh _, _, _, ⟨_, _, m⟩ => m
  | .strid _ _ _ _, _, _, ⟨_, _, m⟩ => m
  | .pairs _ _ _, _, _, ⟨_, _, _, _, m, _⟩ => m
  | .both _ _, _, _, ⟨_, _, _, _, _, _, m, _⟩ => m
/-- a wider M -/
theorem fol_wide {H : Hp} {M M' : Addr → Prop} {o : Option V} {xs : List Int} (k : ∀ a, M a → M' a) (h : Fol H M o xs) : Fol H M' o xs := by
  cases o with
  | none => exact h
  | some v =>
    obtain ⟨l, e, hl, m⟩ := h
    exact ⟨l, e, hl, k l m⟩
/-! ### the sizes of what is told -/
def Good : S → Prop
  | .silent => True
  | .neigh m => 0 ≤ m ∧ m ≤ 100
  | .strid _ _ _ _ => True
  | .pairs m _ f => 0 ≤ m ∧ m ≤ 100 ∧ ∀ k, (f k).length ≤ 100
  | .both a b => Good a ∧ Good b
def deep : S → Nat
  | .both a b => max (deep a) (deep b) + 1
  | _ => 0
theorem deep_next : ∀ (s : S) (x : Int), deep (s.next x) = deep s
  | .silent, _ => rfl
  | .neigh _, _ => rfl
  | .strid _ _ _ _, _ => rfl
  | .pairs _ _ _, _ => rfl
  | .both a b, x => by
    show max (deep (a.next x)) (deep (b.next x)) + 1 = max (deep a) (deep b) + 1
    rw [deep_next a x, deep_next b x]
theorem behind_le (f : Int → List Int) {m : Int} (h0 : 0 ≤ m) (h1 : m ≤ 100) (q p : Int) : (behind f m q p).length ≤ 100 := by
  unfold behind
  rw [List.length_take]
  omega
theorem good_next : ∀ {s : S} (x : Int), Good s → Good (s.next x)
  | .silent, _, h => h
  | .neigh _, _, h => h
  | .strid _ _ _ _, _, _ => trivial
  | .pairs m l f, x, ⟨h0, h1, h2⟩ => by
    refine ⟨h0, h1, fun k => ?_⟩
    cases l with
    | none => exact h2 k
    | some q =>
      show (if k = q then behind f m q x else f k).length ≤ 100
      split
      · exact behind_le f h0 h1 q x
      · exact h2 k
  | .both a b, x, h => ⟨good_next x h.1, good_next x h.2⟩
theorem says_le : ∀ {s : S} (x : Int), Good s → (s.says x).length ≤ 100 * 2 ^ deep s
  | .silent, _, _ => by show 0 ≤ _; omega
  | .neigh m, x, h => by
    show (nexts x m).length ≤ 100 * 2 ^ 0
    unfold nexts
    rw [List.length_map, List.length_range]
    have := h.2
    have := h.1
    omega
  | .strid t l s k, x, _ => by
    show (strideSays t x _).length ≤ 100 * 2 ^ 0
    unfold strideSays
    split
    · show 0 ≤ _
      omega
    · show 1 ≤ _
      omega
  | .pairs m l f, x, ⟨h0, h1, h2⟩ => by
    show (folOf l f m x x).length ≤ 100 * 2 ^ 0
    cases l with
    | none => exact h2 x
    | some q =>
      show (if x = q then behind f m q x else f x).length ≤ 100
      split
      · exact behind_le f h0 h1 q x
      · exact h2 x
  | .both a b, x, h => by
    show (joined (a.says x) (b.says x)).length ≤ 100 * 2 ^ (max (deep a) (deep b) + 1)
    unfold joined
    rw [List.length_append]
    have h1 := says_le x h.1
    have h2 := says_le x h.2
    have h3 := List.length_filter_le (fun v => decide (v ∉ a.says x)) (b.says x)
    have h4 : 2 ^ deep a ≤ 2 ^ max (deep a) (deep b) := Nat.pow_le_pow_right (by decide) (Nat.le_max_left _ _)
    have h5 : 2 ^ deep b ≤ 2 ^ max (deep a) (deep b) := Nat.pow_le_pow_right (by decide) (Nat.le_max_right _ _)
    rw [Nat.pow_succ]
    omega
theorem good_begun : ∀ {g : G}, g.ok → Good (begun g)
  | .non, _ => trivial
  | .next _, h => ⟨by have := h.1; omega, by have := h.2; omega⟩
  | .stride _, _ => trivial
  | .pairs _, h => ⟨by have := h.1; omega, by have := h.2; omega, fun _ => Nat.zero_le _⟩
  | .both _ _, h => ⟨good_begun h.1, good_begun h.2⟩
theorem deep_begun : ∀ g : G, deep (begun g) = g.depth
  | .non => rfl
  | .next _ => rfl
  | .stride _ => rfl
  | .pairs _ => rfl
  | .both a b => by
    show max (deep (begun a)) (deep (begun b)) + 1 = max a.depth b.depth + 1
    rw [deep_begun a, deep_begun b]
/-! ### promises of the guessers' defs -/
/-- an __init__: the attributes are laid -/
def spMade (C : Addr) (args : List V) (fs : List (Str × V)) : Sp := fun vs H Q _ => ∃ p dx, vs = .ref p :: args ∧ H p = some (.ins C dx []) ∧ ∀ H', H' p = some (.ins C dx fs) → Out (Is p) H H' → Q .non H'
/-- guess of an object of at most so many both within -/
def spGuess (c : CA) (n : Nat) : Sp := fun vs H Q _ => ∃ p x s M N, vs = [.ref p, .int x] ∧ GAt c H N s p M ∧ Dom M H ∧ deep s ≤ n ∧ Good s ∧ N < 100000 ∧
  ∀ H' q M', H q = none → H' q = some (.lst ((s.says x).map V.int)) → ¬ M' q → GAt c H' (N + 1) (s.next x) p M' → Dom M' H' → (∀ a, M a → M' a) → (∀ a, M' a → M a ∨ H a = none) → Out M H H' → Q (.ref q) H'
section
variable {K : PySem.W.Frag} {c : CA}
def t_Silent_guess : TS := tRet (tLst (tNil))
def t_Neighbours_init (K : PySem.W.Frag) : TS := sFld K (tVar 0) (tVar 1) "many"
def t_Neighbours_guess (K : PySem.W.Frag) : TS := tRet (tLc (iRng2 (tCons (tC (.int 1)) (tCons (tOp (rAddI) (tFld K (tVar 0) "many") (tC (.int 1))) (tNil)))) (gName 2) (tYes) (tOp (rAddI) (tVar 1) (tVar 2)) [2])
def t_Strides_init (K : PySem.W.Frag) : TS := tSeq (sFld K (tVar 0) (tVar 1) "times")
  (tSeq (sFld K (tVar 0) (tC .non) "last")
  (tSeq (sFld K (tVar 0) (tC (.int 0)) "stride")
  (sFld K (tVar 0) (tC (.int 0)) "same")))
def t_Both_init (K : PySem.W.Frag) : TS := tSeq (sFld K (tVar 0) (tVar 1) "one")
  (sFld K (tVar 0) (tVar 2) "other")
abbrev B (Q : VK) : Ends := { nx := fun _ H' => Q .non H', rt := Q }
theorem pu_Silent_guess {vs : List V} {H : Hp} {Q : VK} {E : XK} {n : Nat} (h : ∃ x : Int, ∃ p dx : Addr, ∃ M : Addr → Prop, ∃ N : Nat, vs = [.ref p, .int x] ∧ H p = some (.ins c.Silent dx []) ∧ M p ∧ Dom M H ∧ 
   ∀ H' q M', H q = none → H' q = some (.lst []) → ¬ M' q → GAt c H' (N + 1) .silent p M' → Dom M' H' → (∀ a, M a → M' a) → (∀ a, M' a → M a ∨ H a = none) → Out M H H' → Q (.ref q) H') : t_Silent_guess (B Q) (start ["self", "place"] vs) H := by
  obtain ⟨x, p, dx, M, N, rfl, hp, hm, hd, k⟩ := h
  unfold t_Silent_guess
  walk_at "w"
  refine ⟨by decide, w_new fun q H' hq e hq' => ?_⟩
  exact k H' q M hq hq' (fun z => by obtain ⟨o, ho⟩ := hd q z; rw [hq] at ho; cases ho) ⟨dx, e _ _ hp, hm⟩ (fun a z => by obtain ⟨o, ho⟩ := hd a z; exact ⟨o, e _ _ ho⟩) (fun _ z => z) (fun a z => .inl z) (same_out e)
theorem pu_Neighbours_init (T : GF K c) {vs : List V} {H : Hp} {Q : VK} {E : XK} {m : Int} (h : spMade c.Neighbours [.int m] [("many", .int m)] vs H Q E) : t_Neighbours_init K (B Q) (start ["self", "many"] vs) H := by
  obtain ⟨p, dx, rfl, hp, k⟩ := h
  obtain ⟨cN, cS, cP, cB, nN1, nS1, nS2, nS3, nS4, nP1, nP2, nP3, nB1, nB2⟩ := id T
  unfold t_Neighbours_init
  walk_at "w"
  exact k _ upd_same out_upd
theorem pu_Strides_init (T : GF K c) {vs : List V} {H : Hp} {Q : VK} {E : XK} {t : Int} (h : spMade c.Strides [.int t] [("times", .int t), ("last", .non), ("stride", .int 0), ("same", .int 0)] vs H Q E) : t_Strides_init K (B Q) (start ["self", "times"] vs) H := by
  obtain ⟨p, dx, rfl, hp, k⟩ := h
  obtain ⟨cN, cS, cP, cB, nN1, nS1, nS2, nS3, nS4, nP1, nP2, nP3, nB1, nB2⟩ := id T
  unfold t_Strides_init
  walk_at "w"
  exact k _ upd_same out_upd
/-- attributes laid, the dict new -/
def spPairsInit (c : CA) : Sp := fun vs H Q _ => ∃ p dx m, vs = [.ref p, .int m] ∧ H p = some (.ins c.Pairs dx []) ∧ ∀ H' d, H d = none → H' p = some (.ins c.Pairs dx [("many", .int m), ("last", .non), ("followers", .ref d)]) → H' d = some (.dK []) → Out (Is p) H H' → Q .non H'
def t_Pairs_init (K : PySem.W.Frag) : TS := tSeq (sFld K (tVar 0) (tVar 1) "many")
  (tSeq (sFld K (tVar 0) (tC .non) "last")
  (sFld K (tVar 0) (tDNewK) "followers"))
theorem pu_Pairs_init (T : GF K c) {vs : List V} {H : Hp} {Q : VK} {E : XK} (h : spPairsInit c vs H Q E) : t_Pairs_init K (B Q) (start ["self", "many"] vs) H := by
  obtain ⟨p, dx, m, rfl, hp, k⟩ := h
  obtain ⟨cN, cS, cP, cB, nN1, nS1, nS2, nS3, nS4, nP1, nP2, nP3, nB1, nB2⟩ := id T
  unfold t_Pairs_init
  walk_at "w"
  intro d hd
  have hdp : d ≠ p := fun e => by rw [e, upd_same] at hd; cases hd
  have e1 : upd (upd H p (.ins c.Pairs dx [("many", V.int m), ("last", V.non)])) d (.dK []) p = some (.ins c.Pairs dx [("many", V.int m), ("last", V.non)]) := by
    rw [upd_ne hdp.symm, upd_same]
  walk_at "w"
  refine k _ d (by rw [upd_ne hdp] at hd; exact hd) upd_same (by rw [upd_ne hdp, upd_same]) ?_
  intro b o hb nb
  rw [upd_ne nb, upd_ne (fun e => by rw [upd_ne hdp] at hd; rw [e, hd] at hb; cases hb), upd_ne nb]
  exact hb
theorem pu_Both_init (T : GF K c) {vs : List V} {H : Hp} {Q : VK} {E : XK} {x y : V} (h : spMade c.Both [x, y] [("one", x), ("other", y)] vs H Q E) : t_Both_init K (B Q) (start ["self", "one", "other"] vs) H := by
  obtain ⟨p, dx, rfl, hp, k⟩ := h
  obtain ⟨cN, cS, cP, cB, nN1, nS1, nS2, nS3, nS4, nP1, nP2, nP3, nB1, nB2⟩ := id T
  unfold t_Both_init
  walk_at "w"
  exact k _ upd_same out_upd
theorem added_all (g : V → V) (l : List V) : added (fun _ => true) g l = l.map g := by
  unfold added
  rw [List.filter_eq_self.mpr (fun _ _ => rfl)]
theorem nexts_ints (x m : Int) : added (fun _ => true) (fun v => match v with | .int i => .int (x + i) | _ => .non) (rangeV 1 ((m + 1) - 1).toNat) = (nexts x m).map V.int := by
  rw [added_all]
  unfold rangeV nexts
  rw [List.map_map, List.map_map, show m + 1 - 1 = m by omega]
  rfl
theorem not_dom {M : Addr → Prop} {H : Hp} {q : Addr} (d : Dom M H) (h : H q = none) : ¬ M q := fun z => by
  obtain ⟨o, ho⟩ := d q z
  rw [h] at ho
  cases ho
theorem dom_same {M : Addr → Prop} {H H' : Hp} (d : Dom M H) (e : Same H H') : Dom M H' := fun a z => by
  obtain ⟨o, ho⟩ := d a z
  exact ⟨o, e _ _ ho⟩
theorem gat_same {H H' : Hp} {N : Nat} {s : S} {p : Addr} {M : Addr → Prop} (d : Dom M H) (e : Same H H') (h : GAt c H N s p M) : GAt c H' N s p M :=
  gat_keep (fun a z => by obtain ⟨o, ho⟩ := d a z; rw [ho]; exact e _ _ ho) h
theorem pu_Neighbours_guess (T : GF K c) {vs : List V} {H : Hp} {Q : VK} {E : XK} (h : ∃ x m : Int, ∃ p dx : Addr, ∃ M : Addr → Prop, ∃ N : Nat, vs = [.ref p, .int x] ∧ H p = some (.ins c.Neighbours dx [("many", .int m)]) ∧ M p ∧ Dom M H ∧ 0 ≤ m ∧ m ≤ 100 ∧
   ∀ H' q M', H q = none → H' q = some (.lst ((nexts x m).map V.int)) → ¬ M' q → GAt c H' (N + 1) (.neigh m) p M' → Dom M' H' → (∀ a, M a → M' a) → (∀ a, M' a → M a ∨ H a = none) → Out M H H' → Q (.ref q) H') : t_Neighbours_guess K (B Q) (start ["self", "place", "step"] vs) H := by
  obtain ⟨x, m, p, dx, M, N, rfl, hp, hm, hd, h0, h1, k⟩ := h
  obtain ⟨cN, cS, cP, cB, nN1, nS1, nS2, nS3, nS4, nP1, nP2, nP3, nB1, nB2⟩ := id T
  unfold t_Neighbours_guess
  walk_at "w"
  refine w_lcr2 (fun _ => true) (fun v => match v with | .int i => .int (x + i) | _ => .non) (by omega) (by omega) (fun _ => rfl) (fun i hi H' s R r => ?_) (fun i hi _ H' s R r => ?_) (fun q H' hq e hq' => ?_)
  · walk_at "w"
    exact r _ (Same.refl _)
  · walk_at "w"
    exact r _ (Same.refl _)
  · rw [nexts_ints] at hq'
    exact k H' q M hq hq' (not_dom hd hq) ⟨dx, e _ _ hp, hm⟩ (dom_same hd e) (fun _ z => z) (fun a z => .inl z) (same_out e)
/-! ### strides -/
def stF (t l s k : V) : List (Str × V) := [("times", t), ("last", l), ("stride", s), ("same", k)]
/-- count_stride: only the stride and the count change -/
def spCount (c : CA) : Sp := fun vs H Q _ => ∃ p dx d t l s k, vs = [.ref p, .int d] ∧ H p = some (.ins c.Strides dx (stF t l (.int s) (.int k))) ∧
  Q .non (upd H p (.ins c.Strides dx (stF t l (.int d) (.int (if d = s then k + 1 else 1)))))
def t_Strides_count_stride (K : PySem.W.Frag) : TS := tSeq (sFld K (tVar 0) (tIf (tTest (tOp (rEq) (tVar 1) (tFld K (tVar 0) "stride"))) (tOp (rAddI) (tFld K (tVar 0) "same") (tC (.int 1))) (tC (.int 1))) "same")
  (sFld K (tVar 0) (tVar 1) "stride")
theorem pu_Strides_count_stride (T : GF K c) {vs : List V} {H : Hp} {Q : VK} {E : XK} (h : spCount c vs H Q E) : t_Strides_count_stride K (B Q) (start ["self", "stride"] vs) H := by
  obtain ⟨p, dx, d, t, l, s, k, rfl, hp, q⟩ := h
  obtain ⟨cN, cS, cP, cB, nN1, nS1, nS2, nS3, nS4, nP1, nP2, nP3, nB1, nB2⟩ := id T
  unfold t_Strides_count_stride
  unfold stF at *
  walk_at "w"
  refine w_if2 (fun e => ?_) (fun e => ?_)
  · walk_at "w"
    have e' : d = s := by simpa using e
    rw [if_pos e'] at q
    exact q
  · walk_at "w"
    have e' : ¬ d = s := by simpa using e
    rw [if_neg e'] at q
    exact q
def t_Strides_guess (K : PySem.W.Frag) (c_Strides : Addr) (sp_Strides_count_stride : Sp) : TS := tSeq (tIfS (tB (tNotN (tFld K (tVar 0) "last"))) (tDrop (tMeth c_Strides "count_stride" sp_Strides_count_stride [] E0 (tVar 0) (tCons (tOp (rSubI) (tVar 1) (tFld K (tVar 0) "last")) (tNil)))) (tNext))
  (tSeq (sFld K (tVar 0) (tVar 1) "last")
  (tSeq (tIfS (tOr (tTest (tOp (rEq) (tFld K (tVar 0) "stride") (tC (.int 0)))) (tTest (tOp (rLtI) (tFld K (tVar 0) "same") (tFld K (tVar 0) "times")))) (tRet (tLst (tNil))) (tNext))
  (tRet (tLst (tCons (tOp (rAddI) (tVar 1) (tFld K (tVar 0) "stride")) (tNil))))))
theorem optV_non (l : Option Int) : decide (optV l = V.non) = l.isNone := by
  cases l with
  | none => rfl
  | some _ => exact decide_eq_false (fun z => nomatch z)
theorem pu_Strides_guess (T : GF K c) {vs : List V} {H : Hp} {Q : VK} {E : XK} (h : ∃ x t s k : Int, ∃ l : Option Int, ∃ p dx : Addr, ∃ M : Addr → Prop, ∃ N : Nat, vs = [.ref p, .int x] ∧ H p = some (.ins c.Strides dx (stF (.int t) (optV l) (.int s) (.int k))) ∧ M p ∧ Dom M H ∧
   ∀ H' q M', H q = none → H' q = some (.lst ((strideSays t x (strideOf l s k x)).map V.int)) → ¬ M' q → GAt c H' (N + 1) (.strid t (some x) (strideOf l s k x).1 (strideOf l s k x).2) p M' → Dom M' H' → (∀ a, M a → M' a) → (∀ a, M' a → M a ∨ H a = none) → Out M H H' → Q (.ref q) H') :
    t_Strides_guess K c.Strides (spCount c) (B Q) (start ["self", "place"] vs) H := by
  obtain ⟨x, t, s, k, l, p, dx, M, N, rfl, hp, hm, hd, q⟩ := h
  obtain ⟨cN, cS, cP, cB, nN1, nS1, nS2, nS3, nS4, nP1, nP2, nP3, nB1, nB2⟩ := id T
  -- behind the stores: the test, the answer
  have fin : ∀ (s' k' : Int) (Hx : Hp) (dx : Addr), strideOf l s k x = (s', k') → Hx = upd H p (.ins c.Strides dx (stF (.int t) (.int x) (.int s') (.int k'))) → 
      tSeq (tIfS (tOr (tTest (tOp (rEq) (tFld K (tVar 0) "stride") (tC (.int 0)))) (tTest (tOp (rLtI) (tFld K (tVar 0) "same") (tFld K (tVar 0) "times")))) (tRet (tLst (tNil))) (tNext))
        (tRet (tLst (tCons (tOp (rAddI) (tVar 1) (tFld K (tVar 0) "stride")) (tNil)))) (B Q) [some (.ref p), some (.int x)] Hx := by
    intro s' k' Hx dx es eH
    rw [es] at q
    have hx : Hx p = some (.ins c.Strides dx [("times", .int t), ("last", .int x), ("stride", .int s'), ("same", .int k')]) := by rw [eH]; exact upd_same
    have ho : ∀ b o, b ≠ p → H b = some o → Hx b = some o := fun b o nb e => by rw [eH, upd_ne nb]; exact e
    have hfr : ∀ b, Hx b = none → H b = none := fun b e => by
      cases z : H b with
      | none => rfl
      | some o =>
        by_cases hb : b = p
        · rw [hb, hx] at e; cases e
        · rw [ho b o hb z] at e; cases e
    have done : ∀ (a : Addr) (H' : Hp) (ys : List Int), Hx a = none → Same Hx H' → H' a = some (.lst (ys.map V.int)) → strideSays t x (s', k') = ys → Q (.ref a) H' := fun a H' ys ha e h1 h2 => by
      refine q H' a M (hfr a ha) (by rw [h2]; exact h1) (not_dom hd (hfr a ha)) ⟨dx, e _ _ hx, hm⟩ (fun b z => ?_) (fun _ z => z) (fun b z => .inl z) (fun b o hb nb => e _ _ (ho b o (fun z => nb (z ▸ hm)) hb))
      obtain ⟨o, hb⟩ := hd b z
      by_cases hbp : b = p
      · exact ⟨_, by rw [hbp]; exact e _ _ hx⟩
      · exact ⟨o, e _ _ (ho b o hbp hb)⟩
    walk_at "w"
    refine w_if2 (fun e1 => ?_) (fun e1 => ?_)
    · have e1' : s' = 0 := by simpa using e1
      walk_at "w"
      refine ⟨by decide, w_new fun a H' ha e h1 => done a H' [] ha e h1 ?_⟩
      unfold strideSays
      rw [if_pos (.inl e1')]
    · have e1' : ¬ s' = 0 := by simpa using e1
      walk_at "w"
      refine w_if2 (fun e2 => ?_) (fun e2 => ?_)
      · walk_at "w"
        refine ⟨by decide, w_new fun a H' ha e h1 => done a H' [] ha e h1 ?_⟩
        unfold strideSays
        rw [if_pos (.inr e2)]
      · walk_at "w"
        refine ⟨small_le (by simp), w_new fun a H' ha e h1 => done a H' [x + s'] ha e h1 ?_⟩
        unfold strideSays
        rw [if_neg]
        rintro (z | z)
        · exact e1' z
        · exact e2 z
  unfold t_Strides_guess
  unfold stF at *
  walk_at "w"
  rw [optV_non]
  cases l with
  | none =>
    refine w_ift ?_
    refine w_next ?_
    dsimp only
    refine w_seq (w_sfld ?_)
    walk_at "w2"
    walk_at "w2"
    walk_at "w2"
    exact fin s k _ dx rfl rfl
  | some y =>
    refine w_iff ?_
    walk_at "w"
    show rSubI (.int x) (.int y) H _
    walk_at "w"
    refine ⟨p, dx, x - y, .int t, .int y, s, k, rfl, hp, ?_⟩
    refine w_seq (w_sfld ?_)
    unfold stF
    walk_at "w2"
    walk_at "w2"
    walk_at "w2"
    exact fin (x - y) _ _ dx rfl rfl
end
end SwD
set_option Elab.async false
set_option linter.all false
set_option maxRecDepth 100000
set_option maxHeartbeats 4000000
namespace SwD
open PySem PySem.Spec PyProof.Rows L2 SwX StX Sw
local macro_rules | `(tactic| walk_at "lk") => `(tactic| first | exact lk_at | exact lk_no | ((refine' lk_by (by decide +kernel) ?wq); (case wq => walk_at "lk")))
local macro_rules | `(tactic| walk_at "pf") => `(tactic| first | exact pf_at | exact pf_nil | ((refine' pf_by (by decide +kernel) ?wq); (case wq => walk_at "pf")))
local macro_rules | `(tactic| walk_at "w1") => `(tactic| with_reducible first
  | refine w_seq ?_ | refine w_asg ?_ | refine w_name ?_ | refine w_ret ?_ | refine w_retN ?_ | refine w_drop ?_ | refine w_next ?_ | refine w_if ?_ | refine w_ifE ?_ | refine w_test ?_ | refine w_B ?_ | refine w_bl ?_
  | refine w_not ?_ | refine w_and ?_ | refine w_or ?_ | refine w_andV ?_ | refine w_orV ?_ | refine w_notV ?_ | refine w_isN ?_ | refine w_notN ?_ | refine w_yes ?_
  | refine w_c ?_ | refine w_op ?_ | refine w_un ?_ | refine w_i0 ?_ | refine w_neg ?_ | refine w_nil ?_ | refine w_cons ?_ | refine w_cb ?_ | refine w_call ?_ | refine w_tup ?_ | refine w_lst ?_
  | refine w_fld ?_ | refine w_sfld ?_ | refine w_match ?_ | refine w_case ?_ | refine w_mcons ?_ | refine w_mnil ?_ | refine w_mcap ?_ | refine w_many ?_ | refine w_myes ?_
  | refine w_sub ?_ | refine w_bm ?_ | refine w_sl ?_ | refine w_nopart ?_ | refine w_part ?_ | refine w_int ?_ | refine w_ift ?_ | refine w_iff ?_ | refine w_ifn ?_ | refine w_dget2 ?_ | refine w_star ?_ | refine w_dput ?_ | refine w_dnewK ?_ | refine w_meth ?_ | refine w_oneOf ?_ | refine w_make ?_ | refine w_lc ?_ | refine w_for ?_ | refine w_ilist ?_ | refine w_irng1 ?_ | refine w_irng2 ?_ | refine w_irng3 ?_)
local macro_rules | `(tactic| walk_at "w2") => `(tactic| first
  | ((with_reducible refine' w_var ?wh ?_); (case wh => rfl))
  | ((with_reducible refine' w_eq ?wh ?_); (case wh => rfl))
  | ((with_reducible refine' w_ne ?wh ?_); (case wh => rfl))
  | ((with_reducible refine' w_mno ?wh ?_); (case wh => decide +kernel))
  | ((with_reducible refine' w_mhit ?wh ?wl ?_); (case wh => assumption); (case wl => rfl))
  | ((with_reducible refine' w_mmiss ?wh ?wl ?_); (case wh => assumption); (case wl => simp))
  | ((with_reducible refine' w_fldA ?wh ?wc ?wn ?wl ?_); (case wh => first | assumption | exact upd_same); (case wc => assumption); (case wn => assumption); (case wl => walk_at "lk"))
  | ((with_reducible refine' w_ixl ?wh ?we ?_); (case wh => exact SqL.of (by first | assumption | exact upd_same)); (case we => rfl))
  | ((with_reducible refine' w_ixt ?wh ?we ?_); (case wh => assumption); (case we => rfl))
  | ((with_reducible refine' w_ifT ?wh ?_); (case wh => (with_reducible exact Eq.refl _)))
  | ((with_reducible refine' w_ifF ?wh ?_); (case wh => decide +kernel))
  | ((with_reducible refine' w_isiY ?wh ?wk ?_); (case wh => first | exact .int _ | exact .str _ | exact .lst (by assumption) | exact .tup (by assumption)); (case wk => decide +kernel))
  | ((with_reducible refine' w_isiN ?wh ?wk ?_); (case wh => first | exact .int _ | exact .str _ | exact .lst (by assumption) | exact .tup (by assumption)); (case wk => decide +kernel))
  | ((with_reducible refine' w_ifF ?wh ?_); (case wh => (intro z; cases z; done)))
  | ((with_reducible refine' w_setl ?wh ?we ?wl ?_); (case wh => first | assumption | exact upd_same); (case we => rfl); (case wl => rfl))
  | ((with_reducible refine' w_methA ?wh ?wl ?_); (case wh => first | assumption | exact upd_same); (case wl => walk_at "lk"))
  | ((with_reducible refine' w_sfldB ?wc ?wn ?wz ?wl ?_); (case wc => assumption); (case wn => assumption); (case wz => simp); (case wl => walk_at "pf"))
  | ((with_reducible refine' w_sfldA ?wh ?wc ?wn ?wz ?wl ?_); (case wh => assumption); (case wc => assumption); (case wn => assumption); (case wz => simp); (case wl => walk_at "pf")))
local macro_rules | `(tactic| walk_at "w") => `(tactic| repeat (first | walk_at "w1" | walk_at "w2" | (dsimp only [List.set, setAll, List.append, List.cons_append, List.nil_append])))
section
variable {K : PySem.W.Frag} {c : CA}
/-! ### pairs -/
theorem cut_take (xs : List V) {m : Int} (h : 0 ≤ m) : cutV xs none (some m) = xs.take m.toNat := by
  unfold cutV
  rw [HT.sIx_none, List.drop_zero, Nat.sub_zero]
  have e : m = ((m.toNat : Nat) : Int) := by omega
  rw [e, HT.sIx_nat, Int.toNat_natCast]
  by_cases c : m.toNat ≤ xs.length
  · rw [Nat.min_eq_left c]
  · rw [Nat.min_eq_right (by omega), List.take_of_length_le (Nat.le_refl _), List.take_of_length_le (by omega)]
def neV (x : Int) : V → Bool
  | .int i => !decide (i = x)
  | _ => false
theorem added_ne (x : Int) : ∀ l : List Int, added (neV x) id (l.map V.int) = (l.filter (fun y => decide (y ≠ x))).map V.int
  | [] => rfl
  | a :: r => by
    have ih := added_ne x r
    unfold added at ih ⊢
    rw [List.map_cons, List.filter_cons, List.filter_cons]
    by_cases e : a = x
    · rw [if_neg (by simp [neV, e]), if_neg (by simp [e]), ih]
    · rw [if_pos (by simp [neV, e]), if_pos (by simp [e]), List.map_cons, ih]
      rfl
def prF (m l : V) (d : Addr) : List (Str × V) := [("many", m), ("last", l), ("followers", .ref d)]
/-- put_behind: a new list, the dict alone is written -/
def spPut (c : CA) : Sp := fun vs H Q _ => ∃ p dx d q x m l kvs f M, vs = [.ref p, .int q, .int x] ∧ H p = some (.ins c.Pairs dx (prF (.int m) l d)) ∧ 0 ≤ m ∧ H d = some (.dK kvs) ∧ kvs.length < 100000 ∧ Fol H M (valV kvs (Sum.inl q)) f ∧ f.length ≤ 100 ∧
  ∀ H' a, H a = none → H' a = some (.lst (((x :: f.filter (fun y => decide (y ≠ x))).take m.toNat).map V.int)) → H' d = some (.dK (putK kvs (Sum.inl q) (.ref a))) → Out (Is d) H H' → Q .non H'
def t_Pairs_put_behind (K : PySem.W.Frag) : TS := tSeq (tAsg (tLc (iList K (tDGet2 (tFld K (tVar 0) "followers") (tVar 1) (tLst (tNil)))) (gName 4) (tTest (tOp (rNe) (tVar 4) (tVar 2))) (tVar 4) [4]) (gName 3))
  (sDPut (tFld K (tVar 0) "followers") (tVar 1) (tSl (rSlL K) (tLst (tCons (tVar 2) (tStar K (tVar 3) (tNil)))) (tNoPart) (tPart (tFld K (tVar 0) "many"))))
theorem pu_Pairs_put_behind (T : GF K c) {vs : List V} {H : Hp} {Q : VK} {E : XK} (h : spPut c vs H Q E) : t_Pairs_put_behind K (B Q) (start ["self", "earlier", "place", "others", "other"] vs) H := by
  obtain ⟨p, dx, d, q, x, m, l, kvs, f, M, rfl, hp, h0, hd, hl, hf, hz, k⟩ := h
  obtain ⟨cN, cS, cP, cB, nN1, nS1, nS2, nS3, nS4, nP1, nP2, nP3, nB1, nB2⟩ := id T
  unfold t_Pairs_put_behind
  unfold prF at *
  walk_at "w"
  refine ⟨d, rfl, .inl ⟨kvs, .inl hd⟩, ?_⟩
  walk_at "w"
  refine ⟨by decide, fun z hz0 => ?_⟩
  have e1 : Same H (upd H z (.lst [])) := same_upd hz0
  have hd1 := e1 _ _ hd
  refine ⟨_, DGet.k (k := Sum.inl q) hd1, ?_⟩
  obtain ⟨a0, ea0, ha0⟩ : ∃ a0, (valV kvs (Sum.inl q)).getD (.ref z) = .ref a0 ∧ upd H z (.lst []) a0 = some (.lst (f.map V.int)) := by
    cases e : valV kvs (Sum.inl q) with
    | none =>
      rw [e] at hf
      have hf : f = [] := hf
      rw [hf]
      exact ⟨z, rfl, upd_same⟩
    | some v =>
      rw [e] at hf
      obtain ⟨a, ea, ha, _⟩ := hf
      exact ⟨a, ea, e1 _ _ ha⟩
  rw [ea0]
  generalize upd H z (.lst []) = H1 at e1 hd1 ha0
  refine w_lcl (neV x) id (SqL.of ha0) (small_lt (by rw [List.length_map]; omega)) (fun _ => rfl) (fun y hy H' s R r => ?_) (fun y hy cy H' s R r => ?_) (fun o H2 ho e2 ho2 => ?_)
  · obtain ⟨i, _, rfl⟩ := List.mem_map.mp hy
    walk_at "w"
    have e : decide (V.int i = V.int x) = decide (i = x) := by simp
    rw [e]
    exact r _ (Same.refl _)
  · walk_at "w"
    exact r _ (Same.refl _)
  · rw [added_ne] at ho2
    have hp2 := e2 _ _ (e1 _ _ hp)
    have hd2 := e2 _ _ hd1
    walk_at "w"
    refine ⟨o, _, rfl, .inr (SqL.of ho2), ?_⟩
    walk_at "w"
    refine ⟨small_le ?_, w_new fun p1 H3 hp1 e3 ho3 => ?_⟩
    · simp only [List.length_cons, List.append_nil, List.length_map]
      have := List.length_filter_le (fun y => decide (y ≠ x)) f
      omega
    have hp3 := e3 _ _ hp2
    have hd3 := e3 _ _ hd2
    walk_at "w"
    refine w_sll (SqL.of ho3) (w_new fun p2 H4 hp4 e4 ho4 => ?_)
    have hp4' := e4 _ _ hp3
    have hd4 := e4 _ _ hd3
    walk_at "w"
    refine ⟨d, _, rfl, DPut.k (k := Sum.inl q) hd4 (small_lt (by omega)), ?_⟩
    have np2 : p2 ≠ d := ne_of ho4 hd4 (fun z => nomatch z)
    have fr : H p2 = none := e1.free (e2.free (e3.free hp4))
    refine k _ p2 fr ?_ upd_same ?_
    · rw [upd_ne np2, ho4, cut_take _ h0, List.append_nil, List.map_take, List.map_cons]
    · intro b o hb nb
      rw [upd_ne nb]
      exact e4 _ _ (e3 _ _ (e2 _ _ (e1 _ _ hb)))
def t_Pairs_guess (K : PySem.W.Frag) (c_Pairs : Addr) (sp_Pairs_put_behind : Sp) : TS := tSeq (tIfS (tB (tNotN (tFld K (tVar 0) "last"))) (tDrop (tMeth c_Pairs "put_behind" sp_Pairs_put_behind [] E0 (tVar 0) (tCons (tFld K (tVar 0) "last") (tCons (tVar 1) (tNil))))) (tNext))
  (tSeq (sFld K (tVar 0) (tVar 1) "last")
  (tRet (tCB (rListOf K) (tCons (tDGet2 (tFld K (tVar 0) "followers") (tVar 1) (tLst (tNil))) (tNil)))))
theorem pu_Pairs_guess (T : GF K c) {vs : List V} {H : Hp} {Q : VK} {E : XK} (h : ∃ x m : Int, ∃ l : Option Int, ∃ f : Int → List Int, ∃ p : Addr, ∃ M : Addr → Prop, ∃ N : Nat, vs = [.ref p, .int x] ∧ GAt c H N (.pairs m l f) p M ∧ Dom M H ∧ Good (.pairs m l f) ∧ N < 100000 ∧
   ∀ H' q M', H q = none → H' q = some (.lst ((folOf l f m x x).map V.int)) → ¬ M' q → GAt c H' (N + 1) (.pairs m (some x) (folOf l f m x)) p M' → Dom M' H' → (∀ a, M a → M' a) → (∀ a, M' a → M a ∨ H a = none) → Out M H H' → Q (.ref q) H') :
    t_Pairs_guess K c.Pairs (spPut c) (B Q) (start ["self", "place"] vs) H := by
  obtain ⟨x, m, l, f, p, M, N, rfl, ⟨dx, d, kvs, hp, hm, hd, md, hl, hf⟩, dom, ⟨h0, h1, h2⟩, hN, k⟩ := h
  obtain ⟨cN, cS, cP, cB, nN1, nS1, nS2, nS3, nS4, nP1, nP2, nP3, nB1, nB2⟩ := id T
  have npd : p ≠ d := ne_of hp hd (fun z => nomatch z)
  -- behind the dict's change: self.last = place; the copy
  have fin : ∀ (Hx : Hp) (M' : Addr → Prop) (kvs' : List (Key × V)), M' p → M' d → Hx p = some (.ins c.Pairs dx [("many", .int m), ("last", optV l), ("followers", .ref d)]) → Hx d = some (.dK kvs') → kvs'.length ≤ N + 1 →
      (∀ q, Fol Hx M' (valV kvs' (Sum.inl q)) (folOf l f m x q)) → Dom M' Hx → (∀ a, M a → M' a) → (∀ a, M' a → M a ∨ H a = none) → Out M H Hx → (∀ a, Hx a = none → H a = none) →
      tSeq (sFld K (tVar 0) (tVar 1) "last") (tRet (tCB (rListOf K) (tCons (tDGet2 (tFld K (tVar 0) "followers") (tVar 1) (tLst (tNil))) (tNil)))) (B Q) [some (.ref p), some (.int x)] Hx := by
    intro Hx M' kvs' mp md' hxp hxd hl' hf' dom' hMM hM ho hfr
    walk_at "w"
    have hd1 : upd Hx p (.ins c.Pairs dx [("many", V.int m), ("last", V.int x), ("followers", V.ref d)]) d = some (.dK kvs') := by rw [upd_ne npd.symm]; exact hxd
    refine ⟨d, rfl, .inl ⟨kvs', .inl hd1⟩, ?_⟩
    walk_at "w"
    refine ⟨by decide, w_new fun z H2 hz e2 hz2 => ?_⟩
    have hp2 : H2 p = some (.ins c.Pairs dx [("many", V.int m), ("last", V.int x), ("followers", V.ref d)]) := e2 _ _ upd_same
    have hd2 := e2 _ _ hd1
    refine ⟨_, DGet.k (k := Sum.inl x) hd2, ?_⟩
    have st2 : ∀ b o, b ≠ p → Hx b = some o → H2 b = some o := fun b o nb e => e2 _ _ (by rw [upd_ne nb]; exact e)
    obtain ⟨a0, ea0, ha0⟩ : ∃ a0, (valV kvs' (Sum.inl x)).getD (.ref z) = .ref a0 ∧ H2 a0 = some (.lst ((folOf l f m x x).map V.int)) := by
      have hfx := hf' x
      cases e : valV kvs' (Sum.inl x) with
      | none =>
        rw [e] at hfx
        have hfx : folOf l f m x x = [] := hfx
        rw [hfx]
        exact ⟨z, rfl, hz2⟩
      | some v =>
        rw [e] at hfx
        obtain ⟨a, ea, ha, _⟩ := hfx
        exact ⟨a, ea, st2 _ _ (ne_of ha hxp (fun z => nomatch z)) ha⟩
    rw [ea0]
    walk_at "w"
    refine w_listof (SqL.of ha0) (w_new fun q H3 hq e3 hq3 => ?_)
    have fq : Hx q = none := by
      have h2 := e2.free hq
      by_cases hqp : q = p
      · rw [hqp, upd_same] at h2; cases h2
      · rw [upd_ne hqp] at h2; exact h2
    have st3 : ∀ b o, b ≠ p → Hx b = some o → H3 b = some o := fun b o nb e => e3 _ _ (st2 _ _ nb e)
    refine k H3 q M' (hfr q fq) hq3 (not_dom dom' fq) ⟨dx, d, kvs', e3 _ _ hp2, mp, e3 _ _ hd2, md', hl', fun y => ?_⟩ (fun a z => ?_) hMM hM (fun b o hb nb => ?_)
    · have hy := hf' y
      revert hy
      cases valV kvs' (Sum.inl y) with
      | none => exact id
      | some v =>
        rintro ⟨a, ea, ha, ma⟩
        exact ⟨a, ea, st3 _ _ (ne_of ha hxp (fun z => nomatch z)) ha, ma⟩
    · obtain ⟨o, ho⟩ := dom' a z
      by_cases hap : a = p
      · exact ⟨_, by rw [hap]; exact e3 _ _ hp2⟩
      · exact ⟨o, st3 _ _ hap ho⟩
    · exact st3 _ _ (fun z => nb (z ▸ hm)) (ho b o hb nb)
  unfold t_Pairs_guess
  walk_at "w"
  rw [optV_non]
  cases l with
  | none =>
    refine w_ift ?_
    refine w_next ?_
    exact fin H M kvs hm md hp hd (by omega) hf dom (fun _ z => z) (fun a z => .inl z) Out.refl (fun _ z => z)
  | some y =>
    refine w_iff ?_
    walk_at "w"
    show spPut c [.ref p, .int y, .int x] H _ _
    refine ⟨p, dx, d, y, x, m, .int y, kvs, f y, M, rfl, hp, h0, hd, by omega, hf y, h2 y, fun H' a ha ha' hd' e => ?_⟩
    have nap : a ≠ p := fun z => by rw [z, hp] at ha; cases ha
    have nad : a ≠ d := fun z => by rw [z, hd] at ha; cases ha
    have hp' : H' p = some (.ins c.Pairs dx [("many", .int m), ("last", .int y), ("followers", .ref d)]) := e _ _ hp npd
    refine fin H' (fun b => M b ∨ b = a) _ (.inl hm) (.inl md) hp' hd' (by have := length_putK kvs (Sum.inl y) (V.ref a); omega) (fun q => ?_) (fun b z => ?_) (fun _ z => .inl z) (fun b z => ?_) (fun b o hb nb => ?_) (fun b hb => ?_)
    · rw [valV_put]
      show Fol H' _ _ (if q = y then behind f m y x else f q)
      by_cases hqy : q = y
      · subst hqy
        rw [if_pos rfl, if_pos rfl]
        exact ⟨a, rfl, ha', .inr rfl⟩
      · rw [if_neg (fun z => hqy (Sum.inl.inj z)), if_neg hqy]
        have hfq := hf q
        revert hfq
        cases valV kvs (Sum.inl q) with
        | none => exact id
        | some v =>
          rintro ⟨b, eb, hb, mb⟩
          exact ⟨b, eb, e _ _ hb (ne_of hb hd (fun z => nomatch z)), .inl mb⟩
    · rcases z with z | z
      · obtain ⟨o, ho⟩ := dom b z
        by_cases hbd : b = d
        · exact ⟨_, by rw [hbd]; exact hd'⟩
        · exact ⟨o, e _ _ ho hbd⟩
      · exact ⟨_, by rw [z]; exact ha'⟩
    · rcases z with z | z
      · exact .inl z
      · exact .inr (by rw [z]; exact ha)
    · exact e _ _ hb (fun z => nb (z ▸ md))
    · cases z : H b with
      | none => rfl
      | some o =>
        by_cases hbd : b = d
        · rw [hbd, hd'] at hb; cases hb
        · rw [e _ _ z hbd] at hb; cases hb
end
end SwD
set_option Elab.async false
set_option linter.all false
set_option maxRecDepth 100000
set_option maxHeartbeats 4000000
namespace SwD
open PySem PySem.Spec PyProof.Rows L2 SwX StX Sw
local macro_rules | `(tactic| walk_at "lk") => `(tactic| first | exact lk_at | exact lk_no | ((refine' lk_by (by decide +kernel) ?wq); (case wq => walk_at "lk")))
local macro_rules | `(tactic| walk_at "pf") => `(tactic| first | exact pf_at | exact pf_nil | ((refine' pf_by (by decide +kernel) ?wq); (case wq => walk_at "pf")))
local macro_rules | `(tactic| walk_at "w1") => `(tactic| with_reducible first
  | refine w_seq ?_ | refine w_asg ?_ | refine w_name ?_ | refine w_ret ?_ | refine w_retN ?_ | refine w_drop ?_ | refine w_next ?_ | refine w_if ?_ | refine w_ifE ?_ | refine w_test ?_ | refine w_B ?_ | refine w_bl ?_
  | refine w_not ?_ | refine w_and ?_ | refine w_or ?_ | refine w_andV ?_ | refine w_orV ?_ | refine w_notV ?_ | refine w_isN ?_ | refine w_notN ?_ | refine w_yes ?_
  | refine w_c ?_ | refine w_op ?_ | refine w_un ?_ | refine w_i0 ?_ | refine w_neg ?_ | refine w_nil ?_ | refine w_cons ?_ | refine w_cb ?_ | refine w_call ?_ | refine w_tup ?_ | refine w_lst ?_
  | refine w_fld ?_ | refine w_sfld ?_ | refine w_match ?_ | refine w_case ?_ | refine w_mcons ?_ | refine w_mnil ?_ | refine w_mcap ?_ | refine w_many ?_ | refine w_myes ?_
  | refine w_sub ?_ | refine w_bm ?_ | refine w_sl ?_ | refine w_nopart ?_ | refine w_part ?_ | refine w_int ?_ | refine w_ift ?_ | refine w_iff ?_ | refine w_ifn ?_ | refine w_dget2 ?_ | refine w_star ?_ | refine w_dput ?_ | refine w_dnewK ?_ | refine w_meth ?_ | refine w_oneOf ?_ | refine w_make ?_ | refine w_lc ?_ | refine w_for ?_ | refine w_ilist ?_ | refine w_irng1 ?_ | refine w_irng2 ?_ | refine w_irng3 ?_)
local macro_rules | `(tactic| walk_at "w2") => `(tactic| first
  | ((with_reducible refine' w_var ?wh ?_); (case wh => rfl))
  | ((with_reducible refine' w_eq ?wh ?_); (case wh => rfl))
  | ((with_reducible refine' w_ne ?wh ?_); (case wh => rfl))
  | ((with_reducible refine' w_mno ?wh ?_); (case wh => decide +kernel))
  | ((with_reducible refine' w_mhit ?wh ?wl ?_); (case wh => assumption); (case wl => rfl))
  | ((with_reducible refine' w_mmiss ?wh ?wl ?_); (case wh => assumption); (case wl => simp))
  | ((with_reducible refine' w_fldA ?wh ?wc ?wn ?wl ?_); (case wh => first | assumption | exact upd_same); (case wc => assumption); (case wn => assumption); (case wl => walk_at "lk"))
  | ((with_reducible refine' w_ixl ?wh ?we ?_); (case wh => exact SqL.of (by first | assumption | exact upd_same)); (case we => rfl))
  | ((with_reducible refine' w_ixt ?wh ?we ?_); (case wh => assumption); (case we => rfl))
  | ((with_reducible refine' w_ifT ?wh ?_); (case wh => (with_reducible exact Eq.refl _)))
  | ((with_reducible refine' w_ifF ?wh ?_); (case wh => decide +kernel))
  | ((with_reducible refine' w_isiY ?wh ?wk ?_); (case wh => first | exact .int _ | exact .str _ | exact .lst (by assumption) | exact .tup (by assumption)); (case wk => decide +kernel))
  | ((with_reducible refine' w_isiN ?wh ?wk ?_); (case wh => first | exact .int _ | exact .str _ | exact .lst (by assumption) | exact .tup (by assumption)); (case wk => decide +kernel))
  | ((with_reducible refine' w_ifF ?wh ?_); (case wh => (intro z; cases z; done)))
  | ((with_reducible refine' w_setl ?wh ?we ?wl ?_); (case wh => first | assumption | exact upd_same); (case we => rfl); (case wl => rfl))
  | ((with_reducible refine' w_methA ?wh ?wl ?_); (case wh => first | assumption | exact upd_same); (case wl => walk_at "lk"))
  | ((with_reducible refine' w_sfldB ?wc ?wn ?wz ?wl ?_); (case wc => assumption); (case wn => assumption); (case wz => simp); (case wl => walk_at "pf"))
  | ((with_reducible refine' w_sfldA ?wh ?wc ?wn ?wz ?wl ?_); (case wh => assumption); (case wc => assumption); (case wn => assumption); (case wz => simp); (case wl => walk_at "pf")))
local macro_rules | `(tactic| walk_at "w") => `(tactic| repeat (first | walk_at "w1" | walk_at "w2" | (dsimp only [List.set, setAll, List.append, List.cons_append, List.nil_append])))
inductive Lab where
  | silent | neigh | strid | pairs | both
def lab : S → Lab
  | .silent => .silent
  | .neigh _ => .neigh
  | .strid _ _ _ _ => .strid
  | .pairs _ _ _ => .pairs
  | .both _ _ => .both
def CA.at (c : CA) : Lab → Addr
  | .silent => c.Silent
  | .neigh => c.Neighbours
  | .strid => c.Strides
  | .pairs => c.Pairs
  | .both => c.Both
/-- guess of an object of one class -/
def spGuessL (c : CA) (n : Nat) (i : Lab) : Sp := fun vs H Q _ => ∃ p x s M N, lab s = i ∧ vs = [.ref p, .int x] ∧ GAt c H N s p M ∧ Dom M H ∧ deep s ≤ n ∧ Good s ∧ N < 100000 ∧
  ∀ H' q M', H q = none → H' q = some (.lst ((s.says x).map V.int)) → ¬ M' q → GAt c H' (N + 1) (s.next x) p M' → Dom M' H' → (∀ a, M a → M' a) → (∀ a, M' a → M a ∨ H a = none) → Out M H H' → Q (.ref q) H'
theorem gat_ins {c : CA} {H : Hp} {N : Nat} : ∀ {s : S} {p : Addr} {M : Addr → Prop}, GAt c H N s p M → ∃ dx fs, H p = some (.ins (c.at (lab s)) dx fs) ∧ fs.lookup ("guess" : Str) = none
  | .silent, _, _, ⟨dx, h, _⟩ => ⟨dx, _, h, rfl⟩
  | .neigh _, _, _, ⟨dx, h, _⟩ => ⟨dx, _, h, by walk_at "lk"⟩
  | .strid _ _ _ _, _, _, ⟨dx, h, _⟩ => ⟨dx, _, h, by walk_at "lk"⟩
  | .pairs _ _ _, _, _, ⟨dx, _, _, h, _⟩ => ⟨dx, _, h, by walk_at "lk"⟩
  | .both _ _, _, _, ⟨dx, _, _, _, _, h, _⟩ => ⟨dx, _, h, by walk_at "lk"⟩
def notIn (l : List Int) : V → Bool
  | .int i => !decide (i ∈ l)
  | _ => false
theorem added_notIn (l : List Int) : ∀ ys : List Int, added (notIn l) id (ys.map V.int) = (ys.filter (fun v => decide (v ∉ l))).map V.int
  | [] => rfl
  | a :: r => by
    have ih := added_notIn l r
    unfold added at ih ⊢
    rw [List.map_cons, List.filter_cons, List.filter_cons]
    by_cases e : a ∈ l
    · rw [if_neg (by simp [notIn, e]), if_neg (by simp [e]), ih]
    · rw [if_pos (by simp [notIn, e]), if_pos (by simp [e]), List.map_cons, ih]
      rfl
section
variable {K : PySem.W.Frag} {c : CA}
def t_Both_guess (K : PySem.W.Frag) (R_guess : Lab → Addr) (sp_guess : Lab → Sp) : TS := tSeq (tAsg (tOneOf R_guess "guess" sp_guess E0 (tFld K (tVar 0) "one") (tCons (tVar 1) (tNil))) (gName 2))
  (tSeq (tAsg (tOneOf R_guess "guess" sp_guess E0 (tFld K (tVar 0) "other") (tCons (tVar 1) (tNil))) (gName 3))
  (tRet (tOp (rCat) (tVar 2) (tLc (iList K (tVar 3)) (gName 4) (tTest (tOp (rIn K true) (tVar 4) (tVar 2))) (tVar 4) [4]))))
theorem pu_Both_guess (T : GF K c) {vs : List V} {H : Hp} {Q : VK} {E : XK} {n : Nat} (hn : n ≤ 10) (h : spGuessL c (n + 1) .both vs H Q E) : t_Both_guess K c.at (spGuessL c n) (B Q) (start ["self", "place", "first", "second", "guessed"] vs) H := by
  obtain ⟨p, x, s, M, N, el, rfl, ga, dom, hdp, hg, hN, k⟩ := h
  obtain ⟨a, b, rfl⟩ : ∃ a b, s = .both a b := by
    cases s with
    | both a b => exact ⟨a, b, rfl⟩
    | _ => cases el
  obtain ⟨dx, pa, pb, A, Bs, hp, mp, gA, gB, iA, iB, dj, nA, nB⟩ := ga
  obtain ⟨cN, cS, cP, cB, nN1, nS1, nS2, nS3, nS4, nP1, nP2, nP3, nB1, nB2⟩ := id T
  have hdp : max (deep a) (deep b) + 1 ≤ n + 1 := hdp
  have dA : Dom A H := fun y z => dom y (iA y z)
  have dB : Dom Bs H := fun y z => dom y (iB y z)
  unfold t_Both_guess
  walk_at "w"
  obtain ⟨dxa, fa, ha, la⟩ := gat_ins gA
  refine ⟨pa, lab a, dxa, fa, rfl, ha, la, ?_⟩
  walk_at "w"
  refine ⟨pa, x, a, A, N, rfl, rfl, gA, dA, by omega, hg.1, hN, fun H1 q1 A1 fq1 hq1 nq1 gA1 dA1 tA1 sA1 o1 => ?_⟩
  have hp1 := o1 _ _ hp nA
  have gB1 : GAt c H1 N b pb Bs := gat_keep (fun y z => by obtain ⟨o, ho⟩ := dB y z; rw [ho]; exact o1 _ _ ho (fun w => dj y w z)) gB
  have dB1 : Dom Bs H1 := fun y z => by obtain ⟨o, ho⟩ := dB y z; exact ⟨o, o1 _ _ ho (fun w => dj y w z)⟩
  have nA1 : ∀ y, A1 y → ¬ Bs y := fun y z w => by
    rcases sA1 y z with q | q
    · exact dj y q w
    · obtain ⟨o, ho⟩ := dB y w
      rw [q] at ho
      cases ho
  have nq1B : ¬ Bs q1 := not_dom dB fq1
  walk_at "w"
  obtain ⟨dxb, fb, hb, lb⟩ := gat_ins gB1
  refine ⟨pb, lab b, dxb, fb, rfl, hb, lb, ?_⟩
  walk_at "w"
  refine ⟨pb, x, b, Bs, N, rfl, rfl, gB1, dB1, by omega, hg.2, hN, fun H2 q2 B2 fq2 hq2 nq2 gB2 dB2 tB2 sB2 o2 => ?_⟩
  have hp2 := o2 _ _ hp1 nB
  have hq1' := o2 _ _ hq1 nq1B
  have gA2 : GAt c H2 (N + 1) (a.next x) pa A1 := gat_keep (fun y z => by obtain ⟨o, ho⟩ := dA1 y z; rw [ho]; exact o2 _ _ ho (nA1 y z)) gA1
  have dA2 : Dom A1 H2 := fun y z => by obtain ⟨o, ho⟩ := dA1 y z; exact ⟨o, o2 _ _ ho (nA1 y z)⟩
  walk_at "w"
  refine w_lcl (notIn (a.says x)) id (SqL.of hq2) (small_lt ?_) (fun _ => rfl) (fun y hy H' s R r => ?_) (fun y hy cy H' s R r => ?_) (fun o H3 ho e3 ho3 => ?_)
  · rw [List.length_map]
    have h1 := says_le x hg.2
    have h2 : 2 ^ deep b ≤ 2 ^ 11 := Nat.pow_le_pow_right (by decide) (by omega)
    omega
  · obtain ⟨i, _, rfl⟩ := List.mem_map.mp hy
    walk_at "w"
    refine w_inl (SqL.of (s _ _ hq1')) ?_
    walk_at "w"
    exact r _ (Same.refl _)
  · walk_at "w"
    exact r _ (Same.refl _)
  · rw [added_notIn] at ho3
    refine w_cat (e3 _ _ hq1') ho3 (small_le ?_) (w_new fun q3 H4 hq3 e4 h4 => ?_)
    · rw [List.length_map, List.length_map]
      have h1 := says_le x hg.1
      have h2 := says_le x hg.2
      have h3 : 2 ^ deep a ≤ 2 ^ 11 := Nat.pow_le_pow_right (by decide) (by omega)
      have h4 : 2 ^ deep b ≤ 2 ^ 11 := Nat.pow_le_pow_right (by decide) (by omega)
      have h5 := List.length_filter_le (fun v => decide (v ∉ a.says x)) (b.says x)
      omega
    rw [← List.map_append] at h4
    have e24 : Same H2 H4 := e3.trans e4
    have fr2 : H2 q3 = none := e3.free hq3
    have fr1 : H1 q3 = none := by
      cases z : H1 q3 with
      | none => rfl
      | some o =>
        by_cases w : Bs q3
        · obtain ⟨o', ho'⟩ := dB2 q3 (tB2 q3 w)
          rw [fr2] at ho'
          cases ho'
        · rw [o2 _ _ z w] at fr2
          cases fr2
    have fr0 : H q3 = none := by
      cases z : H q3 with
      | none => rfl
      | some o =>
        by_cases w : A q3
        · obtain ⟨o', ho'⟩ := dA1 q3 (tA1 q3 w)
          rw [fr1] at ho'
          cases ho'
        · rw [o1 _ _ z w] at fr1
          cases fr1
    have nB2A : ∀ y, A1 y → ¬ B2 y := fun y z w => by
      rcases sB2 y w with q | q
      · exact nA1 y z q
      · obtain ⟨o', ho'⟩ := dA1 y z
        rw [q] at ho'
        cases ho'
    have out02 : Out M H H2 := fun b o hb nb => o2 _ _ (o1 _ _ hb (fun z => nb (iA b z))) (fun z => nb (iB b z))
    have dM2 : ∀ y, M y → ∃ o, H2 y = some o := fun y z => by
      obtain ⟨o, ho⟩ := dom y z
      by_cases wB : Bs y
      · exact dB2 y (tB2 y wB)
      · by_cases wA : A y
        · obtain ⟨o', ho'⟩ := dA1 y (tA1 y wA)
          exact ⟨o', o2 _ _ ho' wB⟩
        · exact ⟨o, o2 _ _ (o1 _ _ ho wA) wB⟩
    refine k H4 q3 (fun y => M y ∨ A1 y ∨ B2 y) fr0 h4 ?_ ⟨dx, pa, pb, A1, B2, e24 _ _ hp2, .inl mp, gat_same dA2 e24 gA2, gat_same dB2 e24 gB2, fun y z => .inr (.inl z), fun y z => .inr (.inr z), nB2A, ?_, ?_⟩ ?_ (fun _ z => .inl z) ?_ (fun b o hb nb => e24 _ _ (out02 b o hb nb))
    · rintro (z | z | z)
      · exact not_dom dom fr0 z
      · exact not_dom dA1 fr1 z
      · exact not_dom dB2 fr2 z
    · intro z
      rcases sA1 p z with q | q
      · exact nA q
      · rw [hp] at q
        cases q
    · intro z
      rcases sB2 p z with q | q
      · exact nB q
      · rw [hp1] at q
        cases q
    · rintro y (z | z | z)
      · obtain ⟨o', ho'⟩ := dM2 y z
        exact ⟨o', e24 _ _ ho'⟩
      · obtain ⟨o', ho'⟩ := dA2 y z
        exact ⟨o', e24 _ _ ho'⟩
      · obtain ⟨o', ho'⟩ := dB2 y z
        exact ⟨o', e24 _ _ ho'⟩
    · rintro y (z | z | z)
      · exact .inl z
      · rcases sA1 y z with q | q
        · exact .inl (iA y q)
        · exact .inr q
      · rcases sB2 y z with q | q
        · exact .inl (iB y q)
        · by_cases wA : A y
          · exact .inl (iA y wA)
          · refine .inr ?_
            cases w : H y with
            | none => rfl
            | some o =>
              rw [o1 _ _ w wA] at q
              cases q
end
end SwD
set_option Elab.async false
set_option linter.all false
set_option maxRecDepth 100000
set_option maxHeartbeats 4000000
namespace SwD
open PySem PySem.Spec PyProof.Rows L2 SwX StX Sw
local macro_rules | `(tactic| walk_at "lk") => `(tactic| first | exact lk_at | exact lk_no | ((refine' lk_by (by decide +kernel) ?wq); (case wq => walk_at "lk")))
local macro_rules | `(tactic| walk_at "pf") => `(tactic| first | exact pf_at | exact pf_nil | ((refine' pf_by (by decide +kernel) ?wq); (case wq => walk_at "pf")))
local macro_rules | `(tactic| walk_at "w1") => `(tactic| with_reducible first
  | refine w_seq ?_ | refine w_asg ?_ | refine w_name ?_ | refine w_ret ?_ | refine w_retN ?_ | refine w_drop ?_ | refine w_next ?_ | refine w_if ?_ | refine w_ifE ?_ | refine w_test ?_ | refine w_B ?_ | refine w_bl ?_
  | refine w_not ?_ | refine w_and ?_ | refine w_or ?_ | refine w_andV ?_ | refine w_orV ?_ | refine w_notV ?_ | refine w_isN ?_ | refine w_notN ?_ | refine w_yes ?_
  | refine w_c ?_ | refine w_op ?_ | refine w_un ?_ | refine w_i0 ?_ | refine w_neg ?_ | refine w_nil ?_ | refine w_cons ?_ | refine w_cb ?_ | refine w_call ?_ | refine w_tup ?_ | refine w_lst ?_
  | refine w_fld ?_ | refine w_sfld ?_ | refine w_match ?_ | refine w_case ?_ | refine w_mcons ?_ | refine w_mnil ?_ | refine w_mcap ?_ | refine w_many ?_ | refine w_myes ?_
  | refine w_sub ?_ | refine w_bm ?_ | refine w_sl ?_ | refine w_nopart ?_ | refine w_part ?_ | refine w_int ?_ | refine w_ift ?_ | refine w_iff ?_ | refine w_ifn ?_ | refine w_dget2 ?_ | refine w_star ?_ | refine w_dput ?_ | refine w_dnewK ?_ | refine w_meth ?_ | refine w_oneOf ?_ | refine w_make ?_ | refine w_lc ?_ | refine w_for ?_ | refine w_ilist ?_ | refine w_irng1 ?_ | refine w_irng2 ?_ | refine w_irng3 ?_)
local macro_rules | `(tactic| walk_at "w2") => `(tactic| first
  | ((with_reducible refine' w_var ?wh ?_); (case wh => rfl))
  | ((with_reducible refine' w_eq ?wh ?_); (case wh => rfl))
  | ((with_reducible refine' w_ne ?wh ?_); (case wh => rfl))
  | ((with_reducible refine' w_mno ?wh ?_); (case wh => decide +kernel))
  | ((with_reducible refine' w_mhit ?wh ?wl ?_); (case wh => assumption); (case wl => rfl))
  | ((with_reducible refine' w_mmiss ?wh ?wl ?_); (case wh => assumption); (case wl => simp))
  | ((with_reducible refine' w_fldA ?wh ?wc ?wn ?wl ?_); (case wh => first | assumption | exact upd_same); (case wc => assumption); (case wn => assumption); (case wl => walk_at "lk"))
  | ((with_reducible refine' w_ixl ?wh ?we ?_); (case wh => exact SqL.of (by first | assumption | exact upd_same)); (case we => rfl))
  | ((with_reducible refine' w_ixt ?wh ?we ?_); (case wh => assumption); (case we => rfl))
  | ((with_reducible refine' w_ifT ?wh ?_); (case wh => (with_reducible exact Eq.refl _)))
  | ((with_reducible refine' w_ifF ?wh ?_); (case wh => decide +kernel))
  | ((with_reducible refine' w_isiY ?wh ?wk ?_); (case wh => first | exact .int _ | exact .str _ | exact .lst (by assumption) | exact .tup (by assumption)); (case wk => decide +kernel))
  | ((with_reducible refine' w_isiN ?wh ?wk ?_); (case wh => first | exact .int _ | exact .str _ | exact .lst (by assumption) | exact .tup (by assumption)); (case wk => decide +kernel))
  | ((with_reducible refine' w_ifF ?wh ?_); (case wh => (intro z; cases z; done)))
  | ((with_reducible refine' w_setl ?wh ?we ?wl ?_); (case wh => first | assumption | exact upd_same); (case we => rfl); (case wl => rfl))
  | ((with_reducible refine' w_methA ?wh ?wl ?_); (case wh => first | assumption | exact upd_same); (case wl => walk_at "lk"))
  | ((with_reducible refine' w_sfldB ?wc ?wn ?wz ?wl ?_); (case wc => assumption); (case wn => assumption); (case wz => simp); (case wl => walk_at "pf"))
  | ((with_reducible refine' w_sfldA ?wh ?wc ?wn ?wz ?wl ?_); (case wh => assumption); (case wc => assumption); (case wn => assumption); (case wz => simp); (case wl => walk_at "pf")))
local macro_rules | `(tactic| walk_at "w") => `(tactic| repeat (first | walk_at "w1" | walk_at "w2" | (dsimp only [List.set, setAll, List.append, List.cons_append, List.nil_append])))
/-! ### a guesser's tuple -/
def GTup (H : Hp) : G → Addr → Prop
  | .non, a => H a = some (.tup [.str "none"])
  | .next n, a => H a = some (.tup [.str "next", .int n])
  | .stride n, a => H a = some (.tup [.str "stride", .int n])
  | .pairs n, a => H a = some (.tup [.str "pairs", .int n])
  | .both x y, a => ∃ p q, H a = some (.tup [.str "both", .ref p, .ref q]) ∧ GTup H x p ∧ GTup H y q
theorem gtup_at {H : Hp} : ∀ {g : G} {a : Addr}, GTup H g a → ∃ xs, H a = some (.tup xs)
  | .non, _, h => ⟨_, h⟩
  | .next _, _, h => ⟨_, h⟩
  | .stride _, _, h => ⟨_, h⟩
  | .pairs _, _, h => ⟨_, h⟩
  | .both _ _, _, ⟨_, _, h, _⟩ => ⟨_, h⟩
theorem gtup_keep {H H' : Hp} (k : ∀ a xs, H a = some (.tup xs) → H' a = some (.tup xs)) : ∀ {g : G} {a : Addr}, GTup H g a → GTup H' g a
  | .non, _, h => k _ _ h
  | .next _, _, h => k _ _ h
  | .stride _, _, h => k _ _ h
  | .pairs _, _, h => k _ _ h
  | .both _ _, _, ⟨p, q, h, h1, h2⟩ => ⟨p, q, k _ _ h, gtup_keep k h1, gtup_keep k h2⟩
theorem gtup_same {H H' : Hp} (e : Same H H') {g : G} {a : Addr} (h : GTup H g a) : GTup H' g a := gtup_keep (fun _ _ z => e _ _ z) h
section
variable {K : PySem.W.Frag} {c : CA}
/-! ### is it a guesser -/
def spIsG (n : Nat) : Sp := fun vs H Q _ => ∃ a d g, vs = [.ref a, .int d] ∧ GTup H g a ∧ g.ok ∧ (g.depth : Int) + d ≤ 3 ∧ g.depth < n ∧ ∀ H', Same H H' → Q (.bl true) H'
def t_is_guesser (K : PySem.W.Frag) (sp_is_guesser : Sp) : TS := tSeq (tIfS (tNot (tB (tCB (rIsi K) (tCons (tVar 0) (tCons (tC (.ty "tuple")) (tNil)))))) (tRet (tC (.bl false))) (tNext))
  (tMatch (tVar 0) (csCons (mSeq K 1 (msCons (mVal (.str "none")) (msNil))) [] (tRet (tC (.bl true)))
    (csCons (mSeq K 2 (msCons (mVal (.str "next")) (msCons (mCap) (msNil)))) [2] (tRet (tOp (rIn K false) (tVar 2) (tTup (tCons (tC (.int 1)) (tCons (tC (.int 2)) (tCons (tC (.int 3)) (tNil)))))))
    (csCons (mSeq K 2 (msCons (mVal (.str "stride")) (msCons (mCap) (msNil)))) [3] (tRet (tOp (rIn K false) (tVar 3) (tTup (tCons (tC (.int 1)) (tCons (tC (.int 2)) (tCons (tC (.int 3)) (tNil)))))))
    (csCons (mSeq K 2 (msCons (mVal (.str "pairs")) (msCons (mCap) (msNil)))) [2] (tRet (tOp (rIn K false) (tVar 2) (tTup (tCons (tC (.int 1)) (tCons (tC (.int 2)) (tNil))))))
    (csCons (mSeq K 3 (msCons (mVal (.str "both")) (msCons (mCap) (msCons (mCap) (msNil))))) [4, 5] (tRet (tAndV (tOp (rLtI) (tVar 1) (tC (.int 3))) (tAndV (tCall sp_is_guesser [] E0 (tCons (tVar 4) (tCons (tOp (rAddI) (tVar 1) (tC (.int 1))) (tNil)))) (tCall sp_is_guesser [] E0 (tCons (tVar 5) (tCons (tOp (rAddI) (tVar 1) (tC (.int 1))) (tNil)))))))
    (csCons (mAny) [] (tRet (tC (.bl false)))
    (csNil))))))))
theorem pu_is_guesser {vs : List V} {H : Hp} {Q : VK} {E : XK} {n : Nat} (h : spIsG (n + 1) vs H Q E) : t_is_guesser K (spIsG n) (B Q) (start ["guesser", "boths", "many", "times", "one", "other"] vs) H := by
  obtain ⟨a, d, g, rfl, hg, ok, hd, hn, k⟩ := h
  obtain ⟨xs, hx⟩ := gtup_at hg
  unfold t_is_guesser
  walk_at "w"
  cases g with
  | non =>
    have hs : SqT K H a [.str "none"] := .of hg
    walk_at "w"
    exact k H (Same.refl H)
  | next m =>
    have hs : SqT K H a [.str "next", .int m] := .of hg
    walk_at "w"
    refine ⟨by decide, w_new fun p H1 hp e1 h1 => ?_⟩
    refine w_inT (l := [1, 2, 3]) (.of h1) ?_
    rw [if_neg (by decide), decide_eq_true (by have := ok.1; have := ok.2; simp; omega)]
    exact k _ e1
  | stride m =>
    have hs : SqT K H a [.str "stride", .int m] := .of hg
    walk_at "w"
    refine ⟨by decide, w_new fun p H1 hp e1 h1 => ?_⟩
    refine w_inT (l := [1, 2, 3]) (.of h1) ?_
    rw [if_neg (by decide), decide_eq_true (by have := ok.1; have := ok.2; simp; omega)]
    exact k _ e1
  | pairs m =>
    have hs : SqT K H a [.str "pairs", .int m] := .of hg
    walk_at "w"
    refine ⟨by decide, w_new fun p H1 hp e1 h1 => ?_⟩
    refine w_inT (l := [1, 2]) (.of h1) ?_
    rw [if_neg (by decide), decide_eq_true (by have := ok.1; have := ok.2; simp; omega)]
    exact k _ e1
  | both x y =>
    obtain ⟨p, q, ha, hp, hq⟩ := hg
    have hs : SqT K H a [.str "both", .ref p, .ref q] := .of ha
    have hd : ((max x.depth y.depth + 1 : Nat) : Int) + d ≤ 3 := hd
    have hn : max x.depth y.depth + 1 < n + 1 := hn
    walk_at "w"
    refine w_ifT (by omega) ?_
    walk_at "w"
    refine ⟨p, d + 1, x, rfl, hp, ok.1, by omega, by omega, fun H1 e1 => ?_⟩
    walk_at "w"
    refine ⟨q, d + 1, y, rfl, gtup_same e1 hq, ok.2, by omega, by omega, fun H2 e2 => ?_⟩
    exact k _ (e1.trans e2)
def spCheck : Sp := fun vs H Q _ => ∃ a g, vs = [.ref a] ∧ GTup H g a ∧ g.ok ∧ g.depth ≤ 3 ∧ ∀ H', Same H H' → Q .non H'
def t_check_guesser (K : PySem.W.Frag) (sp_is_guesser : Sp) : TS := tIfS (tNot (tB (tCall sp_is_guesser [] E0 (tCons (tVar 0) (tCons (tC (.int 0)) (tNil)))))) (tNever) (tNext)
theorem pu_check_guesser {vs : List V} {H : Hp} {Q : VK} {E : XK} (h : spCheck vs H Q E) : t_check_guesser K (spIsG 4) (B Q) (start ["guesser"] vs) H := by
  obtain ⟨a, g, rfl, hg, ok, hd, k⟩ := h
  unfold t_check_guesser
  walk_at "w"
  refine ⟨a, 0, g, rfl, hg, ok, by omega, by omega, fun H1 e1 => ?_⟩
  walk_at "w"
  exact k _ e1
/-! ### what is begun -/
def spNI (c : CA) : Sp := fun vs H Q E => ∃ m : Int, spMade c.Neighbours [.int m] [("many", .int m)] vs H Q E
def spSI (c : CA) : Sp := fun vs H Q E => ∃ m : Int, spMade c.Strides [.int m] [("times", .int m), ("last", .non), ("stride", .int 0), ("same", .int 0)] vs H Q E
def spBI (c : CA) : Sp := fun vs H Q E => ∃ x y : V, spMade c.Both [x, y] [("one", x), ("other", y)] vs H Q E
def spBegun (c : CA) (n : Nat) : Sp := fun vs H Q _ => ∃ a g, vs = [.ref a] ∧ GTup H g a ∧ g.depth < n ∧
  ∀ H' p M, Same H H' → GAt c H' 0 (begun g) p M → Dom M H' → (∀ b, M b → H b = none) → Q (.ref p) H'
theorem made_same {H H' : Hp} {x dx : Addr} {o u : HO} (hx : H x = none) (hdx : H dx = none) (h : Out (Is x) (upd (upd H dx o) x u) H') : Same H H' := fun b v hb => by
  have n1 : b ≠ x := fun z => by rw [z, hx] at hb; cases hb
  have n2 : b ≠ dx := fun z => by rw [z, hdx] at hb; cases hb
  exact h b v (by rw [upd_ne n1, upd_ne n2]; exact hb) n1
theorem dom_is {H : Hp} {x : Addr} {o : HO} (h : H x = some o) : Dom (Is x) H := fun b z => ⟨o, by rw [show b = x from z]; exact h⟩
def t_begun (K : PySem.W.Frag) (c_Neighbours c_Strides c_Pairs c_Both c_Silent : Addr) (sp_Neighbours_init sp_Strides_init sp_Pairs_init sp_Both_init sp_begun : Sp) : TS := tMatch (tVar 0) (csCons (mSeq K 2 (msCons (mVal (.str "next")) (msCons (mCap) (msNil)))) [1] (tRet (tMake c_Neighbours sp_Neighbours_init [] E0 (tCons (tVar 1) (tNil))))
    (csCons (mSeq K 2 (msCons (mVal (.str "stride")) (msCons (mCap) (msNil)))) [2] (tRet (tMake c_Strides sp_Strides_init [] E0 (tCons (tVar 2) (tNil))))
    (csCons (mSeq K 2 (msCons (mVal (.str "pairs")) (msCons (mCap) (msNil)))) [1] (tRet (tMake c_Pairs sp_Pairs_init [] E0 (tCons (tVar 1) (tNil))))
    (csCons (mSeq K 3 (msCons (mVal (.str "both")) (msCons (mCap) (msCons (mCap) (msNil))))) [3, 4] (tRet (tMake c_Both sp_Both_init [] E0 (tCons (tCall sp_begun [] E0 (tCons (tVar 3) (tNil))) (tCons (tCall sp_begun [] E0 (tCons (tVar 4) (tNil))) (tNil)))))
    (csCons (mAny) [] (tRet (tMakeN c_Silent))
    (csNil))))))
theorem pu_begun {vs : List V} {H : Hp} {Q : VK} {E : XK} {n : Nat} (h : spBegun c (n + 1) vs H Q E) : t_begun K c.Neighbours c.Strides c.Pairs c.Both c.Silent (spNI c) (spSI c) (spPairsInit c) (spBI c) (spBegun c n) (B Q) (start ["guesser", "many", "times", "one", "other"] vs) H := by
  obtain ⟨a, g, rfl, hg, hn, k⟩ := h
  unfold t_begun
  walk_at "w"
  cases g with
  | non =>
    have hs : SqT K H a [.str "none"] := .of hg
    walk_at "w"
    intro x dx hx hdx ne
    refine k _ x (Is x) (made_same hx hdx Out.refl) ⟨dx, upd_same, rfl⟩ (dom_is upd_same) (fun b z => by rw [show b = x from z]; exact hx)
  | next m =>
    have hs : SqT K H a [.str "next", .int m] := .of hg
    walk_at "w"
    intro x dx hx hdx ne
    refine ⟨m, x, dx, rfl, upd_same, fun H' h1 h2 => ⟨rfl, ?_⟩⟩
    refine k _ x (Is x) (made_same hx hdx h2) ⟨dx, h1, rfl⟩ (dom_is h1) (fun b z => by rw [show b = x from z]; exact hx)
  | stride m =>
    have hs : SqT K H a [.str "stride", .int m] := .of hg
    walk_at "w"
    intro x dx hx hdx ne
    refine ⟨m, x, dx, rfl, upd_same, fun H' h1 h2 => ⟨rfl, ?_⟩⟩
    refine k _ x (Is x) (made_same hx hdx h2) ⟨dx, h1, rfl⟩ (dom_is h1) (fun b z => by rw [show b = x from z]; exact hx)
  | pairs m =>
    have hs : SqT K H a [.str "pairs", .int m] := .of hg
    walk_at "w"
    intro x dx hx hdx ne
    refine ⟨x, dx, m, rfl, upd_same, fun H' d hd h1 h3 h2 => ⟨rfl, ?_⟩⟩
    have dnx : d ≠ x := fun z => by rw [z, upd_same] at hd; cases hd
    have hd0 : H d = none := by
      rw [upd_ne dnx] at hd
      by_cases z : d = dx
      · rw [z]; exact hdx
      · rw [upd_ne z] at hd; exact hd
    refine k _ x (fun b => b = x ∨ b = d) (made_same hx hdx h2) ⟨dx, d, [], h1, .inl rfl, h3, .inr rfl, Nat.le_refl _, fun q => rfl⟩ ?_ ?_
    · rintro b (z | z)
      · exact ⟨_, by rw [z]; exact h1⟩
      · exact ⟨_, by rw [z]; exact h3⟩
    · rintro b (z | z)
      · rw [z]; exact hx
      · rw [z]; exact hd0
  | both x y =>
    obtain ⟨p, q, ha, hp, hq⟩ := hg
    have hs : SqT K H a [.str "both", .ref p, .ref q] := .of ha
    have hn : max x.depth y.depth + 1 < n + 1 := hn
    walk_at "w"
    refine ⟨p, x, rfl, hp, by omega, fun H1 p1 M1 e1 g1 d1 f1 => ?_⟩
    walk_at "w"
    refine ⟨q, y, rfl, gtup_same e1 hq, by omega, fun H2 p2 M2 e2 g2 d2 f2 => ?_⟩
    walk_at "w"
    intro z dx hz hdx ne
    refine ⟨.ref p1, .ref p2, z, dx, rfl, upd_same, fun H' h1 h2 => ⟨rfl, ?_⟩⟩
    have e3 := made_same hz hdx h2
    have d1' := dom_same d1 e2
    have f2' : ∀ b, M2 b → H b = none := fun b w => e1.free (f2 b w)
    refine k _ z (fun b => b = z ∨ M1 b ∨ M2 b) (e1.trans (e2.trans e3)) ⟨dx, p1, p2, M1, M2, h1, .inl rfl, gat_same d1' e3 (gat_same d1 e2 g1), gat_same d2 e3 g2, fun b w => .inr (.inl w), fun b w => .inr (.inr w), fun b w1 w2 => ?_, not_dom d1' hz, not_dom d2 hz⟩ ?_ ?_
    · obtain ⟨o, ho⟩ := d1 b w1
      rw [f2 b w2] at ho
      cases ho
    · rintro b (w | w | w)
      · exact ⟨_, by rw [w]; exact h1⟩
      · exact dom_same d1' e3 b w
      · exact dom_same d2 e3 b w
    · rintro b (w | w | w)
      · rw [w]; exact e1.free (e2.free hz)
      · exact f1 b w
      · exact f2' b w
/-! ### guesses -/
def row (g : G) (ls : List Int) (k : Nat) : List V := (((begun g).after (ls.take k)).says (ls.getD k 0)).map V.int
def spGuesses (K : PySem.W.Frag) : Sp := fun vs H Q _ => ∃ a l g ls, vs = [.ref a, .ref l] ∧ GTup H g a ∧ g.ok ∧ g.depth ≤ 3 ∧ SqL K H l (ls.map V.int) ∧ ls.length ≤ 1000 ∧
  ∀ H' q rs, Same H H' → H q = none → H' q = some (.lst (rs.map V.ref)) → rs.length = ls.length → (∀ k r, rs[k]? = some r → H r = none ∧ H' r = some (.lst (row g ls k))) → (q :: rs).Nodup → Q (.ref q) H'
theorem after_deep : ∀ (l : List Int) (s : S), deep (s.after l) = deep s
  | [], _ => rfl
  | x :: l, s => (after_deep l (s.next x)).trans (deep_next s x)
theorem after_good : ∀ (l : List Int) {s : S}, Good s → Good (s.after l)
  | [], _, h => h
  | x :: l, _, h => after_good l (good_next x h)
def t_guesses (K : PySem.W.Frag) (R_guess : Lab → Addr) (sp_check_guesser sp_begun : Sp) (sp_guess : Lab → Sp) : TS := tSeq (tDrop (tCall sp_check_guesser [] E0 (tCons (tVar 0) (tNil))))
  (tSeq (tAsg (tCall sp_begun [] E0 (tCons (tVar 0) (tNil))) (gName 2))
  (tRet (tLc (iList K (tVar 1)) (gName 3) (tYes) (tOneOf R_guess "guess" sp_guess E0 (tVar 2) (tCons (tVar 3) (tNil))) [3])))
theorem pu_guesses {vs : List V} {H : Hp} {Q : VK} {E : XK} (h : spGuesses K vs H Q E) : t_guesses K c.at spCheck (spBegun c 4) (spGuessL c 3) (B Q) (start ["guesser", "places", "told", "place"] vs) H := by
  obtain ⟨a, l, g, ls, rfl, hg, ok, hd, hL, hz, k⟩ := h
  unfold t_guesses
  walk_at "w"
  refine ⟨a, g, rfl, hg, ok, hd, fun H1 e1 => ?_⟩
  walk_at "w"
  refine ⟨a, g, rfl, gtup_same e1 hg, by omega, fun H2 p M e2 g2 d2 f2 => ?_⟩
  walk_at "w"
  have e02 := e1.trans e2
  have hL2 := e02.seq hL
  have f0 : ∀ b, M b → H b = none := fun b z => e1.free (f2 b z)
  refine ⟨l, rfl, ⟨_, hL2⟩, fun Dl hD => lc_list (xs := ls.map V.int) (fun i H' => ∃ (rs : List Addr) (M' : Addr → Prop), H' Dl = some (.lst (rs.map V.ref)) ∧ rs.length = i ∧ (∀ k r, rs[k]? = some r → H r = none ∧ H' r = some (.lst (row g ls k))) ∧ (Dl :: rs).Nodup ∧
    GAt c H' i ((begun g).after (ls.take i)) p M' ∧ Dom M' H' ∧ ¬ M' Dl ∧ (∀ r, r ∈ rs → ¬ M' r) ∧ (∀ b, M' b → H b = none) ∧ Same H H') ?_ (fun i H' _ p => ?_) (fun i x H' hi p => ?_) (fun H' p => ?_)⟩
  · have s1 := same_upd (o := .lst []) hD
    exact ⟨[], M, upd_same, rfl, fun k r e => by simp at e, by simp, gat_same d2 s1 g2, dom_same d2 s1, not_dom d2 hD, fun r hr => by simp at hr, f0, e02.trans s1⟩
  · obtain ⟨_, _, _, _, _, _, _, _, _, _, _, s⟩ := p
    exact s.seq hL
  · obtain ⟨rs, M', h1, h2, h3, h4, h5, h6, h7, h8, h9, h10⟩ := p
    obtain ⟨y, hy, rfl⟩ : ∃ y, ls[i]? = some y ∧ x = V.int y := by
      rw [List.getElem?_map] at hi
      cases e : ls[i]? with
      | none => rw [e] at hi; cases hi
      | some y => rw [e] at hi; exact ⟨y, rfl, (Option.some.inj hi).symm⟩
    have hil : i < ls.length := (List.getElem?_eq_some_iff.mp hy).1
    refine ⟨rfl, ?_⟩
    walk_at "w"
    obtain ⟨dx, fs, hp, lk⟩ := gat_ins h5
    refine ⟨p, lab ((begun g).after (ls.take i)), dx, fs, rfl, hp, lk, ?_⟩
    walk_at "w"
    refine ⟨p, y, _, M', i, rfl, rfl, h5, h6, by rw [after_deep, deep_begun]; exact hd, after_good _ (good_begun ok), by omega, fun H4 q M4 fq hq nq g4 d4 t4 s4 o4 => ?_⟩
    have hDl4 := o4 _ _ h1 h7
    have nDq : q ≠ Dl := fun z => by rw [z, h1] at fq; cases fq
    have nD4 : ¬ M4 Dl := fun z => by
      rcases s4 Dl z with w | w
      · exact h7 w
      · rw [h1] at w; cases w
    refine ⟨rs.map V.ref, hDl4, small_lt (by rw [List.length_map]; omega), rs ++ [q], M4, by rw [upd_same, List.map_append]; rfl, by rw [List.length_append, h2]; rfl, fun k r e => ?_, ?_, ?_, ?_, nD4, fun r hr => ?_, fun b z => ?_, fun b o hb => ?_⟩
    · by_cases hk : k < rs.length
      · rw [List.getElem?_append_left hk] at e
        obtain ⟨w1, w2⟩ := h3 k r e
        have hm : r ∈ rs := List.mem_of_getElem? e
        have nrD : r ≠ Dl := fun z => by
          rw [z] at hm
          exact (List.nodup_cons.mp h4).1 hm
        exact ⟨w1, by rw [upd_ne nrD]; exact o4 _ _ w2 (h8 r hm)⟩
      · have hk2 : k = rs.length := by
          have := (List.getElem?_eq_some_iff.mp e).1
          rw [List.length_append] at this
          simp at this
          omega
        rw [hk2, List.getElem?_append_right (Nat.le_refl _), Nat.sub_self] at e
        have e : q = r := by simpa using e
        subst e
        have hki : k = i := by omega
        refine ⟨h10.free fq, ?_⟩
        rw [upd_ne nDq, hq, hki]
        unfold row
        rw [List.getD_eq_getElem?_getD, hy]
        rfl
    · have w := List.nodup_cons.mp h4
      refine List.nodup_cons.mpr ⟨fun z => ?_, List.nodup_append.mpr ⟨w.2, by simp, fun r hr s hs => ?_⟩⟩
      · rcases List.mem_append.mp z with z | z
        · exact w.1 z
        · exact nDq (List.mem_singleton.mp z).symm
      · rintro rfl
        have : r = q := List.mem_singleton.mp hs
        obtain ⟨k, hk⟩ := List.getElem?_of_mem hr
        have := (h3 k r hk).2
        rw [‹r = q›, fq] at this
        cases this
    · have e : (ls.take (i + 1)) = ls.take i ++ [y] := SwX.take_more hy
      rw [e, after_snoc]
      refine gat_keep (fun b z => upd_ne fun w => nD4 (w ▸ z)) g4
    · intro b z
      obtain ⟨o, ho⟩ := d4 b z
      exact ⟨o, by rw [upd_ne (fun (w : b = Dl) => nD4 (w ▸ z))]; exact ho⟩
    · rcases List.mem_append.mp hr with z | z
      · intro w
        rcases s4 r w with v | v
        · exact h8 r z v
        · obtain ⟨k, hk⟩ := List.getElem?_of_mem z
          have := (h3 k r hk).2
          rw [v] at this
          cases this
      · rw [List.mem_singleton.mp z]
        exact nq
    · rcases s4 b z with w | w
      · exact h9 b w
      · exact h10.free w
    · have w := h10 b o hb
      have nb : b ≠ Dl := fun z => by rw [z, e02.free hD] at hb; cases hb
      rw [upd_ne nb]
      exact o4 _ _ w (fun z => by rw [h9 b z] at hb; cases hb)
  · obtain ⟨rs, M', h1, h2, h3, h4, h5, h6, h7, h8, h9, h10⟩ := p
    exact k H' Dl rs h10 (e02.free hD) h1 (by rw [h2, List.length_map]) h3 h4
end
end SwD
set_option Elab.async false
set_option linter.all false
set_option maxRecDepth 100000
set_option maxHeartbeats 4000000
namespace SwD
open PySem PySem.Spec PyProof.Rows L2 SwX StX Sw
local macro_rules | `(tactic| walk_at "lk") => `(tactic| first | exact lk_at | exact lk_no | ((refine' lk_by (by decide +kernel) ?wq); (case wq => walk_at "lk")))
local macro_rules | `(tactic| walk_at "pf") => `(tactic| first | exact pf_at | exact pf_nil | ((refine' pf_by (by decide +kernel) ?wq); (case wq => walk_at "pf")))
local macro_rules | `(tactic| walk_at "w1") => `(tactic| with_reducible first
  | refine w_seq ?_ | refine w_asg ?_ | refine w_name ?_ | refine w_ret ?_ | refine w_retN ?_ | refine w_drop ?_ | refine w_next ?_ | refine w_if ?_ | refine w_ifE ?_ | refine w_test ?_ | refine w_B ?_ | refine w_bl ?_
  | refine w_not ?_ | refine w_and ?_ | refine w_or ?_ | refine w_andV ?_ | refine w_orV ?_ | refine w_notV ?_ | refine w_isN ?_ | refine w_notN ?_ | refine w_yes ?_
  | refine w_c ?_ | refine w_op ?_ | refine w_un ?_ | refine w_i0 ?_ | refine w_neg ?_ | refine w_nil ?_ | refine w_cons ?_ | refine w_cb ?_ | refine w_call ?_ | refine w_tup ?_ | refine w_lst ?_
  | refine w_fld ?_ | refine w_sfld ?_ | refine w_match ?_ | refine w_case ?_ | refine w_mcons ?_ | refine w_mnil ?_ | refine w_mcap ?_ | refine w_many ?_ | refine w_myes ?_
  | refine w_sub ?_ | refine w_bm ?_ | refine w_sl ?_ | refine w_nopart ?_ | refine w_part ?_ | refine w_int ?_ | refine w_ift ?_ | refine w_iff ?_ | refine w_ifn ?_ | refine w_dget2 ?_ | refine w_star ?_ | refine w_dput ?_ | refine w_dnewK ?_ | refine w_meth ?_ | refine w_oneOf ?_ | refine w_make ?_ | refine w_lc ?_ | refine w_for ?_ | refine w_ilist ?_ | refine w_irng1 ?_ | refine w_irng2 ?_ | refine w_irng3 ?_)
local macro_rules | `(tactic| walk_at "w2") => `(tactic| first
  | ((with_reducible refine' w_var ?wh ?_); (case wh => rfl))
  | ((with_reducible refine' w_eq ?wh ?_); (case wh => rfl))
  | ((with_reducible refine' w_ne ?wh ?_); (case wh => rfl))
  | ((with_reducible refine' w_mno ?wh ?_); (case wh => decide +kernel))
  | ((with_reducible refine' w_mhit ?wh ?wl ?_); (case wh => assumption); (case wl => rfl))
  | ((with_reducible refine' w_mmiss ?wh ?wl ?_); (case wh => assumption); (case wl => simp))
  | ((with_reducible refine' w_fldA ?wh ?wc ?wn ?wl ?_); (case wh => first | assumption | exact upd_same); (case wc => assumption); (case wn => assumption); (case wl => walk_at "lk"))
  | ((with_reducible refine' w_ixl ?wh ?we ?_); (case wh => exact SqL.of (by first | assumption | exact upd_same)); (case we => rfl))
  | ((with_reducible refine' w_ixt ?wh ?we ?_); (case wh => assumption); (case we => rfl))
  | ((with_reducible refine' w_ifT ?wh ?_); (case wh => (with_reducible exact Eq.refl _)))
  | ((with_reducible refine' w_ifF ?wh ?_); (case wh => decide +kernel))
  | ((with_reducible refine' w_isiY ?wh ?wk ?_); (case wh => first | exact .int _ | exact .str _ | exact .lst (by assumption) | exact .tup (by assumption)); (case wk => decide +kernel))
  | ((with_reducible refine' w_isiN ?wh ?wk ?_); (case wh => first | exact .int _ | exact .str _ | exact .lst (by assumption) | exact .tup (by assumption)); (case wk => decide +kernel))
  | ((with_reducible refine' w_ifF ?wh ?_); (case wh => (intro z; cases z; done)))
  | ((with_reducible refine' w_setl ?wh ?we ?wl ?_); (case wh => first | assumption | exact upd_same); (case we => rfl); (case wl => rfl))
  | ((with_reducible refine' w_methA ?wh ?wl ?_); (case wh => first | assumption | exact upd_same); (case wl => walk_at "lk"))
  | ((with_reducible refine' w_sfldB ?wc ?wn ?wz ?wl ?_); (case wc => assumption); (case wn => assumption); (case wz => simp); (case wl => walk_at "pf"))
  | ((with_reducible refine' w_sfldA ?wh ?wc ?wn ?wz ?wl ?_); (case wh => assumption); (case wc => assumption); (case wn => assumption); (case wz => simp); (case wl => walk_at "pf")))
local macro_rules | `(tactic| walk_at "w") => `(tactic| repeat (first | walk_at "w1" | walk_at "w2" | (dsimp only [List.set, setAll, List.append, List.cons_append, List.nil_append])))
/-! ### the row that numbers are taken of -/
/-- the script: locked, or written -/
def Scr (K : PySem.W.Frag) (H : Hp) (a : Addr) (xs : List V) : Prop := (∃ o, H a = some (.frz o (.lst xs))) ∨
    ∃ (o : Obj) (its : Array Value) (n : Nat), K.lookup a = some o ∧ o.cls = .type "list" ∧ o.dict = none ∧ o.data = .seq its n ∧ its.size ≤ sizeLine ∧ Vals xs its.toList
theorem scr_seq {K : PySem.W.Frag} {H : Hp} {a : Addr} {xs : List V} (h : Scr K H a xs) : SqL K H a xs := by
  rcases h with h | h
  · exact .inl (.inr h)
  · exact .inr h
theorem scr_keep {K : PySem.W.Frag} {H H' : Hp} {a : Addr} {xs : List V} (k : ∀ o u, H a = some (.frz o u) → H' a = some (.frz o u)) (h : Scr K H a xs) : Scr K H' a xs := by
  rcases h with ⟨o, h⟩ | h
  · exact .inl ⟨o, k _ _ h⟩
  · exact .inr h
theorem scr_of {K : PySem.W.Frag} {H : Hp} {a : Addr} {xs : List V} (o : Only H) (h : SqL K H a xs) : Scr K H a xs := by
  rcases h with (h | h) | h
  · rcases o a with z | ⟨u, ys, z⟩
    · rw [z] at h; cases h
    · rw [z] at h; cases h
  · exact .inl h
  · exact .inr h
theorem scr_upd {K : PySem.W.Frag} {H : Hp} {a q : Addr} {xs ys : List V} {u : HO} (hq : H q = some (.lst ys)) (h : Scr K H a xs) : Scr K (upd H q u) a xs :=
  scr_keep (fun o v z => by rw [upd_ne (ne_of z hq (fun w => nomatch w))]; exact z) h
def RowAt (K : PySem.W.Frag) (H : Hp) (r : Addr) : Prop := ∃ (scr : Addr) (i z : Int) (ns : List Int), H r = some (.lst [.ref scr, .int i, .int z]) ∧ 0 ≤ i ∧ 0 ≤ z ∧ z < 2147483647 ∧ Scr K H scr (ns.map V.int)
def spTaken (K : PySem.W.Frag) : Sp := fun vs H Q _ => ∃ r m, vs = [.ref r, .int m] ∧ 1 ≤ m ∧ RowAt K H r ∧ ∀ H' v, 0 ≤ v → v < m → RowAt K H' r → Out (Is r) H H' → Q (.int v) H'
section
variable {K : PySem.W.Frag}
def t_law_taken (K : PySem.W.Frag) : TS := tSeq (tAsg (tOp (rAddI) (tOp (rIxL K) (tVar 0) (tC (.int 1))) (tC (.int 1))) (gSub (tVar 0) (tC (.int 1)) rSetL))
  (tSeq (tIfS (tTest (tOp (rGtI) (tOp (rIxL K) (tVar 0) (tC (.int 1))) (tCB (rLenQ K) (tCons (tOp (rIxL K) (tVar 0) (tC (.int 0))) (tNil))))) (tSeq (tAsg (tOp (rModI) (tOp (rAddI) (tOp (rMulI) (tOp (rIxL K) (tVar 0) (tC (.int 2))) (tC (.int 48271))) (tC (.int 11))) (tC (.int 2147483647))) (gSub (tVar 0) (tC (.int 2)) rSetL))
  (tRet (tOp (rModI) (tOp (rDivI) (tOp (rIxL K) (tVar 0) (tC (.int 2))) (tC (.int 7))) (tVar 1)))) (tNext))
  (tSeq (tAsg (tOp (rIxL K) (tOp (rIxL K) (tVar 0) (tC (.int 0))) (tOp (rSubI) (tOp (rIxL K) (tVar 0) (tC (.int 1))) (tC (.int 1)))) (gName 2))
  (tSeq (tAsg (tOp (rModI) (tOp (rAddI) (tOp (rAddI) (tOp (rMulI) (tOp (rIxL K) (tVar 0) (tC (.int 2))) (tC (.int 48271))) (tVar 2)) (tC (.int 11))) (tC (.int 2147483647))) (gSub (tVar 0) (tC (.int 2)) rSetL))
  (tRet (tOp (rModI) (tVar 2) (tVar 1))))))
theorem pu_law_taken {vs : List V} {H : Hp} {Q : VK} {E : XK} (h : spTaken K vs H Q E) : t_law_taken K (B Q) (start ["_law_row", "_law_many", "_law_cell"] vs) H := by
  obtain ⟨r, m, rfl, hm, ⟨scr, i, z, ns, hr, hi, hz0, hz1, hs⟩, k⟩ := h
  unfold t_law_taken
  walk_at "w"
  have hs1 : SqL K (upd H r (.lst [.ref scr, .int (i + 1), .int z])) scr (ns.map V.int) := scr_seq (scr_upd hr hs)
  refine w_len (.inl hs1) ?_
  walk_at "w"
  refine w_if2 (fun c => ?_) (fun c => ?_)
  · walk_at "w"
    refine w_i (.inr ⟨by decide, by decide⟩) ?_
    walk_at "w"
    refine w_i (by decide) ?_
    walk_at "w"
    refine w_i ⟨by decide, by decide⟩ ?_
    walk_at "w"
    refine w_i (by omega) ?_
    rw [upd_upd]
    refine k _ _ (Int.emod_nonneg _ (by omega)) (Int.emod_lt_of_pos _ (by omega)) ⟨scr, i + 1, _, ns, upd_same, by omega, Int.emod_nonneg _ (by decide), Int.emod_lt_of_pos _ (by decide), scr_upd hr hs⟩ out_upd
  · rw [List.length_map] at c
    walk_at "w"
    have hj : (i + 1 - 1).toNat < ns.length := by omega
    have hat : atI (ns.map V.int) (i + 1 - 1) = some (.int ns[(i + 1 - 1).toNat]) := by
      have e : i + 1 - 1 = (((i + 1 - 1).toNat : Nat) : Int) := by omega
      have q := atI_nat (xs := ns.map V.int) (j := (i + 1 - 1).toNat) (v := .int ns[(i + 1 - 1).toNat]) (by rw [List.getElem?_map, List.getElem?_eq_getElem hj]; rfl)
      rw [← e] at q
      exact q
    refine w_ixl hs1 hat ?_
    walk_at "w"
    refine w_i (.inr ⟨by decide, by decide⟩) ?_
    walk_at "w"
    refine w_i (by decide) ?_
    walk_at "w"
    refine w_i (by omega) ?_
    rw [upd_upd]
    refine k _ _ (Int.emod_nonneg _ (by omega)) (Int.emod_lt_of_pos _ (by omega)) ⟨scr, i + 1, _, ns, upd_same, by omega, Int.emod_nonneg _ (by decide), Int.emod_lt_of_pos _ (by decide), scr_upd hr hs⟩ out_upd
end
end SwD
set_option Elab.async false
set_option linter.all false
set_option maxRecDepth 100000
set_option maxHeartbeats 4000000
namespace SwD
open PySem PySem.Spec PyProof.Rows L2 SwX StX Sw
local macro_rules | `(tactic| walk_at "lk") => `(tactic| first | exact lk_at | exact lk_no | ((refine' lk_by (by decide +kernel) ?wq); (case wq => walk_at "lk")))
local macro_rules | `(tactic| walk_at "pf") => `(tactic| first | exact pf_at | exact pf_nil | ((refine' pf_by (by decide +kernel) ?wq); (case wq => walk_at "pf")))
local macro_rules | `(tactic| walk_at "w1") => `(tactic| with_reducible first
  | refine w_seq ?_ | refine w_asg ?_ | refine w_name ?_ | refine w_ret ?_ | refine w_retN ?_ | refine w_drop ?_ | refine w_next ?_ | refine w_if ?_ | refine w_ifE ?_ | refine w_test ?_ | refine w_B ?_ | refine w_bl ?_
  | refine w_not ?_ | refine w_and ?_ | refine w_or ?_ | refine w_andV ?_ | refine w_orV ?_ | refine w_notV ?_ | refine w_isN ?_ | refine w_notN ?_ | refine w_yes ?_
  | refine w_c ?_ | refine w_op ?_ | refine w_un ?_ | refine w_i0 ?_ | refine w_neg ?_ | refine w_nil ?_ | refine w_cons ?_ | refine w_cb ?_ | refine w_call ?_ | refine w_tup ?_ | refine w_lst ?_
  | refine w_fld ?_ | refine w_sfld ?_ | refine w_match ?_ | refine w_case ?_ | refine w_mcons ?_ | refine w_mnil ?_ | refine w_mcap ?_ | refine w_many ?_ | refine w_myes ?_
  | refine w_sub ?_ | refine w_bm ?_ | refine w_sl ?_ | refine w_nopart ?_ | refine w_part ?_ | refine w_int ?_ | refine w_ift ?_ | refine w_iff ?_ | refine w_ifn ?_ | refine w_dget2 ?_ | refine w_star ?_ | refine w_dput ?_ | refine w_dnewK ?_ | refine w_meth ?_ | refine w_oneOf ?_ | refine w_make ?_ | refine w_lc ?_ | refine w_for ?_ | refine w_ilist ?_ | refine w_irng1 ?_ | refine w_irng2 ?_ | refine w_irng3 ?_)
local macro_rules | `(tactic| walk_at "w2") => `(tactic| first
  | ((with_reducible refine' w_var ?wh ?_); (case wh => rfl))
  | ((with_reducible refine' w_eq ?wh ?_); (case wh => rfl))
  | ((with_reducible refine' w_ne ?wh ?_); (case wh => rfl))
  | ((with_reducible refine' w_mno ?wh ?_); (case wh => decide +kernel))
  | ((with_reducible refine' w_mhit ?wh ?wl ?_); (case wh => assumption); (case wl => rfl))
  | ((with_reducible refine' w_mmiss ?wh ?wl ?_); (case wh => assumption); (case wl => simp))
  | ((with_reducible refine' w_fldA ?wh ?wc ?wn ?wl ?_); (case wh => first | assumption | exact upd_same); (case wc => assumption); (case wn => assumption); (case wl => walk_at "lk"))
  | ((with_reducible refine' w_ixl ?wh ?we ?_); (case wh => exact SqL.of (by first | assumption | exact upd_same)); (case we => rfl))
  | ((with_reducible refine' w_ixt ?wh ?we ?_); (case wh => assumption); (case we => rfl))
  | ((with_reducible refine' w_ifT ?wh ?_); (case wh => (with_reducible exact Eq.refl _)))
  | ((with_reducible refine' w_ifF ?wh ?_); (case wh => decide +kernel))
  | ((with_reducible refine' w_isiY ?wh ?wk ?_); (case wh => first | exact .int _ | exact .str _ | exact .lst (by assumption) | exact .tup (by assumption)); (case wk => decide +kernel))
  | ((with_reducible refine' w_isiN ?wh ?wk ?_); (case wh => first | exact .int _ | exact .str _ | exact .lst (by assumption) | exact .tup (by assumption)); (case wk => decide +kernel))
  | ((with_reducible refine' w_ifF ?wh ?_); (case wh => (intro z; cases z; done)))
  | ((with_reducible refine' w_setl ?wh ?we ?wl ?_); (case wh => first | assumption | exact upd_same); (case we => rfl); (case wl => rfl))
  | ((with_reducible refine' w_methA ?wh ?wl ?_); (case wh => first | assumption | exact upd_same); (case wl => walk_at "lk"))
  | ((with_reducible refine' w_sfldB ?wc ?wn ?wz ?wl ?_); (case wc => assumption); (case wn => assumption); (case wz => simp); (case wl => walk_at "pf"))
  | ((with_reducible refine' w_sfldA ?wh ?wc ?wn ?wz ?wl ?_); (case wh => assumption); (case wc => assumption); (case wn => assumption); (case wz => simp); (case wl => walk_at "pf")))
local macro_rules | `(tactic| walk_at "w") => `(tactic| repeat (first | walk_at "w1" | walk_at "w2" | (dsimp only [List.set, setAll, List.append, List.cons_append, List.nil_append])))
section
variable {K : PySem.W.Frag}
theorem row_same {H H' : Hp} {r : Addr} (e : Same H H') (h : RowAt K H r) : RowAt K H' r := by
  obtain ⟨scr, i, z, ns, hr, hi, hz0, hz1, hs⟩ := h
  exact ⟨scr, i, z, ns, e _ _ hr, hi, hz0, hz1, scr_keep (fun o u w => e _ _ w) hs⟩
theorem row_put {H : Hp} {r q : Addr} {xs : List V} {u : HO} (h : RowAt K H r) (hq : H q = some (.lst xs)) (n : q ≠ r) : RowAt K (upd H q u) r := by
  obtain ⟨scr, i, z, ns, hr, hi, hz0, hz1, hs⟩ := h
  exact ⟨scr, i, z, ns, by rw [upd_ne n.symm]; exact hr, hi, hz0, hz1, scr_upd hq hs⟩
theorem row_lst {H : Hp} {r : Addr} (h : RowAt K H r) : ∃ xs, H r = some (.lst xs) := by
  obtain ⟨scr, i, z, ns, hr, _⟩ := h
  exact ⟨_, hr⟩
theorem row_tup {H H' : Hp} {r a : Addr} {xs : List V} (h : RowAt K H r) (o : Out (Is r) H H') (t : H a = some (.tup xs)) : H' a = some (.tup xs) := by
  obtain ⟨ys, hy⟩ := row_lst h
  exact o _ _ t (ne_of t hy (fun z => nomatch z))
theorem row_new {H : Hp} {r a : Addr} (h : RowAt K H r) (n : H a = none) : a ≠ r := fun z => by
  obtain ⟨ys, hy⟩ := row_lst h
  rw [z, hy] at n
  cases n
theorem row_gtup {H H' : Hp} {r a : Addr} {g : G} (h : RowAt K H r) (o : Out (Is r) H H') (t : GTup H g a) : GTup H' g a := gtup_keep (fun _ _ z => row_tup h o z) t
theorem row_free {H H' : Hp} {r a : Addr} (h : RowAt K H' r) (o : Out (Is r) H H') (n : H' a = none) : H a = none := out_free o n (row_new h n)
def spLawGuesser (K : PySem.W.Frag) (n : Nat) : Sp := fun vs H Q _ => ∃ r d, vs = [.ref r, .int d] ∧ 0 ≤ d ∧ d ≤ 3 ∧ d.toNat < n ∧ RowAt K H r ∧
  ∀ H' a g, g.ok → (g.depth : Int) ≤ d → GTup H' g a → RowAt K H' r → Out (Is r) H H' → Q (.ref a) H'
def t_law_guesser (K : PySem.W.Frag) (sp_law_taken sp_law_guesser : Sp) : TS := tSeq (tAsg (tCall sp_law_taken [] E0 (tCons (tVar 0) (tCons (tOp (rIxL K) (tLst (tCons (tC (.int 6)) (tCons (tC (.int 8)) (tNil)))) (tCB (rInt1) (tCons (tOp (rGtI) (tVar 1) (tC (.int 0))) (tNil)))) (tNil)))) (gName 2))
  (tSeq (tIfS (tTest (tOp (rGtI) (tVar 2) (tC (.int 5)))) (tSeq (tAsg (tCall sp_law_guesser [] E0 (tCons (tVar 0) (tCons (tOp (rSubI) (tVar 1) (tC (.int 1))) (tNil)))) (gName 3))
  (tRet (tTup (tCons (tC (.str "both")) (tCons (tVar 3) (tCons (tCall sp_law_guesser [] E0 (tCons (tVar 0) (tCons (tOp (rSubI) (tVar 1) (tC (.int 1))) (tNil)))) (tNil))))))) (tNext))
  (tSeq (tAsg (tLst (tCons (tTup (tCons (tC (.str "none")) (tNil))) (tCons (tTup (tCons (tC (.str "next")) (tCons (tOp (rAddI) (tC (.int 1)) (tCall sp_law_taken [] E0 (tCons (tVar 0) (tCons (tC (.int 3)) (tNil))))) (tNil)))) (tCons (tTup (tCons (tC (.str "stride")) (tCons (tOp (rAddI) (tC (.int 1)) (tCall sp_law_taken [] E0 (tCons (tVar 0) (tCons (tC (.int 3)) (tNil))))) (tNil)))) (tNil))))) (gName 4))
  (tSeq (tAsg (tOp (rCat) (tVar 4) (tLst (tCons (tTup (tCons (tC (.str "pairs")) (tCons (tOp (rAddI) (tC (.int 1)) (tCall sp_law_taken [] E0 (tCons (tVar 0) (tCons (tC (.int 2)) (tNil))))) (tNil)))) (tCons (tTup (tCons (tC (.str "stride")) (tCons (tC (.int 1)) (tNil)))) (tCons (tTup (tCons (tC (.str "next")) (tCons (tC (.int 1)) (tNil)))) (tNil)))))) (gName 4))
  (tRet (tOp (rIxL K) (tVar 4) (tVar 2))))))
theorem pu_law_guesser {vs : List V} {H : Hp} {Q : VK} {E : XK} {n : Nat} (h : spLawGuesser K (n + 1) vs H Q E) : t_law_guesser K (spTaken K) (spLawGuesser K n) (B Q) (start ["_law_row", "_law_within", "_law_way", "_law_one", "_law_sorts"] vs) H := by
  obtain ⟨r, d, rfl, d0, d3, dn, row, k⟩ := h
  unfold t_law_guesser
  walk_at "w"
  refine ⟨by decide, w_new fun p1 H1 hp1 e1 h1 => ?_⟩
  walk_at "w"
  refine .inr ⟨_, rfl, ?_⟩
  obtain ⟨m, hm, m1, m8, m6⟩ : ∃ m : Int, atI [V.int 6, V.int 8] (if decide (0 < d) = true then 1 else 0) = some (.int m) ∧ 1 ≤ m ∧ m ≤ 8 ∧ (d = 0 → m ≤ 6) := by
    by_cases hd : 0 < d
    · refine ⟨8, ?_, by decide, by decide, fun z => by omega⟩
      rw [decide_eq_true hd, if_pos rfl]
      rfl
    · refine ⟨6, ?_, by decide, by decide, fun _ => by decide⟩
      rw [decide_eq_false hd, if_neg (by decide)]
      rfl
  refine w_ixl (.of h1) hm ?_
  walk_at "w"
  refine ⟨r, m, rfl, m1, row_same e1 row, fun H2 w w0 w1 row2 o2 => ?_⟩
  have o02 : Out (Is r) H H2 := (same_out e1).trans o2
  walk_at "w"
  refine w_if2 (fun c => ?_) (fun c => ?_)
  · have hd : 0 < d := by
      by_cases hd : d = 0
      · have := m6 hd
        omega
      · omega
    walk_at "w"
    refine ⟨r, d - 1, rfl, by omega, by omega, by omega, row2, fun H3 a g ok dp gt row3 o3 => ?_⟩
    walk_at "w"
    refine ⟨r, d - 1, rfl, by omega, by omega, by omega, row3, fun H4 b g' ok' dp' gt' row4 o4 => ?_⟩
    refine ⟨small_le (by simp), w_new fun p H5 hp e5 h5 => ?_⟩
    refine k H5 p (.both g g') ⟨ok, ok'⟩ ?_ ⟨a, b, h5, gtup_same e5 (row_gtup row3 o4 gt), gtup_same e5 gt'⟩ (row_same e5 row4) (((o02.trans o3).trans o4).trans (same_out e5))
    show ((max g.depth g'.depth + 1 : Nat) : Int) ≤ d
    omega
  · walk_at "w"
    refine ⟨small_le (by simp), w_new fun t1 H3 hp3 e3 h3 => ?_⟩
    have row3 := row_same e3 row2
    walk_at "w"
    refine ⟨r, 3, rfl, by decide, row3, fun H4 v1 v10 v13 row4 o4 => ?_⟩
    walk_at "w"
    refine ⟨small_le (by simp), w_new fun t2 H5 hp5 e5 h5 => ?_⟩
    have row5 := row_same e5 row4
    walk_at "w"
    refine ⟨r, 3, rfl, by decide, row5, fun H6 v2 v20 v23 row6 o6 => ?_⟩
    walk_at "w"
    refine ⟨small_le (by simp), w_new fun t3 H7 hp7 e7 h7 => ?_⟩
    have row7 := row_same e7 row6
    walk_at "w"
    refine ⟨small_le (by simp), w_new fun l1 H8 hp8 e8 h8 => ?_⟩
    have row8 := row_same e8 row7
    have nl1 : l1 ≠ r := row_new row7 hp8
    walk_at "w"
    refine ⟨r, 2, rfl, by decide, row8, fun H9 v3 v30 v32 row9 o9 => ?_⟩
    have h9 := o9 _ _ h8 nl1
    walk_at "w"
    refine ⟨small_le (by simp), w_new fun t4 H10 hp10 e10 h10 => ?_⟩
    walk_at "w"
    refine ⟨small_le (by simp), w_new fun t5 H11 hp11 e11 h11 => ?_⟩
    walk_at "w"
    refine ⟨small_le (by simp), w_new fun t6 H12 hp12 e12 h12 => ?_⟩
    walk_at "w"
    refine ⟨small_le (by simp), w_new fun l2 H13 hp13 e13 h13 => ?_⟩
    have e913 := e10.trans (e11.trans (e12.trans e13))
    refine w_cat (e913 _ _ h9) h13 (small_le (by simp)) (w_new fun l3 H14 hp14 e14 h14 => ?_)
    have o14 : Out (Is r) H8 H14 := o9.trans (same_out (e913.trans e14))
    have row14 : RowAt K H14 r := row_same (e913.trans e14) row9
    have g1 : GTup H14 .non t1 := row_tup row3 (o4.trans ((same_out e5).trans (o6.trans ((same_out (e7.trans e8)).trans o14)))) h3
    have g2 : GTup H14 (.next (1 + v1)) t2 := row_tup row5 (o6.trans ((same_out (e7.trans e8)).trans o14)) h5
    have g3 : GTup H14 (.stride (1 + v2)) t3 := row_tup row7 ((same_out e8).trans o14) h7
    have g4 : GTup H14 (.pairs (1 + v3)) t4 := e14 _ _ (e13 _ _ (e12 _ _ (e11 _ _ h10)))
    have g5 : GTup H14 (.stride 1) t5 := e14 _ _ (e13 _ _ (e12 _ _ h11))
    have g6 : GTup H14 (.next 1) t6 := e14 _ _ (e13 _ _ h12)
    have o_all : Out (Is r) H H14 := o02.trans ((same_out e3).trans (o4.trans ((same_out e5).trans (o6.trans ((same_out (e7.trans e8)).trans o14)))))
    walk_at "w"
    have fin : ∀ (t : Addr) (g : G), g.ok → g.depth = 0 → GTup H14 g t → atI [V.ref t1, V.ref t2, V.ref t3, V.ref t4, V.ref t5, V.ref t6] w = some (.ref t) → rIxL K (.ref l3) (.int w) H14 Q := fun t g ok dp gt hat => w_ixl (.of h14) hat (k H14 t g ok (by rw [dp]; exact d0) gt row14 o_all)
    have hw : w = 0 ∨ w = 1 ∨ w = 2 ∨ w = 3 ∨ w = 4 ∨ w = 5 := by omega
    rcases hw with rfl | rfl | rfl | rfl | rfl | rfl
    · exact fin t1 .non trivial rfl g1 rfl
    · exact fin t2 (.next (1 + v1)) ⟨by omega, by omega⟩ rfl g2 rfl
    · exact fin t3 (.stride (1 + v2)) ⟨by omega, by omega⟩ rfl g3 rfl
    · exact fin t4 (.pairs (1 + v3)) ⟨by omega, by omega⟩ rfl g4 rfl
    · exact fin t5 (.stride 1) ⟨by omega, by omega⟩ rfl g5 rfl
    · exact fin t6 (.next 1) ⟨by omega, by omega⟩ rfl g6 rfl
end
end SwD
set_option Elab.async false
set_option linter.all false
set_option maxRecDepth 100000
set_option maxHeartbeats 4000000
namespace SwD
open PySem PySem.Spec PyProof.Rows L2 SwX StX Sw
local macro_rules | `(tactic| walk_at "lk") => `(tactic| first | exact lk_at | exact lk_no | ((refine' lk_by (by decide +kernel) ?wq); (case wq => walk_at "lk")))
local macro_rules | `(tactic| walk_at "pf") => `(tactic| first | exact pf_at | exact pf_nil | ((refine' pf_by (by decide +kernel) ?wq); (case wq => walk_at "pf")))
local macro_rules | `(tactic| walk_at "w1") => `(tactic| with_reducible first
  | refine w_seq ?_ | refine w_asg ?_ | refine w_name ?_ | refine w_ret ?_ | refine w_retN ?_ | refine w_drop ?_ | refine w_next ?_ | refine w_if ?_ | refine w_ifE ?_ | refine w_test ?_ | refine w_B ?_ | refine w_bl ?_
  | refine w_not ?_ | refine w_and ?_ | refine w_or ?_ | refine w_andV ?_ | refine w_orV ?_ | refine w_notV ?_ | refine w_isN ?_ | refine w_notN ?_ | refine w_yes ?_
  | refine w_c ?_ | refine w_op ?_ | refine w_un ?_ | refine w_i0 ?_ | refine w_neg ?_ | refine w_nil ?_ | refine w_cons ?_ | refine w_cb ?_ | refine w_call ?_ | refine w_tup ?_ | refine w_lst ?_
  | refine w_fld ?_ | refine w_sfld ?_ | refine w_match ?_ | refine w_case ?_ | refine w_mcons ?_ | refine w_mnil ?_ | refine w_mcap ?_ | refine w_many ?_ | refine w_myes ?_
  | refine w_sub ?_ | refine w_bm ?_ | refine w_sl ?_ | refine w_nopart ?_ | refine w_part ?_ | refine w_int ?_ | refine w_ift ?_ | refine w_iff ?_ | refine w_ifn ?_ | refine w_dget2 ?_ | refine w_star ?_ | refine w_dput ?_ | refine w_dnewK ?_ | refine w_meth ?_ | refine w_oneOf ?_ | refine w_make ?_ | refine w_lc ?_ | refine w_for ?_ | refine w_ilist ?_ | refine w_irng1 ?_ | refine w_irng2 ?_ | refine w_irng3 ?_)
local macro_rules | `(tactic| walk_at "w2") => `(tactic| first
  | ((with_reducible refine' w_var ?wh ?_); (case wh => rfl))
  | ((with_reducible refine' w_eq ?wh ?_); (case wh => rfl))
  | ((with_reducible refine' w_ne ?wh ?_); (case wh => rfl))
  | ((with_reducible refine' w_mno ?wh ?_); (case wh => decide +kernel))
  | ((with_reducible refine' w_mhit ?wh ?wl ?_); (case wh => assumption); (case wl => rfl))
  | ((with_reducible refine' w_mmiss ?wh ?wl ?_); (case wh => assumption); (case wl => simp))
  | ((with_reducible refine' w_fldA ?wh ?wc ?wn ?wl ?_); (case wh => first | assumption | exact upd_same); (case wc => assumption); (case wn => assumption); (case wl => walk_at "lk"))
  | ((with_reducible refine' w_ixl ?wh ?we ?_); (case wh => exact SqL.of (by first | assumption | exact upd_same)); (case we => rfl))
  | ((with_reducible refine' w_ixt ?wh ?we ?_); (case wh => assumption); (case we => rfl))
  | ((with_reducible refine' w_ifT ?wh ?_); (case wh => (with_reducible exact Eq.refl _)))
  | ((with_reducible refine' w_ifF ?wh ?_); (case wh => decide +kernel))
  | ((with_reducible refine' w_isiY ?wh ?wk ?_); (case wh => first | exact .int _ | exact .str _ | exact .lst (by assumption) | exact .tup (by assumption)); (case wk => decide +kernel))
  | ((with_reducible refine' w_isiN ?wh ?wk ?_); (case wh => first | exact .int _ | exact .str _ | exact .lst (by assumption) | exact .tup (by assumption)); (case wk => decide +kernel))
  | ((with_reducible refine' w_ifF ?wh ?_); (case wh => (intro z; cases z; done)))
  | ((with_reducible refine' w_setl ?wh ?we ?wl ?_); (case wh => first | assumption | exact upd_same); (case we => rfl); (case wl => rfl))
  | ((with_reducible refine' w_methA ?wh ?wl ?_); (case wh => first | assumption | exact upd_same); (case wl => walk_at "lk"))
  | ((with_reducible refine' w_sfldB ?wc ?wn ?wz ?wl ?_); (case wc => assumption); (case wn => assumption); (case wz => simp); (case wl => walk_at "pf"))
  | ((with_reducible refine' w_sfldA ?wh ?wc ?wn ?wz ?wl ?_); (case wh => assumption); (case wc => assumption); (case wn => assumption); (case wz => simp); (case wl => walk_at "pf")))
local macro_rules | `(tactic| walk_at "w") => `(tactic| repeat (first | walk_at "w1" | walk_at "w2" | (dsimp only [List.set, setAll, List.append, List.cons_append, List.nil_append])))
section
variable {K : PySem.W.Frag}
def spLawPlaces (K : PySem.W.Frag) : Sp := fun vs H Q _ => ∃ r p m, vs = [.ref r, .int p, .int m] ∧ 1 ≤ p ∧ p ≤ 1000000 ∧ 0 ≤ m ∧ m ≤ 1000 ∧ RowAt K H r ∧
  ∀ (H' : Hp) (q : Addr) (ls : List Int), (ls.length : Int) ≤ m → (∀ x, x ∈ ls → 0 ≤ x ∧ x < p) → H q = none → H' q = some (.lst (ls.map V.int)) → RowAt K H' r → Out (Is r) H H' → Q (.ref q) H'
def t_law_places (K : PySem.W.Frag) (sp_law_taken : Sp) : TS := tSeq (tAsg (tLst (tNil)) (gName 3))
  (tSeq (tAsg (tCall sp_law_taken [] E0 (tCons (tVar 0) (tCons (tVar 1) (tNil)))) (gName 4))
  (tSeq (tAsg (tOp (rSubI) (tCall sp_law_taken [] E0 (tCons (tVar 0) (tCons (tC (.int 7)) (tNil)))) (tC (.int 3))) (gName 5))
  (tSeq (tFor (iRng1 (tCons (tCall sp_law_taken [] E0 (tCons (tVar 0) (tCons (tOp (rAddI) (tVar 2) (tC (.int 1))) (tNil)))) (tNil))) (gName 6) (tSeq (tAsg (tCall sp_law_taken [] E0 (tCons (tVar 0) (tCons (tC (.int 8)) (tNil)))) (gName 7))
  (tSeq (tIfS (tTest (tOp (rEq) (tVar 7) (tC (.int 7)))) (tAsg (tCall sp_law_taken [] E0 (tCons (tVar 0) (tCons (tVar 1) (tNil)))) (gName 4)) (tNext))
  (tSeq (tIfS (tTest (tOp (rEq) (tVar 7) (tC (.int 6)))) (tAsg (tOp (rSubI) (tCall sp_law_taken [] E0 (tCons (tVar 0) (tCons (tC (.int 7)) (tNil)))) (tC (.int 3))) (gName 5)) (tNext))
  (tSeq (tIfS (tAnd (tTest (tOp (rEq) (tVar 7) (tC (.int 5)))) (tTest (tOp (rNeD K) (tVar 3) (tLst (tNil))))) (tAsg (tOp (rIxL K) (tVar 3) (tCall sp_law_taken [] E0 (tCons (tVar 0) (tCons (tCB (rLenQ K) (tCons (tVar 3) (tNil))) (tNil))))) (gName 4)) (tNext))
  (tSeq (tDrop (tBM K "list" rAppend (tVar 3) (tCons (tVar 4) (tNil))))
  (tAsg (tOp (rModI) (tOp (rAddI) (tVar 4) (tVar 5)) (tVar 1)) (gName 4))))))))
  (tRet (tVar 3)))))
theorem at_int {ls : List Int} {n : Int} (h0 : 0 ≤ n) (h1 : n < (ls.length : Int)) : ∃ v, v ∈ ls ∧ atI (ls.map V.int) n = some (.int v) := by
  have hj : n.toNat < ls.length := by omega
  refine ⟨ls[n.toNat], List.getElem_mem hj, ?_⟩
  have e : n = ((n.toNat : Nat) : Int) := by omega
  have q := atI_nat (xs := ls.map V.int) (j := n.toNat) (v := .int ls[n.toNat]) (by rw [List.getElem?_map, List.getElem?_eq_getElem hj]; rfl)
  rw [← e] at q
  exact q
/-- data of ints -/
theorem dp_ints {H : Hp} {a : Addr} {ls : List Int} (h : SqL K H a (ls.map V.int)) : Dp K H (.ref a) (.list (ls.map PyData.int)) := .lst h (dpAll ls)
where
  dpAll {H : Hp} : ∀ ls : List Int, DpAll K H (ls.map V.int) (ls.map PyData.int)
  | [] => .nil
  | x :: r => .cons (.int x) (dpAll r)
theorem shaped_ints (ls : List Int) : SeqAt.shaped (.list (ls.map PyData.int)) = true := by
  have h1 : ∀ ls : List Int, PyData.canLayAll0 (ls.map PyData.int) = true := by
    intro ls
    induction ls with
    | nil => rfl
    | cons x r ih =>
      show (PyData.canLay0 (.int x) && PyData.canLayAll0 (r.map PyData.int)) = true
      rw [ih]
      rfl
  unfold SeqAt.shaped
  rw [Bool.and_eq_true]
  refine ⟨?_, decide_eq_true ?_⟩
  · show PyData.canLayAll0 (ls.map PyData.int) = true
    exact h1 ls
  · show (PyData.list (ls.map PyData.int)).depth ≤ 64
    have h2 : ∀ ls : List Int, PyData.depthAll (ls.map PyData.int) ≤ 1 := by
      intro ls
      induction ls with
      | nil => exact Nat.zero_le _
      | cons x r ih =>
        show max (PyData.depth (.int x)) (PyData.depthAll (r.map PyData.int)) ≤ 1
        have : PyData.depth (.int x) ≤ 1 := Nat.zero_le _
        omega
    have := h2 ls
    show PyData.depthAll (ls.map PyData.int) + 1 ≤ 64
    omega
theorem places_turn {D : Ends} {r q : Addr} {p m here far : Int} {kv wv : Option V} {ls : List Int} {H4 H' : Hp} (hp1 : 1 ≤ p) (nq : q ≠ r) (hz : ls.length ≤ 100000) (hx : ∀ x, x ∈ ls → 0 ≤ x ∧ x < p) (h0 : 0 ≤ here) (h1 : here < p) (hq : H' q = some (.lst (ls.map V.int))) (row : RowAt K H' r) (o : Out (fun b => b = r ∨ b = q) H4 H')
    (hn : ∀ (ls' : List Int) (here far : Int) (wv : Option V) (H' : Hp), ls'.length = ls.length + 1 → (∀ x, x ∈ ls' → 0 ≤ x ∧ x < p) → 0 ≤ here → here < p → H' q = some (.lst (ls'.map V.int)) → RowAt K H' r → Out (fun b => b = r ∨ b = q) H4 H' → D.nx [some (.ref r), some (.int p), some (.int m), some (.ref q), some (.int here), some (.int far), kv, wv] H') :
    (tSeq (tAsg (tCall (spTaken K) [] E0 (tCons (tVar 0) (tCons (tC (.int 8)) (tNil)))) (gName 7))
  (tSeq (tIfS (tTest (tOp (rEq) (tVar 7) (tC (.int 7)))) (tAsg (tCall (spTaken K) [] E0 (tCons (tVar 0) (tCons (tVar 1) (tNil)))) (gName 4)) (tNext))
  (tSeq (tIfS (tTest (tOp (rEq) (tVar 7) (tC (.int 6)))) (tAsg (tOp (rSubI) (tCall (spTaken K) [] E0 (tCons (tVar 0) (tCons (tC (.int 7)) (tNil)))) (tC (.int 3))) (gName 5)) (tNext))
  (tSeq (tIfS (tAnd (tTest (tOp (rEq) (tVar 7) (tC (.int 5)))) (tTest (tOp (rNeD K) (tVar 3) (tLst (tNil))))) (tAsg (tOp (rIxL K) (tVar 3) (tCall (spTaken K) [] E0 (tCons (tVar 0) (tCons (tCB (rLenQ K) (tCons (tVar 3) (tNil))) (tNil))))) (gName 4)) (tNext))
  (tSeq (tDrop (tBM K "list" rAppend (tVar 3) (tCons (tVar 4) (tNil))))
  (tAsg (tOp (rModI) (tOp (rAddI) (tVar 4) (tVar 5)) (tVar 1)) (gName 4))))))) D [some (.ref r), some (.int p), some (.int m), some (.ref q), some (.int here), some (.int far), kv, wv] H' := by
  have up : ∀ {H H' : Hp}, Out (Is r) H H' → Out (fun b => b = r ∨ b = q) H H' := fun e => e.mono fun b z => .inl z
  -- append, the next place
  have T4 : ∀ (here far : Int) (wv : Option V) (H' : Hp), 0 ≤ here → here < p → H' q = some (.lst (ls.map V.int)) → RowAt K H' r → Out (fun b => b = r ∨ b = q) H4 H' →
      (tSeq (tDrop (tBM K "list" rAppend (tVar 3) (tCons (tVar 4) (tNil))))
  (tAsg (tOp (rModI) (tOp (rAddI) (tVar 4) (tVar 5)) (tVar 1)) (gName 4))) D [some (.ref r), some (.int p), some (.int m), some (.ref q), some (.int here), some (.int far), kv, wv] H' := by
    intro here far wv H' h0 h1 hq row o
    walk_at "w"
    refine ⟨.inl ⟨rfl, _, SqL.of hq⟩, ?_⟩
    walk_at "w"
    refine w_app hq (small_lt (by rw [List.length_map]; omega)) ?_
    walk_at "w"
    refine w_i (by omega) ?_
    walk_at "w"
    refine hn (ls ++ [here]) _ _ _ _ (by simp) (fun x h => ?_) (Int.emod_nonneg _ (by omega)) (Int.emod_lt_of_pos _ (by omega)) (by rw [upd_same, List.map_append]; rfl) ?_ (fun b u hb nb => by rw [upd_ne (fun z => nb (.inr z))]; exact o b u hb nb)
    · rcases List.mem_append.mp h with z | z
      · exact hx x z
      · rw [List.mem_singleton.mp z]
        exact ⟨h0, h1⟩
    · exact row_put row hq nq
  have T3 : ∀ (way here far : Int) (H' : Hp), 0 ≤ here → here < p → H' q = some (.lst (ls.map V.int)) → RowAt K H' r → Out (fun b => b = r ∨ b = q) H4 H' →
      (tSeq (tIfS (tAnd (tTest (tOp (rEq) (tVar 7) (tC (.int 5)))) (tTest (tOp (rNeD K) (tVar 3) (tLst (tNil))))) (tAsg (tOp (rIxL K) (tVar 3) (tCall (spTaken K) [] E0 (tCons (tVar 0) (tCons (tCB (rLenQ K) (tCons (tVar 3) (tNil))) (tNil))))) (gName 4)) (tNext))
  (tSeq (tDrop (tBM K "list" rAppend (tVar 3) (tCons (tVar 4) (tNil))))
  (tAsg (tOp (rModI) (tOp (rAddI) (tVar 4) (tVar 5)) (tVar 1)) (gName 4)))) D [some (.ref r), some (.int p), some (.int m), some (.ref q), some (.int here), some (.int far), kv, some (.int way)] H' := by
    intro way here far H' h0 h1 hq row o
    refine w_seq (w_if (w_and (w_test (w_op ?_))))
    walk_at "w2"
    refine w_c ?_
    walk_at "w2"
    refine w_bl ?_
    refine w_if2 (fun c => ?_) (fun c => w_iff (w_next (T4 here far _ H' h0 h1 hq row o)))
    walk_at "w"
    refine ⟨by decide, w_new fun z H2 hz2 e2 hq2 => ?_⟩
    refine ⟨_, _, dp_ints (SqL.of (e2 _ _ hq)), .lst (SqL.of hq2) .nil, shaped_ints ls, by decide, ?_⟩
    refine w_bl ?_
    have row2 := row_same e2 row
    have o2 : Out (fun b => b = r ∨ b = q) H4 H2 := o.trans (same_out e2)
    cases ls with
    | nil =>
      have e : PyData.eqv (.list (List.map PyData.int [])) (.list []) = true := by decide
      rw [e]
      refine w_iff ?_
      exact w_next (T4 here far _ H2 h0 h1 (e2 _ _ hq) row2 o2)
    | cons a l =>
      have e : PyData.eqv (.list (List.map PyData.int (a :: l))) (.list []) = false := by rfl
      rw [e]
      refine w_ift ?_
      walk_at "w"
      refine w_len (.inl (SqL.of (e2 _ _ hq))) ?_
      walk_at "w"
      rw [List.length_map]
      refine ⟨r, _, rfl, (by have e9 : (a :: l).length = l.length + 1 := rfl; omega), row2, fun H3 w w0 w1 row3 o3 => ?_⟩
      have hq3 := o3 _ _ (e2 _ _ hq) nq
      obtain ⟨v, hv, hat⟩ := at_int w0 w1
      refine w_ixl (SqL.of hq3) hat ?_
      refine w_name ?_
      dsimp only [List.set]
      exact T4 v far _ H3 (hx v hv).1 (hx v hv).2 hq3 row3 (o2.trans (up o3))
  have T2 : ∀ (way here far : Int) (H' : Hp), 0 ≤ here → here < p → H' q = some (.lst (ls.map V.int)) → RowAt K H' r → Out (fun b => b = r ∨ b = q) H4 H' →
      (tSeq (tIfS (tTest (tOp (rEq) (tVar 7) (tC (.int 6)))) (tAsg (tOp (rSubI) (tCall (spTaken K) [] E0 (tCons (tVar 0) (tCons (tC (.int 7)) (tNil)))) (tC (.int 3))) (gName 5)) (tNext))
  (tSeq (tIfS (tAnd (tTest (tOp (rEq) (tVar 7) (tC (.int 5)))) (tTest (tOp (rNeD K) (tVar 3) (tLst (tNil))))) (tAsg (tOp (rIxL K) (tVar 3) (tCall (spTaken K) [] E0 (tCons (tVar 0) (tCons (tCB (rLenQ K) (tCons (tVar 3) (tNil))) (tNil))))) (gName 4)) (tNext))
  (tSeq (tDrop (tBM K "list" rAppend (tVar 3) (tCons (tVar 4) (tNil))))
  (tAsg (tOp (rModI) (tOp (rAddI) (tVar 4) (tVar 5)) (tVar 1)) (gName 4))))) D [some (.ref r), some (.int p), some (.int m), some (.ref q), some (.int here), some (.int far), kv, some (.int way)] H' := by
    intro way here far H' h0 h1 hq row o
    refine w_seq (w_if (w_test (w_op ?_)))
    walk_at "w2"
    refine w_c ?_
    walk_at "w2"
    refine w_bl ?_
    refine w_if2 (fun c => ?_) (fun c => w_next (T3 way here far H' h0 h1 hq row o))
    refine w_asg (w_op (w_call ?_))
    walk_at "w"
    refine ⟨r, 7, rfl, by decide, row, fun H3 w w0 w1 row3 o3 => ?_⟩
    refine w_c (w_i0 (w_name ?_))
    dsimp only [List.set]
    exact T3 way here _ H3 h0 h1 (o3 _ _ hq nq) row3 (o.trans (up o3))
  have T1 : ∀ (way here far : Int) (H' : Hp), 0 ≤ here → here < p → H' q = some (.lst (ls.map V.int)) → RowAt K H' r → Out (fun b => b = r ∨ b = q) H4 H' →
      (tSeq (tIfS (tTest (tOp (rEq) (tVar 7) (tC (.int 7)))) (tAsg (tCall (spTaken K) [] E0 (tCons (tVar 0) (tCons (tVar 1) (tNil)))) (gName 4)) (tNext))
  (tSeq (tIfS (tTest (tOp (rEq) (tVar 7) (tC (.int 6)))) (tAsg (tOp (rSubI) (tCall (spTaken K) [] E0 (tCons (tVar 0) (tCons (tC (.int 7)) (tNil)))) (tC (.int 3))) (gName 5)) (tNext))
  (tSeq (tIfS (tAnd (tTest (tOp (rEq) (tVar 7) (tC (.int 5)))) (tTest (tOp (rNeD K) (tVar 3) (tLst (tNil))))) (tAsg (tOp (rIxL K) (tVar 3) (tCall (spTaken K) [] E0 (tCons (tVar 0) (tCons (tCB (rLenQ K) (tCons (tVar 3) (tNil))) (tNil))))) (gName 4)) (tNext))
  (tSeq (tDrop (tBM K "list" rAppend (tVar 3) (tCons (tVar 4) (tNil))))
  (tAsg (tOp (rModI) (tOp (rAddI) (tVar 4) (tVar 5)) (tVar 1)) (gName 4)))))) D [some (.ref r), some (.int p), some (.int m), some (.ref q), some (.int here), some (.int far), kv, some (.int way)] H' := by
    intro way here far H' h0 h1 hq row o
    refine w_seq (w_if (w_test (w_op ?_)))
    walk_at "w2"
    refine w_c ?_
    walk_at "w2"
    refine w_bl ?_
    refine w_if2 (fun c => ?_) (fun c => w_next (T2 way here far H' h0 h1 hq row o))
    refine w_asg (w_call ?_)
    walk_at "w"
    refine ⟨r, p, rfl, hp1, row, fun H3 w w0 w1 row3 o3 => ?_⟩
    refine w_name ?_
    dsimp only [List.set]
    exact T2 way w far H3 w0 w1 (o3 _ _ hq nq) row3 (o.trans (up o3))
  refine w_seq (w_asg (w_call ?_))
  walk_at "w"
  refine ⟨r, 8, rfl, by decide, row, fun H3 w w0 w1 row3 o3 => ?_⟩
  refine w_name ?_
  dsimp only [List.set]
  exact T1 w here far H3 h0 h1 (o3 _ _ hq nq) row3 (o.trans (up o3))
theorem pu_law_places {vs : List V} {H : Hp} {Q : VK} {E : XK} (h : spLawPlaces K vs H Q E) : t_law_places K (spTaken K) (B Q) (start ["_law_row", "_law_places_here", "_law_most", "_law_found", "_law_here", "_law_far", "_law_k", "_law_way"] vs) H := by
  obtain ⟨r, p, m, rfl, hp1, hp2, hm0, hm1, row, k⟩ := h
  unfold t_law_places
  walk_at "w"
  refine ⟨by decide, w_new fun q H1 hq e1 h1 => ?_⟩
  have nq : q ≠ r := row_new row hq
  walk_at "w"
  refine ⟨r, p, rfl, hp1, row_same e1 row, fun H2 here hr0 hr1 row2 o2 => ?_⟩
  have h2 := o2 _ _ h1 nq
  walk_at "w"
  refine ⟨r, 7, rfl, by decide, row2, fun H3 far hf0 hf1 row3 o3 => ?_⟩
  have h3 := o3 _ _ h2 nq
  walk_at "w"
  refine ⟨r, m + 1, rfl, by omega, row3, fun H4 many hn0 hn1 row4 o4 => ?_⟩
  have h4 := o4 _ _ h3 nq
  have o04 : Out (Is r) H H4 := (same_out e1).trans (o2.trans (o3.trans o4))
  walk_at "w"
  refine w_forr1 (fun i σ H' => ∃ (ls : List Int) (here far : Int) (k7 w7 : Option V), σ = [some (.ref r), some (.int p), some (.int m), some (.ref q), some (.int here), some (.int far), k7, w7] ∧ ls.length = i ∧ (∀ x, x ∈ ls → 0 ≤ x ∧ x < p) ∧ 0 ≤ here ∧ here < p ∧ H' q = some (.lst (ls.map V.int)) ∧ RowAt K H' r ∧ Out (fun b => b = r ∨ b = q) H4 H')
    (by omega) ⟨[], here, far - 3, none, none, rfl, rfl, fun x hx => by simp at hx, hr0, hr1, h4, row4, Out.refl⟩ (fun i σ H' hi w => ?_) (fun σ H' w => ?_)
  · obtain ⟨ls, here, far, k7, w7, rfl, hl, hx, h0, h1', hq', row', o'⟩ := w
    refine w_name ?_
    dsimp only [List.set]
    exact places_turn hp1 nq (by omega) hx h0 h1' hq' row' o' (fun ls' here far wv H'' e1 e2 e3 e4 e5 e6 e7 => ⟨ls', here, far, _, _, rfl, by omega, e2, e3, e4, e5, e6, e7⟩)
  · obtain ⟨ls, here, far, k7, w7, rfl, hl, hx, h0, h1', hq', row', o'⟩ := w
    walk_at "w"
    refine k H' q ls (by omega) hx hq hq' row' (fun b o hb nb => ?_)
    refine o' b o (o04 b o hb nb) ?_
    rintro (z | z)
    · exact nb z
    · rw [z, hq] at hb
      cases hb
end
end SwD
set_option autoImplicit false
namespace Sw
/-- the strides, the first one first -/
def fstr : List Int → List Int
  | a :: b :: r => (b - a) :: fstr (b :: r)
  | _ => []
theorem strides_snoc (x y : Int) : ∀ l : List Int, strides (l ++ [y, x]) = strides (l ++ [y]) ++ [y - x]
  | [] => rfl
  | [a] => rfl
  | a :: b :: l => by
    have ih := strides_snoc x y (b :: l)
    show (a - b) :: strides (b :: l ++ [y, x]) = (a - b) :: (strides (b :: l ++ [y]) ++ [y - x])
    rw [ih]
theorem fstr_rev : ∀ l : List Int, fstr l = (strides l.reverse).reverse
  | [] => rfl
  | [_] => rfl
  | a :: b :: r => by
    have ih := fstr_rev (b :: r)
    show (b - a) :: fstr (b :: r) = _
    rw [ih]
    have e : (a :: b :: r).reverse = r.reverse ++ [b, a] := by simp
    rw [e, strides_snoc, List.reverse_append]
    have e2 : (b :: r).reverse = r.reverse ++ [b] := by simp
    rw [e2]
    rfl
theorem fstr_range : ∀ l : List Int, (List.range (l.length - 1)).map (fun i => l.getD (1 + i) 0 - l.getD i 0) = fstr l
  | [] => rfl
  | [_] => rfl
  | a :: b :: r => by
    have ih := fstr_range (b :: r)
    show (List.range (r.length + 1)).map _ = (b - a) :: fstr (b :: r)
    rw [← ih, List.range_succ_eq_map, List.map_cons, List.map_map]
    congr 1
theorem last_some (l : List Int) (n : Nat) : l.reverse.drop (l.length - n) = (l.take n).reverse := by
  rw [List.drop_reverse]
  by_cases h : n ≤ l.length
  · rw [show l.length - (l.length - n) = n by omega]
  · rw [show l.length - (l.length - n) = l.length by omega, List.take_of_length_le (Nat.le_refl _), List.take_of_length_le (by omega)]
/-- all alike: read from behind -/
theorem all_alike {S : List Int} {n : Nat} (h : S.length = n) (x : Int) : S.reverse = List.replicate n x ↔ S = List.replicate n x := by
  constructor
  · intro e
    have := congrArg List.reverse e
    rwa [List.reverse_reverse, List.reverse_replicate] at this
  · intro e
    rw [e, List.reverse_replicate]
theorem followers_snoc (k x y : Int) : ∀ l : List Int, followers k (l ++ [y, x]) = followers k (l ++ [y]) ++ (if x = k then [y] else [])
  | [] => by
    show (if x = k then [y] else []) = [] ++ _
    rw [List.nil_append]
  | [a] => by
    show (if y = k then a :: followers k [y, x] else followers k [y, x]) = (if y = k then a :: [] else []) ++ _
    show (if y = k then a :: (if x = k then [y] else []) else (if x = k then [y] else [])) = _
    by_cases h : y = k
    · rw [if_pos h, if_pos h]; rfl
    · rw [if_neg h, if_neg h]; rfl
  | a :: b :: l => by
    have ih := followers_snoc k x y (b :: l)
    show (if b = k then a :: followers k (b :: l ++ [y, x]) else followers k (b :: l ++ [y, x])) = (if b = k then a :: followers k (b :: l ++ [y]) else followers k (b :: l ++ [y])) ++ _
    rw [ih]
    by_cases h : b = k
    · rw [if_pos h, if_pos h]; rfl
    · rw [if_neg h, if_neg h]
/-- one turn more of looking back -/
theorem followers_take {k : Int} {l : List Int} {i : Nat} {x y : Int} (hy : l[i]? = some y) (hx : l[i + 1]? = some x) : followers k (l.take (i + 1 + 1)) = followers k (l.take (i + 1)) ++ (if x = k then [y] else []) := by
  have t : ∀ {l : List Int} {i : Nat} {x : Int}, l[i]? = some x → l.take (i + 1) = l.take i ++ [x] := by
    intro l
    induction l with
    | nil => intro i x h; simp at h
    | cons a l ih =>
      intro i x h
      cases i with
      | zero =>
        have : a = x := by simpa using h
        rw [this]; rfl
      | succ i =>
        have := ih (i := i) (x := x) (by simpa using h)
        rw [List.take_succ_cons, List.take_succ_cons, this]
        rfl
  rw [t hx, t hy, List.append_assoc]
  exact followers_snoc k x y (l.take i)
theorem looked_len : ∀ {g : G} (l : List Int), g.ok → (looked g l).length ≤ 3 * 2 ^ g.depth
  | .non, [], _ => Nat.zero_le _
  | .non, _ :: _, _ => Nat.zero_le _
  | .next _, [], _ => Nat.zero_le _
  | .next n, p :: r, h => by
    show (nexts p n).length ≤ 3 * 2 ^ 0
    unfold nexts
    rw [List.length_map, List.length_range]
    have := h.2
    omega
  | .stride _, [], _ => Nat.zero_le _
  | .stride n, p :: r, _ => by
    show (if _ then [p + _] else ([] : List Int)).length ≤ 3 * 2 ^ 0
    split
    · show 1 ≤ _
      omega
    · show 0 ≤ _
      omega
  | .pairs _, [], _ => Nat.zero_le _
  | .pairs n, p :: r, h => by
    show ((firsts (followers p (p :: r))).take n.toNat).length ≤ 3 * 2 ^ 0
    rw [List.length_take]
    have := h.2
    omega
  | .both _ _, [], _ => Nat.zero_le _
  | .both a b, p :: r, h => by
    show (joined (looked a (p :: r)) (looked b (p :: r))).length ≤ 3 * 2 ^ (max a.depth b.depth + 1)
    unfold joined
    rw [List.length_append]
    have h1 := looked_len (p :: r) h.1
    have h2 := looked_len (p :: r) h.2
    have h3 := List.length_filter_le (fun v => decide (v ∉ looked a (p :: r))) (looked b (p :: r))
    have h4 : 2 ^ a.depth ≤ 2 ^ max a.depth b.depth := Nat.pow_le_pow_right (by decide) (Nat.le_max_left _ _)
    have h5 : 2 ^ b.depth ≤ 2 ^ max a.depth b.depth := Nat.pow_le_pow_right (by decide) (Nat.le_max_right _ _)
    rw [Nat.pow_succ]
    omega
theorem firsts_len : ∀ l : List Int, (firsts l).length ≤ l.length
  | [] => Nat.le_refl _
  | a :: r => by
    show ((firsts r).filter _).length + 1 ≤ r.length + 1
    have := firsts_len r
    have := List.length_filter_le (fun y => decide (y ≠ a)) (firsts r)
    omega
theorem followers_len (k : Int) : ∀ l : List Int, (followers k l).length ≤ l.length
  | [] => Nat.le_refl _
  | [_] => Nat.zero_le _
  | a :: b :: r => by
    have ih := followers_len k (b :: r)
    show (if b = k then a :: followers k (b :: r) else followers k (b :: r)).length ≤ (b :: r).length + 1
    split
    · show (followers k (b :: r)).length + 1 ≤ _
      omega
    · omega
end Sw
set_option Elab.async false
set_option linter.all false
set_option maxRecDepth 100000
set_option maxHeartbeats 4000000
namespace SwD
open PySem PySem.Spec PyProof.Rows L2 SwX StX Sw
local macro_rules | `(tactic| walk_at "lk") => `(tactic| first | exact lk_at | exact lk_no | ((refine' lk_by (by decide +kernel) ?wq); (case wq => walk_at "lk")))
local macro_rules | `(tactic| walk_at "pf") => `(tactic| first | exact pf_at | exact pf_nil | ((refine' pf_by (by decide +kernel) ?wq); (case wq => walk_at "pf")))
local macro_rules | `(tactic| walk_at "w1") => `(tactic| with_reducible first
  | refine w_seq ?_ | refine w_asg ?_ | refine w_name ?_ | refine w_ret ?_ | refine w_retN ?_ | refine w_drop ?_ | refine w_next ?_ | refine w_if ?_ | refine w_ifE ?_ | refine w_test ?_ | refine w_B ?_ | refine w_bl ?_
  | refine w_not ?_ | refine w_and ?_ | refine w_or ?_ | refine w_andV ?_ | refine w_orV ?_ | refine w_notV ?_ | refine w_isN ?_ | refine w_notN ?_ | refine w_yes ?_
  | refine w_c ?_ | refine w_op ?_ | refine w_un ?_ | refine w_i0 ?_ | refine w_neg ?_ | refine w_nil ?_ | refine w_cons ?_ | refine w_cb ?_ | refine w_call ?_ | refine w_tup ?_ | refine w_lst ?_
  | refine w_fld ?_ | refine w_sfld ?_ | refine w_match ?_ | refine w_case ?_ | refine w_mcons ?_ | refine w_mnil ?_ | refine w_mcap ?_ | refine w_many ?_ | refine w_myes ?_
  | refine w_sub ?_ | refine w_bm ?_ | refine w_sl ?_ | refine w_nopart ?_ | refine w_part ?_ | refine w_int ?_ | refine w_ift ?_ | refine w_iff ?_ | refine w_ifn ?_ | refine w_dget2 ?_ | refine w_star ?_ | refine w_dput ?_ | refine w_dnewK ?_ | refine w_meth ?_ | refine w_oneOf ?_ | refine w_make ?_ | refine w_lc ?_ | refine w_for ?_ | refine w_ilist ?_ | refine w_irng1 ?_ | refine w_irng2 ?_ | refine w_irng3 ?_)
local macro_rules | `(tactic| walk_at "w2") => `(tactic| first
  | ((with_reducible refine' w_var ?wh ?_); (case wh => rfl))
  | ((with_reducible refine' w_eq ?wh ?_); (case wh => rfl))
  | ((with_reducible refine' w_ne ?wh ?_); (case wh => rfl))
  | ((with_reducible refine' w_mno ?wh ?_); (case wh => decide +kernel))
  | ((with_reducible refine' w_mhit ?wh ?wl ?_); (case wh => assumption); (case wl => rfl))
  | ((with_reducible refine' w_mmiss ?wh ?wl ?_); (case wh => assumption); (case wl => simp))
  | ((with_reducible refine' w_fldA ?wh ?wc ?wn ?wl ?_); (case wh => first | assumption | exact upd_same); (case wc => assumption); (case wn => assumption); (case wl => walk_at "lk"))
  | ((with_reducible refine' w_ixl ?wh ?we ?_); (case wh => exact SqL.of (by first | assumption | exact upd_same)); (case we => rfl))
  | ((with_reducible refine' w_ixt ?wh ?we ?_); (case wh => assumption); (case we => rfl))
  | ((with_reducible refine' w_ifT ?wh ?_); (case wh => (with_reducible exact Eq.refl _)))
  | ((with_reducible refine' w_ifF ?wh ?_); (case wh => decide +kernel))
  | ((with_reducible refine' w_isiY ?wh ?wk ?_); (case wh => first | exact .int _ | exact .str _ | exact .lst (by assumption) | exact .tup (by assumption)); (case wk => decide +kernel))
  | ((with_reducible refine' w_isiN ?wh ?wk ?_); (case wh => first | exact .int _ | exact .str _ | exact .lst (by assumption) | exact .tup (by assumption)); (case wk => decide +kernel))
  | ((with_reducible refine' w_ifF ?wh ?_); (case wh => (intro z; cases z; done)))
  | ((with_reducible refine' w_setl ?wh ?we ?wl ?_); (case wh => first | assumption | exact upd_same); (case we => rfl); (case wl => rfl))
  | ((with_reducible refine' w_methA ?wh ?wl ?_); (case wh => first | assumption | exact upd_same); (case wl => walk_at "lk"))
  | ((with_reducible refine' w_sfldB ?wc ?wn ?wz ?wl ?_); (case wc => assumption); (case wn => assumption); (case wz => simp); (case wl => walk_at "pf"))
  | ((with_reducible refine' w_sfldA ?wh ?wc ?wn ?wz ?wl ?_); (case wh => assumption); (case wc => assumption); (case wn => assumption); (case wz => simp); (case wl => walk_at "pf")))
local macro_rules | `(tactic| walk_at "w") => `(tactic| repeat (first | walk_at "w1" | walk_at "w2" | (dsimp only [List.set, setAll, List.append, List.cons_append, List.nil_append])))
section
variable {K : PySem.W.Frag}
def spLawGuessed (K : PySem.W.Frag) (n : Nat) : Sp := fun vs H Q _ => ∃ (a l : Addr) (g : G) (ls : List Int), vs = [.ref a, .ref l] ∧ GTup H g a ∧ g.ok ∧ g.depth < n ∧ H l = some (.lst (ls.map V.int)) ∧ ls ≠ [] ∧ ls.length ≤ 1000 ∧
  ∀ H' q, Same H H' → H q = none → H' q = some (.lst ((looked g ls.reverse).map V.int)) → Q (.ref q) H'
def t_law_guessed (K : PySem.W.Frag) (sp_law_guessed : Sp) : TS := tSeq (tAsg (tOp (rIxL K) (tVar 1) (tUn rNegI (tC (.int 1)))) (gName 2))
  (tSeq (tIfS (tTest (tOp (rEq) (tOp (rIxT K) (tVar 0) (tC (.int 0))) (tC (.str "both")))) (tSeq (tAsg (tCall sp_law_guessed [] E0 (tCons (tOp (rIxT K) (tVar 0) (tC (.int 1))) (tCons (tVar 1) (tNil)))) (gName 3))
  (tRet (tOp (rCat) (tVar 3) (tLc (iList K (tCall sp_law_guessed [] E0 (tCons (tOp (rIxT K) (tVar 0) (tC (.int 2))) (tCons (tVar 1) (tNil))))) (gName 8) (tTest (tOp (rIn K true) (tVar 8) (tVar 3))) (tVar 8) [8])))) (tNext))
  (tSeq (tIfS (tTest (tOp (rEq) (tOp (rIxT K) (tVar 0) (tC (.int 0))) (tC (.str "next")))) (tRet (tSl (rSlL K) (tLst (tCons (tOp (rAddI) (tVar 2) (tC (.int 1))) (tCons (tOp (rAddI) (tVar 2) (tC (.int 2))) (tCons (tOp (rAddI) (tVar 2) (tC (.int 3))) (tNil))))) (tNoPart) (tPart (tOp (rIxT K) (tVar 0) (tC (.int 1)))))) (tNext))
  (tSeq (tIfS (tTest (tOp (rEq) (tOp (rIxT K) (tVar 0) (tC (.int 0))) (tC (.str "stride")))) (tSeq (tAsg (tLc (iRng2 (tCons (tC (.int 1)) (tCons (tCB (rLenQ K) (tCons (tVar 1) (tNil))) (tNil)))) (gName 7) (tYes) (tOp (rSubI) (tOp (rIxL K) (tVar 1) (tVar 7)) (tOp (rIxL K) (tVar 1) (tOp (rSubI) (tVar 7) (tC (.int 1))))) [7]) (gName 4))
  (tSeq (tAsg (tSl (rSlL K) (tVar 4) (tPart (tCB (rMax2I) (tCons (tC (.int 0)) (tCons (tOp (rSubI) (tCB (rLenQ K) (tCons (tVar 4) (tNil))) (tOp (rIxT K) (tVar 0) (tC (.int 1)))) (tNil))))) (tNoPart)) (gName 5))
  (tSeq (tIfS (tOr (tTest (tOp (rLtI) (tCB (rLenQ K) (tCons (tVar 5) (tNil))) (tOp (rIxT K) (tVar 0) (tC (.int 1))))) (tOr (tTest (tOp (rNeD K) (tVar 5) (tOp (rRep) (tLst (tCons (tOp (rIxL K) (tVar 5) (tC (.int 0))) (tNil))) (tCB (rLenQ K) (tCons (tVar 5) (tNil)))))) (tTest (tOp (rEq) (tOp (rIxL K) (tVar 5) (tC (.int 0))) (tC (.int 0)))))) (tRet (tLst (tNil))) (tNext))
  (tRet (tLst (tCons (tOp (rAddI) (tVar 2) (tOp (rIxL K) (tVar 5) (tC (.int 0)))) (tNil))))))) (tNext))
  (tSeq (tIfS (tTest (tOp (rEq) (tOp (rIxT K) (tVar 0) (tC (.int 0))) (tC (.str "none")))) (tRet (tLst (tNil))) (tNext))
  (tSeq (tAsg (tLst (tNil)) (gName 6))
  (tSeq (tFor (iRng3 (tCons (tOp (rSubI) (tCB (rLenQ K) (tCons (tVar 1) (tNil))) (tC (.int 1))) (tCons (tC (.int 0)) (tCons (tUn rNegI (tC (.int 1))) (tNil))))) (gName 7) (tIfS (tAnd (tTest (tOp (rEq) (tOp (rIxL K) (tVar 1) (tOp (rSubI) (tVar 7) (tC (.int 1)))) (tVar 2))) (tTest (tOp (rIn K true) (tOp (rIxL K) (tVar 1) (tVar 7)) (tVar 6)))) (tDrop (tBM K "list" rAppend (tVar 6) (tCons (tOp (rIxL K) (tVar 1) (tVar 7)) (tNil)))) (tNext)))
  (tRet (tSl (rSlL K) (tVar 6) (tNoPart) (tPart (tOp (rIxT K) (tVar 0) (tC (.int 1))))))))))))
theorem nexts_cut {p m : Int} (h0 : 1 ≤ m) (h1 : m ≤ 3) : cutV [V.int (p + 1), V.int (p + 2), V.int (p + 3)] none (some m) = (nexts p m).map V.int := by
  rw [cut_take _ (by omega)]
  have hm : m = 1 ∨ m = 2 ∨ m = 3 := by omega
  rcases hm with rfl | rfl | rfl <;> rfl
theorem cut_drop (xs : List V) {j : Int} (h : 0 ≤ j) : cutV xs (some j) none = xs.drop j.toNat := by
  unfold cutV
  have e : j = ((j.toNat : Nat) : Int) := by omega
  rw [HT.sIx_none, e, HT.sIx_nat, Int.toNat_natCast]
  by_cases c : j.toNat ≤ xs.length
  · rw [Nat.min_eq_left c, List.take_of_length_le (by rw [List.length_drop]; omega)]
  · rw [Nat.min_eq_right (by omega), List.drop_eq_nil_of_le (Nat.le_refl _), List.drop_eq_nil_of_le (by omega), List.take_nil]
def stepV (L : List Int) : V → V
  | .int k => .int (L.getD k.toNat 0 - L.getD (k - 1).toNat 0)
  | _ => .non
theorem strides_added (L : List Int) : added (fun _ => true) (stepV L) (rangeV 1 ((L.length : Int) - 1).toNat) = ((strides L.reverse).reverse).map V.int := by
  rw [← fstr_rev, ← fstr_range, added_all]
  unfold rangeV
  rw [List.map_map, List.map_map, show ((L.length : Int) - 1).toNat = L.length - 1 by omega]
  apply List.map_congr_left
  intro i _
  show V.int _ = V.int _
  congr 2
  rw [show (1 + (i : Int) - 1).toNat = i by omega]
theorem eqv_ints : ∀ xs ys : List Int, PyData.eqv (.list (xs.map PyData.int)) (.list (ys.map PyData.int)) = decide (xs = ys)
  | [], [] => rfl
  | [], _ :: _ => rfl
  | _ :: _, [] => rfl
  | x :: xs, y :: ys => by
    have ih := eqv_ints xs ys
    unfold PyData.eqv at ih ⊢
    rw [List.map_cons, List.map_cons]
    unfold PyData.eqvAll
    rw [ih]
    unfold PyData.eqv
    rw [Bool.eq_iff_iff, Bool.and_eq_true, decide_eq_true_iff, decide_eq_true_iff, beq_iff_eq]
    constructor
    · rintro ⟨h1, h2⟩
      rw [h1, h2]
    · intro h
      exact ⟨(List.cons.inj h).1, (List.cons.inj h).2⟩
theorem rep_ints (n : Nat) (x : Int) : (List.replicate n [V.int x]).flatten = (List.replicate n x).map V.int := by
  rw [List.map_replicate]
  induction n with
  | zero => rfl
  | succ n ih =>
    rw [List.replicate_succ, List.flatten_cons, ih]
    rfl
theorem pu_law_guessed {vs : List V} {H : Hp} {Q : VK} {E : XK} {n : Nat} (hn0 : n ≤ 10) (h : spLawGuessed K (n + 1) vs H Q E) : t_law_guessed K (spLawGuessed K n) (B Q) (start ["_law_guesser_here", "_law_places_here", "_law_here", "_law_one", "_law_strides", "_law_some", "_law_found", "_law_k", "_law_place"] vs) H := by
  obtain ⟨a, l, g, ls, rfl, hg, ok, hn, hl, hne, hz, k⟩ := h
  obtain ⟨pre, p, rfl⟩ : ∃ pre p, ls = pre ++ [p] := ⟨ls.dropLast, ls.getLast hne, (List.dropLast_concat_getLast hne).symm⟩
  have hrev : (pre ++ [p]).reverse = p :: pre.reverse := by simp
  rw [hrev] at k
  have hlast : atI ((pre ++ [p]).map V.int) (-1) = some (.int p) := by
    rw [List.map_append]
    exact atI_last _ _
  unfold t_law_guessed
  walk_at "w"
  refine w_ixl (SqL.of hl) hlast ?_
  cases g with
  | non =>
    have hs : SqT K H a [.str "none"] := .of hg
    walk_at "w"
    refine ⟨by decide, w_new fun q H1 hq e1 h1 => ?_⟩
    exact k _ q e1 hq h1
  | next m =>
    have hs : SqT K H a [.str "next", .int m] := .of hg
    walk_at "w"
    refine ⟨small_le (by simp), w_new fun q H1 hq e1 h1 => ?_⟩
    have hs1 : SqT K H1 a [.str "next", .int m] := .of (e1 _ _ hg)
    walk_at "w"
    refine w_sll (SqL.of h1) (w_new fun q2 H2 hq2 e2 h2 => ?_)
    rw [nexts_cut ok.1 ok.2] at h2
    exact k _ q2 (e1.trans e2) (e1.free hq2) h2
  | stride m =>
    have hs : SqT K H a [.str "stride", .int m] := .of hg
    have m1 : 1 ≤ m := ok.1
    have m3 : m ≤ 3 := ok.2
    walk_at "w"
    refine w_len (.inl (SqL.of hl)) ?_
    rw [List.length_map]
    walk_at "w"
    refine w_lcr2 (fun _ => true) (stepV (pre ++ [p])) (by decide) (by omega) (fun _ => rfl) (fun i hi H' s R r => w_yes (r _ (Same.refl _))) (fun i hi _ H' s R r => ?_) (fun q1 H1 hq1 e1 h1 => ?_)
    · refine w_op (w_op ?_)
      walk_at "w2"
      walk_at "w2"
      refine w_ixl (SqL.of (s _ _ hl)) (at_getD (by omega) hi) ?_
      refine w_op ?_
      walk_at "w2"
      refine w_op ?_
      walk_at "w2"
      refine w_c (w_i0 ?_)
      refine w_ixl (SqL.of (s _ _ hl)) (at_getD (by omega) (by omega)) (w_i0 ?_)
      exact r _ (Same.refl _)
    rw [strides_added, hrev] at h1
    generalize hR : strides (p :: pre.reverse) = R at h1
    have hs1 : SqT K H1 a [.str "stride", .int m] := .of (e1 _ _ hg)
    walk_at "w"
    refine w_len (.inl (SqL.of h1)) ?_
    rw [List.length_map, List.length_reverse]
    walk_at "w"
    refine w_max2 ?_
    walk_at "w"
    refine w_sll (SqL.of h1) (w_new fun q2 H2 hq2 e2 h2 => ?_)
    have hcut : cutV (R.reverse.map V.int) (some (if (R.length : Int) - m > 0 then (R.length : Int) - m else 0)) none = ((R.take m.toNat).reverse).map V.int := by
      rw [← last_some, List.map_drop]
      by_cases c : (R.length : Int) - m > 0
      · rw [if_pos c, cut_drop _ (by omega), show ((R.length : Int) - m).toNat = R.length - m.toNat by omega]
      · rw [if_neg c, cut_drop _ (by omega), show (0 : Int).toNat = R.length - m.toNat by omega]
    rw [hcut] at h2
    have hs2 : SqT K H2 a [.str "stride", .int m] := .of (e2 _ _ (e1 _ _ hg))
    have e02 := e1.trans e2
    have hlk : looked (.stride m) (p :: pre.reverse) = if m.toNat ≤ R.length ∧ R.take m.toNat = List.replicate m.toNat (R.headD 0) ∧ R.headD 0 ≠ 0 then [p + R.headD 0] else [] := by rw [← hR]; rfl
    have none_ : ∀ (q : Addr) (H' : Hp), Same H H' → H q = none → H' q = some (.lst []) → ¬ (m.toNat ≤ R.length ∧ R.take m.toNat = List.replicate m.toNat (R.headD 0) ∧ R.headD 0 ≠ 0) → Q (.ref q) H' := fun q H' e f h c => k H' q e f (by rw [hlk, if_neg c]; exact h)
    walk_at "w"
    refine w_len (.inl (SqL.of h2)) ?_
    rw [List.length_map, List.length_reverse, List.length_take]
    walk_at "w"
    refine w_if2 (fun c => ?_) (fun c => ?_)
    · walk_at "w"
      refine ⟨by decide, w_new fun q3 H3 hq3 e3 h3 => ?_⟩
      exact none_ q3 H3 (e02.trans e3) (e02.free hq3) h3 (fun z => by have := z.1; omega)
    have hmR : m.toNat ≤ R.length := by omega
    have hSl : (R.take m.toNat).length = m.toNat := by rw [List.length_take]; omega
    obtain ⟨s0, t, hst⟩ : ∃ s0 t, (R.take m.toNat).reverse = s0 :: t := by
      cases e : (R.take m.toNat).reverse with
      | nil =>
        have := congrArg List.length e
        rw [List.length_reverse, hSl] at this
        simp at this
        omega
      | cons s0 t => exact ⟨s0, t, rfl⟩
    have hst_len : t.length + 1 = m.toNat := by
      have := congrArg List.length hst
      rw [List.length_reverse, hSl] at this
      simpa using this.symm
    have hat0 : atI ((s0 :: t).map V.int) 0 = some (.int s0) := atI_nat (j := 0) rfl
    rw [hst] at h2
    walk_at "w"
    refine w_ixl (SqL.of h2) hat0 ?_
    walk_at "w"
    refine ⟨small_le (by simp), w_new fun q3 H3 hq3 e3 h3 => ?_⟩
    have h23 := e3 _ _ h2
    walk_at "w"
    refine w_len (.inl (SqL.of h23)) ?_
    rw [List.length_map]
    walk_at "w"
    have hlen : ((s0 :: t).length : Int) = m := by
      have : (s0 :: t).length = t.length + 1 := rfl
      omega
    rw [hlen]
    refine w_rep h3 (by omega) (by omega) (small_le (by simp; omega)) (w_new fun q4 H4 hq4 e4 h4 => ?_)
    rw [rep_ints] at h4
    have h24 := e4 _ _ h23
    refine ⟨_, _, dp_ints (SqL.of h24), dp_ints (SqL.of h4), shaped_ints _, shaped_ints _, ?_⟩
    rw [eqv_ints]
    have e04 := e02.trans (e3.trans e4)
    walk_at "w"
    refine w_if2 (fun c2 => ?_) (fun c2 => ?_)
    · have hS : R.take m.toNat = List.replicate m.toNat s0 := (all_alike hSl s0).mp (by rw [hst]; exact c2)
      have hhd : R.headD 0 = s0 := by
        cases R with
        | nil => simp at hmR; omega
        | cons r0 R' =>
          have e : m.toNat = (m.toNat - 1) + 1 := by omega
          rw [e, List.take_succ_cons, List.replicate_succ] at hS
          exact (List.cons.inj hS).1
      walk_at "w"
      refine w_ixl (SqL.of h24) hat0 ?_
      walk_at "w"
      refine w_if2 (fun c3 => ?_) (fun c3 => ?_)
      · have c3 : s0 = 0 := by simpa using c3
        walk_at "w"
        refine ⟨by decide, w_new fun q5 H5 hq5 e5 h5 => ?_⟩
        exact none_ q5 H5 (e04.trans e5) (e04.free hq5) h5 (fun z => z.2.2 (by rw [hhd, c3]))
      · have c3 : ¬ s0 = 0 := by simpa using c3
        walk_at "w"
        refine w_ixl (SqL.of h24) hat0 ?_
        walk_at "w"
        refine ⟨small_le (by simp), w_new fun q5 H5 hq5 e5 h5 => ?_⟩
        refine k H5 q5 (e04.trans e5) (e04.free hq5) ?_
        rw [hlk, if_pos ⟨hmR, by rw [hhd]; exact hS, by rw [hhd]; exact c3⟩, hhd]
        exact h5
    · walk_at "w"
      refine ⟨by decide, w_new fun q5 H5 hq5 e5 h5 => ?_⟩
      refine none_ q5 H5 (e04.trans e5) (e04.free hq5) h5 (fun z => c2 ?_)
      have hS := (all_alike hSl _).mpr z.2.1
      rw [hst] at hS
      have e0 : s0 = R.headD 0 := by
        have e : m.toNat = (m.toNat - 1) + 1 := by omega
        rw [e, List.replicate_succ] at hS
        exact (List.cons.inj hS).1
      rw [hS, e0]
  | pairs m =>
    have hs : SqT K H a [.str "pairs", .int m] := .of hg
    walk_at "w"
    refine ⟨by decide, w_new fun q H1 hq e1 h1 => ?_⟩
    have hl1 := e1 _ _ hl
    have nlq : l ≠ q := fun z => by rw [← z, hl] at hq; cases hq
    walk_at "w"
    refine w_len (.inl (SqL.of hl1)) ?_
    rw [List.length_map]
    walk_at "w"
    have hL : (pre ++ [p]).length = pre.length + 1 := by simp
    refine w_forr3 (RgC.neg (by omega) (by omega) (by decide) (by decide)) (fun i σ H' => ∃ k7, σ = [some (.ref a), some (.ref l), some (.int p), none, none, none, some (.ref q), k7, none] ∧ H' q = some (.lst ((firsts (followers p ((p :: pre.reverse).take (i + 1)))).map V.int)) ∧ Out (Is q) H1 H')
      ⟨none, rfl, h1, Out.refl⟩ (fun i σ H' hi w => ?_) (fun σ H' w => ?_)
    · obtain ⟨k7, rfl, hq', o'⟩ := w
      have hl' := o' _ _ hl1 nlq
      have hi' : i + 1 < (pre ++ [p]).length := by omega
      have rv : ∀ j, j < (pre ++ [p]).length → (p :: pre.reverse)[j]? = some ((pre ++ [p]).getD ((pre ++ [p]).length - 1 - j) 0) := fun j hj => by
        rw [← hrev, List.getElem?_reverse hj, List.getD_eq_getElem?_getD, List.getElem?_eq_getElem (by omega)]
        rfl
      have hy := rv i (by omega)
      have hx := rv (i + 1) hi'
      have ek : (((pre ++ [p]).length : Int) - 1 + (i : Nat) * (-1)).toNat = (pre ++ [p]).length - 1 - i := by omega
      have ek1 : (((pre ++ [p]).length : Int) - 1 + (i : Nat) * (-1) - 1).toNat = (pre ++ [p]).length - 1 - (i + 1) := by omega
      have hft := followers_take (k := p) hy hx
      generalize hgy : (pre ++ [p]).getD ((pre ++ [p]).length - 1 - i) 0 = y at *
      generalize hgx : (pre ++ [p]).getD ((pre ++ [p]).length - 1 - (i + 1)) 0 = x at *
      have ay : atI ((pre ++ [p]).map V.int) (((pre ++ [p]).length : Int) - 1 + (i : Nat) * (-1)) = some (.int y) := by
        rw [at_getD (by omega) (by omega), ek, hgy]
      have ax : atI ((pre ++ [p]).map V.int) (((pre ++ [p]).length : Int) - 1 + (i : Nat) * (-1) - 1) = some (.int x) := by
        rw [at_getD (by omega) (by omega), ek1, hgx]
      generalize ((pre ++ [p]).length : Int) - 1 + (i : Nat) * (-1) = kk at ay ax
      walk_at "w"
      refine w_ixl (SqL.of hl') ax ?_
      walk_at "w"
      refine w_if2 (fun c => ?_) (fun c => ?_)
      · have c : x = p := by simpa using c
        rw [if_pos c] at hft
        walk_at "w"
        refine w_ixl (SqL.of hl') ay ?_
        walk_at "w"
        refine w_inl (SqL.of hq') ?_
        rw [if_pos rfl]
        walk_at "w"
        refine w_if2 (fun c2 => ?_) (fun c2 => ?_)
        · walk_at "w"
          refine ⟨_, rfl, ?_, o'⟩
          rw [hft, firsts_snoc]
          unfold more
          rw [if_pos c2]
          exact hq'
        · walk_at "w"
          refine ⟨.inl ⟨rfl, _, SqL.of hq'⟩, ?_⟩
          walk_at "w"
          refine w_ixl (SqL.of hl') ay ?_
          walk_at "w"
          refine w_app hq' (small_lt ?_) ?_
          · rw [List.length_map]
            have f1 := firsts_len (followers p ((p :: pre.reverse).take (i + 1)))
            have f2 := followers_len p ((p :: pre.reverse).take (i + 1))
            have f3 : ((p :: pre.reverse).take (i + 1)).length ≤ (p :: pre.reverse).length := List.length_take_le' _ _
            have f4 : (p :: pre.reverse).length = pre.length + 1 := by simp
            omega
          refine ⟨_, rfl, ?_, o'.trans out_upd⟩
          rw [upd_same, hft, firsts_snoc]
          unfold more
          rw [if_neg c2, List.map_append]
          rfl
      · have c : ¬ x = p := by simpa using c
        rw [if_neg c, List.append_nil] at hft
        walk_at "w"
        refine ⟨_, rfl, ?_, o'⟩
        rw [hft]
        exact hq'
    · obtain ⟨k7, rfl, hq', o'⟩ := w
      have hs' : SqT K H' a [.str "pairs", .int m] := .of (o' _ _ (e1 _ _ hg) (fun z => by
        have z : a = q := z
        rw [← z, show H a = some _ from hg] at hq
        cases hq))
      walk_at "w"
      have htk : (p :: pre.reverse).take ((((pre ++ [p]).length : Int) - 1 - 0).toNat + 1) = p :: pre.reverse := List.take_of_length_le (by simp)
      rw [htk] at hq'
      refine w_sll (SqL.of hq') (w_new fun q2 H2 hq2 e2 h2 => ?_)
      have m0 : 1 ≤ m := ok.1
      rw [cut_take _ (by omega), ← List.map_take] at h2
      have sm : Same H H' := fun b o hb => o' _ _ (e1 _ _ hb) (fun z => by
        have z : b = q := z
        rw [z, hq] at hb
        cases hb)
      exact k H2 q2 (sm.trans e2) (sm.free hq2) h2
  | both x y =>
    obtain ⟨p1, p2, ha, hx, hy⟩ := hg
    have hs : SqT K H a [.str "both", .ref p1, .ref p2] := .of ha
    have hn : max x.depth y.depth + 1 < n + 1 := hn
    walk_at "w"
    refine ⟨p1, l, x, pre ++ [p], rfl, hx, ok.1, by omega, hl, hne, hz, fun H1 q1 e1 f1 hq1 => ?_⟩
    have hs1 : SqT K H1 a [.str "both", .ref p1, .ref p2] := .of (e1 _ _ ha)
    walk_at "w"
    refine ⟨p2, l, y, pre ++ [p], rfl, gtup_same e1 hy, ok.2, by omega, e1 _ _ hl, hne, hz, fun H2 q2 e2 f2 hq2 => ?_⟩
    have hq1' := e2 _ _ hq1
    have w3 : ∀ d : Nat, d ≤ 10 → 2 ^ d ≤ 2 ^ 10 := fun d hd => Nat.pow_le_pow_right (by decide) hd
    have lx := looked_len (pre ++ [p]).reverse ok.1
    have ly := looked_len (pre ++ [p]).reverse ok.2
    have wx := w3 x.depth (by omega)
    have wy := w3 y.depth (by omega)
    refine w_lcl (notIn (looked x (pre ++ [p]).reverse)) id (SqL.of hq2) (small_lt (by rw [List.length_map]; omega)) (fun _ => rfl) (fun v hv H' s R r => ?_) (fun v hv cv H' s R r => ?_) (fun o H3 ho e3 ho3 => ?_)
    · obtain ⟨i, _, rfl⟩ := List.mem_map.mp hv
      walk_at "w"
      refine w_inl (SqL.of (s _ _ hq1')) ?_
      walk_at "w"
      exact r _ (Same.refl _)
    · walk_at "w"
      exact r _ (Same.refl _)
    · rw [added_notIn] at ho3
      refine w_cat (e3 _ _ hq1') ho3 (small_le ?_) (w_new fun q3 H4 hq3 e4 h4 => ?_)
      · rw [List.length_map, List.length_map]
        have h5 := List.length_filter_le (fun v => decide (v ∉ looked x (pre ++ [p]).reverse)) (looked y (pre ++ [p]).reverse)
        omega
      rw [← List.map_append, hrev] at h4
      exact k H4 q3 (e1.trans (e2.trans (e3.trans e4))) (e1.free (e2.free (e3.free hq3))) h4
end
end SwD
set_option Elab.async false
set_option linter.all false
set_option maxRecDepth 100000
set_option maxHeartbeats 4000000
namespace SwD
open PySem PySem.Spec PyProof.Rows L2 SwX StX Sw
local macro_rules | `(tactic| walk_at "lk") => `(tactic| first | exact lk_at | exact lk_no | ((refine' lk_by (by decide +kernel) ?wq); (case wq => walk_at "lk")))
local macro_rules | `(tactic| walk_at "pf") => `(tactic| first | exact pf_at | exact pf_nil | ((refine' pf_by (by decide +kernel) ?wq); (case wq => walk_at "pf")))
local macro_rules | `(tactic| walk_at "w1") => `(tactic| with_reducible first
  | refine w_seq ?_ | refine w_asg ?_ | refine w_name ?_ | refine w_ret ?_ | refine w_retN ?_ | refine w_drop ?_ | refine w_next ?_ | refine w_if ?_ | refine w_ifE ?_ | refine w_test ?_ | refine w_B ?_ | refine w_bl ?_
  | refine w_not ?_ | refine w_and ?_ | refine w_or ?_ | refine w_andV ?_ | refine w_orV ?_ | refine w_notV ?_ | refine w_isN ?_ | refine w_notN ?_ | refine w_yes ?_
  | refine w_c ?_ | refine w_op ?_ | refine w_un ?_ | refine w_i0 ?_ | refine w_neg ?_ | refine w_nil ?_ | refine w_cons ?_ | refine w_cb ?_ | refine w_call ?_ | refine w_tup ?_ | refine w_lst ?_
  | refine w_fld ?_ | refine w_sfld ?_ | refine w_match ?_ | refine w_case ?_ | refine w_mcons ?_ | refine w_mnil ?_ | refine w_mcap ?_ | refine w_many ?_ | refine w_myes ?_
  | refine w_sub ?_ | refine w_bm ?_ | refine w_sl ?_ | refine w_nopart ?_ | refine w_part ?_ | refine w_int ?_ | refine w_ift ?_ | refine w_iff ?_ | refine w_ifn ?_ | refine w_dget2 ?_ | refine w_star ?_ | refine w_dput ?_ | refine w_dnewK ?_ | refine w_meth ?_ | refine w_oneOf ?_ | refine w_make ?_ | refine w_lc ?_ | refine w_for ?_ | refine w_ilist ?_ | refine w_irng1 ?_ | refine w_irng2 ?_ | refine w_irng3 ?_)
local macro_rules | `(tactic| walk_at "w2") => `(tactic| first
  | ((with_reducible refine' w_var ?wh ?_); (case wh => rfl))
  | ((with_reducible refine' w_eq ?wh ?_); (case wh => rfl))
  | ((with_reducible refine' w_ne ?wh ?_); (case wh => rfl))
  | ((with_reducible refine' w_mno ?wh ?_); (case wh => decide +kernel))
  | ((with_reducible refine' w_mhit ?wh ?wl ?_); (case wh => assumption); (case wl => rfl))
  | ((with_reducible refine' w_mmiss ?wh ?wl ?_); (case wh => assumption); (case wl => simp))
  | ((with_reducible refine' w_fldA ?wh ?wc ?wn ?wl ?_); (case wh => first | assumption | exact upd_same); (case wc => assumption); (case wn => assumption); (case wl => walk_at "lk"))
  | ((with_reducible refine' w_ixl ?wh ?we ?_); (case wh => exact SqL.of (by first | assumption | exact upd_same)); (case we => rfl))
  | ((with_reducible refine' w_ixt ?wh ?we ?_); (case wh => assumption); (case we => rfl))
  | ((with_reducible refine' w_ifT ?wh ?_); (case wh => (with_reducible exact Eq.refl _)))
  | ((with_reducible refine' w_ifF ?wh ?_); (case wh => decide +kernel))
  | ((with_reducible refine' w_isiY ?wh ?wk ?_); (case wh => first | exact .int _ | exact .str _ | exact .lst (by assumption) | exact .tup (by assumption)); (case wk => decide +kernel))
  | ((with_reducible refine' w_isiN ?wh ?wk ?_); (case wh => first | exact .int _ | exact .str _ | exact .lst (by assumption) | exact .tup (by assumption)); (case wk => decide +kernel))
  | ((with_reducible refine' w_ifF ?wh ?_); (case wh => (intro z; cases z; done)))
  | ((with_reducible refine' w_setl ?wh ?we ?wl ?_); (case wh => first | assumption | exact upd_same); (case we => rfl); (case wl => rfl))
  | ((with_reducible refine' w_methA ?wh ?wl ?_); (case wh => first | assumption | exact upd_same); (case wl => walk_at "lk"))
  | ((with_reducible refine' w_sfldB ?wc ?wn ?wz ?wl ?_); (case wc => assumption); (case wn => assumption); (case wz => simp); (case wl => walk_at "pf"))
  | ((with_reducible refine' w_sfldA ?wh ?wc ?wn ?wz ?wl ?_); (case wh => assumption); (case wc => assumption); (case wn => assumption); (case wz => simp); (case wl => walk_at "pf")))
local macro_rules | `(tactic| walk_at "w") => `(tactic| repeat (first | walk_at "w1" | walk_at "w2" | (dsimp only [List.set, setAll, List.append, List.cons_append, List.nil_append])))
/-! ### the same data at two places -/
inductive Dat where
  | int (i : Int)
  | str (s : Str)
  | lst (xs : List Dat)
  | tup (xs : List Dat)
mutual
inductive DAt (H : Hp) : Dat → V → Prop
  | int (i : Int) : DAt H (.int i) (.int i)
  | str (s : Str) : DAt H (.str s) (.str s)
  | lst {a : Addr} {xs : List Dat} {vs : List V} : H a = some (.lst vs) → DAll H xs vs → DAt H (.lst xs) (.ref a)
  | tup {a : Addr} {xs : List Dat} {vs : List V} : H a = some (.tup vs) → DAll H xs vs → DAt H (.tup xs) (.ref a)
inductive DAll (H : Hp) : List Dat → List V → Prop
  | nil : DAll H [] []
  | cons {x : Dat} {xs : List Dat} {v : V} {vs : List V} : DAt H x v → DAll H xs vs → DAll H (x :: xs) (v :: vs)
end
theorem DAll.len {H : Hp} : ∀ {xs : List Dat} {vs : List V}, DAll H xs vs → xs.length = vs.length
  | _, _, .nil => rfl
  | _, _, .cons _ t => congrArg (· + 1) t.len
theorem DAll.at {H : Hp} : ∀ {xs : List Dat} {vs : List V} {i : Nat} {x : Dat}, DAll H xs vs → xs[i]? = some x → ∃ v, vs[i]? = some v ∧ DAt H x v
  | _, _, _, _, .nil, e => by simp at e
  | _, _, 0, _, .cons h _, e => by
    have e : _ = _ := Option.some.inj e
    subst e
    exact ⟨_, rfl, h⟩
  | _, _, i + 1, x, .cons _ t, e => by
    obtain ⟨v, h1, h2⟩ := DAll.at (i := i) (x := x) t (by simpa using e)
    exact ⟨v, by simpa using h1, h2⟩
mutual
theorem DAt.same {H H' : Hp} (e : Same H H') : ∀ {d : Dat} {v : V}, DAt H d v → DAt H' d v
  | _, _, .int i => .int i
  | _, _, .str s => .str s
  | _, _, .lst h t => .lst (e _ _ h) (t.same e)
  | _, _, .tup h t => .tup (e _ _ h) (t.same e)
theorem DAll.same {H H' : Hp} (e : Same H H') : ∀ {xs : List Dat} {vs : List V}, DAll H xs vs → DAll H' xs vs
  | _, _, .nil => .nil
  | _, _, .cons h t => .cons (h.same e) (t.same e)
end
/-- no list is longer, none within another deeper -/
def fits (m : Nat) : Nat → Dat → Prop
  | _, .int _ => True
  | _, .str s => SeqAt.shaped (.str s) = true
  | 0, .lst _ => False
  | 0, .tup _ => False
  | n + 1, .lst xs => xs.length ≤ m ∧ ∀ x, x ∈ xs → fits m n x
  | n + 1, .tup xs => xs.length ≤ m ∧ ∀ x, x ∈ xs → fits m n x
def spLawAlike : Nat → Sp
  | 0 => fun _ _ _ _ => False
  | n + 1 => fun vs H Q _ => ∃ d x y, vs = [x, y] ∧ DAt H d x ∧ DAt H d y ∧ fits 100000 n d ∧ ∀ H', Same H H' → Q (.bl true) H'
section
variable {K : PySem.W.Frag}
def t_law_alike (K : PySem.W.Frag) (sp_law_alike : Sp) : TS := tSeq (tIfS (tOr (tB (tCB (rIsi K) (tCons (tVar 1) (tCons (tC (.ty "tuple")) (tNil))))) (tB (tCB (rIsi K) (tCons (tVar 1) (tCons (tC (.ty "list")) (tNil)))))) (tSeq (tIfS (tOr (tTest (tOp (rNe) (tCB (rIsi K) (tCons (tVar 0) (tCons (tC (.ty "tuple")) (tNil)))) (tCB (rIsi K) (tCons (tVar 1) (tCons (tC (.ty "tuple")) (tNil)))))) (tNot (tB (tCB (rIsiT K) (tCons (tVar 0) (tCons (tTup (tCons (tC (.ty "tuple")) (tCons (tC (.ty "list")) (tNil)))) (tNil))))))) (tRet (tC (.bl false))) (tNext))
  (tSeq (tIfS (tTest (tOp (rNe) (tCB (rLenQ K) (tCons (tVar 0) (tNil))) (tCB (rLenQ K) (tCons (tVar 1) (tNil))))) (tRet (tC (.bl false))) (tNext))
  (tRet (tOp (rEqD K) (tLc (iRng1 (tCons (tCB (rLenQ K) (tCons (tVar 1) (tNil))) (tNil))) (gName 2) (tNot (tB (tCall sp_law_alike [] E0 (tCons (tOp (rIx K) (tVar 0) (tVar 2)) (tCons (tOp (rIx K) (tVar 1) (tVar 2)) (tNil)))))) (tVar 2) [2]) (tLst (tNil)))))) (tNext))
  (tSeq (tIfS (tOr (tB (tIsN (tVar 1))) (tB (tIsN (tVar 0)))) (tRet (tAndV (tIsN (tVar 1)) (tIsN (tVar 0)))) (tNext))
  (tSeq (tIfS (tOr (tB (tCB (rIsi K) (tCons (tVar 1) (tCons (tC (.ty "bool")) (tNil))))) (tB (tCB (rIsi K) (tCons (tVar 0) (tCons (tC (.ty "bool")) (tNil)))))) (tRet (tAndV (tCB (rIsi K) (tCons (tVar 1) (tCons (tC (.ty "bool")) (tNil)))) (tAndV (tCB (rIsi K) (tCons (tVar 0) (tCons (tC (.ty "bool")) (tNil)))) (tOp (rEqD K) (tVar 0) (tVar 1))))) (tNext))
  (tSeq (tIfS (tB (tCB (rIsi K) (tCons (tVar 1) (tCons (tC (.ty "str")) (tNil))))) (tRet (tAndV (tCB (rIsi K) (tCons (tVar 0) (tCons (tC (.ty "str")) (tNil)))) (tOp (rEqD K) (tVar 0) (tVar 1)))) (tNext))
  (tRet (tAndV (tCB (rIsi K) (tCons (tVar 0) (tCons (tC (.ty "int")) (tNil)))) (tOp (rEqD K) (tVar 0) (tVar 1)))))))
theorem seq_same {H H' : Hp} {a : Addr} {vs : List V} (e : Same H H') (h : H a = some (.lst vs) ∨ H a = some (.tup vs)) : H' a = some (.lst vs) ∨ H' a = some (.tup vs) := h.imp (e _ _) (e _ _)
theorem seq_ix {H : Hp} {Q : VK} {a : Addr} {vs : List V} {n : Nat} {v : V} (h : H a = some (.lst vs) ∨ H a = some (.tup vs)) (e : vs[n]? = some v) (k : Q v H) : rIx K (.ref a) (.int (n : Int)) H Q := by
  rcases h with h | h
  · exact .inl ⟨a, vs, _, v, rfl, rfl, .of h, atI_nat e, k⟩
  · exact .inr (.inl ⟨a, vs, _, v, rfl, rfl, .of h, atI_nat e, k⟩)
theorem added_no (gv : V → V) (l : List V) : added (fun _ => false) gv l = [] := by
  unfold added
  rw [List.filter_eq_nil_iff.mpr (fun _ _ => by decide)]
  rfl
theorem alike_tail {D : Ends} {H : Hp} {n : Nat} {a b : Addr} {vs ws : List V} {xs : List Dat} (h1 : H a = some (.lst vs) ∨ H a = some (.tup vs)) (h2 : H b = some (.lst ws) ∨ H b = some (.tup ws)) (t1 : DAll H xs vs) (t2 : DAll H xs ws)
    (hf : xs.length ≤ 100000 ∧ ∀ x, x ∈ xs → fits 100000 n x) (k : ∀ H', Same H H' → D.rt (.bl true) H') : (tSeq (tIfS (tTest (tOp (rNe) (tCB (rLenQ K) (tCons (tVar 0) (tNil))) (tCB (rLenQ K) (tCons (tVar 1) (tNil))))) (tRet (tC (.bl false))) (tNext))
  (tRet (tOp (rEqD K) (tLc (iRng1 (tCons (tCB (rLenQ K) (tCons (tVar 1) (tNil))) (tNil))) (gName 2) (tNot (tB (tCall (spLawAlike (n + 1)) [] E0 (tCons (tOp (rIx K) (tVar 0) (tVar 2)) (tCons (tOp (rIx K) (tVar 1) (tVar 2)) (tNil)))))) (tVar 2) [2]) (tLst (tNil))))) D [some (.ref a), some (.ref b), none] H := by
  have q1 : ∀ H', Same H H' → SqL K H' a vs ∨ SqT K H' a vs := fun H' e => (seq_same e h1).imp SqL.of SqT.of
  have q2 : ∀ H', Same H H' → SqL K H' b ws ∨ SqT K H' b ws := fun H' e => (seq_same e h2).imp SqL.of SqT.of
  have l1 := t1.len
  have l2 := t2.len
  walk_at "w"
  refine w_len (q1 _ (Same.refl _)) ?_
  walk_at "w"
  refine w_len (q2 _ (Same.refl _)) ?_
  rw [← l1, ← l2]
  walk_at "w"
  refine w_len (q2 _ (Same.refl _)) ?_
  rw [← l2]
  walk_at "w"
  refine w_lcr1 (fun _ => false) id (by omega) (by omega) (fun _ => rfl) (fun i hi H' e R r => ?_) (fun i _ hc => by cases hc) (fun p H1 hp e1 h => ?_)
  · obtain ⟨d, hd⟩ : ∃ d, xs[i]? = some d := ⟨xs[i], List.getElem?_eq_getElem (by omega)⟩
    obtain ⟨v, hv, dv⟩ := t1.at hd
    obtain ⟨u, hu, du⟩ := t2.at hd
    walk_at "w"
    refine seq_ix (seq_same e h1) hv ?_
    walk_at "w"
    refine seq_ix (seq_same e h2) hu ?_
    walk_at "w"
    refine ⟨d, v, u, rfl, dv.same e, du.same e, hf.2 d (List.mem_of_getElem? hd), fun H2 e2 => ?_⟩
    walk_at "w"
    exact r _ e2
  · rw [added_no] at h
    walk_at "w"
    refine ⟨by decide, w_new fun p2 H2 hp2 e2 h2 => ?_⟩
    refine ⟨_, _, .lst (SqL.of (e2 _ _ h)) .nil, .lst (SqL.of h2) .nil, by decide, by decide, ?_⟩
    exact k _ (e1.trans e2)
theorem pu_law_alike {vs : List V} {H : Hp} {Q : VK} {E : XK} {n : Nat} (h : spLawAlike (n + 1) vs H Q E) : t_law_alike K (spLawAlike n) (B Q) (start ["_law_found", "_law_due", "_law_k"] vs) H := by
  obtain ⟨d, x, y, rfl, hx, hy, hf, k⟩ := h
  unfold t_law_alike
  walk_at "w"
  cases d with
  | int i =>
    cases hx
    cases hy
    walk_at "w"
    refine ⟨_, _, .int i, .int i, rfl, rfl, ?_⟩
    rw [SeqAt.eqv_refl _ rfl]
    exact k _ (Same.refl _)
  | str s =>
    cases hx
    cases hy
    have hs : SeqAt.shaped (.str s) = true := by cases n <;> exact hf
    walk_at "w"
    refine ⟨_, _, .str s, .str s, hs, hs, ?_⟩
    rw [SeqAt.eqv_refl _ (SeqAt.canLay_of_shaped hs)]
    exact k _ (Same.refl _)
  | lst xs =>
    cases hx with
    | lst ha ta =>
    cases hy with
    | lst hb tb =>
    cases n with
    | zero => exact hf.elim
    | succ n =>
    walk_at "w"
    refine ⟨by decide, w_new fun p H1 hp e1 h1 => ?_⟩
    walk_at "w1"
    refine w_isiTL h1 (.lst (e1 _ _ ha)) kit_tl1 ?_
    refine w_bl (w_ifn (w_ift ?_))
    refine w_next ?_
    exact alike_tail (.inl (e1 _ _ ha)) (.inl (e1 _ _ hb)) (ta.same e1) (tb.same e1) hf (fun H' e => k H' (e1.trans e))
  | tup xs =>
    cases hx with
    | tup ha ta =>
    cases hy with
    | tup hb tb =>
    cases n with
    | zero => exact hf.elim
    | succ n =>
    walk_at "w"
    refine ⟨by decide, w_new fun p H1 hp e1 h1 => ?_⟩
    walk_at "w1"
    refine w_isiTL h1 (.tup (e1 _ _ ha)) kit_tl2 ?_
    refine w_bl (w_ifn (w_ift ?_))
    refine w_next ?_
    exact alike_tail (.inr (e1 _ _ ha)) (.inr (e1 _ _ hb)) (ta.same e1) (tb.same e1) hf (fun H' e => k H' (e1.trans e))
end
end SwD
set_option Elab.async false
set_option linter.all false
set_option maxRecDepth 100000
set_option maxHeartbeats 4000000
namespace SwX
open PySem PySem.Spec PyProof.Rows L2 StX
/-! ### texts -/
abbrev rAddStr : R2 := fun x y H Q => ∃ i j : Str, x = .str i ∧ y = .str j ∧ i.length + j.length ≤ sizeLine ∧ Q (.str (i ++ j)) H
abbrev rStr1 : RCall := fun xs H Q => (∃ i : Int, xs = [.int i] ∧ i.natAbs.log2 < 1920 ∧ Q (.str (Str.ofString (toString i))) H) ∨ ∃ a, xs = [.str a] ∧ Q (.str a) H
abbrev rJoin (K : PySem.W.Frag) : V → List V → Hp → VK → Prop := fun x xs H Q => ∃ (a : Str) (p : Addr) (ys : List Str), x = .str a ∧ xs = [.ref p] ∧ (SqL K H p (ys.map V.str) ∨ SqT K H p (ys.map V.str)) ∧ (ys.map (·.length)).sum + ys.length * a.length ≤ 16777216 ∧ Q (.str (Txt.join a ys)) H
theorem call_str1 {X : Cx} : CallR X (.type "str") rStr1 := fun pins s σ H xs us Q i v h => by
  rcases h with h | h
  · exact call_str_int pins s σ H xs us Q i v h
  · exact SkE.call_str_str pins s σ H xs us Q i v h
section
variable {K : PySem.W.Frag} {σ : L2.St} {H : Hp} {Q : VK} {te ta tb : TE} {tt : TT} {vs : List Nat} {j : Nat}
theorem w_addS {a b : Str} (z : a.length + b.length ≤ sizeLine) (k : Q (.str (a ++ b)) H) : rAddStr (.str a) (.str b) H Q := ⟨a, b, rfl, rfl, z, k⟩
theorem w_strI {i : Int} (z : i.natAbs.log2 < 1920) (k : Q (.str (Str.ofString (toString i))) H) : rStr1 [.int i] H Q := .inl ⟨i, rfl, z, k⟩
theorem w_strS {a : Str} (k : Q (.str a) H) : rStr1 [.str a] H Q := .inr ⟨a, rfl, k⟩
theorem w_tm1 {r : V → List V → Hp → VK → Prop} (k : ta σ H fun x H1 => (∃ a, x = .str a) ∧ tb σ H1 fun y H2 => r x [y] H2 Q) : tM1 r ta tb σ H Q := k
theorem w_join {a : Str} {p : Addr} {ys : List Str} (h : SqL K H p (ys.map V.str)) (z : (ys.map (·.length)).sum + ys.length * a.length ≤ 16777216) (k : Q (.str (Txt.join a ys)) H) : rJoin K (.str a) [.ref p] H Q := ⟨a, p, ys, rfl, rfl, .inl h, z, k⟩
theorem w_itup {tl : TE} {R : It → Hp → Prop} (k : tl σ H fun x H1 => ∃ a, x = .ref a ∧ (∃ xs, SqT K H1 a xs) ∧ R (Itt K a) H1) : iTup K tl σ H R := k
theorem same_seqT {H H' : Hp} {a : Addr} {xs : List V} (e : Same H H') (h : SqT K H a xs) : SqT K H' a xs := by
  rcases h with (h | ⟨o, h⟩) | h
  · exact .inl (.inl (e _ _ h))
  · exact .inl (.inr ⟨o, e _ _ h⟩)
  · exact .inr h
theorem w_lct {a : Addr} {src : List V} (f : V → Bool) (gv : V → V) (hx : SqT K H a src) (hz : src.length < sizeLine) (hw : ∀ x, wipe ((wipe σ vs).set j (some x)) vs = wipe σ vs)
    (ht : ∀ x, x ∈ src → ∀ H', Same H H' → ∀ R : Bool → Hp → Prop, (∀ H2, Same H' H2 → R (f x) H2) → tt ((wipe σ vs).set j (some x)) H' R) (he : ∀ x, x ∈ src → f x = true → ∀ H', Same H H' → ∀ R : VK, (∀ H2, Same H' H2 → R (gv x) H2) → te ((wipe σ vs).set j (some x)) H' R)
    (k : ∀ p H', H p = none → Same H H' → H' p = some (.lst (added f gv src)) → Q (.ref p) H') : ∃ a', V.ref a = .ref a' ∧ (∃ xs, SqT K H a' xs) ∧ lcK (Itt K a') (gName j) tt te vs σ H Q :=
  ⟨a, rfl, ⟨src, hx⟩, fun Dl hD => lc_tup (xs := src) (fun i H' => H Dl = none ∧ Same H H' ∧ H' Dl = some (.lst (added f gv (src.take i)))) ⟨hD, same_upd hD, upd_same⟩ (fun i H' _ p => same_seqT p.2.1 hx)
    (fun i x H' hi p => ⟨hw x, lc_turn hi hz (fun H1 => ht x (List.mem_of_getElem? hi) H1) (fun c H1 => he x (List.mem_of_getElem? hi) c H1) p⟩)
    (fun H' p => k Dl H' p.1 p.2.1 (by rw [← List.take_length (l := src)]; exact p.2.2))⟩
/-- what a turn of a comprehension must leave -/
def CTurn (Pv : Addr → List V → Hp → Prop) (D : Addr) (i : Nat) : VK := fun y H4 => ∃ acc, H4 D = some (.lst acc) ∧ acc.length < sizeLine ∧ ∃ acc2, acc2.length = i + 1 ∧ upd H4 D (.lst (acc ++ [y])) D = some (.lst acc2) ∧ Pv D acc2 (upd H4 D (.lst (acc ++ [y])))
theorem cturn {Pv : Addr → List V → Hp → Prop} {D : Addr} {acc : List V} {y : V} {H4 : Hp} (h : H4 D = some (.lst acc)) (z : acc.length ≤ 1000000) (p : Pv D (acc ++ [y]) (upd H4 D (.lst (acc ++ [y])))) : CTurn Pv D acc.length y H4 :=
  ⟨acc, h, small_lt z, _, by rw [List.length_append]; rfl, upd_same, p⟩
/-- a comprehension over a range whose turns change the heap -/
theorem w_lcrP {n : Int} (Pv : Addr → List V → Hp → Prop) (hn : -1000000 ≤ n ∧ n ≤ 1000000) (hw : ∀ x, wipe ((wipe σ vs).set j (some x)) vs = wipe σ vs)
    (h0 : ∀ D, H D = none → Pv D [] (upd H D (.lst [])))
    (hs : ∀ D acc H', H D = none → (acc.length : Int) < n → H' D = some (.lst acc) → Pv D acc H' → te ((wipe σ vs).set j (some (.int (acc.length : Int)))) H' (CTurn Pv D acc.length))
    (hd : ∀ D acc H', H D = none → acc.length = n.toNat → H' D = some (.lst acc) → Pv D acc H' → Q (.ref D) H') :
    ∃ m : Int, [V.int n] = [.int m] ∧ -(2 ^ 62) ≤ m ∧ m < 2 ^ 62 ∧ lcK (Itr 0 m.toNat) (gName j) tYes te vs σ H Q :=
  ⟨n, rfl, by omega, by omega, fun Dl hD => lc_range (lo := 0) (n := n.toNat) (fun i H' => ∃ acc, acc.length = i ∧ H' Dl = some (.lst acc) ∧ Pv Dl acc H') ⟨[], rfl, upd_same, h0 Dl hD⟩
    (fun i H' hi p => by
      obtain ⟨acc, e, h1, h2⟩ := p
      subst e
      refine ⟨hw _, w_yes ?_⟩
      rw [if_pos rfl, Int.zero_add]
      exact hs Dl acc H' hD (by omega) h1 h2)
    (fun H' p => by
      obtain ⟨acc, e, h1, h2⟩ := p
      exact hd Dl acc H' hD e h1 h2)⟩
end
end SwX
namespace SwD
open PySem PySem.Spec PyProof.Rows L2 SwX StX Sw
local macro_rules | `(tactic| walk_at "lk") => `(tactic| first | exact lk_at | exact lk_no | ((refine' lk_by (by decide +kernel) ?wq); (case wq => walk_at "lk")))
local macro_rules | `(tactic| walk_at "pf") => `(tactic| first | exact pf_at | exact pf_nil | ((refine' pf_by (by decide +kernel) ?wq); (case wq => walk_at "pf")))
local macro_rules | `(tactic| walk_at "w1") => `(tactic| with_reducible first
  | refine w_seq ?_ | refine w_asg ?_ | refine w_name ?_ | refine w_ret ?_ | refine w_retN ?_ | refine w_drop ?_ | refine w_next ?_ | refine w_if ?_ | refine w_ifE ?_ | refine w_test ?_ | refine w_B ?_ | refine w_bl ?_
  | refine w_not ?_ | refine w_and ?_ | refine w_or ?_ | refine w_andV ?_ | refine w_orV ?_ | refine w_notV ?_ | refine w_isN ?_ | refine w_notN ?_ | refine w_yes ?_
  | refine w_c ?_ | refine w_op ?_ | refine w_un ?_ | refine w_i0 ?_ | refine w_neg ?_ | refine w_nil ?_ | refine w_cons ?_ | refine w_cb ?_ | refine w_call ?_ | refine w_tup ?_ | refine w_lst ?_
  | refine w_fld ?_ | refine w_sfld ?_ | refine w_match ?_ | refine w_case ?_ | refine w_mcons ?_ | refine w_mnil ?_ | refine w_mcap ?_ | refine w_many ?_ | refine w_myes ?_
  | refine w_sub ?_ | refine w_bm ?_ | refine w_sl ?_ | refine w_nopart ?_ | refine w_part ?_ | refine w_int ?_ | refine w_ift ?_ | refine w_iff ?_ | refine w_ifn ?_ | refine w_dget2 ?_ | refine w_star ?_ | refine w_dput ?_ | refine w_dnewK ?_ | refine w_meth ?_ | refine w_oneOf ?_ | refine w_make ?_ | refine w_lc ?_ | refine w_for ?_ | refine w_ilist ?_ | refine w_irng1 ?_ | refine w_irng2 ?_ | refine w_irng3 ?_)
local macro_rules | `(tactic| walk_at "w2") => `(tactic| first
  | ((with_reducible refine' w_var ?wh ?_); (case wh => rfl))
  | ((with_reducible refine' w_eq ?wh ?_); (case wh => rfl))
  | ((with_reducible refine' w_ne ?wh ?_); (case wh => rfl))
  | ((with_reducible refine' w_mno ?wh ?_); (case wh => decide +kernel))
  | ((with_reducible refine' w_mhit ?wh ?wl ?_); (case wh => assumption); (case wl => rfl))
  | ((with_reducible refine' w_mmiss ?wh ?wl ?_); (case wh => assumption); (case wl => simp))
  | ((with_reducible refine' w_fldA ?wh ?wc ?wn ?wl ?_); (case wh => first | assumption | exact upd_same); (case wc => assumption); (case wn => assumption); (case wl => walk_at "lk"))
  | ((with_reducible refine' w_ixl ?wh ?we ?_); (case wh => exact SqL.of (by first | assumption | exact upd_same)); (case we => rfl))
  | ((with_reducible refine' w_ixt ?wh ?we ?_); (case wh => assumption); (case we => rfl))
  | ((with_reducible refine' w_ifT ?wh ?_); (case wh => (with_reducible exact Eq.refl _)))
  | ((with_reducible refine' w_ifF ?wh ?_); (case wh => decide +kernel))
  | ((with_reducible refine' w_isiY ?wh ?wk ?_); (case wh => first | exact .int _ | exact .str _ | exact .lst (by assumption) | exact .tup (by assumption)); (case wk => decide +kernel))
  | ((with_reducible refine' w_isiN ?wh ?wk ?_); (case wh => first | exact .int _ | exact .str _ | exact .lst (by assumption) | exact .tup (by assumption)); (case wk => decide +kernel))
  | ((with_reducible refine' w_ifF ?wh ?_); (case wh => (intro z; cases z; done)))
  | ((with_reducible refine' w_setl ?wh ?we ?wl ?_); (case wh => first | assumption | exact upd_same); (case we => rfl); (case wl => rfl))
  | ((with_reducible refine' w_methA ?wh ?wl ?_); (case wh => first | assumption | exact upd_same); (case wl => walk_at "lk"))
  | ((with_reducible refine' w_sfldB ?wc ?wn ?wz ?wl ?_); (case wc => assumption); (case wn => assumption); (case wz => simp); (case wl => walk_at "pf"))
  | ((with_reducible refine' w_sfldA ?wh ?wc ?wn ?wz ?wl ?_); (case wh => assumption); (case wc => assumption); (case wn => assumption); (case wz => simp); (case wl => walk_at "pf")))
local macro_rules | `(tactic| walk_at "w") => `(tactic| repeat (first | walk_at "w1" | walk_at "w2" | (dsimp only [List.set, setAll, List.append, List.cons_append, List.nil_append])))
/-! ### a guesser's text -/
abbrev dig (n : Int) : Str := Str.ofString (toString n)
def textOf : G → Str
  | .non => Txt.join " " ["none"]
  | .next n => Txt.join " " ["next", dig n]
  | .stride n => Txt.join " " ["stride", dig n]
  | .pairs n => Txt.join " " ["pairs", dig n]
  | .both a b => "both " ++ textOf a ++ " " ++ textOf b
theorem text_leaf {g : G} (ok : g.ok) : g.depth = 0 → (textOf g).length ≤ 10 := by
  cases g with
  | non => intro _; decide +kernel
  | next n =>
    intro _
    have h : n = 1 ∨ n = 2 ∨ n = 3 := by have := ok.1; have := ok.2; omega
    rcases h with rfl | rfl | rfl <;> decide +kernel
  | stride n =>
    intro _
    have h : n = 1 ∨ n = 2 ∨ n = 3 := by have := ok.1; have := ok.2; omega
    rcases h with rfl | rfl | rfl <;> decide +kernel
  | pairs n =>
    intro _
    have h : n = 1 ∨ n = 2 := by have := ok.1; have := ok.2; omega
    rcases h with rfl | rfl <;> decide +kernel
  | both a b => intro z; cases z
theorem text_len : ∀ {g : G}, g.ok → (textOf g).length + 6 ≤ 16 * 2 ^ g.depth
  | .non, ok => by have := text_leaf (g := .non) ok rfl; show _ + 6 ≤ 16 * 2 ^ 0; omega
  | .next n, ok => by have := text_leaf (g := .next n) ok rfl; show _ + 6 ≤ 16 * 2 ^ 0; omega
  | .stride n, ok => by have := text_leaf (g := .stride n) ok rfl; show _ + 6 ≤ 16 * 2 ^ 0; omega
  | .pairs n, ok => by have := text_leaf (g := .pairs n) ok rfl; show _ + 6 ≤ 16 * 2 ^ 0; omega
  | .both a b, ok => by
    have h1 := text_len ok.1
    have h2 := text_len ok.2
    have p1 : 2 ^ a.depth ≤ 2 ^ (max a.depth b.depth) := Nat.pow_le_pow_right (by decide) (by omega)
    have p2 : 2 ^ b.depth ≤ 2 ^ (max a.depth b.depth) := Nat.pow_le_pow_right (by decide) (by omega)
    have e : (textOf (.both a b)).length = 5 + (textOf a).length + 1 + (textOf b).length := by
      show (_ ++ _ ++ _ ++ _ : Str).length = _
      rw [Str.length_append, Str.length_append, Str.length_append]
      rfl
    rw [e]
    show _ ≤ 16 * 2 ^ (max a.depth b.depth + 1)
    rw [Nat.pow_succ]
    omega
theorem text_small {g : G} (ok : g.ok) (dp : g.depth ≤ 4) : (textOf g).length ≤ 256 := by
  have := text_len ok
  have : 2 ^ g.depth ≤ 2 ^ 4 := Nat.pow_le_pow_right (by decide) dp
  omega
def spLawText (n : Nat) : Sp := fun vs H Q _ => ∃ a g, vs = [.ref a] ∧ g.ok ∧ g.depth ≤ 4 ∧ g.depth < n ∧ GTup H g a ∧ ∀ H', Same H H' → Q (.str (textOf g)) H'
section
variable {K : PySem.W.Frag}
def t_law_text (K : PySem.W.Frag) (sp_law_text : Sp) : TS := tSeq (tIfS (tTest (tOp (rEq) (tOp (rIxT K) (tVar 0) (tC (.int 0))) (tC (.str "both")))) (tRet (tOp (rAddStr) (tOp (rAddStr) (tOp (rAddStr) (tC (.str "both ")) (tCall sp_law_text [] E0 (tCons (tOp (rIxT K) (tVar 0) (tC (.int 1))) (tNil)))) (tC (.str " "))) (tCall sp_law_text [] E0 (tCons (tOp (rIxT K) (tVar 0) (tC (.int 2))) (tNil))))) (tNext))
  (tRet (tM1 (rJoin K) (tC (.str " ")) (tLc (iTup K (tVar 0)) (gName 1) (tYes) (tCB (rStr1) (tCons (tVar 1) (tNil))) [1])))
def strOf : V → V
  | .int i => .str (dig i)
  | v => v
theorem pu_law_text {n : Nat} {vs : List V} {H : Hp} {Q : VK} {E : XK} (h : spLawText (n + 1) vs H Q E) : t_law_text K (spLawText n) (B Q) (start ["_law_guesser_here", "_law_part"] vs) H := by
  obtain ⟨a, g, rfl, ok, dp, dn, gt, k⟩ := h
  unfold t_law_text
  have leaf : ∀ (s : Str) (xs : List V) (ys : List Str), H a = some (.tup (.str s :: xs)) → decide (V.str s = V.str "both") = false → xs.length ≤ 1 → (∀ x, x ∈ xs → ∃ i : Int, x = .int i ∧ i.natAbs ≤ 3) → (V.str s :: xs).map strOf = ys.map V.str → (ys.map (·.length)).sum + ys.length ≤ 1000 → textOf g = Txt.join " " ys →
      (tSeq (tIfS (tTest (tOp (rEq) (tOp (rIxT K) (tVar 0) (tC (.int 0))) (tC (.str "both")))) (tRet (tOp (rAddStr) (tOp (rAddStr) (tOp (rAddStr) (tC (.str "both ")) (tCall (spLawText n) [] E0 (tCons (tOp (rIxT K) (tVar 0) (tC (.int 1))) (tNil)))) (tC (.str " "))) (tCall (spLawText n) [] E0 (tCons (tOp (rIxT K) (tVar 0) (tC (.int 2))) (tNil))))) (tNext))
  (tRet (tM1 (rJoin K) (tC (.str " ")) (tLc (iTup K (tVar 0)) (gName 1) (tYes) (tCB (rStr1) (tCons (tVar 1) (tNil))) [1])))) (B Q) (start ["_law_guesser_here", "_law_part"] [.ref a]) H := by
    intro s xs ys ha hs hl hx hy hz ht
    have st : SqT K H a (.str s :: xs) := .inl (.inl ha)
    walk_at "w"
    refine w_ixt st (atI_nat (xs := .str s :: xs) (j := 0) (v := .str s) rfl) ?_
    walk_at "w"
    rw [hs]
    walk_at "w"
    refine w_tm1 ?_
    walk_at "w"
    refine ⟨⟨_, rfl⟩, ?_⟩
    refine w_lc (w_itup ?_)
    walk_at "w"
    refine w_lct (fun _ => true) strOf st (small_lt (by simp; omega)) (fun _ => rfl) (fun x _ H' _ R r => r _ (fun _ _ z => z)) (fun x hx' _ H' _ R r => ?_) (fun p H1 hp e1 h1 => ?_)
    · walk_at "w"
      rcases List.mem_cons.mp hx' with rfl | hx'
      · exact w_strS (r _ (fun _ _ z => z))
      · obtain ⟨i, rfl, hi⟩ := hx x hx'
        refine w_strI ?_ (r _ (fun _ _ z => z))
        have : i.natAbs = 0 ∨ i.natAbs = 1 ∨ i.natAbs = 2 ∨ i.natAbs = 3 := by omega
        rcases this with e | e | e | e <;> rw [e] <;> decide +kernel
    · have e : added (fun _ => true) strOf (V.str s :: xs) = ys.map V.str := by
        unfold added
        rw [List.filter_eq_self.mpr (fun _ _ => rfl)]
        exact hy
      rw [e] at h1
      refine w_join (SqL.of h1) ?_ ?_
      · show _ + _ * 1 ≤ _
        omega
      · rw [← ht]
        exact k _ e1
  have d3 : ∀ n : Int, 1 ≤ n → n ≤ 3 → (dig n).length = 1 := fun n h0 h1 => by
    have h : n = 1 ∨ n = 2 ∨ n = 3 := by omega
    rcases h with rfl | rfl | rfl <;> decide +kernel
  cases g with
  | non => exact leaf "none" [] ["none"] gt (by decide +kernel) (by simp) (fun x hx => nomatch hx) rfl (by decide +kernel) rfl
  | next m => exact leaf "next" [.int m] ["next", dig m] gt (by decide +kernel) (by simp) (fun x hx => ⟨m, List.mem_singleton.mp hx, by have := ok.1; have := ok.2; omega⟩) rfl (by have := d3 m ok.1 ok.2; simp [this]; decide +kernel) rfl
  | stride m => exact leaf "stride" [.int m] ["stride", dig m] gt (by decide +kernel) (by simp) (fun x hx => ⟨m, List.mem_singleton.mp hx, by have := ok.1; have := ok.2; omega⟩) rfl (by have := d3 m ok.1 ok.2; simp [this]; decide +kernel) rfl
  | pairs m => exact leaf "pairs" [.int m] ["pairs", dig m] gt (by decide +kernel) (by simp) (fun x hx => ⟨m, List.mem_singleton.mp hx, by have := ok.1; have := ok.2; omega⟩) rfl (by have := d3 m ok.1 (by have := ok.2; omega); simp [this]; decide +kernel) rfl
  | both x y =>
    obtain ⟨p, q, ha, hp, hq⟩ := gt
    have st : SqT K H a [.str "both", .ref p, .ref q] := .inl (.inl ha)
    have dd : max x.depth y.depth + 1 ≤ 4 := dp
    have dn' : max x.depth y.depth + 1 < n + 1 := dn
    have lx := text_small ok.1 (by omega)
    have ly := text_small ok.2 (by omega)
    walk_at "w"
    refine ⟨p, x, rfl, ok.1, by omega, by omega, hp, fun H1 e1 => ?_⟩
    refine w_addS (small_le ?_) ?_
    · show 5 + _ ≤ _
      omega
    walk_at "w"
    refine w_addS (small_le ?_) ?_
    · rw [Str.length_append]
      show 5 + _ + 1 ≤ _
      omega
    have st1 : SqT K H1 a [.str "both", .ref p, .ref q] := same_seqT e1 st
    walk_at "w"
    refine ⟨q, y, rfl, ok.2, by omega, by omega, gtup_same e1 hq, fun H2 e2 => ?_⟩
    refine w_addS (small_le ?_) (k _ (e1.trans e2))
    rw [Str.length_append, Str.length_append]
    show 5 + _ + 1 + _ ≤ _
    omega
end
/-! ### a guesser as data; its text is one -/
def datG : G → Dat
  | .non => .tup [.str "none"]
  | .next n => .tup [.str "next", .int n]
  | .stride n => .tup [.str "stride", .int n]
  | .pairs n => .tup [.str "pairs", .int n]
  | .both a b => .tup [.str "both", datG a, datG b]
theorem dat_g {H : Hp} : ∀ {g : G} {a : Addr}, GTup H g a → DAt H (datG g) (.ref a)
  | .non, _, h => .tup h (.cons (.str _) .nil)
  | .next _, _, h => .tup h (.cons (.str _) (.cons (.int _) .nil))
  | .stride _, _, h => .tup h (.cons (.str _) (.cons (.int _) .nil))
  | .pairs _, _, h => .tup h (.cons (.str _) (.cons (.int _) .nil))
  | .both _ _, _, ⟨_, _, h, hp, hq⟩ => .tup h (.cons (.str _) (.cons (dat_g hp) (.cons (dat_g hq) .nil)))
theorem shaped_str {s : Str} (h : PyData.strOk s = true) : SeqAt.shaped (.str s) = true := by
  unfold SeqAt.shaped
  simp [PyData.canLay0, PyData.depth, h]
theorem fits_str {n : Nat} {s : Str} (h : PyData.strOk s = true) : fits 100000 n (.str s) := by
  cases n <;> exact shaped_str h
theorem fits_int {n : Nat} {i : Int} : fits 100000 n (.int i) := by
  cases n <;> exact trivial
theorem fits_g : ∀ {g : G} {n : Nat}, g.depth < n → fits 100000 n (datG g)
  | _, 0, h => absurd h (Nat.not_lt_zero _)
  | .non, n + 1, _ => ⟨by simp, fun x hx => by
    rw [List.mem_singleton.mp hx]
    exact fits_str (by decide +kernel)⟩
  | .next m, n + 1, _ => ⟨by simp, fun x hx => by
    rcases List.mem_cons.mp hx with rfl | hx
    · exact fits_str (by decide +kernel)
    · rw [List.mem_singleton.mp hx]
      exact fits_int⟩
  | .stride m, n + 1, _ => ⟨by simp, fun x hx => by
    rcases List.mem_cons.mp hx with rfl | hx
    · exact fits_str (by decide +kernel)
    · rw [List.mem_singleton.mp hx]
      exact fits_int⟩
  | .pairs m, n + 1, _ => ⟨by simp, fun x hx => by
    rcases List.mem_cons.mp hx with rfl | hx
    · exact fits_str (by decide +kernel)
    · rw [List.mem_singleton.mp hx]
      exact fits_int⟩
  | .both a b, n + 1, h => ⟨by simp, fun x hx => by
    have h : max a.depth b.depth + 1 < n + 1 := h
    rcases List.mem_cons.mp hx with rfl | hx
    · exact fits_str (by decide +kernel)
    rcases List.mem_cons.mp hx with rfl | hx
    · exact fits_g (by omega)
    · rw [List.mem_singleton.mp hx]
      exact fits_g (by omega)⟩
theorem strOk_append {a b : Str} (h : PyData.strOk a = true) (h' : PyData.strOk b = true) : PyData.strOk (a ++ b) = true := by
  unfold PyData.strOk at *
  show (a.cps ++ b.cps).all _ = true
  rw [Array.all_append, h, h']
  rfl
theorem text_strOk : ∀ {g : G}, g.ok → PyData.strOk (textOf g) = true
  | .non, _ => by decide +kernel
  | .next n, ok => by
    have h : n = 1 ∨ n = 2 ∨ n = 3 := by have := ok.1; have := ok.2; omega
    rcases h with rfl | rfl | rfl <;> decide +kernel
  | .stride n, ok => by
    have h : n = 1 ∨ n = 2 ∨ n = 3 := by have := ok.1; have := ok.2; omega
    rcases h with rfl | rfl | rfl <;> decide +kernel
  | .pairs n, ok => by
    have h : n = 1 ∨ n = 2 := by have := ok.1; have := ok.2; omega
    rcases h with rfl | rfl <;> decide +kernel
  | .both a b, ok => strOk_append (strOk_append (strOk_append (by decide +kernel) (text_strOk ok.1)) (by decide +kernel)) (text_strOk ok.2)
end SwD
set_option autoImplicit false
namespace Sw
/-! ### the turns of the document, as a plain machine -/
inductive Wd where
  | come | hit | first | late | miss | start | leave | waste
  deriving DecidableEq
/-- on the shelf: place, number, fetched ahead and not asked since; the one used longest ago first -/
structure En where
  pl : Int
  num : Int
  waits : Bool
  deriving DecidableEq
abbrev Ev := Int × Wd × Int
structure Mc where
  cells : List Int
  shelf : List En
  way : List (Int × Int)
  story : List Ev
  answers : List Int
structure Cfg where
  mem : List Int
  room : Int
  late : Int
  most : Int
/-- a deed: its place; the number that is written -/
abbrev Deed := Int × Option Int
def onShelf (sh : List En) (p : Int) : Bool := sh.any fun e => decide (e.pl = p)
def cellAt (cells : List Int) (p : Int) : Int := cells.getD p.toNat 0
/-- what leaves a full shelf -/
def leaves (room : Int) (sh : List En) : List En := if (sh.length : Int) = room then sh.take 1 else []
def stays (room : Int) (sh : List En) : List En := if (sh.length : Int) = room then sh.drop 1 else sh
def gone (t : Int) (l : List En) : List Ev := l.map fun e => (t, if e.waits then Wd.waste else Wd.leave, e.pl)
def lay (room t : Int) (w : Wd) (fl : Bool) (q : Int) (s : Mc) : Mc :=
  { s with shelf := stays room s.shelf ++ [⟨q, cellAt s.cells q, fl⟩], story := s.story ++ gone t (leaves room s.shelf) ++ [(t, w, q)] }
def due (c : Cfg) (t : Int) (x : Int × Int) : Bool := decide (x.2 + c.late < t)
def arrive (c : Cfg) (t : Int) (s : Mc) : Mc :=
  (s.way.filter (due c t)).foldl (fun s x => lay c.room t .come true x.1 s) { s with way := s.way.filter fun x => !due c t x }
def asked (c : Cfg) (t p : Int) (s : Mc) : Mc :=
  match s.shelf.find? fun e => decide (e.pl = p) with
  | some e => { s with shelf := s.shelf.filter (fun e => decide (e.pl ≠ p)) ++ [⟨p, e.num, false⟩], story := s.story ++ [(t, if e.waits then .first else .hit, p)] }
  | none => lay c.room t (if s.way.any (fun x => decide (x.1 = p)) then .late else .miss) false p { s with way := s.way.filter fun x => decide (x.1 ≠ p) }
/-- the deed itself: its place is the newest on the shelf -/
def numAt (sh : List En) (p : Int) : Int := match sh.find? fun e => decide (e.pl = p) with
  | some e => e.num
  | none => 0
def act (d : Deed) (s : Mc) : Mc := match d.2 with
  | none => { s with answers := s.answers ++ [numAt s.shelf d.1] }
  | some v => { s with shelf := s.shelf.map (fun e => if e.pl = d.1 then { e with num := v } else e), cells := s.cells.set d.1.toNat v }
def begin_ (c : Cfg) (t : Int) (s : Mc) (q : Int) : Mc :=
  if 0 ≤ q ∧ q < (c.mem.length : Int) ∧ onShelf s.shelf q = false ∧ (s.way.any fun x => decide (x.1 = q)) = false ∧ (s.way.length : Int) < c.most then { s with way := s.way ++ [(q, t)], story := s.story ++ [(t, .start, q)] } else s
def starts (c : Cfg) (t : Int) (l : List Int) (s : Mc) : Mc := l.foldl (begin_ c t) s
def turn (c : Cfg) (says : List Int) (t : Int) (d : Deed) (s : Mc) : Mc := starts c t says (act d (asked c t d.1 (arrive c t s)))
def fresh (c : Cfg) : Mc := ⟨c.mem, [], [], [], []⟩
def saysAt (g : G) (row : List Deed) (i : Nat) : List Int := looked g ((row.take (i + 1)).map (·.1)).reverse
def runTo (c : Cfg) (g : G) (row : List Deed) : Nat → Mc
  | 0 => fresh c
  | i + 1 => turn c (saysAt g row i) (i : Int) (row.getD i (0, none)) (runTo c g row i)
def ran (c : Cfg) (g : G) (row : List Deed) : Mc := runTo c g row row.length

/-! ### what always holds -/
structure Cfg.ok (c : Cfg) : Prop where
  some_ : 1 ≤ c.mem.length
  room1 : 1 ≤ c.room
  late0 : 0 ≤ c.late
  most1 : 1 ≤ c.most
structure Mc.ok (c : Cfg) (s : Mc) : Prop where
  cells : s.cells.length = c.mem.length
  room : (s.shelf.length : Int) ≤ c.room
  uniq : (s.shelf.map (·.pl)).Nodup
  range : ∀ e, e ∈ s.shelf → 0 ≤ e.pl ∧ e.pl < (c.mem.length : Int)
  wayU : (s.way.map (·.1)).Nodup
  wayR : ∀ x, x ∈ s.way → 0 ≤ x.1 ∧ x.1 < (c.mem.length : Int)
  apart : ∀ x, x ∈ s.way → ∀ e, e ∈ s.shelf → e.pl ≠ x.1
  most : (s.way.length : Int) ≤ c.most
theorem onShelf_iff {sh : List En} {p : Int} : onShelf sh p = true ↔ ∃ e, e ∈ sh ∧ e.pl = p := by
  unfold onShelf
  rw [List.any_eq_true]
  constructor
  · rintro ⟨e, h, q⟩
    exact ⟨e, h, of_decide_eq_true q⟩
  · rintro ⟨e, h, q⟩
    exact ⟨e, h, decide_eq_true q⟩
theorem stays_sub {room : Int} {sh : List En} {e : En} (h : e ∈ stays room sh) : e ∈ sh := by
  unfold stays at h
  split at h
  · exact List.mem_of_mem_drop h
  · exact h
theorem stays_nodup {room : Int} {sh : List En} (h : (sh.map (·.pl)).Nodup) : ((stays room sh).map (·.pl)).Nodup := by
  unfold stays
  split
  · rw [List.map_drop]
    exact h.sublist (List.drop_sublist _ _)
  · exact h
theorem stays_len {room : Int} {sh : List En} (h0 : 1 ≤ room) (h : (sh.length : Int) ≤ room) : ((stays room sh).length : Int) + 1 ≤ room := by
  unfold stays
  split
  · rw [List.length_drop]
    omega
  · omega
/-- a place that is on neither is laid -/
theorem lay_ok {c : Cfg} (ok : c.ok) {t : Int} {w : Wd} {fl : Bool} {q : Int} {s : Mc} (h : s.ok c) (hq : 0 ≤ q ∧ q < (c.mem.length : Int)) (hs : onShelf s.shelf q = false) (hw : ∀ x, x ∈ s.way → x.1 ≠ q) : (lay c.room t w fl q s).ok c := by
  have hs : ∀ e, e ∈ s.shelf → e.pl ≠ q := fun e he z => by
    rw [onShelf_iff.mpr ⟨e, he, z⟩] at hs
    cases hs
  refine ⟨h.cells, ?_, ?_, fun e he => ?_, h.wayU, h.wayR, fun x hx e he => ?_, h.most⟩
  · show (((stays c.room s.shelf) ++ [_]).length : Int) ≤ c.room
    rw [List.length_append]
    have := stays_len ok.room1 h.room
    simp only [List.length_cons, List.length_nil]
    omega
  · show ((stays c.room s.shelf ++ [(⟨q, cellAt s.cells q, fl⟩ : En)]).map (fun e => e.pl)).Nodup
    rw [List.map_append]
    refine List.nodup_append.mpr ⟨stays_nodup h.uniq, by simp, fun a ha b hb => ?_⟩
    obtain ⟨e, he, rfl⟩ := List.mem_map.mp ha
    have hb : b = q := by simpa using hb
    rw [hb]
    exact hs e (stays_sub he)
  · rcases List.mem_append.mp he with he | he
    · exact h.range e (stays_sub he)
    · rw [List.mem_singleton.mp he]
      exact hq
  · rcases List.mem_append.mp he with he | he
    · exact h.apart x hx e (stays_sub he)
    · rw [List.mem_singleton.mp he]
      exact fun z => hw x hx z.symm
theorem lay_shelf {room t : Int} {w : Wd} {fl : Bool} {q p : Int} {s : Mc} (hs : onShelf s.shelf p = false) (ne : p ≠ q) : onShelf (lay room t w fl q s).shelf p = false := by
  cases h : onShelf (lay room t w fl q s).shelf p with
  | false => rfl
  | true =>
    obtain ⟨e, he, ep⟩ := onShelf_iff.mp h
    rcases List.mem_append.mp he with he | he
    · rw [onShelf_iff.mpr ⟨e, stays_sub he, ep⟩] at hs
      cases hs
    · rw [List.mem_singleton.mp he] at ep
      exact absurd ep.symm ne
theorem lays_ok {c : Cfg} (ok : c.ok) {t : Int} : ∀ (l : List (Int × Int)) {s : Mc}, s.ok c → (l.map (·.1)).Nodup → (∀ x, x ∈ l → (0 ≤ x.1 ∧ x.1 < (c.mem.length : Int)) ∧ onShelf s.shelf x.1 = false ∧ ∀ y, y ∈ s.way → y.1 ≠ x.1) →
    (l.foldl (fun s x => lay c.room t .come true x.1 s) s).ok c
  | [], _, h, _, _ => h
  | x :: l, s, h, nd, hl => by
    obtain ⟨h1, h2, h3⟩ := hl x List.mem_cons_self
    obtain ⟨n1, n2⟩ := List.nodup_cons.mp (by simpa using nd : (x.1 :: l.map (·.1)).Nodup)
    refine lays_ok ok l (lay_ok ok h h1 h2 h3) n2 fun y hy => ?_
    obtain ⟨g1, g2, g3⟩ := hl y (List.mem_cons_of_mem _ hy)
    exact ⟨g1, lay_shelf g2 (fun z => n1 (by rw [← z]; exact List.mem_map_of_mem hy)), g3⟩
theorem way_less {c : Cfg} {s : Mc} (h : s.ok c) (f : Int × Int → Bool) : Mc.ok c { s with way := s.way.filter f } :=
  ⟨h.cells, h.room, h.uniq, h.range, h.wayU.sublist (List.filter_sublist.map _), fun x hx => h.wayR x (List.mem_filter.mp hx).1, fun x hx => h.apart x (List.mem_filter.mp hx).1, by
    have := List.length_filter_le f s.way
    have := h.most
    show ((s.way.filter f).length : Int) ≤ c.most
    omega⟩
theorem offShelf {c : Cfg} {s : Mc} (h : s.ok c) {x : Int × Int} (hx : x ∈ s.way) : onShelf s.shelf x.1 = false := by
  cases q : onShelf s.shelf x.1 with
  | false => rfl
  | true =>
    obtain ⟨e, he, ep⟩ := onShelf_iff.mp q
    exact absurd ep (h.apart x hx e he)
theorem inj_of_nodup {α : Type} {f : α → Int} : ∀ {l : List α} {x y : α}, (l.map f).Nodup → x ∈ l → y ∈ l → f x = f y → x = y
  | a :: l, x, y, nd, hx, hy, e => by
    obtain ⟨n1, n2⟩ := List.nodup_cons.mp (by simpa using nd : (f a :: l.map f).Nodup)
    rcases List.mem_cons.mp hx with xa | hx'
    · rcases List.mem_cons.mp hy with ya | hy'
      · rw [xa, ya]
      · exact absurd (by rw [← xa, e]; exact List.mem_map_of_mem hy') n1
    · rcases List.mem_cons.mp hy with ya | hy'
      · exact absurd (by rw [← ya, ← e]; exact List.mem_map_of_mem hx') n1
      · exact inj_of_nodup n2 hx' hy' e
theorem arrive_ok {c : Cfg} (ok : c.ok) {t : Int} {s : Mc} (h : s.ok c) : (arrive c t s).ok c := by
  refine lays_ok ok _ (way_less h _) (h.wayU.sublist (List.filter_sublist.map _)) fun x hx => ?_
  obtain ⟨hx1, hx2⟩ := List.mem_filter.mp hx
  refine ⟨h.wayR x hx1, offShelf h hx1, fun y hy e => ?_⟩
  obtain ⟨hy1, hy2⟩ := List.mem_filter.mp hy
  have := inj_of_nodup h.wayU hy1 hx1 e
  rw [this, hx2] at hy2
  cases hy2
theorem find_on {sh : List En} {p : Int} : (sh.find? fun e => decide (e.pl = p)) = none ↔ onShelf sh p = false := by
  rw [List.find?_eq_none]
  constructor
  · intro h
    cases q : onShelf sh p with
    | false => rfl
    | true =>
      obtain ⟨e, he, ep⟩ := onShelf_iff.mp q
      exact absurd (decide_eq_true ep) (h e he)
  · intro h e he z
    rw [onShelf_iff.mpr ⟨e, he, of_decide_eq_true z⟩] at h
    cases h
theorem asked_ok {c : Cfg} (ok : c.ok) {t p : Int} {s : Mc} (h : s.ok c) (hp : 0 ≤ p ∧ p < (c.mem.length : Int)) : (asked c t p s).ok c := by
  unfold asked
  split
  · rename_i e he
    have hem := List.mem_of_find?_eq_some he
    have hep : e.pl = p := by simpa using List.find?_some he
    have hlen : (s.shelf.filter fun e => decide (e.pl ≠ p)).length + 1 ≤ s.shelf.length := by
      have h1 : (s.shelf.filter fun e => decide (e.pl ≠ p)).length < s.shelf.length := by
        rcases Nat.lt_or_ge (s.shelf.filter fun e => decide (e.pl ≠ p)).length s.shelf.length with z | z
        · exact z
        · have := List.length_filter_le (fun e => decide (e.pl ≠ p)) s.shelf
          have := (List.length_filter_eq_length_iff.mp (by omega : (s.shelf.filter fun e => decide (e.pl ≠ p)).length = s.shelf.length)) e hem
          simp [hep] at this
      omega
    refine ⟨h.cells, ?_, ?_, fun e' he' => ?_, h.wayU, h.wayR, fun x hx e' he' => ?_, h.most⟩
    · show (((s.shelf.filter fun (e : En) => decide (e.pl ≠ p)) ++ [_]).length : Int) ≤ c.room
      rw [List.length_append]
      have := h.room
      simp only [List.length_cons, List.length_nil]
      omega
    · show (((s.shelf.filter fun e => decide (e.pl ≠ p)) ++ [(⟨p, e.num, false⟩ : En)]).map (fun e => e.pl)).Nodup
      rw [List.map_append]
      refine List.nodup_append.mpr ⟨h.uniq.sublist (List.filter_sublist.map _), by simp, fun a ha b hb => ?_⟩
      obtain ⟨e', he', rfl⟩ := List.mem_map.mp ha
      have hb : b = p := by simpa using hb
      rw [hb]
      simpa using (List.mem_filter.mp he').2
    · rcases List.mem_append.mp he' with he' | he'
      · exact h.range e' (List.mem_filter.mp he').1
      · rw [List.mem_singleton.mp he']
        exact hp
    · rcases List.mem_append.mp he' with he' | he'
      · exact h.apart x hx e' (List.mem_filter.mp he').1
      · rw [List.mem_singleton.mp he']
        intro z
        exact h.apart x hx e hem (hep.trans z)
  · rename_i hn
    refine lay_ok ok (way_less h _) hp (find_on.mp hn) fun x hx => ?_
    simpa using (List.mem_filter.mp hx).2
theorem act_ok {c : Cfg} {d : Deed} {s : Mc} (h : s.ok c) : (act d s).ok c := by
  unfold act
  split
  · exact ⟨h.cells, h.room, h.uniq, h.range, h.wayU, h.wayR, h.apart, h.most⟩
  · rename_i v _
    have e1 : (s.shelf.map fun (e : En) => if e.pl = d.1 then { e with num := v } else e).map (fun (e : En) => e.pl) = s.shelf.map (fun (e : En) => e.pl) := by
      rw [List.map_map]
      apply List.map_congr_left
      intro e _
      show (if e.pl = d.1 then { e with num := v } else e).pl = e.pl
      split <;> rfl
    have mem : ∀ e, e ∈ (s.shelf.map fun e => if e.pl = d.1 then { e with num := v } else e) → ∃ e', e' ∈ s.shelf ∧ e'.pl = e.pl := fun e he => by
      obtain ⟨e', he', rfl⟩ := List.mem_map.mp he
      refine ⟨e', he', ?_⟩
      split <;> rfl
    refine ⟨?_, ?_, ?_, fun e he => ?_, h.wayU, h.wayR, fun x hx e he => ?_, h.most⟩
    · show (s.cells.set _ _).length = _
      rw [List.length_set]
      exact h.cells
    · show ((s.shelf.map _).length : Int) ≤ _
      rw [List.length_map]
      exact h.room
    · exact e1 ▸ h.uniq
    · obtain ⟨e', h1, h2⟩ := mem e he
      rw [← h2]
      exact h.range e' h1
    · obtain ⟨e', h1, h2⟩ := mem e he
      rw [← h2]
      exact h.apart x hx e' h1
theorem begin_ok {c : Cfg} {t q : Int} {s : Mc} (h : s.ok c) : (begin_ c t s q).ok c := by
  unfold begin_
  split
  · rename_i hc
    obtain ⟨h0, h1, h2, h3, h4⟩ := hc
    refine ⟨h.cells, h.room, h.uniq, h.range, ?_, fun x hx => ?_, fun x hx e he => ?_, ?_⟩
    · show ((s.way ++ [(q, t)]).map (fun x => x.1)).Nodup
      rw [List.map_append]
      refine List.nodup_append.mpr ⟨h.wayU, by simp, fun a ha b hb => ?_⟩
      obtain ⟨x, hx, rfl⟩ := List.mem_map.mp ha
      have hb : b = q := by simpa using hb
      rw [hb]
      intro z
      have : (s.way.any fun x => decide (x.1 = q)) = true := List.any_eq_true.mpr ⟨x, hx, decide_eq_true z⟩
      rw [h3] at this
      cases this
    · rcases List.mem_append.mp hx with hx | hx
      · exact h.wayR x hx
      · rw [List.mem_singleton.mp hx]
        exact ⟨h0, h1⟩
    · rcases List.mem_append.mp hx with hx | hx
      · exact h.apart x hx e he
      · rw [List.mem_singleton.mp hx]
        intro z
        rw [onShelf_iff.mpr ⟨e, he, z⟩] at h2
        cases h2
    · show ((s.way ++ [_]).length : Int) ≤ c.most
      rw [List.length_append]
      simp only [List.length_cons, List.length_nil]
      omega
  · exact h
theorem starts_ok {c : Cfg} {t : Int} : ∀ (l : List Int) {s : Mc}, s.ok c → (starts c t l s).ok c
  | [], _, h => h
  | _ :: l, _, h => starts_ok l (begin_ok h)
theorem turn_ok {c : Cfg} (ok : c.ok) {says : List Int} {t : Int} {d : Deed} {s : Mc} (h : s.ok c) (hd : 0 ≤ d.1 ∧ d.1 < (c.mem.length : Int)) : (turn c says t d s).ok c :=
  starts_ok _ (act_ok (asked_ok ok (arrive_ok ok h) hd))
def rowOk (c : Cfg) (row : List Deed) : Prop := ∀ d, d ∈ row → 0 ≤ d.1 ∧ d.1 < (c.mem.length : Int)
theorem fresh_ok {c : Cfg} (ok : c.ok) : (fresh c).ok c := by
  refine ⟨rfl, ?_, List.nodup_nil, ?_, List.nodup_nil, ?_, ?_, ?_⟩
  · have := ok.room1
    show (0 : Int) ≤ c.room
    omega
  · intro _ he
    cases he
  · intro _ he
    cases he
  · intro _ he
    cases he
  · have := ok.most1
    show (0 : Int) ≤ c.most
    omega
theorem runTo_ok {c : Cfg} (ok : c.ok) {g : G} {row : List Deed} (hr : rowOk c row) : ∀ i, i ≤ row.length → (runTo c g row i).ok c
  | 0, _ => fresh_ok ok
  | i + 1, h => by
    refine turn_ok ok (runTo_ok ok hr i (by omega)) (hr _ ?_)
    rw [List.getD_eq_getElem?_getD, List.getElem?_eq_getElem (by omega)]
    exact List.getElem_mem _
end Sw
set_option Elab.async false
set_option linter.all false
set_option maxRecDepth 100000
set_option maxHeartbeats 2000000
namespace SwD
open PySem PySem.Spec PyProof.Rows L2 SwX StX
/-- two lists, item by item -/
inductive All2 {α : Type} (R : α → V → Prop) : List α → List V → Prop
  | nil : All2 R [] []
  | cons {x : α} {v : V} {xs : List α} {vs : List V} : R x v → All2 R xs vs → All2 R (x :: xs) (v :: vs)
theorem All2.imp {α : Type} {R S : α → V → Prop} (k : ∀ x v, R x v → S x v) : ∀ {xs : List α} {vs : List V}, All2 R xs vs → All2 S xs vs
  | _, _, .nil => .nil
  | _, _, .cons h t => .cons (k _ _ h) (t.imp k)
theorem All2.more {α : Type} {R : α → V → Prop} {x : α} {v : V} (h : R x v) : ∀ {xs : List α} {vs : List V}, All2 R xs vs → All2 R (xs ++ [x]) (vs ++ [v])
  | _, _, .nil => .cons h .nil
  | _, _, .cons h' t => .cons h' (t.more h)
theorem All2.len {α : Type} {R : α → V → Prop} : ∀ {xs : List α} {vs : List V}, All2 R xs vs → xs.length = vs.length
  | _, _, .nil => rfl
  | _, _, .cons _ t => congrArg (· + 1) t.len
theorem All2.at {α : Type} {R : α → V → Prop} : ∀ {xs : List α} {vs : List V} {i : Nat} {x : α}, All2 R xs vs → xs[i]? = some x → ∃ v, vs[i]? = some v ∧ R x v
  | _, _, _, _, .nil, e => by simp at e
  | _, _, 0, _, .cons h _, e => by
    have e : _ = _ := Option.some.inj e
    subst e
    exact ⟨_, rfl, h⟩
  | _, _, i + 1, x, .cons _ t, e => by
    obtain ⟨v, h1, h2⟩ := All2.at (i := i) (x := x) t (by simpa using e)
    exact ⟨v, by simpa using h1, h2⟩
theorem All2.mem {α : Type} {R : α → V → Prop} : ∀ {xs : List α} {vs : List V} {v : V}, All2 R xs vs → v ∈ vs → ∃ x, x ∈ xs ∧ R x v
  | _, _, _, .nil, h => nomatch h
  | _, _, v, .cons (x := x) h t, hv => by
    rcases List.mem_cons.mp hv with rfl | hv
    · exact ⟨x, List.mem_cons_self, h⟩
    · obtain ⟨y, h1, h2⟩ := t.mem hv
      exact ⟨y, List.mem_cons_of_mem _ h1, h2⟩
theorem All2.filter {α : Type} {R : α → V → Prop} {f : V → Bool} {g : α → Bool} (k : ∀ x v, R x v → f v = g x) : ∀ {xs : List α} {vs : List V}, All2 R xs vs → All2 R (xs.filter g) (vs.filter f)
  | _, _, .nil => .nil
  | _, _, .cons (x := x) (v := v) h t => by
    rw [List.filter_cons, List.filter_cons, k x v h]
    split
    · exact .cons h (t.filter k)
    · exact t.filter k

theorem All2.append {α : Type} {R : α → V → Prop} : ∀ {xs ys : List α} {us vs : List V}, All2 R xs us → All2 R ys vs → All2 R (xs ++ ys) (us ++ vs)
  | _, _, _, _, .nil, h => h
  | _, _, _, _, .cons h t, h' => .cons h (t.append h')
theorem All2.rev {α : Type} {R : α → V → Prop} : ∀ {xs : List α} {us : List V}, All2 R xs us → All2 R xs.reverse us.reverse
  | _, _, .nil => .nil
  | _, _, .cons h t => by
    rw [List.reverse_cons, List.reverse_cons]
    exact t.rev.more h
theorem All2.map {α : Type} {R : α → V → Prop} {f : α → V} (k : ∀ x, R x (f x)) : ∀ xs : List α, All2 R xs (xs.map f)
  | [] => .nil
  | x :: xs => .cons (k x) (All2.map k xs)
theorem All2.drop1 {α : Type} {R : α → V → Prop} : ∀ {xs : List α} {us : List V}, All2 R xs us → All2 R (xs.drop 1) (us.drop 1)
  | _, _, .nil => .nil
  | _, _, .cons _ t => t
end SwD
namespace SwX
open PySem PySem.Spec PyProof.Rows L2 StX
abbrev rIntS : RCall := fun xs H Q => ∃ a n, xs = [.str a] ∧ PySem.intText? a = some n ∧ a.length ≤ 640 ∧ Q (.int n) H
abbrev rSplit : V → List V → Hp → VK → Prop := fun x xs H Q => ∃ a b, x = .str a ∧ xs = [.str b] ∧ (b.length == 0) = false ∧ a.length + 2 ≤ sizeLine ∧ rNewStrs (Txt.split a b) H Q
section
variable {K : PySem.W.Frag} {σ : L2.St} {H : Hp} {Q : VK} {D : Ends} {ta tb te : TE} {t u : TS} {v : V} {i : Nat} {g : TG} {tb' : TS} {vs : List Nat} {tt : TT}
theorem w_rev {t : TA} {R : It → Hp → Prop} (k : t σ H fun vs H1 => ∃ (a : Addr) (xs : List V), vs = [.ref a] ∧ SqL K H1 a xs ∧ R (Itv K a xs.length) H1) : iRev K t σ H R := k
theorem w_enum {t : TA} {R : It → Hp → Prop} (k : t σ H fun vs H1 => ∃ a xs, vs = [.ref a] ∧ SqL K H1 a xs ∧ R (Ite K a) H1) : iEnum K t σ H R := k
theorem w_itup' {tl : TE} {R : It → Hp → Prop} (k : tl σ H fun x H1 => ∃ a, x = .ref a ∧ (∃ xs, SqT K H1 a xs) ∧ R (Itt K a) H1) : iTup K tl σ H R := k
theorem w_bm0 {T : String} {r : V → List V → Hp → VK → Prop} (k : ta σ H fun x H1 => tyV K T x H1 ∧ r x [] H1 Q) : tBM0 K T r ta σ H Q := k
theorem w_pop {a : Addr} {xs : List V} {x : V} (h : H a = some (.lst (xs ++ [x]))) (k : Q x (upd H a (.lst xs))) : rPop (.ref a) [] H Q :=
  ⟨a, xs ++ [x], x, rfl, rfl, h, by simp, by rw [List.dropLast_concat]; exact k⟩
theorem w_tru {P : Bool → Hp → Prop} (k : te σ H fun x H1 => ∃ k, TruV K x H1 k ∧ P k H1) : tTru K te σ H P := k
theorem truL {a : Addr} {xs : List V} (h : SqL K H a xs) : TruV K (.ref a) H (!xs.isEmpty) := .inl ⟨xs, h, rfl⟩
theorem w_extend {a b : Addr} {xs zs : List V} (h : H a = some (.lst xs)) (h' : H b = some (.lst zs)) (z : xs.length + zs.length ≤ sizeLine) (k : Q .non (upd H a (.lst (xs ++ zs)))) : rExtend (.ref a) [.ref b] H Q := ⟨a, b, xs, zs, rfl, rfl, h, h', z, k⟩
theorem w_intS {a : Str} {n : Int} (h : PySem.intText? a = some n) (z : a.length ≤ 640) (k : Q (.int n) H) : rIntS [.str a] H Q := ⟨a, n, rfl, h, z, k⟩
theorem w_split {a b : Str} (h : (b.length == 0) = false) (z : a.length + 2 ≤ sizeLine) (k : New Q H (.lst ((Txt.split a b).map V.str))) : rSplit (.str a) [.str b] H Q := ⟨a, b, rfl, rfl, h, z, k⟩
theorem w_tm1' {r : V → List V → Hp → VK → Prop} (k : ta σ H fun x H1 => (∃ a, x = .str a) ∧ tb σ H1 fun y H2 => r x [y] H2 Q) : tM1 r ta tb σ H Q := k
theorem w_gcons {ga : TG} {gs : TGs} {vs : List V} {P : L2.St → Hp → Prop} (k : ga v σ H fun σ1 H1 => gs vs σ1 H1 P) : gCons ga gs (v :: vs) σ H P := ⟨v, vs, rfl, k⟩
theorem w_gnil {P : L2.St → Hp → Prop} (k : P σ H) : gNil [] σ H P := ⟨rfl, k⟩
theorem w_gtup {n : Nat} {gs : TGs} {a : Addr} {xs : List V} {P : L2.St → Hp → Prop} (h : SqT K H a xs) (l : xs.length = n) (k : gs xs σ H P) : gTup K n gs (.ref a) σ H P := ⟨a, xs, rfl, h, l, k⟩
theorem inV_str (w : Str) (l : List Str) : inV (.str w) (l.map V.str) = decide (w ∈ l) := by
  unfold inV
  rw [List.any_map]
  have e : ((fun y => eqV y (V.str w)) ∘ V.str) = fun (y : Str) => y == w := by
    funext y
    rfl
  rw [e, Bool.eq_iff_iff, List.any_eq_true, decide_eq_true_iff]
  constructor
  · rintro ⟨y, hy, e⟩
    rw [← eq_of_beq e]
    exact hy
  · intro h
    exact ⟨w, h, beq_self_eq_true w⟩
theorem flat_strs (l : List Str) : (l.map V.str).all flatV = true := by
  rw [List.all_map]
  exact List.all_eq_true.mpr fun _ _ => rfl
theorem w_inSt {neg : Bool} {a : Addr} {w : Str} {l : List Str} (h : SqT K H a (l.map V.str)) (k : Q (.bl (if neg then !decide (w ∈ l) else decide (w ∈ l))) H) : rIn K neg (.str w) (.ref a) H Q :=
  ⟨a, _, rfl, .inr h, rfl, flat_strs l, by rw [inV_str]; exact k⟩
theorem take_more' {α : Type} {l : List α} {i : Nat} {x : α} (h : l[i]? = some x) : l.take (i + 1) = l.take i ++ [x] := by
  rw [List.take_add_one, h]
  rfl
/-- any walk -/
theorem w_forit {J : It} {n : Nat} {G : Hp → Prop} {Y : Nat → Hp → V → Hp → Prop} (w : Walk J n G Y) (Pv : Nat → L2.St → Hp → Prop) (h0 : Pv 0 σ H) (hG : ∀ i σ H, i ≤ n → Pv i σ H → G H)
    (hs : ∀ i x σ H H', i < n → Pv i σ H → Y i H x H' → g x σ H' fun σ2 H2 => tb' { D with nx := Pv (i + 1), ct := Pv (i + 1), bk := D.nx } σ2 H2) (hd : ∀ σ H, Pv n σ H → D.nx σ H) : forK J g tb' D σ H := for_it w Pv h0 hG hs hd
theorem w_forrev {a : Addr} {xs : List V} (Pv : Nat → L2.St → Hp → Prop) (hx : SqL K H a xs) (h0 : Pv 0 σ H) (hG : ∀ i σ H, i ≤ xs.length → Pv i σ H → SqL K H a xs)
    (hs : ∀ i x σ H, i < xs.length → Pv i σ H → xs.reverse[i]? = some x → g x σ H fun σ2 H2 => tb' { D with nx := Pv (i + 1), ct := Pv (i + 1), bk := D.nx } σ2 H2) (hd : ∀ σ H, Pv xs.length σ H → D.nx σ H) :
    ∃ (a' : Addr) (ys : List V), [V.ref a] = [.ref a'] ∧ SqL K H a' ys ∧ forK (Itv K a' ys.length) g tb' D σ H :=
  ⟨a, xs, rfl, hx, for_it walk_rev Pv h0 hG (fun i x σ H H' hi p y => by
    obtain ⟨rfl, e⟩ := y
    exact hs i x σ H' hi p (by rw [List.getElem?_reverse hi]; exact e)) hd⟩
theorem w_forenum {a : Addr} {xs : List V} (Pv : Nat → L2.St → Hp → Prop) (hx : SqL K H a xs) (h0 : Pv 0 σ H) (hG : ∀ i σ H, i ≤ xs.length → Pv i σ H → SqL K H a xs)
    (hs : ∀ i x σ H T H', i < xs.length → Pv i σ H → xs[i]? = some x → H T = none → Same H H' → H' T = some (.tup [.int (i : Nat), x]) → g (.ref T) σ H' fun σ2 H2 => tb' { D with nx := Pv (i + 1), ct := Pv (i + 1), bk := D.nx } σ2 H2) (hd : ∀ σ H, Pv xs.length σ H → D.nx σ H) :
    ∃ (a' : Addr) (ys : List V), [V.ref a] = [.ref a'] ∧ SqL K H a' ys ∧ forK (Ite K a') g tb' D σ H :=
  ⟨a, xs, rfl, hx, for_it walk_enum Pv h0 hG (fun i x σ H H' hi p y => by
    obtain ⟨T, x1, x2, rfl, hT, rfl, e1, e2⟩ := y
    cases e1
    exact hs i x2 σ H T _ hi p e2 hT (same_upd hT) upd_same) hd⟩
/-- a comprehension over a list whose turns change the heap -/
theorem w_lclP {a : Addr} {src : List V} {j : Nat} (Pv : Addr → List V → Hp → Prop) (hx : SqL K H a src) (hw : ∀ x, wipe ((wipe σ vs).set j (some x)) vs = wipe σ vs)
    (h0 : ∀ D, H D = none → Pv D [] (upd H D (.lst [])))
    (hG : ∀ D acc H', H D = none → Pv D acc H' → SqL K H' a src)
    (hs : ∀ D acc x H', H D = none → acc.length ≤ src.length → src[acc.length]? = some x → H' D = some (.lst acc) → Pv D acc H' → te ((wipe σ vs).set j (some x)) H' fun y H4 => ∃ acc', H4 D = some (.lst acc') ∧ acc'.length < sizeLine ∧ ∃ acc2, acc2.length = acc.length + 1 ∧ upd H4 D (.lst (acc' ++ [y])) D = some (.lst acc2) ∧ Pv D acc2 (upd H4 D (.lst (acc' ++ [y]))))
    (hd : ∀ D acc H', H D = none → acc.length = src.length → H' D = some (.lst acc) → Pv D acc H' → Q (.ref D) H') :
    ∃ a', V.ref a = .ref a' ∧ (∃ xs, SqL K H a' xs) ∧ lcK (Itl K a') (gName j) tYes te vs σ H Q :=
  ⟨a, rfl, ⟨src, hx⟩, fun Dl hD => lc_it (walk_list (xs := src)) (fun i H' => ∃ acc, acc.length = i ∧ H' Dl = some (.lst acc) ∧ Pv Dl acc H') ⟨[], rfl, upd_same, h0 Dl hD⟩
    (fun i H' _ p => by
      obtain ⟨acc, _, _, p⟩ := p
      exact hG Dl acc H' hD p)
    (fun i x H1 H' hi p y => by
      obtain ⟨acc, e, h1, h2⟩ := p
      obtain ⟨rfl, hy⟩ := y
      subst e
      refine ⟨hw _, w_yes ?_⟩
      rw [if_pos rfl]
      exact hs Dl acc x H' hD (Nat.le_of_lt hi) hy h1 h2)
    (fun H' p => by
      obtain ⟨acc, e, h1, h2⟩ := p
      exact hd Dl acc H' hD e h1 h2)⟩
end
local macro_rules | `(tactic| walk_at "w1") => `(tactic| with_reducible first | refine w_rev ?_ | refine w_enum ?_ | refine w_itup' ?_ | refine w_bm0 ?_ | refine w_gcons ?_ | refine w_gnil ?_ | refine w_tm1' ?_ | refine w_tru ?_)
end SwX
set_option Elab.async false
set_option linter.all false
set_option maxRecDepth 100000
set_option maxHeartbeats 4000000
namespace SwX
open PySem PySem.Spec PyProof.Rows L2 StX
theorem w_tupleof {K : PySem.W.Frag} {H : Hp} {Q : VK} {a : Addr} {xs : List V} (h : SqL K H a xs) (k : New Q H (.tup xs)) : rTupleOf K [.ref a] H Q := ⟨a, xs, rfl, .inl ⟨h, k⟩⟩
end SwX
namespace SwD
open PySem PySem.Spec PyProof.Rows L2 SwX StX Sw
local macro_rules | `(tactic| walk_at "lk") => `(tactic| first | exact lk_at | exact lk_no | ((refine' lk_by (by decide +kernel) ?wq); (case wq => walk_at "lk")))
local macro_rules | `(tactic| walk_at "pf") => `(tactic| first | exact pf_at | exact pf_nil | ((refine' pf_by (by decide +kernel) ?wq); (case wq => walk_at "pf")))
local macro_rules | `(tactic| walk_at "w1") => `(tactic| with_reducible first
  | refine w_seq ?_ | refine w_asg ?_ | refine w_name ?_ | refine w_ret ?_ | refine w_retN ?_ | refine w_drop ?_ | refine w_next ?_ | refine w_if ?_ | refine w_ifE ?_ | refine w_test ?_ | refine w_B ?_ | refine w_bl ?_
  | refine w_not ?_ | refine w_and ?_ | refine w_or ?_ | refine w_andV ?_ | refine w_orV ?_ | refine w_notV ?_ | refine w_isN ?_ | refine w_notN ?_ | refine w_yes ?_
  | refine w_c ?_ | refine w_op ?_ | refine w_un ?_ | refine w_i0 ?_ | refine w_neg ?_ | refine w_nil ?_ | refine w_cons ?_ | refine w_cb ?_ | refine w_call ?_ | refine w_tup ?_ | refine w_lst ?_
  | refine w_fld ?_ | refine w_sfld ?_ | refine w_match ?_ | refine w_case ?_ | refine w_mcons ?_ | refine w_mnil ?_ | refine w_mcap ?_ | refine w_many ?_ | refine w_myes ?_
  | refine w_sub ?_ | refine w_bm ?_ | refine w_sl ?_ | refine w_nopart ?_ | refine w_part ?_ | refine w_int ?_ | refine w_ift ?_ | refine w_iff ?_ | refine w_ifn ?_ | refine w_dget2 ?_ | refine w_star ?_ | refine w_dput ?_ | refine w_dnewK ?_ | refine w_meth ?_ | refine w_oneOf ?_ | refine w_make ?_ | refine w_lc ?_ | refine w_for ?_ | refine w_ilist ?_ | refine w_irng1 ?_ | refine w_irng2 ?_ | refine w_irng3 ?_)
local macro_rules | `(tactic| walk_at "w2") => `(tactic| first
  | ((with_reducible refine' w_var ?wh ?_); (case wh => rfl))
  | ((with_reducible refine' w_eq ?wh ?_); (case wh => rfl))
  | ((with_reducible refine' w_ne ?wh ?_); (case wh => rfl))
  | ((with_reducible refine' w_mno ?wh ?_); (case wh => decide +kernel))
  | ((with_reducible refine' w_mhit ?wh ?wl ?_); (case wh => assumption); (case wl => rfl))
  | ((with_reducible refine' w_mmiss ?wh ?wl ?_); (case wh => assumption); (case wl => simp))
  | ((with_reducible refine' w_fldA ?wh ?wc ?wn ?wl ?_); (case wh => first | assumption | exact upd_same); (case wc => assumption); (case wn => assumption); (case wl => walk_at "lk"))
  | ((with_reducible refine' w_ixl ?wh ?we ?_); (case wh => exact SqL.of (by first | assumption | exact upd_same)); (case we => rfl))
  | ((with_reducible refine' w_ixt ?wh ?we ?_); (case wh => assumption); (case we => rfl))
  | ((with_reducible refine' w_ifT ?wh ?_); (case wh => (with_reducible exact Eq.refl _)))
  | ((with_reducible refine' w_ifF ?wh ?_); (case wh => decide +kernel))
  | ((with_reducible refine' w_isiY ?wh ?wk ?_); (case wh => first | exact .int _ | exact .str _ | exact .lst (by assumption) | exact .tup (by assumption)); (case wk => decide +kernel))
  | ((with_reducible refine' w_isiN ?wh ?wk ?_); (case wh => first | exact .int _ | exact .str _ | exact .lst (by assumption) | exact .tup (by assumption)); (case wk => decide +kernel))
  | ((with_reducible refine' w_ifF ?wh ?_); (case wh => (intro z; cases z; done)))
  | ((with_reducible refine' w_setl ?wh ?we ?wl ?_); (case wh => first | assumption | exact upd_same); (case we => rfl); (case wl => rfl))
  | ((with_reducible refine' w_methA ?wh ?wl ?_); (case wh => first | assumption | exact upd_same); (case wl => walk_at "lk"))
  | ((with_reducible refine' w_sfldB ?wc ?wn ?wz ?wl ?_); (case wc => assumption); (case wn => assumption); (case wz => simp); (case wl => walk_at "pf"))
  | ((with_reducible refine' w_sfldA ?wh ?wc ?wn ?wz ?wl ?_); (case wh => assumption); (case wc => assumption); (case wn => assumption); (case wz => simp); (case wl => walk_at "pf")))
local macro_rules | `(tactic| walk_at "w") => `(tactic| repeat (first | walk_at "w1" | walk_at "w2" | (dsimp only [List.set, setAll, List.append, List.cons_append, List.nil_append])))
/-! ### a setting, a row of deeds, in the heap -/
def SetAt (H : Hp) (a : Addr) (c : Cfg) : Prop := ∃ m, H a = some (.tup [.ref m, .int c.room, .int c.late, .int c.most]) ∧ H m = some (.tup (c.mem.map V.int))
structure Cfg.fit (c : Cfg) : Prop where
  ok : c.ok
  mem32 : c.mem.length ≤ 32
  nums : ∀ x, x ∈ c.mem → 0 ≤ x ∧ x ≤ 99
  room8 : c.room ≤ 8
  late4 : c.late ≤ 4
  most4 : c.most ≤ 4
/-- tuples stay tuples -/
def TKeep (H H' : Hp) : Prop := ∀ a xs, H a = some (.tup xs) → H' a = some (.tup xs)
theorem set_keep {H H' : Hp} {a : Addr} {c : Cfg} (k : TKeep H H') (h : SetAt H a c) : SetAt H' a c := by
  obtain ⟨m, h1, h2⟩ := h
  exact ⟨m, k _ _ h1, k _ _ h2⟩
theorem tk_same {H H' : Hp} (e : Same H H') : TKeep H H' := fun a xs h => e _ _ h
theorem TKeep.trans {H H' H2 : Hp} (k : TKeep H H') (k' : TKeep H' H2) : TKeep H H2 := fun a xs h => k' _ _ (k _ _ h)
theorem tk_put {H : Hp} {q : Addr} {ys : List V} {u : HO} (h : H q = some (.lst ys)) : TKeep H (upd H q u) := fun a xs z => by
  rw [upd_ne (ne_of z h (fun w => nomatch w))]
  exact z
theorem row_tk {K : PySem.W.Frag} {H H' : Hp} {r : Addr} (h : RowAt K H r) (o : Out (Is r) H H') : TKeep H H' := fun a xs t => row_tup h o t
def DeedAt (H : Hp) (d : Deed) (v : V) : Prop := match d.2 with
  | none => ∃ a, v = .ref a ∧ H a = some (.tup [.str "read", .int d.1])
  | some n => ∃ a, v = .ref a ∧ H a = some (.tup [.str "write", .int d.1, .int n])
theorem deed_keep {H H' : Hp} {d : Deed} {v : V} (k : TKeep H H') (h : DeedAt H d v) : DeedAt H' d v := by
  unfold DeedAt at *
  split
  · rename_i e
    rw [e] at h
    obtain ⟨a, h1, h2⟩ := h
    exact ⟨a, h1, k _ _ h2⟩
  · rename_i n e
    rw [e] at h
    obtain ⟨a, h1, h2⟩ := h
    exact ⟨a, h1, k _ _ h2⟩
inductive Deeds (H : Hp) : List Deed → List V → Prop
  | nil : Deeds H [] []
  | cons {d : Deed} {v : V} {ds : List Deed} {vs : List V} : DeedAt H d v → Deeds H ds vs → Deeds H (d :: ds) (v :: vs)
theorem Deeds.keep {H H' : Hp} (k : TKeep H H') : ∀ {ds : List Deed} {vs : List V}, Deeds H ds vs → Deeds H' ds vs
  | _, _, .nil => .nil
  | _, _, .cons h t => .cons (deed_keep k h) (t.keep k)
theorem Deeds.more {H : Hp} {d : Deed} {v : V} (h : DeedAt H d v) : ∀ {ds : List Deed} {vs : List V}, Deeds H ds vs → Deeds H (ds ++ [d]) (vs ++ [v])
  | _, _, .nil => .cons h .nil
  | _, _, .cons h' t => .cons h' (t.more h)
theorem Deeds.len {H : Hp} : ∀ {ds : List Deed} {vs : List V}, Deeds H ds vs → ds.length = vs.length
  | _, _, .nil => rfl
  | _, _, .cons _ t => congrArg (· + 1) t.len
theorem Deeds.at {H : Hp} : ∀ {ds : List Deed} {vs : List V} {i : Nat} {d : Deed}, Deeds H ds vs → ds[i]? = some d → ∃ v, vs[i]? = some v ∧ DeedAt H d v
  | _, _, _, _, .nil, e => by simp at e
  | _, _, 0, _, .cons h _, e => by
    have e : _ = _ := Option.some.inj e
    subst e
    exact ⟨_, rfl, h⟩
  | _, _, i + 1, d, .cons _ t, e => by
    obtain ⟨v, h1, h2⟩ := Deeds.at (i := i) (d := d) t (by simpa using e)
    exact ⟨v, by simpa using h1, h2⟩
section
variable {K : PySem.W.Frag}
def spLawSetting (K : PySem.W.Frag) : Sp := fun vs H Q _ => ∃ r m, vs = [.ref r, .int m] ∧ 1 ≤ m ∧ m ≤ 32 ∧ RowAt K H r ∧
  ∀ H' a c, Cfg.fit c → (c.mem.length : Int) ≤ m → SetAt H' a c → RowAt K H' r → Out (Is r) H H' → Q (.ref a) H'
def t_law_setting (K : PySem.W.Frag) (sp_law_taken : Sp) : TS := tSeq (tAsg (tCB (rTupleOf K) (tCons (tLc (iRng1 (tCons (tOp (rAddI) (tC (.int 1)) (tCall sp_law_taken [] E0 (tCons (tVar 0) (tCons (tVar 1) (tNil))))) (tNil))) (gName 4) (tYes) (tCall sp_law_taken [] E0 (tCons (tVar 0) (tCons (tC (.int 100)) (tNil)))) [4]) (tNil))) (gName 2))
  (tSeq (tAsg (tOp (rAddI) (tC (.int 1)) (tCall sp_law_taken [] E0 (tCons (tVar 0) (tCons (tOp (rIxL K) (tLst (tCons (tC (.int 3)) (tCons (tC (.int 8)) (tNil)))) (tCall sp_law_taken [] E0 (tCons (tVar 0) (tCons (tC (.int 2)) (tNil))))) (tNil))))) (gName 3))
  (tRet (tTup (tCons (tVar 2) (tCons (tVar 3) (tCons (tOp (rIxL K) (tLst (tCons (tC (.int 0)) (tCons (tC (.int 1)) (tCons (tCall sp_law_taken [] E0 (tCons (tVar 0) (tCons (tC (.int 5)) (tNil)))) (tNil))))) (tCall sp_law_taken [] E0 (tCons (tVar 0) (tCons (tC (.int 3)) (tNil))))) (tCons (tOp (rAddI) (tC (.int 1)) (tCall sp_law_taken [] E0 (tCons (tVar 0) (tCons (tC (.int 4)) (tNil))))) (tNil))))))))
theorem pu_law_setting {vs : List V} {H : Hp} {Q : VK} {E : XK} (h : spLawSetting K vs H Q E) : t_law_setting K (spTaken K) (B Q) (start ["_law_row", "_law_most", "_law_memory", "_law_room", "_law_k"] vs) H := by
  obtain ⟨r, m, rfl, m1, m32, row, k⟩ := h
  unfold t_law_setting
  walk_at "w"
  refine ⟨r, m, rfl, m1, row, fun H1 v v0 v1 row1 o1 => ?_⟩
  walk_at "w"
  refine w_lcrP (fun D acc H' => D ≠ r ∧ H1 D = none ∧ Out (Is r) H1 H' ∧ RowAt K H' r ∧ ∃ ms : List Int, acc = ms.map V.int ∧ ∀ x, x ∈ ms → 0 ≤ x ∧ x ≤ 99) (by omega) (fun _ => rfl)
    (fun D hD => ⟨row_new row1 hD, hD, same_out (same_upd hD), row_same (same_upd hD) row1, [], rfl, fun x hx => nomatch hx⟩) (fun D acc H' hD hi hl p => ?_) (fun D acc H' hD hz hl p => ?_)
  · obtain ⟨nr, fD, o, row', ms, rfl, hm⟩ := p
    walk_at "w"
    refine ⟨r, 100, rfl, by decide, row', fun H2 x x0 x1 row2 o2 => ?_⟩
    have hl2 := o2 _ _ hl nr
    refine cturn hl2 (by omega) ⟨nr, fD, fun b u hb nb => ?_, row_put row2 hl2 nr, ms ++ [x], by rw [List.map_append]; rfl, fun y hy => ?_⟩
    · rw [upd_ne (fun z => by rw [z, fD] at hb; cases hb)]
      exact o2 _ _ (o _ _ hb nb) nb
    · rcases List.mem_append.mp hy with hy | hy
      · exact hm y hy
      · rw [List.mem_singleton.mp hy]
        omega
  · obtain ⟨nr, fD, o, row', ms, rfl, hm⟩ := p
    rw [List.length_map] at hz
    walk_at "w"
    refine w_tupleof (SqL.of hl) (w_new fun t H2 ht e2 h2 => ?_)
    have row2 := row_same e2 row'
    walk_at "w"
    refine ⟨small_le (by simp), w_new fun l1 H3 hl1 e3 h3 => ?_⟩
    have row3 := row_same e3 row2
    have n1 := row_new row2 hl1
    walk_at "w"
    refine ⟨r, 2, rfl, by decide, row3, fun H4 x x0 x1 row4 o4 => ?_⟩
    obtain ⟨p, hp, p1, p8⟩ : ∃ p : Int, atI [V.int 3, V.int 8] x = some (.int p) ∧ 1 ≤ p ∧ p ≤ 8 := by
      have hx : x = 0 ∨ x = 1 := by omega
      rcases hx with e | e
      · exact ⟨3, by rw [e]; rfl, by decide, by decide⟩
      · exact ⟨8, by rw [e]; rfl, by decide, by decide⟩
    refine w_ixl (SqL.of (o4 _ _ h3 n1)) hp ?_
    walk_at "w"
    refine ⟨r, p, rfl, p1, row4, fun H5 y y0 y1 row5 o5 => ?_⟩
    walk_at "w"
    refine ⟨r, 5, rfl, by decide, row5, fun H6 u u0 u1 row6 o6 => ?_⟩
    walk_at "w"
    refine ⟨small_le (by simp), w_new fun l2 H7 hl2 e7 h7 => ?_⟩
    have row7 := row_same e7 row6
    have n2 := row_new row6 hl2
    walk_at "w"
    refine ⟨r, 3, rfl, by decide, row7, fun H8 z z0 z1 row8 o8 => ?_⟩
    obtain ⟨l, hl', l0, l4⟩ : ∃ l : Int, atI [V.int 0, V.int 1, V.int u] z = some (.int l) ∧ 0 ≤ l ∧ l ≤ 4 := by
      have hz : z = 0 ∨ z = 1 ∨ z = 2 := by omega
      rcases hz with e | e | e
      · exact ⟨0, by rw [e]; rfl, by decide, by decide⟩
      · exact ⟨1, by rw [e]; rfl, by decide, by decide⟩
      · exact ⟨u, by rw [e]; rfl, by omega, by omega⟩
    refine w_ixl (SqL.of (o8 _ _ h7 n2)) hl' ?_
    walk_at "w"
    refine ⟨r, 4, rfl, by decide, row8, fun H9 f f0 f1 row9 o9 => ?_⟩
    walk_at "w"
    refine ⟨small_le (by simp), w_new fun a H10 ha e10 h10 => ?_⟩
    have t210 : TKeep H2 H10 := (tk_same e3).trans ((row_tk row3 o4).trans ((row_tk row4 o5).trans ((row_tk row5 o6).trans ((tk_same e7).trans ((row_tk row7 o8).trans ((row_tk row8 o9).trans (tk_same e10)))))))
    have o210 : Out (Is r) H2 H10 := (same_out e3).trans (o4.trans (o5.trans (o6.trans ((same_out e7).trans (o8.trans (o9.trans (same_out e10)))))))
    refine k H10 a ⟨ms, 1 + y, l, 1 + f⟩ ⟨⟨?_, ?_, l0, ?_⟩, ?_, hm, ?_, l4, ?_⟩ ?_ ⟨t, h10, t210 _ _ h2⟩ (row_same e10 row9) (o1.trans (o.trans ((same_out e2).trans o210)))
    · show 1 ≤ ms.length
      omega
    · show (1 : Int) ≤ 1 + y
      omega
    · show (1 : Int) ≤ 1 + f
      omega
    · show ms.length ≤ 32
      omega
    · show 1 + y ≤ 8
      omega
    · show 1 + f ≤ 4
      omega
    · show (ms.length : Int) ≤ m
      omega
def spLawDeeds (K : PySem.W.Frag) : Sp := fun vs H Q _ => ∃ r p m, vs = [.ref r, .int p, .int m] ∧ 1 ≤ p ∧ p ≤ 1000000 ∧ 0 ≤ m ∧ m ≤ 1000 ∧ RowAt K H r ∧
  ∀ (H' : Hp) (q : Addr) (ds : List Deed) (xs : List V), (ds.length : Int) ≤ m → (∀ d, d ∈ ds → (0 ≤ d.1 ∧ d.1 < p) ∧ ∀ n, d.2 = some n → 0 ≤ n ∧ n ≤ 99) → H q = none → H' q = some (.lst xs) → Deeds H' ds xs → RowAt K H' r → Out (Is r) H H' → Q (.ref q) H'
def t_law_deeds (K : PySem.W.Frag) (sp_law_places sp_law_taken : Sp) : TS := tSeq (tAsg (tLst (tNil)) (gName 3))
  (tSeq (tFor (iList K (tCall sp_law_places [] E0 (tCons (tVar 0) (tCons (tVar 1) (tCons (tVar 2) (tNil)))))) (gName 4) (tIfS (tTest (tOp (rEq) (tCall sp_law_taken [] E0 (tCons (tVar 0) (tCons (tC (.int 3)) (tNil)))) (tC (.int 2)))) (tDrop (tBM K "list" rAppend (tVar 3) (tCons (tTup (tCons (tC (.str "write")) (tCons (tVar 4) (tCons (tCall sp_law_taken [] E0 (tCons (tVar 0) (tCons (tC (.int 100)) (tNil)))) (tNil))))) (tNil)))) (tDrop (tBM K "list" rAppend (tVar 3) (tCons (tTup (tCons (tC (.str "read")) (tCons (tVar 4) (tNil)))) (tNil))))))
  (tRet (tVar 3)))
theorem pu_law_deeds {vs : List V} {H : Hp} {Q : VK} {E : XK} (h : spLawDeeds K vs H Q E) : t_law_deeds K (spLawPlaces K) (spTaken K) (B Q) (start ["_law_row", "_law_places_here", "_law_most", "_law_found", "_law_place"] vs) H := by
  obtain ⟨r, p, m, rfl, p1, p6, m0, m3, row, k⟩ := h
  unfold t_law_deeds
  walk_at "w"
  refine ⟨small_le (by simp), w_new fun q H1 hq e1 h1 => ?_⟩
  have row1 := row_same e1 row
  have nq := row_new row hq
  walk_at "w"
  refine ⟨r, p, m, rfl, p1, p6, m0, m3, row1, fun H2 pl ls hls hx fpl hpl row2 o2 => ?_⟩
  have h2 := o2 _ _ h1 nq
  have npl := row_new row1 fpl
  have npq : pl ≠ q := fun z => by rw [z, h1] at fpl; cases fpl
  have o12 : Out (Is r) H H2 := (same_out e1).trans o2
  refine w_forl (fun i σ H' => ∃ ds xs v4, σ = [some (.ref r), some (.int p), some (.int m), some (.ref q), v4] ∧ ds.length = i ∧ (∀ d : Deed, d ∈ ds → (0 ≤ d.1 ∧ d.1 < p) ∧ ∀ n, d.2 = some n → 0 ≤ n ∧ n ≤ 99) ∧ H' q = some (.lst xs) ∧ Deeds H' ds xs ∧ RowAt K H' r ∧ Out (fun b => b = r ∨ b = q) H2 H')
    (SqL.of hpl) ⟨[], [], _, rfl, rfl, (fun d hd => nomatch hd), h2, .nil, row2, fun b o hb _ => hb⟩ (fun i σ H' _ pv => ?_) (fun i x σ H' hi pv => ?_) (fun σ H' pv => ?_)
  · obtain ⟨_, _, _, _, _, _, _, _, _, o⟩ := pv
    exact SqL.of (o _ _ hpl (fun z => by rcases z with z | z; exact npl z; exact npq z))
  · obtain ⟨ds, xs, v4, rfl, hd, hds, hq', dd, row', o⟩ := pv
    have hxi : ∃ y, x = V.int y ∧ 0 ≤ y ∧ y < p ∧ i < ls.length := by
      rw [List.getElem?_map] at hi
      cases e : ls[i]? with
      | none => rw [e] at hi; cases hi
      | some y =>
        rw [e] at hi
        have := hx y (List.mem_of_getElem? e)
        exact ⟨y, (Option.some.inj hi).symm, this.1, this.2, (List.getElem?_eq_some_iff.mp e).1⟩
    obtain ⟨y, rfl, y0, y1, il⟩ := hxi
    have hlen := dd.len
    walk_at "w"
    refine ⟨r, 3, rfl, by decide, row', fun H3 w w0 w1 row3 o3 => ?_⟩
    have hq3 := o3 _ _ hq' nq
    walk_at "w"
    have last : ∀ (H4 : Hp) (d : Deed) (t : Addr), ((0 ≤ d.1 ∧ d.1 < p) ∧ ∀ n, d.2 = some n → 0 ≤ n ∧ n ≤ 99) → RowAt K H4 r → TKeep H' H4 → H4 q = some (.lst xs) → DeedAt H4 d (.ref t) → Out (Is r) H' H4 →
        ∃ ds' xs' v4', [some (V.ref r), some (.int p), some (.int m), some (.ref q), some (.int y)] = [some (V.ref r), some (.int p), some (.int m), some (.ref q), v4'] ∧ ds'.length = i + 1 ∧ (∀ d : Deed, d ∈ ds' → (0 ≤ d.1 ∧ d.1 < p) ∧ ∀ n, d.2 = some n → 0 ≤ n ∧ n ≤ 99) ∧ upd H4 q (.lst (xs ++ [.ref t])) q = some (.lst xs') ∧ Deeds (upd H4 q (.lst (xs ++ [.ref t]))) ds' xs' ∧ RowAt K (upd H4 q (.lst (xs ++ [.ref t]))) r ∧ Out (fun b => b = r ∨ b = q) H2 (upd H4 q (.lst (xs ++ [.ref t]))) := by
      intro H4 d t hd' row4 tk hq4 da o4
      refine ⟨ds ++ [d], xs ++ [.ref t], _, rfl, by rw [List.length_append, hd]; rfl, fun d' hd2 => ?_, upd_same, (dd.keep (tk.trans (tk_put hq4))).more (deed_keep (tk_put hq4) da), row_put row4 hq4 nq, fun b u hb nb => ?_⟩
      · rcases List.mem_append.mp hd2 with z | z
        · exact hds d' z
        · rw [List.mem_singleton.mp z]
          exact hd'
      · rw [upd_ne (fun z => nb (.inr z))]
        exact o4 _ _ (o _ _ hb nb) (fun z => nb (.inl z))
    refine w_if2 (fun c => ?_) (fun c => ?_)
    · walk_at "w"
      refine ⟨.inl ⟨rfl, _, SqL.of hq3⟩, ?_⟩
      walk_at "w"
      refine ⟨r, 100, rfl, by decide, row3, fun H4 n n0 n1 row4 o4 => ?_⟩
      have hq4 := o4 _ _ hq3 nq
      walk_at "w"
      refine ⟨small_le (by simp), w_new fun t H5 ht e5 h5 => ?_⟩
      walk_at "w"
      refine w_app (e5 _ _ hq4) (small_lt (by omega)) ?_
      exact last H5 (y, some n) t ⟨⟨y0, y1⟩, fun n' e => by cases e; omega⟩ (row_same e5 row4) ((row_tk row' o3).trans ((row_tk row3 o4).trans (tk_same e5))) (e5 _ _ hq4) ⟨t, rfl, h5⟩ (o3.trans (o4.trans (same_out e5)))
    · walk_at "w"
      refine ⟨.inl ⟨rfl, _, SqL.of hq3⟩, ?_⟩
      walk_at "w"
      refine ⟨small_le (by simp), w_new fun t H5 ht e5 h5 => ?_⟩
      walk_at "w"
      refine w_app (e5 _ _ hq3) (small_lt (by omega)) ?_
      exact last H5 (y, none) t ⟨⟨y0, y1⟩, fun n' e => by cases e⟩ (row_same e5 row3) ((row_tk row' o3).trans (tk_same e5)) (e5 _ _ hq3) ⟨t, rfl, h5⟩ (o3.trans (same_out e5))
  · obtain ⟨ds, xs, v4, rfl, hd, hds, hq', dd, row', o⟩ := pv
    walk_at "w"
    rw [List.length_map] at hd
    refine k H' q ds xs (by omega) hds hq hq' dd row' (fun b u hb nb => ?_)
    exact o _ _ (o12 _ _ hb nb) (fun z => by
      rcases z with z | z
      · exact nb z
      · rw [z, hq] at hb; cases hb)
end
end SwD
set_option Elab.async false
set_option linter.all false
set_option maxRecDepth 100000
set_option maxHeartbeats 4000000
namespace SwD
open PySem PySem.Spec PyProof.Rows L2 SwX StX Sw
local macro_rules | `(tactic| walk_at "lk") => `(tactic| first | exact lk_at | exact lk_no | ((refine' lk_by (by decide +kernel) ?wq); (case wq => walk_at "lk")))
local macro_rules | `(tactic| walk_at "pf") => `(tactic| first | exact pf_at | exact pf_nil | ((refine' pf_by (by decide +kernel) ?wq); (case wq => walk_at "pf")))
local macro_rules | `(tactic| walk_at "w1") => `(tactic| with_reducible first
  | refine w_seq ?_ | refine w_asg ?_ | refine w_name ?_ | refine w_ret ?_ | refine w_retN ?_ | refine w_drop ?_ | refine w_next ?_ | refine w_if ?_ | refine w_ifE ?_ | refine w_test ?_ | refine w_B ?_ | refine w_bl ?_
  | refine w_not ?_ | refine w_and ?_ | refine w_or ?_ | refine w_andV ?_ | refine w_orV ?_ | refine w_notV ?_ | refine w_isN ?_ | refine w_notN ?_ | refine w_yes ?_
  | refine w_c ?_ | refine w_op ?_ | refine w_un ?_ | refine w_i0 ?_ | refine w_neg ?_ | refine w_nil ?_ | refine w_cons ?_ | refine w_cb ?_ | refine w_call ?_ | refine w_tup ?_ | refine w_lst ?_
  | refine w_fld ?_ | refine w_sfld ?_ | refine w_match ?_ | refine w_case ?_ | refine w_mcons ?_ | refine w_mnil ?_ | refine w_mcap ?_ | refine w_many ?_ | refine w_myes ?_
  | refine w_sub ?_ | refine w_bm ?_ | refine w_sl ?_ | refine w_nopart ?_ | refine w_part ?_ | refine w_int ?_ | refine w_ift ?_ | refine w_iff ?_ | refine w_ifn ?_ | refine w_dget2 ?_ | refine w_star ?_ | refine w_dput ?_ | refine w_dnewK ?_ | refine w_meth ?_ | refine w_oneOf ?_ | refine w_make ?_ | refine w_lc ?_ | refine w_for ?_ | refine w_ilist ?_ | refine w_irng1 ?_ | refine w_irng2 ?_ | refine w_irng3 ?_)
local macro_rules | `(tactic| walk_at "w2") => `(tactic| first
  | ((with_reducible refine' w_var ?wh ?_); (case wh => rfl))
  | ((with_reducible refine' w_eq ?wh ?_); (case wh => rfl))
  | ((with_reducible refine' w_ne ?wh ?_); (case wh => rfl))
  | ((with_reducible refine' w_mno ?wh ?_); (case wh => decide +kernel))
  | ((with_reducible refine' w_mhit ?wh ?wl ?_); (case wh => assumption); (case wl => rfl))
  | ((with_reducible refine' w_mmiss ?wh ?wl ?_); (case wh => assumption); (case wl => simp))
  | ((with_reducible refine' w_fldA ?wh ?wc ?wn ?wl ?_); (case wh => first | assumption | exact upd_same); (case wc => assumption); (case wn => assumption); (case wl => walk_at "lk"))
  | ((with_reducible refine' w_ixl ?wh ?we ?_); (case wh => exact SqL.of (by first | assumption | exact upd_same)); (case we => rfl))
  | ((with_reducible refine' w_ixt ?wh ?we ?_); (case wh => assumption); (case we => rfl))
  | ((with_reducible refine' w_ifT ?wh ?_); (case wh => (with_reducible exact Eq.refl _)))
  | ((with_reducible refine' w_ifF ?wh ?_); (case wh => decide +kernel))
  | ((with_reducible refine' w_isiY ?wh ?wk ?_); (case wh => first | exact .int _ | exact .str _ | exact .lst (by assumption) | exact .tup (by assumption)); (case wk => decide +kernel))
  | ((with_reducible refine' w_isiN ?wh ?wk ?_); (case wh => first | exact .int _ | exact .str _ | exact .lst (by assumption) | exact .tup (by assumption)); (case wk => decide +kernel))
  | ((with_reducible refine' w_ifF ?wh ?_); (case wh => (intro z; cases z; done)))
  | ((with_reducible refine' w_setl ?wh ?we ?wl ?_); (case wh => first | assumption | exact upd_same); (case we => rfl); (case wl => rfl))
  | ((with_reducible refine' w_methA ?wh ?wl ?_); (case wh => first | assumption | exact upd_same); (case wl => walk_at "lk"))
  | ((with_reducible refine' w_sfldB ?wc ?wn ?wz ?wl ?_); (case wc => assumption); (case wn => assumption); (case wz => simp); (case wl => walk_at "pf"))
  | ((with_reducible refine' w_sfldA ?wh ?wc ?wn ?wz ?wl ?_); (case wh => assumption); (case wc => assumption); (case wn => assumption); (case wz => simp); (case wl => walk_at "pf")))
local macro_rules | `(tactic| walk_at "w") => `(tactic| repeat (first | walk_at "w1" | walk_at "w2" | (dsimp only [List.set, setAll, List.append, List.cons_append, List.nil_append])))
/-! ### the law's machine in the heap -/
structure Ads where
  p : Addr
  cells : Addr
  used : Addr
  waits : Addr
  way : Addr
  lies : Addr
  story : Addr
  answers : Addr
def sd (A : Ads) (ck : Int) : List (Key × V) := [(.inr "cells", .ref A.cells), (.inr "used", .ref A.used), (.inr "waits", .ref A.waits), (.inr "way", .ref A.way), (.inr "lies", .ref A.lies), (.inr "story", .ref A.story), (.inr "answers", .ref A.answers), (.inr "clock", .int ck)]
structure Apart (A : Ads) : Prop where
  pu : A.p ≠ A.used
  pl : A.p ≠ A.lies
  ul : A.used ≠ A.lies
  cw : A.cells ≠ A.waits
  cy : A.cells ≠ A.way
  cs : A.cells ≠ A.story
  ca : A.cells ≠ A.answers
  wy : A.waits ≠ A.way
  ws : A.waits ≠ A.story
  wa : A.waits ≠ A.answers
  ys : A.way ≠ A.story
  ya : A.way ≠ A.answers
  sa : A.story ≠ A.answers
def InA (A : Ads) (b : Addr) : Prop := b = A.p ∨ b = A.cells ∨ b = A.used ∨ b = A.waits ∨ b = A.way ∨ b = A.lies ∨ b = A.story ∨ b = A.answers
def wdStr : Wd → Str
  | .come => "come"
  | .hit => "hit"
  | .first => "first"
  | .late => "late"
  | .miss => "miss"
  | .start => "start"
  | .leave => "leave"
  | .waste => "waste"
def EvAt (H : Hp) (e : Ev) (v : V) : Prop := ∃ a, v = .ref a ∧ H a = some (.tup [.int e.1, .str (wdStr e.2.1), .int e.2.2])
def WayAt (H : Hp) (x : Int × Int) (v : V) : Prop := ∃ a, v = .ref a ∧ H a = some (.tup [.int x.1, .int x.2])
theorem ev_keep {H H' : Hp} (k : TKeep H H') (e : Ev) (v : V) (h : EvAt H e v) : EvAt H' e v := by
  obtain ⟨a, h1, h2⟩ := h
  exact ⟨a, h1, k _ _ h2⟩
theorem way_keep {H H' : Hp} (k : TKeep H H') (x : Int × Int) (v : V) (h : WayAt H x v) : WayAt H' x v := by
  obtain ⟨a, h1, h2⟩ := h
  exact ⟨a, h1, k _ _ h2⟩
def ent (e : En) : Key × V := (.inl e.pl, .int e.num)
structure LS (H : Hp) (A : Ads) (ck : Int) (U L : List (Key × V)) (W : List Int) (wv sv : List V) (tm : Int → Int) (m : Mc) (B : Nat) : Prop where
  hp : H A.p = some (.dK (sd A ck))
  hcells : H A.cells = some (.lst (m.cells.map V.int))
  hused : H A.used = some (.dK U)
  hlies : H A.lies = some (.dK L)
  hwaits : H A.waits = some (.lst (W.map V.int))
  hway : H A.way = some (.lst wv)
  hstory : H A.story = some (.lst sv)
  hanswers : H A.answers = some (.lst (m.answers.map V.int))
  ap : Apart A
  times : ∀ e, e ∈ m.shelf → valV U (Sum.inl e.pl : Key) = some (.int (tm e.pl)) ∧ tm e.pl ≤ ck
  asc : m.shelf.Pairwise fun e f => tm e.pl < tm f.pl
  perm : L.Perm (m.shelf.map ent)
  waits : ∀ q, q ∈ W ↔ ∃ e, e ∈ m.shelf ∧ e.pl = q ∧ e.waits = true
  wnd : W.Nodup
  ways : All2 (WayAt H) m.way wv
  evs : All2 (EvAt H) m.story sv
  ck0 : 0 ≤ ck
  ulen : U.length ≤ ck.toNat
  cks : ck ≤ B
section
variable {K : PySem.W.Frag} {H : Hp} {A : Ads} {ck : Int} {U L : List (Key × V)} {W : List Int} {wv sv : List V} {tm : Int → Int} {m : Mc} {B : Nat}
theorem LS.uniq (h : LS H A ck U L W wv sv tm m B) : (m.shelf.map (·.pl)).Nodup := by
  show List.Pairwise _ _
  rw [List.pairwise_map]
  exact h.asc.imp fun {e f} lt z => by
    rw [z] at lt
    omega
theorem LS.same {H' : Hp} (e : Same H H') (h : LS H A ck U L W wv sv tm m B) : LS H' A ck U L W wv sv tm m B :=
  ⟨e _ _ h.hp, e _ _ h.hcells, e _ _ h.hused, e _ _ h.hlies, e _ _ h.hwaits, e _ _ h.hway, e _ _ h.hstory, e _ _ h.hanswers, h.ap, h.times, h.asc, h.perm, h.waits, h.wnd, h.ways.imp (way_keep (tk_same e)), h.evs.imp (ev_keep (tk_same e)), h.ck0, h.ulen, h.cks⟩
theorem LS.more {B' : Nat} (b : B ≤ B') (h : LS H A ck U L W wv sv tm m B) : LS H A ck U L W wv sv tm m B' :=
  ⟨h.hp, h.hcells, h.hused, h.hlies, h.hwaits, h.hway, h.hstory, h.hanswers, h.ap, h.times, h.asc, h.perm, h.waits, h.wnd, h.ways, h.evs, h.ck0, h.ulen, by have := h.cks; omega⟩
theorem tk_dk {q : Addr} {kvs : List (Key × V)} {u : HO} (h : H q = some (.dK kvs)) : TKeep H (upd H q u) := fun a xs z => by
  rw [upd_ne (ne_of z h (fun w => nomatch w))]
  exact z
theorem ld_ne {a b : Addr} {xs : List V} {kvs : List (Key × V)} (h : H a = some (.lst xs)) (h' : H b = some (.dK kvs)) : a ≠ b := ne_of h h' (fun w => nomatch w)
theorem dl_ne {a b : Addr} {xs : List V} {kvs : List (Key × V)} (h : H a = some (.dK kvs)) (h' : H b = some (.lst xs)) : a ≠ b := ne_of h h' (fun w => nomatch w)
/-- one more in the story -/
theorem LS.tell {ev : Ev} {v : V} (h : LS H A ck U L W wv sv tm m B) (he : EvAt H ev v) : LS (upd H A.story (.lst (sv ++ [v]))) A ck U L W wv (sv ++ [v]) tm { m with story := m.story ++ [ev] } B := by
  have tk : TKeep H (upd H A.story (.lst (sv ++ [v]))) := tk_put h.hstory
  refine ⟨?_, ?_, ?_, ?_, ?_, ?_, upd_same, ?_, h.ap, h.times, h.asc, h.perm, h.waits, h.wnd, h.ways.imp (way_keep tk), (h.evs.imp (ev_keep tk)).more (ev_keep tk _ _ he), h.ck0, h.ulen, h.cks⟩
  · rw [upd_ne (dl_ne h.hp h.hstory)]; exact h.hp
  · rw [upd_ne h.ap.cs]; exact h.hcells
  · rw [upd_ne (dl_ne h.hused h.hstory)]; exact h.hused
  · rw [upd_ne (dl_ne h.hlies h.hstory)]; exact h.hlies
  · rw [upd_ne h.ap.ws]; exact h.hwaits
  · rw [upd_ne h.ap.ys]; exact h.hway
  · rw [upd_ne h.ap.sa.symm]; exact h.hanswers
/-- the clock goes on, and a place is used now -/
theorem LS.tick (h : LS H A ck U L W wv sv tm m B) : LS (upd H A.p (.dK (sd A (ck + 1)))) A (ck + 1) U L W wv sv tm m (B + 1) := by
  have tk : TKeep H (upd H A.p (.dK (sd A (ck + 1)))) := tk_dk h.hp
  refine ⟨upd_same, ?_, ?_, ?_, ?_, ?_, ?_, ?_, h.ap, fun e he => ⟨(h.times e he).1, by have := (h.times e he).2; omega⟩, h.asc, h.perm, h.waits, h.wnd, h.ways.imp (way_keep tk), h.evs.imp (ev_keep tk), by have := h.ck0; omega, by have := h.ulen; have := h.ck0; omega, by have := h.cks; omega⟩
  · rw [upd_ne (ld_ne h.hcells h.hp)]; exact h.hcells
  · rw [upd_ne h.ap.pu.symm]; exact h.hused
  · rw [upd_ne h.ap.pl.symm]; exact h.hlies
  · rw [upd_ne (ld_ne h.hwaits h.hp)]; exact h.hwaits
  · rw [upd_ne (ld_ne h.hway h.hp)]; exact h.hway
  · rw [upd_ne (ld_ne h.hstory h.hp)]; exact h.hstory
  · rw [upd_ne (ld_ne h.hanswers h.hp)]; exact h.hanswers
def used (tm : Int → Int) (q ck : Int) : Int → Int := fun x => if x = q then ck else tm x
theorem used_ne {tm : Int → Int} {q ck x : Int} (h : x ≠ q) : used tm q ck x = tm x := if_neg h
theorem used_eq {tm : Int → Int} {q ck : Int} : used tm q ck q = ck := if_pos rfl
/-- a place that isn't on the shelf is used -/
theorem LS.useNew {q : Int} (h : LS H A ck U L W wv sv tm m B) (hz : U.length < ck.toNat) (hq : ∀ e, e ∈ m.shelf → e.pl ≠ q) :
    LS (upd H A.used (.dK (putK U (.inl q) (.int ck)))) A ck (putK U (.inl q) (.int ck)) L W wv sv (used tm q ck) m B := by
  have tk : TKeep H (upd H A.used (.dK (putK U (.inl q) (.int ck)))) := tk_dk h.hused
  refine ⟨?_, ?_, upd_same, ?_, ?_, ?_, ?_, ?_, h.ap, fun e he => ?_, ?_, h.perm, h.waits, h.wnd, h.ways.imp (way_keep tk), h.evs.imp (ev_keep tk), h.ck0, by have := length_putK U (Sum.inl q : Key) (.int ck); omega, h.cks⟩
  · rw [upd_ne h.ap.pu]; exact h.hp
  · rw [upd_ne (ld_ne h.hcells h.hused)]; exact h.hcells
  · rw [upd_ne h.ap.ul.symm]; exact h.hlies
  · rw [upd_ne (ld_ne h.hwaits h.hused)]; exact h.hwaits
  · rw [upd_ne (ld_ne h.hway h.hused)]; exact h.hway
  · rw [upd_ne (ld_ne h.hstory h.hused)]; exact h.hstory
  · rw [upd_ne (ld_ne h.hanswers h.hused)]; exact h.hanswers
  · rw [valV_put, if_neg (fun z => hq e he (Sum.inl.inj z)), used_ne (hq e he)]
    exact h.times e he
  · refine h.asc.imp_of_mem fun {e f} he hf lt => ?_
    rw [used_ne (hq e he), used_ne (hq f hf)]
    exact lt
theorem perm_last {e : En} : ∀ {l : List En}, (l.map (·.pl)).Nodup → e ∈ l → l.Perm (l.filter (fun f => decide (f.pl ≠ e.pl)) ++ [e])
  | [], _, h => nomatch h
  | x :: l, nd, h => by
    obtain ⟨n1, n2⟩ := List.nodup_cons.mp (by simpa using nd : (x.pl :: l.map (·.pl)).Nodup)
    rcases List.mem_cons.mp h with rfl | h
    · have e1 : (e :: l).filter (fun f => decide (f.pl ≠ e.pl)) = l := by
        rw [List.filter_cons]
        simp only [ne_eq, not_true_eq_false, decide_false, Bool.false_eq_true, if_false]
        rw [List.filter_eq_self]
        intro f hf
        exact decide_eq_true (fun z => n1 (by rw [← z]; exact List.mem_map_of_mem hf))
      rw [e1]
      exact (List.perm_append_comm (l₁ := [e]) (l₂ := l))
    · have ne : x.pl ≠ e.pl := fun z => n1 (by rw [z]; exact List.mem_map_of_mem h)
      rw [List.filter_cons, if_pos (decide_eq_true ne)]
      exact (perm_last n2 h).cons x
/-- a place on the shelf is used: it lies newest -/
theorem LS.touch {e0 : En} (h : LS H A ck U L W wv sv tm m B) (hz : U.length < ck.toNat) (hlt : ∀ e, e ∈ m.shelf → tm e.pl < ck) (he0 : e0 ∈ m.shelf) :
    LS (upd H A.used (.dK (putK U (.inl e0.pl) (.int ck)))) A ck (putK U (.inl e0.pl) (.int ck)) L W wv sv (used tm e0.pl ck) { m with shelf := m.shelf.filter (fun e => decide (e.pl ≠ e0.pl)) ++ [e0] } B := by
  have tk : TKeep H (upd H A.used (.dK (putK U (.inl e0.pl) (.int ck)))) := tk_dk h.hused
  have pm := perm_last h.uniq he0
  have nef : ∀ e, e ∈ m.shelf.filter (fun e => decide (e.pl ≠ e0.pl)) → e.pl ≠ e0.pl := fun e he => by simpa using (List.mem_filter.mp he).2
  refine ⟨?_, ?_, upd_same, ?_, ?_, ?_, ?_, ?_, h.ap, fun e he => ?_, ?_, h.perm.trans (pm.map ent), fun q => ?_, h.wnd, h.ways.imp (way_keep tk), h.evs.imp (ev_keep tk), h.ck0, by have := length_putK U (Sum.inl e0.pl : Key) (.int ck); omega, h.cks⟩
  · rw [upd_ne h.ap.pu]; exact h.hp
  · rw [upd_ne (ld_ne h.hcells h.hused)]; exact h.hcells
  · rw [upd_ne h.ap.ul.symm]; exact h.hlies
  · rw [upd_ne (ld_ne h.hwaits h.hused)]; exact h.hwaits
  · rw [upd_ne (ld_ne h.hway h.hused)]; exact h.hway
  · rw [upd_ne (ld_ne h.hstory h.hused)]; exact h.hstory
  · rw [upd_ne (ld_ne h.hanswers h.hused)]; exact h.hanswers
  · rw [valV_put]
    rcases List.mem_append.mp he with he | he
    · rw [if_neg (fun z => nef e he (Sum.inl.inj z)), used_ne (nef e he)]
      exact h.times e (List.mem_filter.mp he).1
    · rw [List.mem_singleton.mp he, if_pos rfl, used_eq]
      exact ⟨rfl, Int.le_refl _⟩
  · refine List.pairwise_append.mpr ⟨(h.asc.sublist List.filter_sublist).imp_of_mem fun {e f} he hf lt => ?_, List.pairwise_singleton _ _, fun e he f hf => ?_⟩
    · rw [used_ne (nef e he), used_ne (nef f hf)]
      exact lt
    · rw [List.mem_singleton.mp hf, used_eq, used_ne (nef e he)]
      exact hlt e (List.mem_filter.mp he).1
  · rw [h.waits q]
    exact ⟨fun ⟨e, h1, h2⟩ => ⟨e, pm.mem_iff.mp h1, h2⟩, fun ⟨e, h1, h2⟩ => ⟨e, pm.mem_iff.mpr h1, h2⟩⟩
end
end SwD
set_option Elab.async false
set_option linter.all false
set_option maxRecDepth 100000
set_option maxHeartbeats 4000000
namespace SwD
open PySem PySem.Spec PyProof.Rows L2 SwX StX Sw
local macro_rules | `(tactic| walk_at "lk") => `(tactic| first | exact lk_at | exact lk_no | ((refine' lk_by (by decide +kernel) ?wq); (case wq => walk_at "lk")))
local macro_rules | `(tactic| walk_at "pf") => `(tactic| first | exact pf_at | exact pf_nil | ((refine' pf_by (by decide +kernel) ?wq); (case wq => walk_at "pf")))
local macro_rules | `(tactic| walk_at "w1") => `(tactic| with_reducible first
  | refine w_seq ?_ | refine w_asg ?_ | refine w_name ?_ | refine w_ret ?_ | refine w_retN ?_ | refine w_drop ?_ | refine w_next ?_ | refine w_if ?_ | refine w_ifE ?_ | refine w_test ?_ | refine w_B ?_ | refine w_bl ?_
  | refine w_not ?_ | refine w_and ?_ | refine w_or ?_ | refine w_andV ?_ | refine w_orV ?_ | refine w_notV ?_ | refine w_isN ?_ | refine w_notN ?_ | refine w_yes ?_
  | refine w_c ?_ | refine w_op ?_ | refine w_un ?_ | refine w_i0 ?_ | refine w_neg ?_ | refine w_nil ?_ | refine w_cons ?_ | refine w_cb ?_ | refine w_call ?_ | refine w_tup ?_ | refine w_lst ?_
  | refine w_fld ?_ | refine w_sfld ?_ | refine w_match ?_ | refine w_case ?_ | refine w_mcons ?_ | refine w_mnil ?_ | refine w_mcap ?_ | refine w_many ?_ | refine w_myes ?_
  | refine w_sub ?_ | refine w_bm ?_ | refine w_sl ?_ | refine w_nopart ?_ | refine w_part ?_ | refine w_int ?_ | refine w_ift ?_ | refine w_iff ?_ | refine w_ifn ?_ | refine w_dget2 ?_ | refine w_star ?_ | refine w_dput ?_ | refine w_dnewK ?_ | refine w_meth ?_ | refine w_oneOf ?_ | refine w_make ?_ | refine w_lc ?_ | refine w_for ?_ | refine w_ilist ?_ | refine w_irng1 ?_ | refine w_irng2 ?_ | refine w_irng3 ?_)
local macro_rules | `(tactic| walk_at "w2") => `(tactic| first
  | ((with_reducible refine' w_var ?wh ?_); (case wh => rfl))
  | ((with_reducible refine' w_eq ?wh ?_); (case wh => rfl))
  | ((with_reducible refine' w_ne ?wh ?_); (case wh => rfl))
  | ((with_reducible refine' w_mno ?wh ?_); (case wh => decide +kernel))
  | ((with_reducible refine' w_mhit ?wh ?wl ?_); (case wh => assumption); (case wl => rfl))
  | ((with_reducible refine' w_mmiss ?wh ?wl ?_); (case wh => assumption); (case wl => simp))
  | ((with_reducible refine' w_fldA ?wh ?wc ?wn ?wl ?_); (case wh => first | assumption | exact upd_same); (case wc => assumption); (case wn => assumption); (case wl => walk_at "lk"))
  | ((with_reducible refine' w_ixl ?wh ?we ?_); (case wh => exact SqL.of (by first | assumption | exact upd_same)); (case we => rfl))
  | ((with_reducible refine' w_ixt ?wh ?we ?_); (case wh => assumption); (case we => rfl))
  | ((with_reducible refine' w_ifT ?wh ?_); (case wh => (with_reducible exact Eq.refl _)))
  | ((with_reducible refine' w_ifF ?wh ?_); (case wh => decide +kernel))
  | ((with_reducible refine' w_isiY ?wh ?wk ?_); (case wh => first | exact .int _ | exact .str _ | exact .lst (by assumption) | exact .tup (by assumption)); (case wk => decide +kernel))
  | ((with_reducible refine' w_isiN ?wh ?wk ?_); (case wh => first | exact .int _ | exact .str _ | exact .lst (by assumption) | exact .tup (by assumption)); (case wk => decide +kernel))
  | ((with_reducible refine' w_ifF ?wh ?_); (case wh => (intro z; cases z; done)))
  | ((with_reducible refine' w_setl ?wh ?we ?wl ?_); (case wh => first | assumption | exact upd_same); (case we => rfl); (case wl => rfl))
  | ((with_reducible refine' w_methA ?wh ?wl ?_); (case wh => first | assumption | exact upd_same); (case wl => walk_at "lk"))
  | ((with_reducible refine' w_sfldB ?wc ?wn ?wz ?wl ?_); (case wc => assumption); (case wn => assumption); (case wz => simp); (case wl => walk_at "pf"))
  | ((with_reducible refine' w_sfldA ?wh ?wc ?wn ?wz ?wl ?_); (case wh => assumption); (case wc => assumption); (case wn => assumption); (case wz => simp); (case wl => walk_at "pf")))
local macro_rules | `(tactic| walk_at "w") => `(tactic| repeat (first | walk_at "w1" | walk_at "w2" | (dsimp only [List.set, setAll, List.append, List.cons_append, List.nil_append])))
theorem sd_cells {A : Ads} {ck : Int} : valV (sd A ck) (Sum.inr "cells" : Key) = some (.ref A.cells) := by rfl
theorem sd_used {A : Ads} {ck : Int} : valV (sd A ck) (Sum.inr "used" : Key) = some (.ref A.used) := by rfl
theorem sd_waits {A : Ads} {ck : Int} : valV (sd A ck) (Sum.inr "waits" : Key) = some (.ref A.waits) := by rfl
theorem sd_way {A : Ads} {ck : Int} : valV (sd A ck) (Sum.inr "way" : Key) = some (.ref A.way) := by rfl
theorem sd_lies {A : Ads} {ck : Int} : valV (sd A ck) (Sum.inr "lies" : Key) = some (.ref A.lies) := by rfl
theorem sd_story {A : Ads} {ck : Int} : valV (sd A ck) (Sum.inr "story" : Key) = some (.ref A.story) := by rfl
theorem sd_answers {A : Ads} {ck : Int} : valV (sd A ck) (Sum.inr "answers" : Key) = some (.ref A.answers) := by rfl
theorem sd_clock {A : Ads} {ck : Int} : valV (sd A ck) (Sum.inr "clock" : Key) = some (.int ck) := by rfl
theorem put_clock {A : Ads} {ck n : Int} : putK (sd A ck) (Sum.inr "clock" : Key) (.int n) = sd A n := by rfl
theorem put_waits {A : Ads} {ck : Int} {w : Addr} : putK (sd A ck) (Sum.inr "waits" : Key) (.ref w) = sd { A with waits := w } ck := by rfl
theorem put_way {A : Ads} {ck : Int} {w : Addr} : putK (sd A ck) (Sum.inr "way" : Key) (.ref w) = sd { A with way := w } ck := by rfl
section
variable {K : PySem.W.Frag} {H : Hp} {A : Ads} {ck : Int} {U L : List (Key × V)} {W : List Int} {wv sv : List V} {tm : Int → Int} {m : Mc} {B : Nat}
theorem LS.nl (h : LS H A ck U L W wv sv tm m B) {q : Int} (hq : ∀ e, e ∈ m.shelf → e.pl ≠ q) : valV L (Sum.inl q : Key) = none := by
  cases e : valV L (Sum.inl q : Key) with
  | none => rfl
  | some v =>
    have hm := valV_in e
    obtain ⟨kv, hk, hk2⟩ := List.mem_map.mp hm
    obtain ⟨e0, h1, h2⟩ := List.mem_map.mp (h.perm.mem_iff.mp hk)
    have : (Sum.inl e0.pl : Key) = Sum.inl q := by rw [← hk2, ← h2]; rfl
    exact absurd (Sum.inl.inj this) (hq e0 h1)
/-- a place is laid on the shelf, newest -/
theorem LS.shelve {q v : Int} (h : LS H A ck U L W wv sv tm m B) (hq : ∀ e, e ∈ m.shelf → e.pl ≠ q) (hu : valV U (Sum.inl q : Key) = some (.int (tm q))) (hc : tm q ≤ ck) (hlt : ∀ e, e ∈ m.shelf → tm e.pl < tm q) :
    LS (upd H A.lies (.dK (putK L (.inl q) (.int v)))) A ck U (putK L (.inl q) (.int v)) W wv sv tm { m with shelf := m.shelf ++ [⟨q, v, false⟩] } B := by
  have tk : TKeep H (upd H A.lies (.dK (putK L (.inl q) (.int v)))) := tk_dk h.hlies
  refine ⟨?_, ?_, ?_, upd_same, ?_, ?_, ?_, ?_, h.ap, fun e he => ?_, ?_, ?_, fun x => ?_, h.wnd, h.ways.imp (way_keep tk), h.evs.imp (ev_keep tk), h.ck0, h.ulen, h.cks⟩
  · rw [upd_ne h.ap.pl]; exact h.hp
  · rw [upd_ne (ld_ne h.hcells h.hlies)]; exact h.hcells
  · rw [upd_ne h.ap.ul]; exact h.hused
  · rw [upd_ne (ld_ne h.hwaits h.hlies)]; exact h.hwaits
  · rw [upd_ne (ld_ne h.hway h.hlies)]; exact h.hway
  · rw [upd_ne (ld_ne h.hstory h.hlies)]; exact h.hstory
  · rw [upd_ne (ld_ne h.hanswers h.hlies)]; exact h.hanswers
  · rcases List.mem_append.mp he with he | he
    · exact h.times e he
    · rw [List.mem_singleton.mp he]
      exact ⟨hu, hc⟩
  · refine List.pairwise_append.mpr ⟨h.asc, List.pairwise_singleton _ _, fun e he f hf => ?_⟩
    rw [List.mem_singleton.mp hf]
    exact hlt e he
  · show (putK L (.inl q) (.int v)).Perm ((m.shelf ++ [_]).map ent)
    rw [putK_new _ (h.nl hq), List.map_append]
    exact h.perm.append (.refl _)
  · rw [h.waits x]
    constructor
    · rintro ⟨e, h1, h2⟩
      exact ⟨e, List.mem_append_left _ h1, h2⟩
    · rintro ⟨e, h1, h2, h3⟩
      rcases List.mem_append.mp h1 with h1 | h1
      · exact ⟨e, h1, h2, h3⟩
      · rw [List.mem_singleton.mp h1] at h3
        cases h3
def clear (q : Int) (e : En) : En := if e.pl = q then { e with waits := false } else e
theorem clear_pl {q : Int} {e : En} : (clear q e).pl = e.pl := by
  unfold clear
  split <;> rfl
theorem clear_num {q : Int} {e : En} : (clear q e).num = e.num := by
  unfold clear
  split <;> rfl
/-- one that waits doesn't any more -/
theorem LS.unwait {q : Int} {w : Addr} (h : LS H A ck U L W wv sv tm m B) (hw : H w = some (.lst ((W.filter fun x => decide (x ≠ q)).map V.int))) (fr : ∀ b, InA A b → b ≠ w) :
    LS (upd H A.p (.dK (sd { A with waits := w } ck))) { A with waits := w } ck U L (W.filter fun x => decide (x ≠ q)) wv sv tm { m with shelf := m.shelf.map (clear q) } B := by
  have tk : TKeep H (upd H A.p (.dK (sd { A with waits := w } ck))) := tk_dk h.hp
  refine ⟨upd_same, ?_, ?_, ?_, ?_, ?_, ?_, ?_, ⟨h.ap.pu, h.ap.pl, h.ap.ul, fr _ (.inr (.inl rfl)), h.ap.cy, h.ap.cs, h.ap.ca, (fr _ (.inr (.inr (.inr (.inr (.inl rfl)))))).symm, (fr _ (.inr (.inr (.inr (.inr (.inr (.inr (.inl rfl)))))))).symm, (fr _ (.inr (.inr (.inr (.inr (.inr (.inr (.inr rfl)))))))).symm, h.ap.ys, h.ap.ya, h.ap.sa⟩, fun e he => ?_, ?_, ?_, fun x => ?_, h.wnd.sublist List.filter_sublist, h.ways.imp (way_keep tk), h.evs.imp (ev_keep tk), h.ck0, h.ulen, h.cks⟩
  · show upd H A.p _ A.cells = _
    rw [upd_ne (ld_ne h.hcells h.hp)]; exact h.hcells
  · show upd H A.p _ A.used = _
    rw [upd_ne h.ap.pu.symm]; exact h.hused
  · show upd H A.p _ A.lies = _
    rw [upd_ne h.ap.pl.symm]; exact h.hlies
  · show upd H A.p _ w = _
    rw [upd_ne (ld_ne hw h.hp)]; exact hw
  · show upd H A.p _ A.way = _
    rw [upd_ne (ld_ne h.hway h.hp)]; exact h.hway
  · show upd H A.p _ A.story = _
    rw [upd_ne (ld_ne h.hstory h.hp)]; exact h.hstory
  · show upd H A.p _ A.answers = _
    rw [upd_ne (ld_ne h.hanswers h.hp)]; exact h.hanswers
  · obtain ⟨e', h1, rfl⟩ := List.mem_map.mp he
    rw [clear_pl]
    exact h.times e' h1
  · show List.Pairwise _ (m.shelf.map (clear q))
    rw [List.pairwise_map]
    exact h.asc.imp fun {e f} lt => by rw [clear_pl, clear_pl]; exact lt
  · have e1 : (m.shelf.map (clear q)).map ent = m.shelf.map ent := by
      rw [List.map_map]
      apply List.map_congr_left
      intro e _
      show (Sum.inl (clear q e).pl, V.int (clear q e).num) = _
      rw [clear_pl, clear_num]
      rfl
    show L.Perm ((m.shelf.map (clear q)).map ent)
    rw [e1]
    exact h.perm
  · rw [List.mem_filter, h.waits x]
    constructor
    · rintro ⟨⟨e, h1, h2, h3⟩, ne⟩
      have ne : x ≠ q := by simpa using ne
      refine ⟨clear q e, List.mem_map_of_mem h1, by rw [clear_pl]; exact h2, ?_⟩
      unfold clear
      rw [if_neg (by rw [h2]; exact ne)]
      exact h3
    · rintro ⟨e, h1, h2, h3⟩
      obtain ⟨e', h4, rfl⟩ := List.mem_map.mp h1
      unfold clear at h2 h3
      by_cases c : e'.pl = q
      · rw [if_pos c] at h3
        cases h3
      · rw [if_neg c] at h2 h3
        exact ⟨⟨e', h4, h2, h3⟩, by rw [← h2]; simpa using c⟩
/-- the oldest leaves, if it waits for nothing -/
theorem LS.pop {e0 : En} {rest : List En} (h : LS H A ck U L W wv sv tm m B) (hs : m.shelf = e0 :: rest) (hf : e0.waits = false) :
    LS (upd H A.lies (.dK (dropK L (.inl e0.pl)))) A ck U (dropK L (.inl e0.pl)) W wv sv tm { m with shelf := rest } B := by
  have tk : TKeep H (upd H A.lies (.dK (dropK L (.inl e0.pl)))) := tk_dk h.hlies
  have un := h.uniq
  rw [hs] at un
  obtain ⟨n1, n2⟩ := List.nodup_cons.mp (by simpa using un : (e0.pl :: rest.map (·.pl)).Nodup)
  have as := h.asc
  rw [hs] at as
  refine ⟨?_, ?_, ?_, upd_same, ?_, ?_, ?_, ?_, h.ap, fun e he => h.times e (by rw [hs]; exact List.mem_cons_of_mem _ he), (List.pairwise_cons.mp as).2, ?_, fun x => ?_, h.wnd, h.ways.imp (way_keep tk), h.evs.imp (ev_keep tk), h.ck0, h.ulen, h.cks⟩
  · rw [upd_ne h.ap.pl]; exact h.hp
  · rw [upd_ne (ld_ne h.hcells h.hlies)]; exact h.hcells
  · rw [upd_ne h.ap.ul]; exact h.hused
  · rw [upd_ne (ld_ne h.hwaits h.hlies)]; exact h.hwaits
  · rw [upd_ne (ld_ne h.hway h.hlies)]; exact h.hway
  · rw [upd_ne (ld_ne h.hstory h.hlies)]; exact h.hstory
  · rw [upd_ne (ld_ne h.hanswers h.hlies)]; exact h.hanswers
  · have pm := h.perm
    rw [hs] at pm
    have e1 : (((e0 :: rest).map ent).filter fun kv => decide (kv.1 ≠ (Sum.inl e0.pl : Key))) = rest.map ent := by
      show ((ent e0 :: rest.map ent).filter _) = _
      rw [List.filter_cons, if_neg (by show ¬ decide (Sum.inl e0.pl ≠ (Sum.inl e0.pl : Key)) = true; simp), List.filter_eq_self]
      intro kv hk
      obtain ⟨e, h1, rfl⟩ := List.mem_map.mp hk
      exact decide_eq_true (fun z => n1 (by rw [← Sum.inl.inj z]; exact List.mem_map_of_mem h1))
    show (dropK L (.inl e0.pl)).Perm (rest.map ent)
    rw [← e1]
    exact pm.filter _
  · rw [h.waits x, hs]
    constructor
    · rintro ⟨e, h1, h2, h3⟩
      rcases List.mem_cons.mp h1 with rfl | h1
      · rw [hf] at h3; cases h3
      · exact ⟨e, h1, h2, h3⟩
    · rintro ⟨e, h1, h2⟩
      exact ⟨e, List.mem_cons_of_mem _ h1, h2⟩
/-- what lies newest waits for its first ask -/
theorem LS.wait {q v : Int} {rest : List En} (h : LS H A ck U L W wv sv tm m B) (hs : m.shelf = rest ++ [⟨q, v, false⟩]) :
    LS (upd H A.waits (.lst ((W ++ [q]).map V.int))) A ck U L (W ++ [q]) wv sv tm { m with shelf := rest ++ [⟨q, v, true⟩] } B := by
  have tk : TKeep H (upd H A.waits (.lst ((W ++ [q]).map V.int))) := tk_put h.hwaits
  have un := h.uniq
  rw [hs, List.map_append] at un
  have hnot : ∀ e, e ∈ rest → e.pl ≠ q := fun e he z => (List.nodup_append.mp un).2.2 e.pl (List.mem_map_of_mem he) q (by simp) z
  have as := h.asc
  rw [hs] at as
  refine ⟨?_, ?_, ?_, ?_, upd_same, ?_, ?_, ?_, h.ap, fun e he => ?_, ?_, ?_, fun x => ?_, ?_, h.ways.imp (way_keep tk), h.evs.imp (ev_keep tk), h.ck0, h.ulen, h.cks⟩
  · rw [upd_ne (dl_ne h.hp h.hwaits)]; exact h.hp
  · rw [upd_ne h.ap.cw]; exact h.hcells
  · rw [upd_ne (dl_ne h.hused h.hwaits)]; exact h.hused
  · rw [upd_ne (dl_ne h.hlies h.hwaits)]; exact h.hlies
  · rw [upd_ne h.ap.wy.symm]; exact h.hway
  · rw [upd_ne h.ap.ws.symm]; exact h.hstory
  · rw [upd_ne h.ap.wa.symm]; exact h.hanswers
  · rcases List.mem_append.mp he with he | he
    · exact h.times e (by rw [hs]; exact List.mem_append_left _ he)
    · rw [List.mem_singleton.mp he]
      exact h.times ⟨q, v, false⟩ (by rw [hs]; simp)
  · obtain ⟨a1, _, a3⟩ := List.pairwise_append.mp as
    refine List.pairwise_append.mpr ⟨a1, List.pairwise_singleton _ _, fun e he f hf => ?_⟩
    rw [List.mem_singleton.mp hf]
    exact a3 e he ⟨q, v, false⟩ (by simp)
  · have pm := h.perm
    rw [hs, List.map_append] at pm
    show L.Perm ((rest ++ [_]).map ent)
    rw [List.map_append]
    exact pm
  · rw [List.mem_append, h.waits x, hs]
    constructor
    · rintro (⟨e, h1, h2, h3⟩ | h1)
      · rcases List.mem_append.mp h1 with h1 | h1
        · exact ⟨e, List.mem_append_left _ h1, h2, h3⟩
        · rw [List.mem_singleton.mp h1] at h3; cases h3
      · exact ⟨⟨q, v, true⟩, by simp, (List.mem_singleton.mp h1).symm, rfl⟩
    · rintro ⟨e, h1, h2, h3⟩
      rcases List.mem_append.mp h1 with h1 | h1
      · exact .inl ⟨e, List.mem_append_left _ h1, h2, h3⟩
      · rw [List.mem_singleton.mp h1] at h2
        exact .inr (by rw [← h2]; simp)
  · refine List.nodup_append.mpr ⟨h.wnd, by simp, fun a ha b hb => ?_⟩
    rw [List.mem_singleton.mp hb]
    rintro rfl
    obtain ⟨e, h1, h2, h3⟩ := (h.waits a).mp ha
    rw [hs] at h1
    rcases List.mem_append.mp h1 with h1 | h1
    · exact hnot e h1 h2
    · rw [List.mem_singleton.mp h1] at h3; cases h3
end
end SwD
set_option Elab.async false
set_option linter.all false
set_option maxRecDepth 100000
set_option maxHeartbeats 2000000
namespace SwX
open PySem PySem.Spec PyProof.Rows L2 StX
section
variable {K : PySem.W.Frag} {σ : L2.St} {H : Hp} {Q : VK} {te ta tb td ty : TE} {tt : TT} {g : TG} {vs : List Nat} {j : Nat}
theorem w_dget (k : td σ H fun x H1 => ty σ H1 fun y H2 => ∃ a v, x = .ref a ∧ DGet H2 a y (some v) ∧ Q v H2) : tDGet td ty σ H Q := k
theorem w_dgetI {P : V → Prop} {a : Addr} {kvs : List (Key × V)} {i : Int} {v : V} (h : H a = some (.dK kvs) ∨ ∃ o, H a = some (.frz o (.dK kvs))) (e : valV kvs (Sum.inl i : Key) = some v) (k : P v) : ∃ a' v', V.ref a = .ref a' ∧ DGet H a' (.int i) (some v') ∧ P v' :=
  ⟨a, v, rfl, .inl ⟨kvs, Sum.inl i, h, rfl, e.symm⟩, k⟩
theorem w_dpop (k : td σ H fun x H1 => ∃ a, x = .ref a ∧ IsD H1 a ∧ ty σ H1 fun y H2 => ∃ kvs k v, H2 a = some (.dK kvs) ∧ y = kV k ∧ valV kvs k = some v ∧ Q v (upd H2 a (.dK (dropK kvs k)))) : tDPop1 td ty σ H Q := k
theorem w_putI {P : Hp → Prop} {a : Addr} {kvs : List (Key × V)} {i : Int} {v : V} (h : H a = some (.dK kvs)) (z : kvs.length < sizeLine) (k : P (upd H a (.dK (putK kvs (Sum.inl i : Key) v)))) : ∃ a' H4, V.ref a = .ref a' ∧ DPut H a' (.int i) v H4 ∧ P H4 :=
  ⟨a, _, rfl, .inl ⟨kvs, Sum.inl i, h, rfl, z, rfl⟩, k⟩
theorem w_putS {P : Hp → Prop} {a : Addr} {kvs kvs' : List (Key × V)} {s : Str} {v : V} (h : H a = some (.dK kvs)) (z : kvs.length < sizeLine) (e : putK kvs (Sum.inr s : Key) v = kvs') (k : P (upd H a (.dK kvs'))) : ∃ a' H4, V.ref a = .ref a' ∧ DPut H a' (.str s) v H4 ∧ P H4 :=
  ⟨a, _, rfl, .inl ⟨kvs, Sum.inr s, h, rfl, z, rfl⟩, by rw [e]; exact k⟩
theorem w_din (k : ty σ H fun y H1 => td σ H1 fun x H2 => ∃ a o, x = .ref a ∧ DGet H2 a y o ∧ Q (.bl o.isSome) H2) : tDIn ty td σ H Q := k
theorem w_dinI {P : Option V → Prop} {a : Addr} {kvs : List (Key × V)} {i : Int} (h : H a = some (.dK kvs) ∨ ∃ o, H a = some (.frz o (.dK kvs))) (k : P (valV kvs (Sum.inl i : Key))) : ∃ a' o, V.ref a = .ref a' ∧ DGet H a' (.int i) o ∧ P o :=
  ⟨a, _, rfl, .inl ⟨kvs, Sum.inl i, h, rfl, rfl⟩, k⟩
theorem w_ikeys {tl : TE} {R : It → Hp → Prop} (k : tl σ H fun x H1 => ∃ d o, x = .ref d ∧ ((∃ kvs, H1 d = some (.frz o (.dK kvs)) ∧ R (Itk d o kvs) H1) ∨ ∃ kvs, H1 d = some (.frz o (.dT kvs)) ∧ R (Itkt d o kvs) H1)) : iKeys tl σ H R := k
theorem w_lck {d : Addr} {od : Obj} {kvs : List (Key × V)} (f : V → Bool) (gv : V → V) (hx : H d = some (.frz od (.dK kvs))) (hz : kvs.length < sizeLine) (hw : ∀ x, wipe ((wipe σ vs).set j (some x)) vs = wipe σ vs)
    (ht : ∀ k, k ∈ kvs.map (·.1) → ∀ H', Same H H' → ∀ R : Bool → Hp → Prop, (∀ H2, Same H' H2 → R (f (kV k)) H2) → tt ((wipe σ vs).set j (some (kV k))) H' R) (he : ∀ k, k ∈ kvs.map (·.1) → f (kV k) = true → ∀ H', Same H H' → ∀ R : VK, (∀ H2, Same H' H2 → R (gv (kV k)) H2) → te ((wipe σ vs).set j (some (kV k))) H' R)
    (k : ∀ p H', H p = none → Same H H' → H' p = some (.lst (added f gv (kvs.map fun kv => kV kv.1))) → Q (.ref p) H') : lcK (Itk d od kvs) (gName j) tt te vs σ H Q := fun Dl hD => by
  let src := kvs.map fun kv => kV kv.1
  have hl : src.length = kvs.length := by simp [src]
  refine ⟨fun i n H' => i + n = kvs.length ∧ H Dl = none ∧ Same H H' ∧ H' Dl = some (.lst (added f gv (src.take i))), ⟨kvs.length, by omega, hD, same_upd hD, upd_same⟩, fun i n H' p => ?_⟩
  obtain ⟨e, p⟩ := p
  by_cases c : i < kvs.length
  · refine .inr ⟨⟨p.2.1 _ _ hx, c⟩, fun H2 => H Dl = none ∧ Same H H2 ∧ H2 Dl = some (.lst (added f gv (src.take (i + 1)))), fun H2 p2 => ⟨n - 1, by omega, by omega, p2⟩, fun x H2 y => ?_⟩
    obtain ⟨rfl, k0, v0, hk, rfl⟩ := y
    have hi : src[i]? = some (kV k0) := by
      show (kvs.map _)[i]? = _
      rw [List.getElem?_map, hk]
      rfl
    have hm : k0 ∈ kvs.map (·.1) := List.mem_map.mpr ⟨(k0, v0), List.mem_of_getElem? hk, rfl⟩
    exact ⟨hw _, lc_turn hi (by rw [hl]; exact hz) (fun H1 => ht k0 hm H1) (fun c H1 => he k0 hm c H1) p⟩
  · refine .inl ⟨⟨p.2.1 _ _ hx, by omega⟩, k Dl H' p.1 p.2.1 ?_⟩
    have e2 := p.2.2
    rw [List.take_of_length_le (by omega)] at e2
    exact e2
end
abbrev rLenD : RCall := fun xs H Q => ∃ (d : Addr) (kvs : List (Key × V)), xs = [.ref d] ∧ H d = some (.dK kvs) ∧ Q (.int kvs.length) H
end SwX
namespace SwX
open PySem PySem.Spec PyProof.Rows L2 StX
section
variable {σ : L2.St} {H : Hp} {Q : VK}
theorem w_lock {t : TE} {d : Addr} {u : HO} (h : H d = some u) (hm : Mut (some u)) (k : ∀ od : Obj, t σ (upd H d (.frz od u)) fun v H' => H' d = some (.frz od u) ∧ Q v (upd H' d u)) : tLockE t σ H Q := ⟨d, u, h, hm, k⟩
/-- under the lock nothing changed but what is new: neither behind it -/
theorem unlock {H H' : Hp} {d : Addr} {od : Obj} {u : HO} (h : H d = some u) (e : Same (upd H d (.frz od u)) H') : Same H (upd H' d u) := fun b o hb => by
  by_cases c : b = d
  · rw [c, h] at hb
    rw [c, upd_same]
    exact hb
  · rw [upd_ne c]
    exact e b o (by rw [upd_ne c]; exact hb)
end
end SwX

namespace SwX
open PySem PySem.Spec PyProof.Rows L2 StX
/-! ### o.f among the targets of an unpacking -/
def gFld (K : PySem.W.Frag) (ta : TE) (f : Str) : TG := fun v σ H P => ta σ H fun x H1 => ∃ a C dx fs, x = .ref a ∧ H1 a = some (.ins C dx fs) ∧ Cls K C ∧ NoAttr K C f ∧ fs.length < 1000 ∧ P σ (upd H1 a (.ins C dx (L2.putF f v fs)))
theorem pg_fld {X : Cx} {o : Expr} {f : Str} {pos : Pos} {ta : TE} (ho : PE X o ta) : PG X (.Attribute o f pos) (gFld X.K ta f) := by
  refine ⟨fun pins s σ H v u Q I r h => ?_⟩
  rw [assign_Attribute]
  refine wpAny_bind (wpAny_holding (thn (ho.run pins s σ H _ I h) fun ov s1 ⟨x, H1, I1, r1, a, C, dx, fs, ex, ea, c, n, l, q⟩ => ?_))
  subst ex
  obtain rfl : ov = Value.ref a := r1
  refine wpAny_bind (wpAny_standAt (wpAny_bind (wpAny_holding (setattr_ok I1 ea c n l r fun s2 I2 => wpAny_release ⟨σ, _, I2, q⟩))))
/-! ### xs.count(text) -/
def rCntS (K : PySem.W.Frag) : V → List V → Hp → VK → Prop := fun x xs H Q => ∃ (p : Addr) (ys : List Str) (k : Str), x = .ref p ∧ xs = [.str k] ∧ SqL K H p (ys.map V.str) ∧ Q (.int (ys.count k : Nat)) H
theorem countIn_strs (k : Str) : ∀ ys : List Str, countIn (.str k) (ys.map PyData.str) = ((ys.count k : Nat) : Int)
  | [] => rfl
  | y :: r => by
    show (if same (.str y) (.str k) = true then 1 else 0) + countIn (.str k) (r.map PyData.str) = _
    rw [countIn_strs k r, List.count_cons]
    have e : same (.str y) (.str k) = (y == k) := rfl
    rw [e]
    by_cases h : (y == k) = true
    · rw [if_pos h, if_pos h]; omega
    · rw [if_neg h, if_neg h]; omega
theorem mt_lcountS {X : Cx} : MtR X "list.count" (rCntS X.K) := by
  intro pins s σ H x xs v us Q I rx rxs h
  obtain ⟨p, ys, k, rfl, rfl, hs, q⟩ := h
  cases rx
  obtain ⟨u, rfl, ru⟩ := rxs.one
  obtain ⟨t, rfl⟩ := ru
  obtain ⟨its, rv, hp, hlen⟩ := I.list hs
  refine count_list_strs hp.isList (strs_of_vals rv) ?_
  refine ⟨.int (ys.count k : Nat), H, I.tok _, ⟨s.toks, ?_⟩, q⟩
  rw [countIn_strs]
section
variable {K : PySem.W.Frag} {σ : L2.St} {H : Hp} {Q : VK} {D : Ends} {te ta tb td ty : TE} {tt : TT} {g : TG} {vs : List Nat} {j : Nat} {v : V}
theorem w_gfld {f : Str} {P : L2.St → Hp → Prop} (k : ta σ H fun x H1 => ∃ a C dx fs, x = .ref a ∧ H1 a = some (.ins C dx fs) ∧ Cls K C ∧ NoAttr K C f ∧ fs.length < 1000 ∧ P σ (upd H1 a (.ins C dx (L2.putF f v fs)))) : gFld K ta f v σ H P := k
theorem w_gfldA {f : Str} {P : L2.St → Hp → Prop} {i : Nat} {a C dx : Addr} {fs fs' : List (Str × V)} (hv : σ[i]? = some (some (.ref a))) (h : H a = some (.ins C dx fs)) (c : Cls K C) (n : NoAttr K C f) (z : fs.length < 1000) (l : L2.putF f v fs = fs') (k : P σ (upd H a (.ins C dx fs'))) : gFld K (tVar i) f v σ H P :=
  ⟨.ref a, hv, a, C, dx, fs, rfl, h, c, n, z, by rw [l]; exact k⟩
theorem w_gfldB {f : Str} {P : L2.St → Hp → Prop} {i : Nat} {a C dx : Addr} {fs fs' : List (Str × V)} (hv : σ[i]? = some (some (.ref a))) (c : Cls K C) (n : NoAttr K C f) (z : fs.length < 1000) (l : L2.putF f v fs = fs') (k : P σ (upd H a (.ins C dx fs'))) : gFld K (tVar i) f v σ (upd H a (.ins C dx fs)) P :=
  ⟨.ref a, hv, a, C, dx, fs, rfl, upd_same, c, n, z, by rw [l, upd_upd]; exact k⟩
theorem w_ddel (k : td σ H fun x H1 => ty σ H1 fun y H2 => ∃ a kvs k, x = .ref a ∧ H2 a = some (.dK kvs) ∧ y = kV k ∧ (valV kvs k).isSome = true ∧ D.nx σ (upd H2 a (.dK (dropK kvs k)))) : sDDel td ty D σ H := k
theorem w_ddelI {P : Hp → Prop} {a : Addr} {kvs : List (Key × V)} {i : Int} (h : H a = some (.dK kvs)) (z : (valV kvs (Sum.inl i : Key)).isSome = true) (k : P (upd H a (.dK (dropK kvs (Sum.inl i : Key))))) : ∃ a' kvs' k', V.ref a = .ref a' ∧ H a' = some (.dK kvs') ∧ V.int i = kV k' ∧ (valV kvs' k').isSome = true ∧ P (upd H a' (.dK (dropK kvs' k'))) :=
  ⟨a, kvs, Sum.inl i, rfl, h, rfl, z, k⟩
theorem w_dpopI {P : V → Hp → Prop} {a : Addr} {kvs : List (Key × V)} {i : Int} {v : V} (h : H a = some (.dK kvs)) (e : valV kvs (Sum.inl i : Key) = some v) (k : P v (upd H a (.dK (dropK kvs (Sum.inl i : Key))))) : ∃ kvs' k' v', H a = some (.dK kvs') ∧ V.int i = kV k' ∧ valV kvs' k' = some v' ∧ P v' (upd H a (.dK (dropK kvs' k'))) :=
  ⟨kvs, Sum.inl i, v, h, rfl, e, k⟩
theorem w_lenD {d : Addr} {kvs : List (Key × V)} (h : H d = some (.dK kvs)) (k : Q (.int kvs.length) H) : rLenD [.ref d] H Q := ⟨d, kvs, rfl, h, k⟩
theorem w_listD {d : Addr} {kvs : List (Key × V)} (h : H d = some (.dK kvs)) (k : New Q H (.lst (kvs.map fun kv => kV kv.1))) : rListD [.ref d] H Q := ⟨d, kvs, rfl, h, k⟩
theorem w_cntS {p : Addr} {ys : List Str} {k : Str} (h : SqL K H p (ys.map V.str)) (q : Q (.int (ys.count k : Nat)) H) : rCntS K (.ref p) [.str k] H Q := ⟨p, ys, k, rfl, rfl, h, q⟩
theorem w_dnotin (k : ty σ H fun y H1 => td σ H1 fun x H2 => ∃ a o, x = .ref a ∧ DGet H2 a y o ∧ Q (.bl (!o.isSome)) H2) : tDNotIn ty td σ H Q := k
theorem w_chain {r r' : R2} {tc : TE} (k : ta σ H fun x H1 => tb σ H1 fun y H2 => r x y H2 fun z H3 => ∃ k, z = .bl k ∧ (if k = true then tc σ H3 fun w' H4 => r' y w' H4 Q else Q (.bl false) H3)) : tChain r r' ta tb tc σ H Q := k
theorem w_dputI {P : Hp → Prop} {a : Addr} {kvs : List (Key × V)} {i : Int} {v : V} (h : H a = some (.dK kvs)) (z : kvs.length < sizeLine) (k : P (upd H a (.dK (putK kvs (Sum.inl i : Key) v)))) : ∃ a' H4, V.ref a = .ref a' ∧ DPut H a' (.int i) v H4 ∧ P H4 := w_putI h z k
theorem w_iitems {R : It → Hp → Prop} (k : td σ H fun x H1 => ∃ d o kvs, x = .ref d ∧ H1 d = some (.frz o (.dK kvs)) ∧ R (Iti d o kvs) H1) : iItems td σ H R := k
/-- a comprehension over a locked dict's entries, each a new pair; nothing but what is new is written -/
theorem w_lci {d : Addr} {od : Obj} {kvs : List (Key × V)} {i1 i2 : Nat} (f : Key × V → Bool) (gv : Key × V → V) (hx : H d = some (.frz od (.dK kvs))) (hz : kvs.length < sizeLine)
    (hw : ∀ x y, wipe (((wipe σ vs).set i1 (some x)).set i2 (some y)) vs = wipe σ vs)
    (ht : ∀ kv, kv ∈ kvs → ∀ H', Same H H' → ∀ R : Bool → Hp → Prop, (∀ H2, Same H' H2 → R (f kv) H2) → tt (((wipe σ vs).set i1 (some (kV kv.1))).set i2 (some kv.2)) H' R)
    (he : ∀ kv, kv ∈ kvs → f kv = true → ∀ H', Same H H' → ∀ R : VK, (∀ H2, Same H' H2 → R (gv kv) H2) → te (((wipe σ vs).set i1 (some (kV kv.1))).set i2 (some kv.2)) H' R)
    (k : ∀ p H', H p = none → Same H H' → H' p = some (.lst ((kvs.filter f).map gv)) → Q (.ref p) H') : lcK (Iti d od kvs) (gTup K 2 (gCons (gName i1) (gCons (gName i2) gNil))) tt te vs σ H Q := fun Dl hD => by
  refine lc_it walk_items (fun i H' => H Dl = none ∧ Same H H' ∧ H' Dl = some (.lst (((kvs.take i).filter f).map gv))) ⟨hD, same_upd hD, by simp [upd_same]⟩ (fun i H' _ p => p.2.1 _ _ hx) (fun i x H1 H2 hi p y => ?_) (fun H' p => ?_)
  · obtain ⟨p1, p2, p3⟩ := p
    obtain ⟨T, x1, x2, rfl, hT, rfl, e1, e2⟩ := y
    have hkv : kvs[i]? = some kvs[i] := List.getElem?_eq_getElem hi
    have e1 : (kvs[i]?).map (fun kv => kV kv.1) = some x1 := e1
    have e2 : (kvs[i]?).map Prod.snd = some x2 := e2
    rw [hkv] at e1 e2
    cases e1
    cases e2
    have hm : kvs[i] ∈ kvs := List.getElem_mem hi
    have e0 : Same H1 (upd H1 T (.tup [kV kvs[i].1, kvs[i].2])) := same_upd hT
    refine w_gtup (SqT.of upd_same) rfl ?_
    refine w_gcons (w_name ?_)
    refine w_gcons (w_name ?_)
    refine w_gnil ⟨hw _ _, ?_⟩
    refine ht _ hm _ (p2.trans e0) _ fun H3 e3 => ?_
    have hl : (((kvs.take i).filter f).map gv).length ≤ kvs.length := by
      rw [List.length_map]
      exact Nat.le_trans (List.length_filter_le _ _) (List.length_take_le' _ _)
    have more : (((kvs.take (i + 1)).filter f).map gv) = if f kvs[i] = true then ((kvs.take i).filter f).map gv ++ [gv kvs[i]] else ((kvs.take i).filter f).map gv := by
      rw [take_more' hkv, List.filter_append, List.map_append]
      by_cases c : f kvs[i] = true
      · rw [if_pos c, List.filter_cons, if_pos c]; rfl
      · rw [if_neg c, List.filter_cons, if_neg c]; simp
    cases c : f kvs[i] with
    | true =>
      rw [if_pos rfl]
      refine he _ hm c _ (p2.trans (e0.trans e3)) _ fun H4 e4 => ⟨_, e4 _ _ (e3 _ _ (e0 _ _ p3)), by omega, p1, fun b o hb => ?_, ?_⟩
      · rw [upd_ne (fun z => by rw [z, p1] at hb; cases hb)]
        exact e4 _ _ (e3 _ _ (e0 _ _ (p2 b o hb)))
      · rw [upd_same, more, if_pos c]
    | false =>
      rw [if_neg (by decide)]
      refine ⟨p1, p2.trans (e0.trans e3), ?_⟩
      rw [more, if_neg (by rw [c]; decide)]
      exact e3 _ _ (e0 _ _ p3)
  · refine k Dl H' p.1 p.2.1 ?_
    have := p.2.2
    rwa [List.take_length] at this
end
local macro_rules | `(tactic| walk_at "w1") => `(tactic| with_reducible first | refine w_dget ?_ | refine w_din ?_ | refine w_dpop ?_ | refine w_ddel ?_ | refine w_iitems ?_ | refine w_dnotin ?_ | refine w_chain ?_)
local macro_rules | `(tactic| walk_at "w2") => `(tactic| first
  | ((with_reducible refine' w_gfldB ?wv ?wc ?wn ?wz ?wl ?_); (case wv => rfl); (case wc => assumption); (case wn => assumption); (case wz => simp); (case wl => walk_at "pf"))
  | ((with_reducible refine' w_gfldA ?wv ?wh ?wc ?wn ?wz ?wl ?_); (case wv => rfl); (case wh => assumption); (case wc => assumption); (case wn => assumption); (case wz => simp); (case wl => walk_at "pf")))
end SwX
set_option Elab.async false
set_option linter.all false
set_option maxRecDepth 100000
set_option maxHeartbeats 4000000
namespace SwD
open PySem PySem.Spec PyProof.Rows L2 SwX StX Sw
local macro_rules | `(tactic| walk_at "lk") => `(tactic| first | exact lk_at | exact lk_no | ((refine' lk_by (by decide +kernel) ?wq); (case wq => walk_at "lk")))
local macro_rules | `(tactic| walk_at "pf") => `(tactic| first | exact pf_at | exact pf_nil | ((refine' pf_by (by decide +kernel) ?wq); (case wq => walk_at "pf")))
local macro_rules | `(tactic| walk_at "w1") => `(tactic| with_reducible first
  | refine w_seq ?_ | refine w_asg ?_ | refine w_name ?_ | refine w_ret ?_ | refine w_retN ?_ | refine w_drop ?_ | refine w_next ?_ | refine w_if ?_ | refine w_ifE ?_ | refine w_test ?_ | refine w_B ?_ | refine w_bl ?_
  | refine w_not ?_ | refine w_and ?_ | refine w_or ?_ | refine w_andV ?_ | refine w_orV ?_ | refine w_notV ?_ | refine w_isN ?_ | refine w_notN ?_ | refine w_yes ?_
  | refine w_c ?_ | refine w_op ?_ | refine w_un ?_ | refine w_i0 ?_ | refine w_neg ?_ | refine w_nil ?_ | refine w_cons ?_ | refine w_cb ?_ | refine w_call ?_ | refine w_tup ?_ | refine w_lst ?_
  | refine w_fld ?_ | refine w_sfld ?_ | refine w_match ?_ | refine w_case ?_ | refine w_mcons ?_ | refine w_mnil ?_ | refine w_mcap ?_ | refine w_many ?_ | refine w_myes ?_
  | refine w_sub ?_ | refine w_bm ?_ | refine w_sl ?_ | refine w_nopart ?_ | refine w_part ?_ | refine w_int ?_ | refine w_ift ?_ | refine w_iff ?_ | refine w_ifn ?_ | refine w_dget2 ?_ | refine w_star ?_ | refine w_dput ?_ | refine w_dnewK ?_ | refine w_meth ?_ | refine w_oneOf ?_ | refine w_make ?_ | refine w_lc ?_ | refine w_for ?_ | refine w_ilist ?_ | refine w_irng1 ?_ | refine w_irng2 ?_ | refine w_irng3 ?_)
local macro_rules | `(tactic| walk_at "w2") => `(tactic| first
  | ((with_reducible refine' w_var ?wh ?_); (case wh => rfl))
  | ((with_reducible refine' w_eq ?wh ?_); (case wh => rfl))
  | ((with_reducible refine' w_ne ?wh ?_); (case wh => rfl))
  | ((with_reducible refine' w_mno ?wh ?_); (case wh => decide +kernel))
  | ((with_reducible refine' w_mhit ?wh ?wl ?_); (case wh => assumption); (case wl => rfl))
  | ((with_reducible refine' w_mmiss ?wh ?wl ?_); (case wh => assumption); (case wl => simp))
  | ((with_reducible refine' w_fldA ?wh ?wc ?wn ?wl ?_); (case wh => first | assumption | exact upd_same); (case wc => assumption); (case wn => assumption); (case wl => walk_at "lk"))
  | ((with_reducible refine' w_ixl ?wh ?we ?_); (case wh => exact SqL.of (by first | assumption | exact upd_same)); (case we => rfl))
  | ((with_reducible refine' w_ixt ?wh ?we ?_); (case wh => assumption); (case we => rfl))
  | ((with_reducible refine' w_ifT ?wh ?_); (case wh => (with_reducible exact Eq.refl _)))
  | ((with_reducible refine' w_ifF ?wh ?_); (case wh => decide +kernel))
  | ((with_reducible refine' w_isiY ?wh ?wk ?_); (case wh => first | exact .int _ | exact .str _ | exact .lst (by assumption) | exact .tup (by assumption)); (case wk => decide +kernel))
  | ((with_reducible refine' w_isiN ?wh ?wk ?_); (case wh => first | exact .int _ | exact .str _ | exact .lst (by assumption) | exact .tup (by assumption)); (case wk => decide +kernel))
  | ((with_reducible refine' w_ifF ?wh ?_); (case wh => (intro z; cases z; done)))
  | ((with_reducible refine' w_setl ?wh ?we ?wl ?_); (case wh => first | assumption | exact upd_same); (case we => rfl); (case wl => rfl))
  | ((with_reducible refine' w_methA ?wh ?wl ?_); (case wh => first | assumption | exact upd_same); (case wl => walk_at "lk"))
  | ((with_reducible refine' w_sfldB ?wc ?wn ?wz ?wl ?_); (case wc => assumption); (case wn => assumption); (case wz => simp); (case wl => walk_at "pf"))
  | ((with_reducible refine' w_sfldA ?wh ?wc ?wn ?wz ?wl ?_); (case wh => assumption); (case wc => assumption); (case wn => assumption); (case wz => simp); (case wl => walk_at "pf")))
local macro_rules | `(tactic| walk_at "w") => `(tactic| repeat (first | walk_at "w1" | walk_at "w2" | (dsimp only [List.set, setAll, List.append, List.cons_append, List.nil_append])))
section
variable {K : PySem.W.Frag} {H : Hp} {A : Ads} {ck : Int} {U L : List (Key × V)} {W : List Int} {wv sv : List V} {tm : Int → Int} {m : Mc} {B : Nat} {Q : VK}
theorem w_stG {P : V → Prop} {s : Str} {v : V} (h : LS H A ck U L W wv sv tm m B) (e : valV (sd A ck) (Sum.inr s : Key) = some v) (k : P v) : ∃ a v', V.ref A.p = .ref a ∧ DGet H a (.str s) (some v') ∧ P v' :=
  ⟨A.p, v, rfl, .inl ⟨_, Sum.inr s, .inl h.hp, rfl, e.symm⟩, k⟩
end
local macro_rules | `(tactic| walk_at "s1") => `(tactic| first
  | exact sd_lies | exact sd_used | exact sd_waits | exact sd_way | exact sd_story | exact sd_cells | exact sd_answers | exact sd_clock)
local macro_rules | `(tactic| walk_at "s2") => `(tactic| first
  | (with_reducible refine w_dget ?_) | (with_reducible refine w_din ?_) | (with_reducible refine w_dpop ?_) | (with_reducible refine w_ikeys ?_)
  | ((refine' w_stG ?wh ?we ?_); (case wh => assumption); (case we => walk_at "s1")))
local macro_rules | `(tactic| walk_at "s") => `(tactic| repeat (first | walk_at "w1" | walk_at "w2" | walk_at "s2" | (dsimp only [List.set, setAll, List.append, List.cons_append, List.nil_append])))
/-- what a step may change: the machine's own objects; what it makes new -/
def Grown (H : Hp) (A A' : Ads) : Prop := A'.p = A.p ∧ A'.cells = A.cells ∧ A'.used = A.used ∧ A'.lies = A.lies ∧ A'.story = A.story ∧ A'.answers = A.answers ∧ (InA A A'.waits ∨ H A'.waits = none) ∧ (InA A A'.way ∨ H A'.way = none)
def OutA (A : Ads) (H H' : Hp) : Prop := Out (InA A) H H'
section
variable {K : PySem.W.Frag}
theorem outA_same {A : Ads} {H H' : Hp} (e : Same H H') : OutA A H H' := same_out e
theorem outA_upd {A : Ads} {H : Hp} {q : Addr} {u : HO} (h : InA A q) : OutA A H (upd H q u) := fun b o hb nb => by
  rw [upd_ne (fun z => nb (by rw [z]; exact h))]
  exact hb
theorem OutA.trans {A A' : Ads} {H H1 H2 : Hp} (g : Grown H A A') (h : OutA A H H1) (h' : OutA A' H1 H2) : OutA A H H2 := fun b o hb nb => by
  obtain ⟨g1, g2, g3, g4, g5, g6, g7, g8⟩ := g
  refine h' b o (h b o hb nb) (fun z => nb ?_)
  unfold InA at z ⊢
  rw [g1, g2, g3, g4, g5, g6] at z
  rcases z with z | z | z | z | z | z | z | z
  · exact .inl z
  · exact .inr (.inl z)
  · exact .inr (.inr (.inl z))
  · rcases g7 with g7 | g7
    · rw [z]; exact g7
    · rw [← z, hb] at g7; cases g7
  · rcases g8 with g8 | g8
    · rw [z]; exact g8
    · rw [← z, hb] at g8; cases g8
  · exact .inr (.inr (.inr (.inr (.inr (.inl z)))))
  · exact .inr (.inr (.inr (.inr (.inr (.inr (.inl z))))))
  · exact .inr (.inr (.inr (.inr (.inr (.inr (.inr z))))))
theorem Grown.refl {H : Hp} {A : Ads} : Grown H A A := ⟨rfl, rfl, rfl, rfl, rfl, rfl, .inl (.inr (.inr (.inr (.inl rfl)))), .inl (.inr (.inr (.inr (.inr (.inl rfl)))))⟩
theorem Grown.inA {H : Hp} {A A' : Ads} (g : Grown H A A') {b : Addr} (z : InA A' b) : InA A b ∨ H b = none := by
  obtain ⟨g1, g2, g3, g4, g5, g6, g7, g8⟩ := g
  unfold InA at z
  rw [g1, g2, g3, g4, g5, g6] at z
  rcases z with z | z | z | z | z | z | z | z
  · exact .inl (.inl z)
  · exact .inl (.inr (.inl z))
  · exact .inl (.inr (.inr (.inl z)))
  · rw [z]; exact g7
  · rw [z]; exact g8
  · exact .inl (.inr (.inr (.inr (.inr (.inr (.inl z))))))
  · exact .inl (.inr (.inr (.inr (.inr (.inr (.inr (.inl z)))))))
  · exact .inl (.inr (.inr (.inr (.inr (.inr (.inr (.inr z)))))))
theorem out_noneA {A : Ads} {H H' : Hp} (e : OutA A H H') {a : Addr} (h : H' a = none) : InA A a ∨ H a = none := by
  by_cases n : InA A a
  · exact .inl n
  · refine .inr ?_
    cases z : H a with
    | none => rfl
    | some o => rw [e _ _ z n] at h; cases h
theorem Grown.trans {A A1 A2 : Ads} {H H1 : Hp} (g : Grown H A A1) (o : OutA A H H1) (g' : Grown H1 A1 A2) : Grown H A A2 := by
  have up : ∀ b, InA A1 b ∨ H1 b = none → InA A b ∨ H b = none := fun b z => by
    rcases z with z | z
    · exact g.inA z
    · exact out_noneA o z
  exact ⟨g'.1.trans g.1, g'.2.1.trans g.2.1, g'.2.2.1.trans g.2.2.1, g'.2.2.2.1.trans g.2.2.2.1, g'.2.2.2.2.1.trans g.2.2.2.2.1, g'.2.2.2.2.2.1.trans g.2.2.2.2.2.1, up _ g'.2.2.2.2.2.2.1, up _ g'.2.2.2.2.2.2.2⟩
/-- laid down, where there is room -/
def downed (t : Int) (w : Wd) (q : Int) (m : Mc) : Mc := { m with shelf := m.shelf ++ [⟨q, cellAt m.cells q, false⟩], story := m.story ++ [(t, w, q)] }
theorem laid_tail {D : Ends} {H : Hp} {A : Ads} {ck : Int} {U L : List (Key × V)} {W : List Int} {wv sv : List V} {tm : Int → Int} {m : Mc} {B : Nat} {room t q : Int} {w : Wd} {s5 s6 s7 : Option V} (h : LS H A ck U L W wv sv tm m B)
    (hq : ∀ e, e ∈ m.shelf → e.pl ≠ q) (q0 : 0 ≤ q) (q1 : q < (m.cells.length : Int)) (hb : B ≤ 100000) (hs : m.story.length ≤ 100000) (hl : m.shelf.length ≤ 100)
    (k : ∀ H' U' L' sv' tm', LS H' A (ck + 1) U' L' W wv sv' tm' (downed t w q m) (B + 1) → OutA A H H' → D.nx [some (.ref A.p), some (.int room), some (.int t), some (.int q), some (.str (wdStr w)), s5, s6, s7] H') :
    (tSeq (sDPut (tVar 0) (tC (.str "clock")) (tOp (rAddI) (tDGet (tVar 0) (tC (.str "clock"))) (tC (.int 1))))
  (tSeq (sDPut (tDGet (tVar 0) (tC (.str "used"))) (tVar 3) (tDGet (tVar 0) (tC (.str "clock"))))
  (tSeq (sDPut (tDGet (tVar 0) (tC (.str "lies"))) (tVar 3) (tOp (rIxL K) (tDGet (tVar 0) (tC (.str "cells"))) (tVar 3)))
  (tDrop (tBM K "list" rAppend (tDGet (tVar 0) (tC (.str "story"))) (tCons (tTup (tCons (tVar 2) (tCons (tVar 4) (tCons (tVar 3) (tNil))))) (tNil))))))) D [some (.ref A.p), some (.int room), some (.int t), some (.int q), some (.str (wdStr w)), s5, s6, s7] H := by
  have hU : U.length < sizeLine := by
    have := h.ulen
    have := h.cks
    exact small_lt (by omega)
  have hL : L.length < sizeLine := by
    rw [h.perm.length_eq, List.length_map]
    exact small_lt (by omega)
  refine w_seq (w_dput ?_)
  walk_at "s"
  refine w_putS h.hp (by show 8 < sizeLine; decide) put_clock ?_
  have h1 := h.tick
  have o1 : OutA A H _ := outA_upd (H := H) (u := .dK (sd A (ck + 1))) (.inl rfl : InA A A.p)
  generalize upd H A.p (.dK (sd A (ck + 1))) = H1 at h1 o1 ⊢
  refine w_seq (w_dput ?_)
  walk_at "s"
  refine w_putI h1.hused hU ?_
  have lt1 : U.length < (ck + 1).toNat := by have := h.ulen; have := h.ck0; omega
  have h2 := h1.useNew lt1 hq
  have o2 : OutA A H1 _ := outA_upd (H := H1) (u := .dK (putK U (Sum.inl q : Key) (.int (ck + 1)))) (.inr (.inr (.inl rfl)) : InA A A.used)
  have hu2 : valV (putK U (Sum.inl q : Key) (.int (ck + 1))) (Sum.inl q : Key) = some (.int (used tm q (ck + 1) q)) := by
    rw [valV_put, if_pos rfl, used_eq]
  generalize upd H1 A.used (.dK (putK U (Sum.inl q : Key) (.int (ck + 1)))) = H2 at h2 o2 ⊢
  refine w_seq (w_dput ?_)
  walk_at "s"
  refine w_ixl (SqL.of h2.hcells) (at_getD q0 q1) ?_
  walk_at "s"
  refine w_putI h2.hlies hL ?_
  have h3 := h2.shelve (v := m.cells.getD q.toNat 0) hq hu2 (by rw [used_eq]; exact Int.le_refl _) (fun e he => by
    rw [used_ne (hq e he), used_eq]
    have := (h.times e he).2
    omega)
  have o3 : OutA A H2 _ := outA_upd (H := H2) (u := .dK (putK L (Sum.inl q : Key) (.int (m.cells.getD q.toNat 0)))) (.inr (.inr (.inr (.inr (.inr (.inl rfl))))) : InA A A.lies)
  generalize upd H2 A.lies (.dK (putK L (Sum.inl q : Key) (.int (m.cells.getD q.toNat 0)))) = H3 at h3 o3 ⊢
  walk_at "s"
  refine ⟨.inl ⟨rfl, _, SqL.of h3.hstory⟩, ?_⟩
  walk_at "s"
  refine ⟨small_le (by simp), w_new fun p H4 hp e4 h4 => ?_⟩
  have h4' := h3.same e4
  walk_at "s"
  have hsv : sv.length = m.story.length := h.evs.len.symm
  refine w_app h4'.hstory (small_lt (by omega)) ?_
  have h5 := h4'.tell (ev := (t, w, q)) (v := .ref p) ⟨p, rfl, h4⟩
  refine k _ _ _ _ _ h5 ?_
  exact ((((o1.trans .refl o2).trans .refl o3).trans .refl (outA_same e4)).trans .refl (outA_upd (.inr (.inr (.inr (.inr (.inr (.inr (.inl rfl)))))) : InA A A.story)))
end
end SwD
set_option Elab.async false
set_option linter.all false
set_option maxRecDepth 100000
set_option maxHeartbeats 4000000
namespace SwD
open PySem PySem.Spec PyProof.Rows L2 SwX StX Sw
local macro_rules | `(tactic| walk_at "lk") => `(tactic| first | exact lk_at | exact lk_no | ((refine' lk_by (by decide +kernel) ?wq); (case wq => walk_at "lk")))
local macro_rules | `(tactic| walk_at "pf") => `(tactic| first | exact pf_at | exact pf_nil | ((refine' pf_by (by decide +kernel) ?wq); (case wq => walk_at "pf")))
local macro_rules | `(tactic| walk_at "w1") => `(tactic| with_reducible first
  | refine w_seq ?_ | refine w_asg ?_ | refine w_name ?_ | refine w_ret ?_ | refine w_retN ?_ | refine w_drop ?_ | refine w_next ?_ | refine w_if ?_ | refine w_ifE ?_ | refine w_test ?_ | refine w_B ?_ | refine w_bl ?_
  | refine w_not ?_ | refine w_and ?_ | refine w_or ?_ | refine w_andV ?_ | refine w_orV ?_ | refine w_notV ?_ | refine w_isN ?_ | refine w_notN ?_ | refine w_yes ?_
  | refine w_c ?_ | refine w_op ?_ | refine w_un ?_ | refine w_i0 ?_ | refine w_neg ?_ | refine w_nil ?_ | refine w_cons ?_ | refine w_cb ?_ | refine w_call ?_ | refine w_tup ?_ | refine w_lst ?_
  | refine w_fld ?_ | refine w_sfld ?_ | refine w_match ?_ | refine w_case ?_ | refine w_mcons ?_ | refine w_mnil ?_ | refine w_mcap ?_ | refine w_many ?_ | refine w_myes ?_
  | refine w_sub ?_ | refine w_bm ?_ | refine w_sl ?_ | refine w_nopart ?_ | refine w_part ?_ | refine w_int ?_ | refine w_ift ?_ | refine w_iff ?_ | refine w_ifn ?_ | refine w_dget2 ?_ | refine w_star ?_ | refine w_dput ?_ | refine w_dnewK ?_ | refine w_meth ?_ | refine w_oneOf ?_ | refine w_make ?_ | refine w_lc ?_ | refine w_for ?_ | refine w_ilist ?_ | refine w_irng1 ?_ | refine w_irng2 ?_ | refine w_irng3 ?_)
local macro_rules | `(tactic| walk_at "w2") => `(tactic| first
  | ((with_reducible refine' w_var ?wh ?_); (case wh => rfl))
  | ((with_reducible refine' w_eq ?wh ?_); (case wh => rfl))
  | ((with_reducible refine' w_ne ?wh ?_); (case wh => rfl))
  | ((with_reducible refine' w_mno ?wh ?_); (case wh => decide +kernel))
  | ((with_reducible refine' w_mhit ?wh ?wl ?_); (case wh => assumption); (case wl => rfl))
  | ((with_reducible refine' w_mmiss ?wh ?wl ?_); (case wh => assumption); (case wl => simp))
  | ((with_reducible refine' w_fldA ?wh ?wc ?wn ?wl ?_); (case wh => first | assumption | exact upd_same); (case wc => assumption); (case wn => assumption); (case wl => walk_at "lk"))
  | ((with_reducible refine' w_ixl ?wh ?we ?_); (case wh => exact SqL.of (by first | assumption | exact upd_same)); (case we => rfl))
  | ((with_reducible refine' w_ixt ?wh ?we ?_); (case wh => assumption); (case we => rfl))
  | ((with_reducible refine' w_ifT ?wh ?_); (case wh => (with_reducible exact Eq.refl _)))
  | ((with_reducible refine' w_ifF ?wh ?_); (case wh => decide +kernel))
  | ((with_reducible refine' w_isiY ?wh ?wk ?_); (case wh => first | exact .int _ | exact .str _ | exact .lst (by assumption) | exact .tup (by assumption)); (case wk => decide +kernel))
  | ((with_reducible refine' w_isiN ?wh ?wk ?_); (case wh => first | exact .int _ | exact .str _ | exact .lst (by assumption) | exact .tup (by assumption)); (case wk => decide +kernel))
  | ((with_reducible refine' w_ifF ?wh ?_); (case wh => (intro z; cases z; done)))
  | ((with_reducible refine' w_setl ?wh ?we ?wl ?_); (case wh => first | assumption | exact upd_same); (case we => rfl); (case wl => rfl))
  | ((with_reducible refine' w_methA ?wh ?wl ?_); (case wh => first | assumption | exact upd_same); (case wl => walk_at "lk"))
  | ((with_reducible refine' w_sfldB ?wc ?wn ?wz ?wl ?_); (case wc => assumption); (case wn => assumption); (case wz => simp); (case wl => walk_at "pf"))
  | ((with_reducible refine' w_sfldA ?wh ?wc ?wn ?wz ?wl ?_); (case wh => assumption); (case wc => assumption); (case wn => assumption); (case wz => simp); (case wl => walk_at "pf")))
local macro_rules | `(tactic| walk_at "w") => `(tactic| repeat (first | walk_at "w1" | walk_at "w2" | (dsimp only [List.set, setAll, List.append, List.cons_append, List.nil_append])))
local macro_rules | `(tactic| walk_at "s1") => `(tactic| first
  | exact sd_lies | exact sd_used | exact sd_waits | exact sd_way | exact sd_story | exact sd_cells | exact sd_answers | exact sd_clock)
local macro_rules | `(tactic| walk_at "s2") => `(tactic| first
  | (with_reducible refine w_dget ?_) | (with_reducible refine w_din ?_) | (with_reducible refine w_dpop ?_) | (with_reducible refine w_ikeys ?_)
  | ((refine' w_stG ?wh ?we ?_); (case wh => assumption); (case we => walk_at "s1")))
local macro_rules | `(tactic| walk_at "s") => `(tactic| repeat (first | walk_at "w1" | walk_at "w2" | walk_at "s2" | (dsimp only [List.set, setAll, List.append, List.cons_append, List.nil_append])))
def kq : Key → Int
  | .inl i => i
  | .inr _ => 0
/-- the time of a place, as a value -/
def tmV (tm : Int → Int) : V → V
  | .int i => .int (tm i)
  | v => v
def isT (tm : Int → Int) (t : Int) : V → Bool
  | .int i => decide (tm i = t)
  | _ => false
def notQ (q : Int) : V → Bool
  | .int i => decide (i ≠ q)
  | _ => true
theorem all_eq {w : V} : ∀ {l : List V}, l ≠ [] → (∀ v, v ∈ l → v = w) → atI l 0 = some w
  | [], h, _ => absurd rfl h
  | x :: l, _, h => by
    have e := h x List.mem_cons_self
    subst e
    exact atI_nat (xs := x :: l) (j := 0) (v := x) rfl
section
variable {K : PySem.W.Frag}
theorem LS.keyAt {H : Hp} {A : Ads} {ck : Int} {U L : List (Key × V)} {W : List Int} {wv sv : List V} {tm : Int → Int} {m : Mc} {B : Nat} (h : LS H A ck U L W wv sv tm m B) {k : Key} (hk : k ∈ L.map (·.1)) : ∃ e, e ∈ m.shelf ∧ k = Sum.inl e.pl := by
  obtain ⟨kv, h1, rfl⟩ := List.mem_map.mp hk
  obtain ⟨e, h2, rfl⟩ := List.mem_map.mp (h.perm.mem_iff.mp h1)
  exact ⟨e, h2, rfl⟩
theorem LS.mem_in {H : Hp} {A : Ads} {ck : Int} {U L : List (Key × V)} {W : List Int} {wv sv : List V} {tm : Int → Int} {m : Mc} {B : Nat} (h : LS H A ck U L W wv sv tm m B) {e : En} (he : e ∈ m.shelf) : ent e ∈ L := h.perm.mem_iff.mpr (List.mem_map_of_mem he)
/-- what is said of a look-up in lies -/
theorem valV_mem {κ : Type} [DecidableEq κ] : ∀ {kvs : List (κ × V)} {k : κ} {v : V}, (kvs.map (·.1)).Nodup → (k, v) ∈ kvs → valV kvs k = some v
  | [], _, _, _, h => nomatch h
  | p :: r, k, v, nd, h => by
    obtain ⟨n1, n2⟩ := List.nodup_cons.mp (by simpa using nd : (p.1 :: r.map (·.1)).Nodup)
    rcases List.mem_cons.mp h with rfl | h
    · unfold valV
      rw [List.find?_cons]
      simp
    · have ne : ¬ p.1 = k := fun z => n1 (by rw [z]; exact List.mem_map.mpr ⟨(k, v), h, rfl⟩)
      rw [valV_neg ne]
      exact valV_mem n2 h
theorem LS.lnd {H : Hp} {A : Ads} {ck : Int} {U L : List (Key × V)} {W : List Int} {wv sv : List V} {tm : Int → Int} {m : Mc} {B : Nat} (h : LS H A ck U L W wv sv tm m B) : (L.map (·.1)).Nodup := by
  have p := h.perm.map (·.1)
  refine p.nodup_iff.mpr ?_
  rw [List.map_map]
  have u := h.uniq
  show List.Pairwise _ _
  have u : List.Pairwise _ _ := u
  rw [List.pairwise_map] at u ⊢
  exact u.imp fun ne z => ne (Sum.inl.inj z)
theorem LS.num {H : Hp} {A : Ads} {ck : Int} {U L : List (Key × V)} {W : List Int} {wv sv : List V} {tm : Int → Int} {m : Mc} {B : Nat} (h : LS H A ck U L W wv sv tm m B) {e : En} (he : e ∈ m.shelf) : valV L (Sum.inl e.pl : Key) = some (.int e.num) :=
  valV_mem h.lnd (h.mem_in he)
theorem LS.on {H : Hp} {A : Ads} {ck : Int} {U L : List (Key × V)} {W : List Int} {wv sv : List V} {tm : Int → Int} {m : Mc} {B : Nat} (h : LS H A ck U L W wv sv tm m B) (q : Int) : (valV L (Sum.inl q : Key)).isSome = onShelf m.shelf q := by
  cases c : onShelf m.shelf q with
  | true =>
    obtain ⟨e, he, rfl⟩ := onShelf_iff.mp c
    rw [h.num he]
    rfl
  | false =>
    rw [h.nl (fun e he z => by rw [onShelf_iff.mpr ⟨e, he, z⟩] at c; cases c)]
    rfl
theorem inA_ne {A : Ads} {H : Hp} {ck : Int} {U L : List (Key × V)} {W : List Int} {wv sv : List V} {tm : Int → Int} {m : Mc} {B : Nat} (h : LS H A ck U L W wv sv tm m B) {w : Addr} (hw : H w = none) {b : Addr} (hb : InA A b) : b ≠ w := fun z => by
  rw [← z] at hw
  rcases hb with e | e | e | e | e | e | e | e <;> rw [e] at hw
  · rw [h.hp] at hw; cases hw
  · rw [h.hcells] at hw; cases hw
  · rw [h.hused] at hw; cases hw
  · rw [h.hwaits] at hw; cases hw
  · rw [h.hway] at hw; cases hw
  · rw [h.hlies] at hw; cases hw
  · rw [h.hstory] at hw; cases hw
  · rw [h.hanswers] at hw; cases hw
/-- the one that leaves -/
theorem the_old {H : Hp} {A : Ads} {ck : Int} {U L : List (Key × V)} {W : List Int} {wv sv : List V} {tm : Int → Int} {m : Mc} {B : Nat} {e0 : En} {rest : List En} {s1 s2 s3 s4 s5 s6 s7 : Option V} (h : LS H A ck U L W wv sv tm m B) (hs : m.shelf = e0 :: rest) (hl : m.shelf.length ≤ 100) {Q : VK}
    (k : ∀ p H' xs, Same H H' → H' p = some (.lst xs) → atI xs 0 = some (.int e0.pl) → Q (.ref p) H') :
    tLockE (tLc (iKeys (tDGet (tVar 0) (tC (.str "lies")))) (gName 6) (tTest (tOp (rEq) (tDGet (tDGet (tVar 0) (tC (.str "used"))) (tVar 6)) (tCB (rMin K) (tCons (tLc (iKeys (tDGet (tVar 0) (tC (.str "lies")))) (gName 7) (tYes) (tDGet (tDGet (tVar 0) (tC (.str "used"))) (tVar 7)) [7]) (tNil))))) (tVar 6) [6]) [some (.ref A.p), s1, s2, s3, s4, s5, s6, s7] H Q := by
  have hL : L.length < sizeLine := by
    rw [h.perm.length_eq, List.length_map]
    exact small_lt (by omega)
  refine w_lock h.hlies trivial fun od => ?_
  have hpl : upd H A.lies (.frz od (.dK L)) A.p = some (.dK (sd A ck)) := by rw [upd_ne h.ap.pl]; exact h.hp
  have hpu : upd H A.lies (.frz od (.dK L)) A.used = some (.dK U) := by rw [upd_ne h.ap.ul]; exact h.hused
  have hpf : upd H A.lies (.frz od (.dK L)) A.lies = some (.frz od (.dK L)) := upd_same
  have un : ∀ H', Same (upd H A.lies (.frz od (.dK L))) H' → Same H (upd H' A.lies (.dK L)) := fun H' e => unlock h.hlies e
  have hnl : ∀ p, upd H A.lies (.frz od (.dK L)) p = none → p ≠ A.lies := fun p hp z => by rw [z, upd_same] at hp; cases hp
  generalize upd H A.lies (.frz od (.dK L)) = Hl at hpl hpu hpf un hnl ⊢
  have stG : ∀ {H' : Hp} {s : Str} {v : V} {P : V → Prop}, Same Hl H' → valV (sd A ck) (Sum.inr s : Key) = some v → P v → ∃ a v', V.ref A.p = .ref a ∧ DGet H' a (.str s) (some v') ∧ P v' := fun {H' s v P} e1 e2 kk => ⟨A.p, v, rfl, .inl ⟨_, Sum.inr s, .inl (e1 _ _ hpl), rfl, e2.symm⟩, kk⟩
  refine w_lc (w_ikeys (w_dget ?_))
  walk_at "w"
  refine stG (Same.refl _) sd_lies ?_
  refine ⟨A.lies, od, rfl, .inl ⟨L, hpf, ?_⟩⟩
  have tm0 : ∀ e, e ∈ m.shelf → tm e0.pl ≤ tm e.pl := fun e he => by
    have as := h.asc
    rw [hs] at he as
    rcases List.mem_cons.mp he with rfl | he
    · exact Int.le_refl _
    · exact Int.le_of_lt ((List.pairwise_cons.mp as).1 e he)
  have tmU : ∀ e, e ∈ m.shelf → tm e.pl = tm e0.pl → e.pl = e0.pl := fun e he z => by
    have as := h.asc
    rw [hs] at he as
    rcases List.mem_cons.mp he with rfl | he
    · rfl
    · have := (List.pairwise_cons.mp as).1 e he
      omega
  have h0 : e0 ∈ m.shelf := by rw [hs]; exact List.mem_cons_self
  refine w_lck (isT tm (tm e0.pl)) id hpf hL (fun _ => rfl) (fun k' hk H' e R r => ?_) (fun k' hk _ H' e R r => ?_) (fun p H' hp e hp' => ?_)
  · obtain ⟨e1, he1, rfl⟩ := h.keyAt hk
    refine w_test (w_op (w_dget (w_dget ?_)))
    walk_at "w"
    refine stG e sd_used ?_
    walk_at "w"
    refine w_dgetI (.inl (e _ _ hpu)) (h.times e1 he1).1 ?_
    refine w_cb (w_cons ?_)
    refine w_lc (w_ikeys (w_dget ?_))
    walk_at "w"
    refine stG e sd_lies ?_
    refine ⟨A.lies, od, rfl, .inl ⟨L, e _ _ hpf, ?_⟩⟩
    refine w_lck (fun _ => true) (tmV tm) (e _ _ hpf) hL (fun _ => rfl) (fun k2 hk2 H2 e2 R2 r2 => r2 _ (Same.refl _)) (fun k2 hk2 _ H2 e2 R2 r2 => ?_) (fun p2 H2 hp2 e2 hp2' => ?_)
    · obtain ⟨e3, he3, rfl⟩ := h.keyAt hk2
      refine w_dget (w_dget ?_)
      walk_at "w"
      refine stG (e.trans e2) sd_used ?_
      walk_at "w"
      exact w_dgetI (.inl ((e.trans e2) _ _ hpu)) (h.times e3 he3).1 (r2 _ (Same.refl _))
    · refine w_nil ?_
      have eq : added (fun _ => true) (tmV tm) (L.map fun kv => kV kv.1) = (L.map fun kv => tm (kq kv.1)).map V.int := by
        unfold added
        rw [List.filter_eq_self.mpr (fun _ _ => rfl), List.map_map, List.map_map]
        apply List.map_congr_left
        intro kv hkv
        obtain ⟨e3, he3, z⟩ := h.keyAt (List.mem_map.mpr ⟨kv, hkv, rfl⟩)
        show tmV tm (kV kv.1) = _
        have z : kv.1 = Sum.inl e3.pl := z
        show _ = V.int (tm (kq kv.1))
        rw [z]
        rfl
      rw [eq] at hp2'
      have mem : ∀ y, y ∈ (L.map fun kv => tm (kq kv.1)) → ∃ e3, e3 ∈ m.shelf ∧ y = tm e3.pl := fun y hy => by
        obtain ⟨kv, hkv, rfl⟩ := List.mem_map.mp hy
        obtain ⟨e3, he3, z⟩ := h.keyAt (List.mem_map.mpr ⟨kv, hkv, rfl⟩)
        have z : kv.1 = Sum.inl e3.pl := z
        exact ⟨e3, he3, by rw [z]; rfl⟩
      have in0 : tm e0.pl ∈ (L.map fun kv => tm (kq kv.1)) := List.mem_map.mpr ⟨ent e0, h.mem_in h0, rfl⟩
      refine ⟨p2, _, rfl, SqL.of hp2', List.length_pos_of_mem in0, fun mn hmn hle => ?_⟩
      obtain ⟨e3, he3, rfl⟩ := mem mn hmn
      have : tm e3.pl = tm e0.pl := by
        have := hle _ in0
        have := tm0 e3 he3
        omega
      rw [this]
      refine w_eq rfl ?_
      refine w_bl ?_
      have e5 : decide (V.int (tm e1.pl) = V.int (tm e0.pl)) = isT tm (tm e0.pl) (kV (Sum.inl e1.pl)) := by
        show _ = decide (tm e1.pl = tm e0.pl)
        by_cases c : tm e1.pl = tm e0.pl
        · rw [decide_eq_true c, c]
          exact decide_eq_true rfl
        · rw [decide_eq_false c]
          exact decide_eq_false (fun z => c (by injection z))
      rw [e5]
      exact r _ e2
  · walk_at "w"
    exact r _ (Same.refl _)
  · have e2 := un H' e
    have np := hnl p hp
    refine ⟨e _ _ hpf, k p _ _ e2 (by rw [upd_ne np]; exact hp') ?_⟩
    have memf : ∀ v, v ∈ added (isT tm (tm e0.pl)) id (L.map fun kv => kV kv.1) → v = .int e0.pl := fun v hv => by
      unfold added at hv
      rw [List.map_id, List.mem_filter] at hv
      obtain ⟨hv1, hv2⟩ := hv
      obtain ⟨kv, hkv, rfl⟩ := List.mem_map.mp hv1
      obtain ⟨e3, he3, z⟩ := h.keyAt (List.mem_map.mpr ⟨kv, hkv, rfl⟩)
      have z : kv.1 = Sum.inl e3.pl := z
      rw [z] at hv2 ⊢
      have : tm e3.pl = tm e0.pl := of_decide_eq_true hv2
      show V.int e3.pl = _
      rw [tmU e3 he3 this]
    refine all_eq (fun z => ?_) memf
    have : V.int e0.pl ∈ added (isT tm (tm e0.pl)) id (L.map fun kv => kV kv.1) := by
      unfold added
      rw [List.map_id, List.mem_filter]
      exact ⟨List.mem_map.mpr ⟨ent e0, h.mem_in h0, rfl⟩, decide_eq_true rfl⟩
    rw [z] at this
    cases this
end
end SwD
set_option Elab.async false
set_option linter.all false
set_option maxRecDepth 100000
set_option maxHeartbeats 4000000
namespace SwD
open PySem PySem.Spec PyProof.Rows L2 SwX StX Sw
local macro_rules | `(tactic| walk_at "lk") => `(tactic| first | exact lk_at | exact lk_no | ((refine' lk_by (by decide +kernel) ?wq); (case wq => walk_at "lk")))
local macro_rules | `(tactic| walk_at "pf") => `(tactic| first | exact pf_at | exact pf_nil | ((refine' pf_by (by decide +kernel) ?wq); (case wq => walk_at "pf")))
local macro_rules | `(tactic| walk_at "w1") => `(tactic| with_reducible first
  | refine w_seq ?_ | refine w_asg ?_ | refine w_name ?_ | refine w_ret ?_ | refine w_retN ?_ | refine w_drop ?_ | refine w_next ?_ | refine w_if ?_ | refine w_ifE ?_ | refine w_test ?_ | refine w_B ?_ | refine w_bl ?_
  | refine w_not ?_ | refine w_and ?_ | refine w_or ?_ | refine w_andV ?_ | refine w_orV ?_ | refine w_notV ?_ | refine w_isN ?_ | refine w_notN ?_ | refine w_yes ?_
  | refine w_c ?_ | refine w_op ?_ | refine w_un ?_ | refine w_i0 ?_ | refine w_neg ?_ | refine w_nil ?_ | refine w_cons ?_ | refine w_cb ?_ | refine w_call ?_ | refine w_tup ?_ | refine w_lst ?_
  | refine w_fld ?_ | refine w_sfld ?_ | refine w_match ?_ | refine w_case ?_ | refine w_mcons ?_ | refine w_mnil ?_ | refine w_mcap ?_ | refine w_many ?_ | refine w_myes ?_
  | refine w_sub ?_ | refine w_bm ?_ | refine w_sl ?_ | refine w_nopart ?_ | refine w_part ?_ | refine w_int ?_ | refine w_ift ?_ | refine w_iff ?_ | refine w_ifn ?_ | refine w_dget2 ?_ | refine w_star ?_ | refine w_dput ?_ | refine w_dnewK ?_ | refine w_meth ?_ | refine w_oneOf ?_ | refine w_make ?_ | refine w_lc ?_ | refine w_for ?_ | refine w_ilist ?_ | refine w_irng1 ?_ | refine w_irng2 ?_ | refine w_irng3 ?_)
local macro_rules | `(tactic| walk_at "w2") => `(tactic| first
  | ((with_reducible refine' w_var ?wh ?_); (case wh => rfl))
  | ((with_reducible refine' w_eq ?wh ?_); (case wh => rfl))
  | ((with_reducible refine' w_ne ?wh ?_); (case wh => rfl))
  | ((with_reducible refine' w_mno ?wh ?_); (case wh => decide +kernel))
  | ((with_reducible refine' w_mhit ?wh ?wl ?_); (case wh => assumption); (case wl => rfl))
  | ((with_reducible refine' w_mmiss ?wh ?wl ?_); (case wh => assumption); (case wl => simp))
  | ((with_reducible refine' w_fldA ?wh ?wc ?wn ?wl ?_); (case wh => first | assumption | exact upd_same); (case wc => assumption); (case wn => assumption); (case wl => walk_at "lk"))
  | ((with_reducible refine' w_ixl ?wh ?we ?_); (case wh => exact SqL.of (by first | assumption | exact upd_same)); (case we => rfl))
  | ((with_reducible refine' w_ixt ?wh ?we ?_); (case wh => assumption); (case we => rfl))
  | ((with_reducible refine' w_ifT ?wh ?_); (case wh => (with_reducible exact Eq.refl _)))
  | ((with_reducible refine' w_ifF ?wh ?_); (case wh => decide +kernel))
  | ((with_reducible refine' w_isiY ?wh ?wk ?_); (case wh => first | exact .int _ | exact .str _ | exact .lst (by assumption) | exact .tup (by assumption)); (case wk => decide +kernel))
  | ((with_reducible refine' w_isiN ?wh ?wk ?_); (case wh => first | exact .int _ | exact .str _ | exact .lst (by assumption) | exact .tup (by assumption)); (case wk => decide +kernel))
  | ((with_reducible refine' w_ifF ?wh ?_); (case wh => (intro z; cases z; done)))
  | ((with_reducible refine' w_setl ?wh ?we ?wl ?_); (case wh => first | assumption | exact upd_same); (case we => rfl); (case wl => rfl))
  | ((with_reducible refine' w_methA ?wh ?wl ?_); (case wh => first | assumption | exact upd_same); (case wl => walk_at "lk"))
  | ((with_reducible refine' w_sfldB ?wc ?wn ?wz ?wl ?_); (case wc => assumption); (case wn => assumption); (case wz => simp); (case wl => walk_at "pf"))
  | ((with_reducible refine' w_sfldA ?wh ?wc ?wn ?wz ?wl ?_); (case wh => assumption); (case wc => assumption); (case wn => assumption); (case wz => simp); (case wl => walk_at "pf")))
local macro_rules | `(tactic| walk_at "w") => `(tactic| repeat (first | walk_at "w1" | walk_at "w2" | (dsimp only [List.set, setAll, List.append, List.cons_append, List.nil_append])))
local macro_rules | `(tactic| walk_at "s1") => `(tactic| first
  | exact sd_lies | exact sd_used | exact sd_waits | exact sd_way | exact sd_story | exact sd_cells | exact sd_answers | exact sd_clock)
local macro_rules | `(tactic| walk_at "s2") => `(tactic| first
  | (with_reducible refine w_dget ?_) | (with_reducible refine w_din ?_) | (with_reducible refine w_dpop ?_) | (with_reducible refine w_ikeys ?_)
  | ((refine' w_stG ?wh ?we ?_); (case wh => assumption); (case we => walk_at "s1")))
local macro_rules | `(tactic| walk_at "s") => `(tactic| repeat (first | walk_at "w1" | walk_at "w2" | walk_at "s2" | (dsimp only [List.set, setAll, List.append, List.cons_append, List.nil_append])))

section
variable {K : PySem.W.Frag}
def spLaid (K : PySem.W.Frag) : Sp := fun vs H Q _ => ∃ A ck U L W wv sv tm m B room t q w, vs = [.ref A.p, .int room, .int t, .int q, .str (wdStr w)] ∧ LS H A ck U L W wv sv tm m B ∧ 1 ≤ room ∧ room ≤ 8 ∧ (m.shelf.length : Int) ≤ room ∧ (∀ e, e ∈ m.shelf → e.pl ≠ q) ∧ 0 ≤ q ∧ q < (m.cells.length : Int) ∧ B ≤ 90000 ∧ m.story.length ≤ 90000 ∧
  ∀ H' A' ck' U' L' W' sv' tm', LS H' A' ck' U' L' W' wv sv' tm' (lay room t w false q m) (B + 1) → Grown H A A' → A'.way = A.way → OutA A H H' → Q .non H'
def t_law_laid (K : PySem.W.Frag) : TS := tSeq (tIfS (tTest (tOp (rEq) (tCB (rLenD) (tCons (tDGet (tVar 0) (tC (.str "lies"))) (tNil))) (tVar 1))) (tSeq (tAsg (tOp (rIxL K) (tLockE (tLc (iKeys (tDGet (tVar 0) (tC (.str "lies")))) (gName 6) (tTest (tOp (rEq) (tDGet (tDGet (tVar 0) (tC (.str "used"))) (tVar 6)) (tCB (rMin K) (tCons (tLc (iKeys (tDGet (tVar 0) (tC (.str "lies")))) (gName 7) (tYes) (tDGet (tDGet (tVar 0) (tC (.str "used"))) (tVar 7)) [7]) (tNil))))) (tVar 6) [6])) (tC (.int 0))) (gName 5))
  (tSeq (tDrop (tBM K "list" rAppend (tDGet (tVar 0) (tC (.str "story"))) (tCons (tTup (tCons (tVar 2) (tCons (tIf (tTest (tOp (rIn K false) (tVar 5) (tDGet (tVar 0) (tC (.str "waits"))))) (tC (.str "waste")) (tC (.str "leave"))) (tCons (tVar 5) (tNil))))) (tNil))))
  (tSeq (sDPut (tVar 0) (tC (.str "waits")) (tLc (iList K (tDGet (tVar 0) (tC (.str "waits")))) (gName 6) (tTest (tOp (rNe) (tVar 6) (tVar 5))) (tVar 6) [6]))
  (tDrop (tDPop1 (tDGet (tVar 0) (tC (.str "lies"))) (tVar 5)))))) (tNext))
  (tSeq (sDPut (tVar 0) (tC (.str "clock")) (tOp (rAddI) (tDGet (tVar 0) (tC (.str "clock"))) (tC (.int 1))))
  (tSeq (sDPut (tDGet (tVar 0) (tC (.str "used"))) (tVar 3) (tDGet (tVar 0) (tC (.str "clock"))))
  (tSeq (sDPut (tDGet (tVar 0) (tC (.str "lies"))) (tVar 3) (tOp (rIxL K) (tDGet (tVar 0) (tC (.str "cells"))) (tVar 3)))
  (tDrop (tBM K "list" rAppend (tDGet (tVar 0) (tC (.str "story"))) (tCons (tTup (tCons (tVar 2) (tCons (tVar 4) (tCons (tVar 3) (tNil))))) (tNil)))))))
theorem waits_iff {H : Hp} {A : Ads} {ck : Int} {U L : List (Key × V)} {W : List Int} {wv sv : List V} {tm : Int → Int} {m : Mc} {B : Nat} (h : LS H A ck U L W wv sv tm m B) {e : En} (he : e ∈ m.shelf) : decide (e.pl ∈ W) = e.waits := by
  cases c : e.waits with
  | true => exact decide_eq_true ((h.waits e.pl).mpr ⟨e, he, rfl, c⟩)
  | false =>
    refine decide_eq_false fun z => ?_
    obtain ⟨e', h1, h2, h3⟩ := (h.waits e.pl).mp z
    rw [inj_of_nodup h.uniq h1 he h2, c] at h3
    cases h3
theorem lay_full {room t q : Int} {w : Wd} {m : Mc} {e0 : En} {rest : List En} (hs : m.shelf = e0 :: rest) (hr : (m.shelf.length : Int) = room) :
    lay room t w false q m = downed t w q { m with shelf := rest, story := m.story ++ [(t, if e0.waits then Wd.waste else Wd.leave, e0.pl)] } := by
  unfold lay downed stays leaves gone
  rw [if_pos hr, if_pos hr, hs]
  simp
theorem lay_some {room t q : Int} {w : Wd} {m : Mc} (hr : (m.shelf.length : Int) ≠ room) : lay room t w false q m = downed t w q m := by
  unfold lay downed stays leaves gone
  rw [if_neg hr, if_neg hr]
  simp
theorem nodup_len : ∀ {l k : List Int}, l.Nodup → (∀ x, x ∈ l → x ∈ k) → l.length ≤ k.length
  | [], _, _, _ => Nat.zero_le _
  | x :: l, k, nd, h => by
    obtain ⟨n1, n2⟩ := List.nodup_cons.mp nd
    have hx := h x List.mem_cons_self
    have := nodup_len (l := l) (k := k.erase x) n2 (fun y hy => (List.mem_erase_of_ne (fun z => n1 (by rw [← z]; exact hy))).mpr (h y (List.mem_cons_of_mem _ hy)))
    rw [List.length_erase_of_mem hx] at this
    have : 0 < k.length := List.length_pos_of_mem hx
    rw [List.length_cons]
    omega
theorem w_word {b : Bool} {σ : L2.St} {H : Hp} {Q : VK} (k : Q (.str (wdStr (if b = true then Wd.waste else Wd.leave))) H) : if b = true then tC (.str "waste") σ H Q else tC (.str "leave") σ H Q := by
  cases b <;> exact k
theorem o_none {H H' : Hp} (e : Same H H') {a : Addr} (h : H' a = none) : H a = none := by
  cases z : H a with
  | none => rfl
  | some o => rw [e _ _ z] at h; cases h
theorem oa_none {A : Ads} {H H' : Hp} (e : OutA A H H') {a : Addr} (n : ¬ InA A a) (h : H' a = none) : H a = none := by
  cases z : H a with
  | none => rfl
  | some o => rw [e _ _ z n] at h; cases h
theorem pu_law_laid {vs : List V} {H : Hp} {Q : VK} {E : XK} (h : spLaid K vs H Q E) : t_law_laid K (B Q) (start ["_law_s", "_law_room", "_law_turn", "_law_place", "_law_word", "_law_old", "_law_one", "_law_other"] vs) H := by
  obtain ⟨A, ck, U, L, W, wv, sv, tm, m, Bd, room, t, q, w, rfl, h, r1, r8, hl, hq, q0, q1, hb, hst, k⟩ := h
  unfold t_law_laid
  walk_at "s"
  refine ⟨_, _, rfl, h.hlies, ?_⟩
  walk_at "s"
  have hLl : L.length = m.shelf.length := by rw [h.perm.length_eq, List.length_map]
  have hsv : sv.length = m.story.length := h.evs.len.symm
  refine w_if2 (fun c => ?_) (fun c => ?_)
  · have c : (m.shelf.length : Int) = room := by
      have c : (L.length : Int) = room := by simpa using c
      omega
    obtain ⟨e0, rest, hs⟩ : ∃ e0 rest, m.shelf = e0 :: rest := by
      cases e : m.shelf with
      | nil => rw [e] at c; simp at c; omega
      | cons a r => exact ⟨a, r, rfl⟩
    have h0 : e0 ∈ m.shelf := by rw [hs]; exact List.mem_cons_self
    have un := h.uniq
    rw [hs] at un
    obtain ⟨n1, n2⟩ := List.nodup_cons.mp (by simpa using un : (e0.pl :: rest.map (·.pl)).Nodup)
    refine w_seq (w_asg (w_op ?_))
    refine the_old h hs (by omega) (fun p H1 xs e1 hp hat => ?_)
    have h1 := h.same e1
    walk_at "s"
    refine w_ixl (SqL.of hp) hat ?_
    walk_at "s"
    refine ⟨.inl ⟨rfl, _, SqL.of h1.hstory⟩, ?_⟩
    walk_at "s"
    refine w_inl (SqL.of h1.hwaits) ?_
    rw [if_neg (by decide), waits_iff h1 h0]
    walk_at "s"
    refine w_word ?_
    generalize hwd : (if e0.waits = true then Wd.waste else Wd.leave) = wd
    walk_at "s"
    refine ⟨small_le (by simp), w_new fun p2 H2 hp2 e2 h2t => ?_⟩
    have h2 := h1.same e2
    walk_at "s"
    refine w_app h2.hstory (small_lt (by omega)) ?_
    have h3 := h2.tell (ev := (t, wd, e0.pl)) (v := .ref p2) ⟨p2, rfl, h2t⟩
    have o3 : OutA A H2 _ := outA_upd (H := H2) (u := .lst (sv ++ [V.ref p2])) (.inr (.inr (.inr (.inr (.inr (.inr (.inl rfl)))))) : InA A A.story)
    generalize upd H2 A.story (.lst (sv ++ [V.ref p2])) = H3 at h3 o3 ⊢
    refine w_seq (w_dput ?_)
    refine w_lc (w_ilist (w_dget ?_))
    walk_at "s"
    refine w_lcl (neV e0.pl) id (SqL.of h3.hwaits) (small_lt ?_) (fun _ => rfl) (fun v hv H' s R r => ?_) (fun v hv _ H' s R r => ?_) (fun w1 H4 hw1 e4 h4w => ?_)
    · rw [List.length_map]
      have h9 : W.length ≤ 100 := by
        have hsub : W.length ≤ (m.shelf.map (·.pl)).length := nodup_len h.wnd (fun x hx => by
          obtain ⟨e, h5, h6, _⟩ := (h.waits x).mp hx
          exact List.mem_map.mpr ⟨e, h5, h6⟩)
        rw [List.length_map] at hsub
        omega
      omega
    · obtain ⟨x, _, rfl⟩ := List.mem_map.mp hv
      refine w_test (w_op ?_)
      walk_at "w"
      have e9 : (!decide (V.int x = V.int e0.pl)) = neV e0.pl (.int x) := by
        show _ = !decide (x = e0.pl)
        congr 1
        by_cases c2 : x = e0.pl
        · rw [decide_eq_true c2, c2]
          exact decide_eq_true rfl
        · rw [decide_eq_false c2]
          exact decide_eq_false (fun z => c2 (by injection z))
      rw [e9]
      exact r _ (Same.refl _)
    · walk_at "w"
      exact r _ (Same.refl _)
    rw [added_ne] at h4w
    have h4 := h3.same e4
    walk_at "s"
    refine w_putS h4.hp (by show 8 < sizeLine; decide) put_waits ?_
    have h5 := h4.unwait h4w (fun b hb => inA_ne h3 hw1 hb)
    have o5 : OutA A H4 _ := outA_upd (H := H4) (u := .dK (sd { A with waits := w1 } ck)) (.inl rfl : InA A A.p)
    have g5 : Grown H A { A with waits := w1 } := ⟨rfl, rfl, rfl, rfl, rfl, rfl, .inr (o_none e1 (o_none e2 (oa_none o3 (fun z => inA_ne h3 hw1 z rfl) hw1))), .inl (.inr (.inr (.inr (.inr (.inl rfl)))))⟩
    generalize upd H4 A.p (.dK (sd { A with waits := w1 } ck)) = H5 at h5 o5 ⊢
    walk_at "s"
    refine w_stG (A := { A with waits := w1 }) h5 sd_lies ?_
    refine ⟨A.lies, rfl, .inl ⟨L, .inl h5.hlies⟩, ?_⟩
    walk_at "s"
    refine ⟨L, Sum.inl e0.pl, .int e0.num, h5.hlies, rfl, h.num h0, ?_⟩
    have hs5 : m.shelf.map (clear e0.pl) = clear e0.pl e0 :: rest.map (clear e0.pl) := by rw [hs]; rfl
    have hr5 : rest.map (clear e0.pl) = rest := by
      conv => rhs; rw [← List.map_id rest]
      apply List.map_congr_left
      intro e he
      unfold clear
      rw [if_neg (fun z => n1 (by rw [← z]; exact List.mem_map_of_mem he))]
      rfl
    have h6 := h5.pop (e0 := clear e0.pl e0) (rest := rest.map (clear e0.pl)) hs5 (by unfold clear; rw [if_pos rfl])
    rw [clear_pl, hr5] at h6
    have o6 : OutA { A with waits := w1 } H5 _ := outA_upd (H := H5) (u := .dK (dropK L (Sum.inl e0.pl : Key))) (.inr (.inr (.inr (.inr (.inr (.inl rfl))))) : InA { A with waits := w1 } A.lies)
    generalize upd H5 A.lies (.dK (dropK L (Sum.inl e0.pl : Key))) = H6 at h6 o6 ⊢
    rw [lay_full hs c, hwd] at k
    have hsl : rest.length ≤ 100 := by
      rw [hs, List.length_cons] at c
      omega
    have h6 : LS H6 { A with waits := w1 } ck U (dropK L (Sum.inl e0.pl : Key)) (W.filter fun x => decide (x ≠ e0.pl)) wv (sv ++ [V.ref p2]) tm { m with shelf := rest, story := m.story ++ [(t, wd, e0.pl)] } Bd := h6
    refine laid_tail (A := { A with waits := w1 }) h6 (fun e he => hq e (by rw [hs]; exact List.mem_cons_of_mem _ he)) q0 q1 (by omega) (by show (m.story ++ [_]).length ≤ _; rw [List.length_append]; show _ + 1 ≤ _; omega) hsl (fun H' U' L' sv' tm' h' o => ?_)
    refine k H' { A with waits := w1 } _ U' L' _ sv' tm' h' g5 rfl ?_
    have o05 : OutA A H H5 := (((outA_same (e1.trans e2)).trans .refl o3).trans .refl (outA_same e4)).trans .refl o5
    exact o05.trans g5 (o6.trans .refl o)
  · have c : (m.shelf.length : Int) ≠ room := by
      have c : ¬ (L.length : Int) = room := by simpa using c
      omega
    walk_at "w1"
    rw [lay_some c] at k
    exact laid_tail h hq q0 q1 (by omega) (by omega) (by omega) (fun H' U' L' sv' tm' h' o => k H' A _ U' L' W sv' tm' h' .refl rfl o)
end
end SwD
set_option Elab.async false
set_option linter.all false
set_option maxRecDepth 100000
set_option maxHeartbeats 4000000
namespace SwD
open PySem PySem.Spec PyProof.Rows L2 SwX StX Sw
local macro_rules | `(tactic| walk_at "lk") => `(tactic| first | exact lk_at | exact lk_no | ((refine' lk_by (by decide +kernel) ?wq); (case wq => walk_at "lk")))
local macro_rules | `(tactic| walk_at "pf") => `(tactic| first | exact pf_at | exact pf_nil | ((refine' pf_by (by decide +kernel) ?wq); (case wq => walk_at "pf")))
local macro_rules | `(tactic| walk_at "w1") => `(tactic| with_reducible first
  | refine w_seq ?_ | refine w_asg ?_ | refine w_name ?_ | refine w_ret ?_ | refine w_retN ?_ | refine w_drop ?_ | refine w_next ?_ | refine w_if ?_ | refine w_ifE ?_ | refine w_test ?_ | refine w_B ?_ | refine w_bl ?_
  | refine w_not ?_ | refine w_and ?_ | refine w_or ?_ | refine w_andV ?_ | refine w_orV ?_ | refine w_notV ?_ | refine w_isN ?_ | refine w_notN ?_ | refine w_yes ?_
  | refine w_c ?_ | refine w_op ?_ | refine w_un ?_ | refine w_i0 ?_ | refine w_neg ?_ | refine w_nil ?_ | refine w_cons ?_ | refine w_cb ?_ | refine w_call ?_ | refine w_tup ?_ | refine w_lst ?_
  | refine w_fld ?_ | refine w_sfld ?_ | refine w_match ?_ | refine w_case ?_ | refine w_mcons ?_ | refine w_mnil ?_ | refine w_mcap ?_ | refine w_many ?_ | refine w_myes ?_
  | refine w_sub ?_ | refine w_bm ?_ | refine w_sl ?_ | refine w_nopart ?_ | refine w_part ?_ | refine w_int ?_ | refine w_ift ?_ | refine w_iff ?_ | refine w_ifn ?_ | refine w_dget2 ?_ | refine w_star ?_ | refine w_dput ?_ | refine w_dnewK ?_ | refine w_meth ?_ | refine w_oneOf ?_ | refine w_make ?_ | refine w_lc ?_ | refine w_for ?_ | refine w_ilist ?_ | refine w_irng1 ?_ | refine w_irng2 ?_ | refine w_irng3 ?_)
local macro_rules | `(tactic| walk_at "w2") => `(tactic| first
  | ((with_reducible refine' w_var ?wh ?_); (case wh => rfl))
  | ((with_reducible refine' w_eq ?wh ?_); (case wh => rfl))
  | ((with_reducible refine' w_ne ?wh ?_); (case wh => rfl))
  | ((with_reducible refine' w_mno ?wh ?_); (case wh => decide +kernel))
  | ((with_reducible refine' w_mhit ?wh ?wl ?_); (case wh => assumption); (case wl => rfl))
  | ((with_reducible refine' w_mmiss ?wh ?wl ?_); (case wh => assumption); (case wl => simp))
  | ((with_reducible refine' w_fldA ?wh ?wc ?wn ?wl ?_); (case wh => first | assumption | exact upd_same); (case wc => assumption); (case wn => assumption); (case wl => walk_at "lk"))
  | ((with_reducible refine' w_ixl ?wh ?we ?_); (case wh => exact SqL.of (by first | assumption | exact upd_same)); (case we => rfl))
  | ((with_reducible refine' w_ixt ?wh ?we ?_); (case wh => assumption); (case we => rfl))
  | ((with_reducible refine' w_ifT ?wh ?_); (case wh => (with_reducible exact Eq.refl _)))
  | ((with_reducible refine' w_ifF ?wh ?_); (case wh => decide +kernel))
  | ((with_reducible refine' w_isiY ?wh ?wk ?_); (case wh => first | exact .int _ | exact .str _ | exact .lst (by assumption) | exact .tup (by assumption)); (case wk => decide +kernel))
  | ((with_reducible refine' w_isiN ?wh ?wk ?_); (case wh => first | exact .int _ | exact .str _ | exact .lst (by assumption) | exact .tup (by assumption)); (case wk => decide +kernel))
  | ((with_reducible refine' w_ifF ?wh ?_); (case wh => (intro z; cases z; done)))
  | ((with_reducible refine' w_setl ?wh ?we ?wl ?_); (case wh => first | assumption | exact upd_same); (case we => rfl); (case wl => rfl))
  | ((with_reducible refine' w_methA ?wh ?wl ?_); (case wh => first | assumption | exact upd_same); (case wl => walk_at "lk"))
  | ((with_reducible refine' w_sfldB ?wc ?wn ?wz ?wl ?_); (case wc => assumption); (case wn => assumption); (case wz => simp); (case wl => walk_at "pf"))
  | ((with_reducible refine' w_sfldA ?wh ?wc ?wn ?wz ?wl ?_); (case wh => assumption); (case wc => assumption); (case wn => assumption); (case wz => simp); (case wl => walk_at "pf")))
local macro_rules | `(tactic| walk_at "w") => `(tactic| repeat (first | walk_at "w1" | walk_at "w2" | (dsimp only [List.set, setAll, List.append, List.cons_append, List.nil_append])))
local macro_rules | `(tactic| walk_at "s1") => `(tactic| first
  | exact sd_lies | exact sd_used | exact sd_waits | exact sd_way | exact sd_story | exact sd_cells | exact sd_answers | exact sd_clock)
local macro_rules | `(tactic| walk_at "s2") => `(tactic| first
  | (with_reducible refine w_dget ?_) | (with_reducible refine w_din ?_) | (with_reducible refine w_dpop ?_) | (with_reducible refine w_ikeys ?_)
  | ((refine' w_stG ?wh ?we ?_); (case wh => assumption); (case we => walk_at "s1")))
local macro_rules | `(tactic| walk_at "s") => `(tactic| repeat (first | walk_at "w1" | walk_at "w2" | walk_at "s2" | (dsimp only [List.set, setAll, List.append, List.cons_append, List.nil_append])))

/-- what a place on the way is, read off the heap -/
def wayOf (H : Hp) : V → Int × Int
  | .ref a => match H a with
    | some (.tup [.int p, .int t]) => (p, t)
    | _ => (0, 0)
  | _ => (0, 0)
theorem wayOf_at {H : Hp} {x : Int × Int} {v : V} (h : WayAt H x v) : wayOf H v = x := by
  obtain ⟨a, rfl, h⟩ := h
  simp only [wayOf, h]
section
variable {K : PySem.W.Frag} {H : Hp} {A : Ads} {ck : Int} {U L : List (Key × V)} {W : List Int} {wv sv : List V} {tm : Int → Int} {m : Mc} {B : Nat}
/-- what is on the way is told anew -/
theorem LS.reway {y : Addr} {wv' : List V} {way' : List (Int × Int)} (h : LS H A ck U L W wv sv tm m B) (hy : H y = some (.lst wv')) (hw : All2 (WayAt H) way' wv') (fr : ∀ b, InA A b → b ≠ y) :
    LS (upd H A.p (.dK (sd { A with way := y } ck))) { A with way := y } ck U L W wv' sv tm { m with way := way' } B := by
  have tk : TKeep H (upd H A.p (.dK (sd { A with way := y } ck))) := tk_dk h.hp
  refine ⟨upd_same, ?_, ?_, ?_, ?_, ?_, ?_, ?_, ⟨h.ap.pu, h.ap.pl, h.ap.ul, h.ap.cw, fr _ (.inr (.inl rfl)), h.ap.cs, h.ap.ca, fr _ (.inr (.inr (.inr (.inl rfl)))), h.ap.ws, h.ap.wa, (fr _ (.inr (.inr (.inr (.inr (.inr (.inr (.inl rfl)))))))).symm, (fr _ (.inr (.inr (.inr (.inr (.inr (.inr (.inr rfl)))))))).symm, h.ap.sa⟩, h.times, h.asc, h.perm, h.waits, h.wnd, hw.imp (way_keep tk), h.evs.imp (ev_keep tk), h.ck0, h.ulen, h.cks⟩
  · show upd H A.p _ A.cells = _
    rw [upd_ne (ld_ne h.hcells h.hp)]; exact h.hcells
  · show upd H A.p _ A.used = _
    rw [upd_ne h.ap.pu.symm]; exact h.hused
  · show upd H A.p _ A.lies = _
    rw [upd_ne h.ap.pl.symm]; exact h.hlies
  · show upd H A.p _ A.waits = _
    rw [upd_ne (ld_ne h.hwaits h.hp)]; exact h.hwaits
  · show upd H A.p _ y = _
    rw [upd_ne (ld_ne hy h.hp)]; exact hy
  · show upd H A.p _ A.story = _
    rw [upd_ne (ld_ne h.hstory h.hp)]; exact h.hstory
  · show upd H A.p _ A.answers = _
    rw [upd_ne (ld_ne h.hanswers h.hp)]; exact h.hanswers
theorem LS.wlen (h : LS H A ck U L W wv sv tm m B) : W.length ≤ m.shelf.length := by
  have hsub : W.length ≤ (m.shelf.map (·.pl)).length := nodup_len h.wnd (fun x hx => by
    obtain ⟨e, h5, h6, _⟩ := (h.waits x).mp hx
    exact List.mem_map.mpr ⟨e, h5, h6⟩)
  rw [List.length_map] at hsub
  exact hsub
end
theorem asked_on {c : Cfg} {t : Int} {m : Mc} {e0 : En} (un : (m.shelf.map (·.pl)).Nodup) (h : e0 ∈ m.shelf) : asked c t e0.pl m = { m with shelf := m.shelf.filter (fun e => decide (e.pl ≠ e0.pl)) ++ [⟨e0.pl, e0.num, false⟩], story := m.story ++ [(t, if e0.waits = true then Wd.first else Wd.hit, e0.pl)] } := by
  unfold asked
  cases e : m.shelf.find? fun e => decide (e.pl = e0.pl) with
  | none =>
    have := find_on.mp e
    rw [onShelf_iff.mpr ⟨e0, h, rfl⟩] at this
    cases this
  | some e1 =>
    have h1 := List.mem_of_find?_eq_some e
    have h2 : e1.pl = e0.pl := by simpa using List.find?_some e
    have := inj_of_nodup un h1 h h2
    subst this
    rfl
theorem asked_off {c : Cfg} {t q : Int} {m : Mc} (h : onShelf m.shelf q = false) : asked c t q m = lay c.room t (if (m.way.any fun x => decide (x.1 = q)) = true then Wd.late else Wd.miss) false q { m with way := m.way.filter fun x => decide (x.1 ≠ q) } := by
  unfold asked
  rw [find_on.mpr h]
theorem w_word2 {b : Bool} {σ : L2.St} {H : Hp} {Q : VK} (k : Q (.str (wdStr (if b = true then Wd.first else Wd.hit))) H) : if b = true then tC (.str "first") σ H Q else tC (.str "hit") σ H Q := by
  cases b <;> exact k
theorem w_word3 {b : Bool} {σ : L2.St} {H : Hp} {Q : VK} (k : Q (.str (wdStr (if b = true then Wd.miss else Wd.late))) H) : if b = true then tC (.str "miss") σ H Q else tC (.str "late") σ H Q := by
  cases b <;> exact k
section
variable {K : PySem.W.Frag}
def spAsked (K : PySem.W.Frag) : Sp := fun vs H Q _ => ∃ A ck U L W wv sv tm m B room t q, vs = [.ref A.p, .int room, .int t, .int q] ∧ LS H A ck U L W wv sv tm m B ∧ 1 ≤ room ∧ room ≤ 8 ∧ (m.shelf.length : Int) ≤ room ∧ 0 ≤ q ∧ q < (m.cells.length : Int) ∧ B ≤ 80000 ∧ m.story.length ≤ 80000 ∧ m.way.length ≤ 1000 ∧
  ∀ H' A' ck' U' L' W' wv' sv' tm', (∀ c : Cfg, c.room = room → LS H' A' ck' U' L' W' wv' sv' tm' (asked c t q m) (B + 1)) → Grown H A A' → OutA A H H' → Q .non H'
def t_law_asked (K : PySem.W.Frag) (sp_law_laid : Sp) : TS := tSeq (tIfS (tB (tDIn (tVar 3) (tDGet (tVar 0) (tC (.str "lies"))))) (tSeq (sDPut (tVar 0) (tC (.str "clock")) (tOp (rAddI) (tDGet (tVar 0) (tC (.str "clock"))) (tC (.int 1))))
  (tSeq (sDPut (tDGet (tVar 0) (tC (.str "used"))) (tVar 3) (tDGet (tVar 0) (tC (.str "clock"))))
  (tSeq (tDrop (tBM K "list" rAppend (tDGet (tVar 0) (tC (.str "story"))) (tCons (tTup (tCons (tVar 2) (tCons (tIf (tTest (tOp (rIn K false) (tVar 3) (tDGet (tVar 0) (tC (.str "waits"))))) (tC (.str "first")) (tC (.str "hit"))) (tCons (tVar 3) (tNil))))) (tNil))))
  (tSeq (sDPut (tVar 0) (tC (.str "waits")) (tLc (iList K (tDGet (tVar 0) (tC (.str "waits")))) (gName 6) (tTest (tOp (rNe) (tVar 6) (tVar 3))) (tVar 6) [6]))
  (tRetN))))) (tNext))
  (tSeq (tAsg (tLc (iList K (tDGet (tVar 0) (tC (.str "way")))) (gName 7) (tTest (tOp (rNe) (tOp (rIxT K) (tVar 7) (tC (.int 0))) (tVar 3))) (tVar 7) [7]) (gName 4))
  (tSeq (tAsg (tIf (tTest (tOp (rEq) (tCB (rLenQ K) (tCons (tVar 4) (tNil))) (tCB (rLenQ K) (tCons (tDGet (tVar 0) (tC (.str "way"))) (tNil))))) (tC (.str "miss")) (tC (.str "late"))) (gName 5))
  (tSeq (sDPut (tVar 0) (tC (.str "way")) (tVar 4))
  (tDrop (tCall sp_law_laid [] E0 (tCons (tVar 0) (tCons (tVar 1) (tCons (tVar 2) (tCons (tVar 3) (tCons (tVar 5) (tNil)))))))))))
theorem pu_law_asked {vs : List V} {H : Hp} {Q : VK} {E : XK} (h : spAsked K vs H Q E) : t_law_asked K (spLaid K) (B Q) (start ["_law_s", "_law_room", "_law_turn", "_law_place", "_law_rest", "_law_word", "_law_one", "_law_pair"] vs) H := by
  obtain ⟨A, ck, U, L, W, wv, sv, tm, m, Bd, room, t, q, rfl, h, r1, r8, hl, q0, q1, hb, hst, hwy, k⟩ := h
  have hsv : sv.length = m.story.length := h.evs.len.symm
  have hU : U.length < sizeLine := by
    have := h.ulen
    have := h.cks
    exact small_lt (by omega)
  unfold t_law_asked
  walk_at "s"
  refine w_dinI (.inl h.hlies) ?_
  rw [h.on]
  walk_at "s"
  cases hon : onShelf m.shelf q with
  | true =>
    obtain ⟨e0, he0, rfl⟩ := onShelf_iff.mp hon
    have wi := waits_iff h he0
    have wl := h.wlen
    have askd : ∀ c : Cfg, asked c t e0.pl m = _ := fun c => asked_on (c := c) (t := t) h.uniq he0
    refine w_ift ?_
    refine w_seq (w_dput ?_)
    walk_at "s"
    refine w_putS h.hp (by show 8 < sizeLine; decide) put_clock ?_
    have h1 := h.tick
    have o1 : OutA A H _ := outA_upd (H := H) (u := .dK (sd A (ck + 1))) (.inl rfl : InA A A.p)
    generalize upd H A.p (.dK (sd A (ck + 1))) = H1 at h1 o1 ⊢
    refine w_seq (w_dput ?_)
    walk_at "s"
    refine w_putI h1.hused hU ?_
    have h2 := h1.touch (by have := h.ulen; have := h.ck0; omega) (fun e he => by have := (h.times e he).2; omega) he0
    have o2 : OutA A H1 _ := outA_upd (H := H1) (u := .dK (putK U (Sum.inl e0.pl : Key) (.int (ck + 1)))) (.inr (.inr (.inl rfl)) : InA A A.used)
    generalize upd H1 A.used (.dK (putK U (Sum.inl e0.pl : Key) (.int (ck + 1)))) = H2 at h2 o2 ⊢
    walk_at "s"
    refine ⟨.inl ⟨rfl, _, SqL.of h2.hstory⟩, ?_⟩
    walk_at "s"
    refine w_inl (SqL.of h2.hwaits) ?_
    rw [if_neg (by decide), wi]
    walk_at "s"
    refine w_word2 ?_
    generalize hwd : (if e0.waits = true then Wd.first else Wd.hit) = wd at askd ⊢
    walk_at "s"
    refine ⟨small_le (by simp), w_new fun p2 H3 hp2 e3 h3t => ?_⟩
    have h3 := h2.same e3
    walk_at "s"
    refine w_app h3.hstory (small_lt (by omega)) ?_
    have h4 := h3.tell (ev := (t, wd, e0.pl)) (v := .ref p2) ⟨p2, rfl, h3t⟩
    have o4 : OutA A H3 _ := outA_upd (H := H3) (u := .lst (sv ++ [V.ref p2])) (.inr (.inr (.inr (.inr (.inr (.inr (.inl rfl)))))) : InA A A.story)
    generalize upd H3 A.story (.lst (sv ++ [V.ref p2])) = H4 at h4 o4 ⊢
    refine w_seq (w_dput ?_)
    refine w_lc (w_ilist (w_dget ?_))
    walk_at "s"
    refine w_lcl (neV e0.pl) id (SqL.of h4.hwaits) (small_lt (by rw [List.length_map]; omega)) (fun _ => rfl) (fun v hv H' s R r => ?_) (fun v hv _ H' s R r => ?_) (fun w1 H5 hw1 e5 h5w => ?_)
    · obtain ⟨x, _, rfl⟩ := List.mem_map.mp hv
      refine w_test (w_op ?_)
      walk_at "w"
      have e9 : (!decide (V.int x = V.int e0.pl)) = neV e0.pl (.int x) := by
        show _ = !decide (x = e0.pl)
        congr 1
        by_cases c2 : x = e0.pl
        · rw [decide_eq_true c2, c2]
          exact decide_eq_true rfl
        · rw [decide_eq_false c2]
          exact decide_eq_false (fun z => c2 (by injection z))
      rw [e9]
      exact r _ (Same.refl _)
    · walk_at "w"
      exact r _ (Same.refl _)
    rw [added_ne] at h5w
    have h5 := h4.same e5
    walk_at "s"
    refine w_putS h5.hp (by show 8 < sizeLine; decide) put_waits ?_
    have h6 := h5.unwait h5w (fun b hb => inA_ne h4 hw1 hb)
    have o6 : OutA A H5 _ := outA_upd (H := H5) (u := .dK (sd { A with waits := w1 } (ck + 1))) (.inl rfl : InA A A.p)
    have o04 : OutA A H H4 := ((o1.trans .refl o2).trans .refl (outA_same e3)).trans .refl o4
    have g6 : Grown H A { A with waits := w1 } := ⟨rfl, rfl, rfl, rfl, rfl, rfl, out_noneA o04 hw1, .inl (.inr (.inr (.inr (.inr (.inl rfl)))))⟩
    generalize upd H5 A.p (.dK (sd { A with waits := w1 } (ck + 1))) = H6 at h6 o6 ⊢
    have cl : (m.shelf.filter (fun e => decide (e.pl ≠ e0.pl)) ++ [e0]).map (clear e0.pl) = m.shelf.filter (fun e => decide (e.pl ≠ e0.pl)) ++ [⟨e0.pl, e0.num, false⟩] := by
      rw [List.map_append]
      congr 1
      · conv => rhs; rw [← List.map_id (m.shelf.filter _)]
        apply List.map_congr_left
        intro e he
        have : e.pl ≠ e0.pl := by simpa using (List.mem_filter.mp he).2
        unfold clear
        rw [if_neg this]
        rfl
      · show [clear e0.pl e0] = _
        unfold clear
        rw [if_pos rfl]
    walk_at "s"
    refine k H6 { A with waits := w1 } (ck + 1) (putK U (Sum.inl e0.pl : Key) (.int (ck + 1))) L (W.filter fun x => decide (x ≠ e0.pl)) wv (sv ++ [V.ref p2]) (used tm e0.pl (ck + 1)) (fun c _ => ?_) g6 ((o04.trans .refl (outA_same e5)).trans .refl o6)
    rw [askd c]
    have h6 : LS H6 { A with waits := w1 } (ck + 1) _ _ _ _ _ _ { m with shelf := (m.shelf.filter (fun e => decide (e.pl ≠ e0.pl)) ++ [e0]).map (clear e0.pl), story := m.story ++ [(t, wd, e0.pl)] } (Bd + 1) := h6
    rw [cl] at h6
    exact h6
  | false =>
    have askd : ∀ c : Cfg, asked c t q m = _ := fun c => asked_off (c := c) (t := t) hon
    refine w_iff ?_
    refine w_next ?_
    dsimp only
    refine w_seq (w_asg (w_lc (w_ilist (w_dget ?_))))
    walk_at "s"
    have hwl : wv.length = m.way.length := h.ways.len.symm
    refine w_lcl (fun v => decide ((wayOf H v).1 ≠ q)) id (SqL.of h.hway) (small_lt (by omega)) (fun _ => rfl) (fun v hv H' s R r => ?_) (fun v hv _ H' s R r => ?_) (fun y H1 hy e1 h1y => ?_)
    · obtain ⟨x, _, hx⟩ := h.ways.mem hv
      have e8 := wayOf_at hx
      obtain ⟨b, rfl, hbt⟩ := hx
      have hbt' := SqT.of (K := K) (s _ _ hbt)
      refine w_test (w_op (w_op ?_))
      walk_at "w"
      have e9 : (!decide (V.int x.1 = V.int q)) = decide ((wayOf H (.ref b)).1 ≠ q) := by
        rw [e8]
        by_cases c2 : x.1 = q
        · simp [c2]
        · simp [c2]
      rw [e9]
      exact r _ (Same.refl _)
    · walk_at "w"
      exact r _ (Same.refl _)
    have ead : added (fun v => decide ((wayOf H v).1 ≠ q)) id wv = wv.filter (fun v => decide ((wayOf H v).1 ≠ q)) := by
      unfold added
      rw [List.map_id]
    rw [ead] at h1y
    have hw1 : All2 (WayAt H) (m.way.filter fun x => decide (x.1 ≠ q)) (wv.filter fun v => decide ((wayOf H v).1 ≠ q)) := h.ways.filter (fun x v hx => by rw [wayOf_at hx])
    have hle := hw1.len
    have h1 := h.same e1
    walk_at "s"
    refine w_len (.inl (SqL.of h1y)) ?_
    walk_at "s"
    refine w_len (.inl (SqL.of h1.hway)) ?_
    walk_at "s"
    refine w_word3 ?_
    have hwd : (if decide (V.int ((wv.filter fun v => decide ((wayOf H v).1 ≠ q)).length : Int) = V.int (wv.length : Int)) = true then Wd.miss else Wd.late) = (if (m.way.any fun x => decide (x.1 = q)) = true then Wd.late else Wd.miss) := by
      have iff : ((m.way.filter fun x => decide (x.1 ≠ q)).length = m.way.length) ↔ ¬ (m.way.any fun x => decide (x.1 = q)) = true := by
        rw [List.length_filter_eq_length_iff, List.any_eq_true]
        constructor
        · rintro z ⟨x, hx, e⟩
          exact (of_decide_eq_true (z x hx)) (of_decide_eq_true e)
        · intro z x hx
          exact decide_eq_true (fun e => z ⟨x, hx, decide_eq_true e⟩)
      by_cases c2 : (m.way.any fun x => decide (x.1 = q)) = true
      · rw [if_pos c2, if_neg]
        intro z
        have z := of_decide_eq_true z
        injection z with z
        exact (iff.mp (by omega)) c2
      · rw [if_neg c2, if_pos]
        have := iff.mpr c2
        refine decide_eq_true ?_
        congr 1
        omega
    rw [hwd]
    generalize (if (m.way.any fun x => decide (x.1 = q)) = true then Wd.late else Wd.miss) = wd at askd ⊢
    walk_at "s"
    refine w_putS h1.hp (by show 8 < sizeLine; decide) put_way ?_
    have h2 := h1.reway h1y (hw1.imp (way_keep (tk_same e1))) (fun b hb => inA_ne h hy hb)
    have o2 : OutA A H1 _ := outA_upd (H := H1) (u := .dK (sd { A with way := y } ck)) (.inl rfl : InA A A.p)
    have g2 : Grown H A { A with way := y } := ⟨rfl, rfl, rfl, rfl, rfl, rfl, .inl (.inr (.inr (.inr (.inl rfl)))), .inr hy⟩
    generalize upd H1 A.p (.dK (sd { A with way := y } ck)) = H2 at h2 o2 ⊢
    have o02 : OutA A H H2 := (outA_same e1).trans .refl o2
    walk_at "s"
    refine ⟨{ A with way := y }, ck, U, L, W, _, sv, tm, _, Bd, room, t, q, wd, rfl, h2, r1, r8, hl, fun e he z => ?_, q0, q1, by omega, by show m.story.length ≤ _; omega, fun H' A' ck' U' L' W' sv' tm' h' g' _ o' => ?_⟩
    · rw [onShelf_iff.mpr ⟨e, he, z⟩] at hon
      cases hon
    · refine k H' A' ck' U' L' W' (wv.filter fun v => decide ((wayOf H v).1 ≠ q)) sv' tm' (fun c hc => ?_) (g2.trans o02 g') (o02.trans g2 o')
      rw [askd c, hc]
      exact h'
end
end SwD
set_option autoImplicit false
set_option linter.all false
namespace Sw
/-! ### counts of a story -/
def cnt (w : Wd) (st : List Ev) : Nat := st.countP fun e => decide (e.2.1 = w)
theorem cnt_nil (w : Wd) : cnt w [] = 0 := rfl
theorem cnt_append (w : Wd) (a b : List Ev) : cnt w (a ++ b) = cnt w a + cnt w b := List.countP_append
theorem cnt_one (w v : Wd) (t q : Int) : cnt w [(t, v, q)] = if v = w then 1 else 0 := by
  unfold cnt
  rw [List.countP_cons, List.countP_nil, Nat.zero_add]
  by_cases h : v = w
  · simp [h]
  · simp [h]
def waitsN (sh : List En) : Nat := sh.countP fun e => e.waits
theorem waitsN_append (a b : List En) : waitsN (a ++ b) = waitsN a + waitsN b := List.countP_append
theorem cnt_gone (w : Wd) (t : Int) : ∀ l : List En, cnt w (gone t l) = (if w = .waste then waitsN l else 0) + (if w = .leave then l.length - waitsN l else 0)
  | [] => by cases w <;> rfl
  | e :: l => by
    have ih := cnt_gone w t l
    have hle : waitsN l ≤ l.length := List.countP_le_length
    show cnt w ([(t, if e.waits then Wd.waste else Wd.leave, e.pl)] ++ gone t l) = _
    rw [cnt_append, ih, cnt_one]
    have e1 : waitsN (e :: l) = waitsN l + if e.waits = true then 1 else 0 := List.countP_cons
    rw [e1]
    cases e.waits with
    | true => cases w <;> simp <;> omega
    | false => cases w <;> simp <;> omega
theorem shelf_cut (room : Int) (sh : List En) : leaves room sh ++ stays room sh = sh := by
  unfold leaves stays
  split
  · exact List.take_append_drop 1 sh
  · rfl
theorem waitsN_cut (room : Int) (sh : List En) : waitsN (leaves room sh) + waitsN (stays room sh) = waitsN sh := by
  rw [← waitsN_append, shelf_cut]
theorem leaves_len (room : Int) (sh : List En) : (leaves room sh).length ≤ 1 := by
  unfold leaves
  split
  · rw [List.length_take]; omega
  · show 0 ≤ 1; omega
/-- one taken out of many unlike ones -/
theorem perm_out {α : Type} {f : α → Int} {e : α} : ∀ {l : List α}, (l.map f).Nodup → e ∈ l → l.Perm (e :: l.filter (fun y => decide (f y ≠ f e)))
  | [], _, h => nomatch h
  | x :: l, nd, h => by
    obtain ⟨n1, n2⟩ := List.nodup_cons.mp (by simpa using nd : (f x :: l.map f).Nodup)
    rcases List.mem_cons.mp h with rfl | h
    · have e1 : (e :: l).filter (fun y => decide (f y ≠ f e)) = l := by
        rw [List.filter_cons, if_neg (by simp), List.filter_eq_self]
        intro y hy
        exact decide_eq_true (fun z => n1 (by rw [← z]; exact List.mem_map_of_mem hy))
      rw [e1]
    · have ne : f x ≠ f e := fun z => n1 (by rw [z]; exact List.mem_map_of_mem h)
      rw [List.filter_cons, if_pos (decide_eq_true ne)]
      exact ((perm_out n2 h).cons x).trans (.swap _ _ _)
theorem filter_out_len {α : Type} {f : α → Int} {e : α} {l : List α} (nd : (l.map f).Nodup) (h : e ∈ l) : (l.filter (fun y => decide (f y ≠ f e))).length + 1 = l.length := by
  have := (perm_out nd h).length_eq
  simpa using this.symm
theorem filter_none {α : Type} {f : α → Int} {q : Int} {l : List α} (h : (l.any fun x => decide (f x = q)) = false) : l.filter (fun y => decide (f y ≠ q)) = l := by
  rw [List.filter_eq_self]
  intro y hy
  refine decide_eq_true fun z => ?_
  have : (l.any fun x => decide (f x = q)) = true := List.any_eq_true.mpr ⟨y, hy, decide_eq_true z⟩
  rw [h] at this
  cases this
/-! ### ahead is used, wasted and idle together -/
def bal (s : Mc) : Prop := cnt .start s.story = cnt .first s.story + cnt .late s.story + cnt .waste s.story + waitsN s.shelf + s.way.length
def asks (s : Mc) : Nat := cnt .hit s.story + cnt .first s.story + cnt .late s.story + cnt .miss s.story
theorem lay_cnt (v : Wd) (room t : Int) (w : Wd) (fl : Bool) (q : Int) (s : Mc) : cnt v (lay room t w fl q s).story = cnt v s.story + ((if v = .waste then waitsN (leaves room s.shelf) else 0) + (if v = .leave then (leaves room s.shelf).length - waitsN (leaves room s.shelf) else 0)) + if w = v then 1 else 0 := by
  show cnt v (s.story ++ gone t (leaves room s.shelf) ++ [(t, w, q)]) = _
  rw [cnt_append, cnt_append, cnt_gone, cnt_one]
theorem lay_waits (room t : Int) (w : Wd) (fl : Bool) (q : Int) (s : Mc) : waitsN (lay room t w fl q s).shelf + waitsN (leaves room s.shelf) = waitsN s.shelf + if fl = true then 1 else 0 := by
  show waitsN (stays room s.shelf ++ [⟨q, cellAt s.cells q, fl⟩]) + _ = _
  rw [waitsN_append]
  have := waitsN_cut room s.shelf
  have e : waitsN [(⟨q, cellAt s.cells q, fl⟩ : En)] = if fl = true then 1 else 0 := by cases fl <;> rfl
  rw [e]
  omega
theorem lays_cnt (c : Cfg) (t : Int) : ∀ (l : List (Int × Int)) (s : Mc),
    (∀ v, v ≠ .waste → v ≠ .leave → v ≠ .come → cnt v (l.foldl (fun s x => lay c.room t .come true x.1 s) s).story = cnt v s.story) ∧
    cnt .waste (l.foldl (fun s x => lay c.room t .come true x.1 s) s).story + waitsN (l.foldl (fun s x => lay c.room t .come true x.1 s) s).shelf = cnt .waste s.story + waitsN s.shelf + l.length ∧
    (l.foldl (fun s x => lay c.room t .come true x.1 s) s).way = s.way ∧ (l.foldl (fun s x => lay c.room t .come true x.1 s) s).cells = s.cells ∧ (l.foldl (fun s x => lay c.room t .come true x.1 s) s).answers = s.answers
  | [], s => ⟨fun _ _ _ _ => rfl, rfl, rfl, rfl, rfl⟩
  | x :: l, s => by
    obtain ⟨h1, h2, h3, h4, h5⟩ := lays_cnt c t l (lay c.room t .come true x.1 s)
    refine ⟨fun v a b d => ?_, ?_, h3, h4, h5⟩
    · show cnt v (l.foldl _ (lay c.room t .come true x.1 s)).story = _
      rw [h1 v a b d, lay_cnt, if_neg a, if_neg b, if_neg (fun z => d z.symm)]
      omega
    · show cnt .waste (l.foldl _ (lay c.room t .come true x.1 s)).story + waitsN (l.foldl _ (lay c.room t .come true x.1 s)).shelf = _
      rw [h2]
      have e1 := lay_cnt .waste c.room t .come true x.1 s
      have e2 := lay_waits c.room t .come true x.1 s
      rw [if_pos rfl, if_neg (by decide), if_neg (by decide)] at e1
      rw [if_pos rfl] at e2
      show _ = cnt .waste s.story + waitsN s.shelf + (l.length + 1)
      omega
theorem split_len {α : Type} (f : α → Bool) : ∀ l : List α, (l.filter f).length + (l.filter fun x => !f x).length = l.length
  | [] => rfl
  | a :: l => by
    have := split_len f l
    rw [List.filter_cons, List.filter_cons]
    cases f a with
    | true => simp; omega
    | false => simp; omega
theorem arrive_cnt (c : Cfg) (t : Int) (s : Mc) (v : Wd) (a : v ≠ .waste) (b : v ≠ .leave) (d : v ≠ .come) : cnt v (arrive c t s).story = cnt v s.story := (lays_cnt c t _ _).1 v a b d
theorem arrive_way (c : Cfg) (t : Int) (s : Mc) : (arrive c t s).way = s.way.filter fun x => !due c t x := (lays_cnt c t _ _).2.2.1
theorem arrive_cells (c : Cfg) (t : Int) (s : Mc) : (arrive c t s).cells = s.cells := (lays_cnt c t _ _).2.2.2.1
theorem arrive_answers (c : Cfg) (t : Int) (s : Mc) : (arrive c t s).answers = s.answers := (lays_cnt c t _ _).2.2.2.2
theorem arrive_bal {c : Cfg} {t : Int} {s : Mc} (h : bal s) : bal (arrive c t s) := by
  unfold bal at *
  rw [arrive_cnt c t s .start (by decide) (by decide) (by decide), arrive_cnt c t s .first (by decide) (by decide) (by decide), arrive_cnt c t s .late (by decide) (by decide) (by decide), arrive_way]
  have h2 := (lays_cnt c t (s.way.filter (due c t)) { s with way := s.way.filter fun x => !due c t x }).2.1
  have h3 := split_len (due c t) s.way
  have h2 : cnt .waste (arrive c t s).story + waitsN (arrive c t s).shelf = cnt .waste s.story + waitsN s.shelf + (s.way.filter (due c t)).length := h2
  omega
theorem arrive_asks (c : Cfg) (t : Int) (s : Mc) : asks (arrive c t s) = asks s := by
  unfold asks
  rw [arrive_cnt c t s .hit (by decide) (by decide) (by decide), arrive_cnt c t s .first (by decide) (by decide) (by decide), arrive_cnt c t s .late (by decide) (by decide) (by decide), arrive_cnt c t s .miss (by decide) (by decide) (by decide)]
theorem asked_both {c : Cfg} {t p : Int} {s : Mc} (ok : s.ok c) (h : bal s) : bal (asked c t p s) ∧ asks (asked c t p s) = asks s + 1 := by
  unfold asked
  split
  · rename_i e he
    have hem := List.mem_of_find?_eq_some he
    have hep : e.pl = p := by simpa using List.find?_some he
    have pm := perm_out (f := fun (x : En) => x.pl) ok.uniq hem
    have pw : waitsN s.shelf = (if e.waits = true then 1 else 0) + waitsN (s.shelf.filter fun y => decide (y.pl ≠ p)) := by
      have := pm.countP_eq (fun e => e.waits)
      rw [List.countP_cons] at this
      rw [← hep]
      unfold waitsN
      omega
    generalize hg : waitsN (s.shelf.filter fun y => decide (y.pl ≠ p)) = wf at pw
    unfold bal asks at *
    have e2 : ∀ w, cnt w (s.story ++ [(t, if e.waits = true then Wd.first else .hit, p)]) = cnt w s.story + if (if e.waits = true then Wd.first else .hit) = w then 1 else 0 := fun w => by rw [cnt_append, cnt_one]
    dsimp only
    rw [e2, e2, e2, e2, e2, e2, waitsN_append, hg]
    have e3 : waitsN [(⟨p, e.num, false⟩ : En)] = 0 := rfl
    rw [e3]
    cases hw : e.waits with
    | true =>
      rw [hw, if_pos rfl] at pw
      simp
      omega
    | false =>
      rw [hw, if_neg (by decide)] at pw
      simp
      omega
  · rename_i hn
    generalize hs' : ({ s with way := s.way.filter fun x => decide (x.1 ≠ p) } : Mc) = s'
    have es : s'.story = s.story := by rw [← hs']
    have eh : s'.shelf = s.shelf := by rw [← hs']
    have ew : s'.way = s.way.filter fun x => decide (x.1 ≠ p) := by rw [← hs']
    have fin : ∀ wd : Wd, (wd = .late ∧ s'.way.length + 1 = s.way.length) ∨ (wd = .miss ∧ s'.way.length = s.way.length) → bal (lay c.room t wd false p s') ∧ asks (lay c.room t wd false p s') = asks s + 1 := by
      intro wd hwd
      have wn := lay_waits c.room t wd false p s'
      have lc : ∀ v, _ := fun v => lay_cnt v c.room t wd false p s'
      have wy : (lay c.room t wd false p s').way = s'.way := rfl
      unfold bal asks at *
      rw [lc, lc, lc, lc, lc, lc, wy, es, eh]
      rw [eh] at wn
      rcases hwd with ⟨rfl, h1⟩ | ⟨rfl, h1⟩
      · simp at wn ⊢
        omega
      · simp at wn ⊢
        omega
    refine fin _ ?_
    cases hy : (s.way.any fun x => decide (x.1 = p)) with
    | true =>
      obtain ⟨x, hx, hxp⟩ := List.any_eq_true.mp hy
      have hxp := of_decide_eq_true hxp
      have hl := filter_out_len (f := fun (x : Int × Int) => x.1) ok.wayU hx
      rw [hxp] at hl
      refine .inl ⟨if_pos rfl, ?_⟩
      rw [ew]
      exact hl
    | false =>
      have hl := filter_none (f := fun (x : Int × Int) => x.1) hy
      refine .inr ⟨if_neg (fun z => nomatch z), ?_⟩
      rw [ew, hl]
theorem act_story (d : Deed) (s : Mc) : (act d s).story = s.story := by
  unfold act
  split <;> rfl
theorem act_way (d : Deed) (s : Mc) : (act d s).way = s.way := by
  unfold act
  split <;> rfl
theorem act_waits (d : Deed) (s : Mc) : waitsN (act d s).shelf = waitsN s.shelf := by
  unfold act
  split
  · rfl
  · show (s.shelf.map _).countP _ = s.shelf.countP _
    rw [List.countP_map]
    congr 1
    funext e
    show (if e.pl = d.1 then { e with num := _ } else e).waits = e.waits
    split <;> rfl
theorem act_bal {d : Deed} {s : Mc} (h : bal s) : bal (act d s) := by
  unfold bal at *
  rw [act_story, act_way, act_waits]
  exact h
theorem act_asks (d : Deed) (s : Mc) : asks (act d s) = asks s := by
  unfold asks
  rw [act_story]
theorem begin_both {c : Cfg} {t q : Int} {s : Mc} (h : bal s) : bal (begin_ c t s q) ∧ asks (begin_ c t s q) = asks s := by
  unfold begin_
  split
  · unfold bal asks at *
    have e2 : ∀ w, cnt w (s.story ++ [(t, Wd.start, q)]) = cnt w s.story + if Wd.start = w then 1 else 0 := fun w => by rw [cnt_append, cnt_one]
    dsimp only
    rw [e2, e2, e2, e2, e2, e2, List.length_append]
    simp
    omega
  · exact ⟨h, rfl⟩
theorem starts_both {c : Cfg} {t : Int} : ∀ (l : List Int) {s : Mc}, bal s → bal (starts c t l s) ∧ asks (starts c t l s) = asks s
  | [], _, h => ⟨h, rfl⟩
  | q :: l, s, h => by
    obtain ⟨h1, h2⟩ := begin_both (c := c) (t := t) (q := q) h
    obtain ⟨h3, h4⟩ := starts_both (c := c) (t := t) l h1
    exact ⟨h3, h4.trans h2⟩
theorem turn_both {c : Cfg} (ok : c.ok) {says : List Int} {t : Int} {d : Deed} {s : Mc} (h : s.ok c) (hb : bal s) : bal (turn c says t d s) ∧ asks (turn c says t d s) = asks s + 1 := by
  obtain ⟨h1, h2⟩ := asked_both (t := t) (p := d.1) (arrive_ok ok h (t := t)) (arrive_bal (c := c) (t := t) hb)
  obtain ⟨h3, h4⟩ := starts_both (c := c) (t := t) says (act_bal (d := d) h1)
  refine ⟨h3, ?_⟩
  show asks (starts c t says (act d (asked c t d.1 (arrive c t s)))) = _
  rw [h4, act_asks, h2, arrive_asks]
theorem ran_both {c : Cfg} (ok : c.ok) {g : G} {row : List Deed} (hr : rowOk c row) : ∀ i, i ≤ row.length → bal (runTo c g row i) ∧ asks (runTo c g row i) = i
  | 0, _ => ⟨rfl, rfl⟩
  | i + 1, h => by
    obtain ⟨h1, h2⟩ := ran_both ok hr i (by omega)
    obtain ⟨h3, h4⟩ := turn_both ok (says := saysAt g row i) (t := (i : Int)) (d := row.getD i (0, none)) (runTo_ok ok hr i (by omega)) h1
    exact ⟨h3, by show asks (turn c _ _ _ _) = _; rw [h4, h2]⟩
/-! ### when what is on the way was started -/
def wayT (c : Cfg) (t : Int) (s : Mc) : Prop := ∀ x, x ∈ s.way → x.2 < t ∧ t ≤ x.2 + c.late + 1
theorem starts_way (c : Cfg) (t : Int) : ∀ (l : List Int) (s : Mc) (x : Int × Int), x ∈ (starts c t l s).way → x ∈ s.way ∨ x.2 = t
  | [], _, _, h => .inl h
  | q :: l, s, x, h => by
    rcases starts_way c t l (begin_ c t s q) x h with h | h
    · unfold begin_ at h
      split at h
      · rcases List.mem_append.mp h with h | h
        · exact .inl h
        · rw [List.mem_singleton.mp h]; exact .inr rfl
      · exact .inl h
    · exact .inr h
theorem asked_way (c : Cfg) (t p : Int) (s : Mc) (x : Int × Int) (h : x ∈ (asked c t p s).way) : x ∈ s.way := by
  unfold asked at h
  split at h
  · exact h
  · exact (List.mem_filter.mp h).1
theorem turn_wayT {c : Cfg} (ok : c.ok) {says : List Int} {t : Int} {d : Deed} {s : Mc} (h : wayT c t s) : wayT c (t + 1) (turn c says t d s) := fun x hx => by
  have l0 := ok.late0
  rcases starts_way c t says _ x hx with hx | hx
  · rw [act_way] at hx
    have hx := asked_way _ _ _ _ _ hx
    rw [arrive_way] at hx
    obtain ⟨h1, h2⟩ := List.mem_filter.mp hx
    have h3 := h x h1
    have : ¬ (x.2 + c.late < t) := by
      intro z
      unfold due at h2
      rw [decide_eq_true z] at h2
      cases h2
    omega
  · omega
theorem ran_wayT {c : Cfg} (ok : c.ok) (g : G) (row : List Deed) : ∀ i : Nat, wayT c (i : Int) (runTo c g row i)
  | 0 => fun x hx => nomatch hx
  | i + 1 => by
    have := turn_wayT ok (says := saysAt g row i) (d := row.getD i (0, none)) (ran_wayT ok g row i)
    have e : ((i + 1 : Nat) : Int) = (i : Int) + 1 := by omega
    rw [e]
    exact this
theorem due_now {c : Cfg} {t : Int} {s : Mc} (h : wayT c t s) {x : Int × Int} (hx : x ∈ s.way) : due c t x = decide (t - x.2 = c.late + 1) := by
  unfold due
  have := h x hx
  rw [decide_eq_decide]
  omega
/-! ### how long a story is -/
theorem lay_len (room t : Int) (w : Wd) (fl : Bool) (q : Int) (s : Mc) : (lay room t w fl q s).story.length ≤ s.story.length + 2 := by
  show (s.story ++ gone t (leaves room s.shelf) ++ [(t, w, q)]).length ≤ _
  have := leaves_len room s.shelf
  unfold gone
  simp only [List.length_append, List.length_map, List.length_cons, List.length_nil]
  omega
theorem lays_len (c : Cfg) (t : Int) : ∀ (l : List (Int × Int)) (s : Mc), (l.foldl (fun s x => lay c.room t .come true x.1 s) s).story.length ≤ s.story.length + 2 * l.length
  | [], _ => Nat.le_refl _
  | x :: l, s => by
    have h1 := lays_len c t l (lay c.room t .come true x.1 s)
    have h2 := lay_len c.room t .come true x.1 s
    show (l.foldl _ (lay c.room t .come true x.1 s)).story.length ≤ s.story.length + 2 * (l.length + 1)
    omega
theorem asked_len (c : Cfg) (t p : Int) (s : Mc) : (asked c t p s).story.length ≤ s.story.length + 2 := by
  unfold asked
  split
  · show (s.story ++ [_]).length ≤ _
    rw [List.length_append]
    simp
  · exact lay_len _ _ _ _ _ _
theorem starts_len (c : Cfg) (t : Int) : ∀ (l : List Int) (s : Mc), (starts c t l s).story.length + s.way.length = s.story.length + (starts c t l s).way.length
  | [], _ => rfl
  | q :: l, s => by
    have h1 := starts_len c t l (begin_ c t s q)
    have h2 : (begin_ c t s q).story.length + s.way.length = s.story.length + (begin_ c t s q).way.length := by
      unfold begin_
      split
      · show (s.story ++ [_]).length + _ = _ + (s.way ++ [_]).length
        simp only [List.length_append, List.length_cons, List.length_nil]
        omega
      · rfl
    show (starts c t l (begin_ c t s q)).story.length + s.way.length = s.story.length + (starts c t l (begin_ c t s q)).way.length
    omega
theorem turn_len {c : Cfg} (ok : c.ok) (h4 : c.most ≤ 4) {says : List Int} {t : Int} {d : Deed} {s : Mc} (h : s.ok c) (hd : 0 ≤ d.1 ∧ d.1 < (c.mem.length : Int)) : (turn c says t d s).story.length ≤ s.story.length + 14 := by
  have k := turn_ok ok (says := says) (t := t) h hd
  have h1 := lays_len c t (s.way.filter (due c t)) { s with way := s.way.filter fun x => !due c t x }
  have h2 := asked_len c t d.1 (arrive c t s)
  have h3 := starts_len c t says (act d (asked c t d.1 (arrive c t s)))
  rw [act_story, act_way] at h3
  have h5 := List.length_filter_le (due c t) s.way
  have h6 := h.most
  have h7 := k.most
  have h1 : (arrive c t s).story.length ≤ s.story.length + 2 * (s.way.filter (due c t)).length := h1
  unfold turn at h7 ⊢
  omega
theorem ran_len {c : Cfg} (ok : c.ok) (h4 : c.most ≤ 4) {g : G} {row : List Deed} (hr : rowOk c row) : ∀ i, i ≤ row.length → (runTo c g row i).story.length ≤ 14 * i
  | 0, _ => Nat.le_refl _
  | i + 1, h => by
    have h1 := ran_len ok h4 (g := g) hr i (by omega)
    have h2 := turn_len ok h4 (says := saysAt g row i) (t := (i : Int)) (d := row.getD i (0, none)) (runTo_ok ok hr i (by omega) (g := g)) (hr _ (by
      rw [List.getD_eq_getElem?_getD, List.getElem?_eq_getElem (by omega)]
      exact List.getElem_mem _))
    show (turn c _ _ _ _).story.length ≤ _
    omega
/-! ### memory's answers -/
def plainStep (d : Deed) (x : List Int × List Int) : List Int × List Int := match d.2 with
  | none => (x.1 ++ [cellAt x.2 d.1], x.2)
  | some v => (x.1, x.2.set d.1.toNat v)
def plain (mem : List Int) (row : List Deed) : List Int × List Int := row.foldl (fun x d => plainStep d x) ([], mem)
def nums (s : Mc) : Prop := ∀ e, e ∈ s.shelf → e.num = cellAt s.cells e.pl
theorem lay_nums {room t : Int} {w : Wd} {fl : Bool} {q : Int} {s : Mc} (h : nums s) : nums (lay room t w fl q s) := fun e he => by
  rcases List.mem_append.mp he with he | he
  · exact h e (stays_sub he)
  · rw [List.mem_singleton.mp he]; rfl
theorem lays_nums {c : Cfg} {t : Int} : ∀ (l : List (Int × Int)) {s : Mc}, nums s → nums (l.foldl (fun s x => lay c.room t .come true x.1 s) s)
  | [], _, h => h
  | x :: l, _, h => lays_nums l (lay_nums h)
theorem asked_nums {c : Cfg} {t p : Int} {s : Mc} (h : nums s) : nums (asked c t p s) := by
  unfold asked
  split
  · rename_i e he
    have hem := List.mem_of_find?_eq_some he
    have hep : e.pl = p := by simpa using List.find?_some he
    intro e' he'
    rcases List.mem_append.mp he' with he' | he'
    · exact h e' (List.mem_filter.mp he').1
    · rw [List.mem_singleton.mp he']
      show e.num = cellAt s.cells p
      rw [← hep]
      exact h e hem
  · exact lay_nums h
theorem asked_cells (c : Cfg) (t p : Int) (s : Mc) : (asked c t p s).cells = s.cells ∧ (asked c t p s).answers = s.answers := by
  unfold asked
  split <;> exact ⟨rfl, rfl⟩
/-- the newest is what was asked -/
theorem asked_last (c : Cfg) (t p : Int) (s : Mc) : ∃ r n, (asked c t p s).shelf = r ++ [⟨p, n, false⟩] := by
  unfold asked
  split
  · exact ⟨_, _, rfl⟩
  · exact ⟨_, _, rfl⟩
theorem numAt_eq {s : Mc} {p : Int} (h : nums s) (on : onShelf s.shelf p = true) : numAt s.shelf p = cellAt s.cells p := by
  unfold numAt
  cases e : s.shelf.find? fun e => decide (e.pl = p) with
  | none =>
    rw [find_on.mp e] at on
    cases on
  | some e0 =>
    have h1 := List.mem_of_find?_eq_some e
    have h2 : e0.pl = p := by simpa using List.find?_some e
    show e0.num = _
    rw [← h2]
    exact h e0 h1
theorem cell_set {cells : List Int} {p q v : Int} (hp : 0 ≤ p ∧ p < (cells.length : Int)) (hq : 0 ≤ q) : cellAt (cells.set p.toNat v) q = if q = p then v else cellAt cells q := by
  unfold cellAt
  rw [List.getD_eq_getElem?_getD, List.getD_eq_getElem?_getD]
  by_cases h : q = p
  · subst h
    rw [if_pos rfl, List.getElem?_set_self (by omega)]
    rfl
  · rw [if_neg h, List.getElem?_set_ne (by omega)]
theorem act_nums {c : Cfg} {d : Deed} {s : Mc} (ok : s.ok c) (hd : 0 ≤ d.1 ∧ d.1 < (c.mem.length : Int)) (h : nums s) : nums (act d s) := by
  unfold act
  split
  · exact h
  · rename_i v _
    intro e he
    obtain ⟨e', h1, rfl⟩ := List.mem_map.mp he
    have hr := ok.range e' h1
    have hc := ok.cells
    by_cases z : e'.pl = d.1
    · rw [if_pos z]
      show v = cellAt (s.cells.set d.1.toNat v) e'.pl
      rw [cell_set (by omega) hr.1, if_pos z]
    · rw [if_neg z]
      show e'.num = cellAt (s.cells.set d.1.toNat v) e'.pl
      rw [cell_set (by omega) hr.1, if_neg z]
      exact h e' h1
theorem starts_rest (c : Cfg) (t : Int) : ∀ (l : List Int) (s : Mc), (starts c t l s).shelf = s.shelf ∧ (starts c t l s).cells = s.cells ∧ (starts c t l s).answers = s.answers
  | [], _ => ⟨rfl, rfl, rfl⟩
  | q :: l, s => by
    obtain ⟨h1, h2, h3⟩ := starts_rest c t l (begin_ c t s q)
    have : (begin_ c t s q).shelf = s.shelf ∧ (begin_ c t s q).cells = s.cells ∧ (begin_ c t s q).answers = s.answers := by
      unfold begin_
      split <;> exact ⟨rfl, rfl, rfl⟩
    exact ⟨h1.trans this.1, h2.trans this.2.1, h3.trans this.2.2⟩
theorem turn_plain {c : Cfg} (ok : c.ok) {says : List Int} {t : Int} {d : Deed} {s : Mc} (h : s.ok c) (hd : 0 ≤ d.1 ∧ d.1 < (c.mem.length : Int)) (hn : nums s) :
    nums (turn c says t d s) ∧ ((turn c says t d s).answers, (turn c says t d s).cells) = plainStep d (s.answers, s.cells) := by
  have h1 : nums (arrive c t s) := lays_nums _ hn
  have h2 : nums (asked c t d.1 (arrive c t s)) := asked_nums h1
  have k2 := asked_ok ok (arrive_ok ok h (t := t)) hd (t := t)
  have h3 := act_nums (c := c) k2 hd h2
  obtain ⟨e1, e2, e3⟩ := starts_rest c t says (act d (asked c t d.1 (arrive c t s)))
  refine ⟨fun e he => ?_, ?_⟩
  · unfold turn at he ⊢
    rw [e1] at he
    rw [e2]
    exact h3 e he
  · unfold turn
    rw [e2, e3]
    have a1 := asked_cells c t d.1 (arrive c t s)
    obtain ⟨r, n, hl⟩ := asked_last c t d.1 (arrive c t s)
    have on : onShelf (asked c t d.1 (arrive c t s)).shelf d.1 = true := by
      rw [hl]
      exact onShelf_iff.mpr ⟨⟨d.1, n, false⟩, by simp, rfl⟩
    have na := numAt_eq h2 on
    unfold act plainStep
    cases d.2 with
    | none =>
      show ((asked c t d.1 (arrive c t s)).answers ++ [numAt _ d.1], (asked c t d.1 (arrive c t s)).cells) = _
      rw [na, a1.1, a1.2, arrive_cells, arrive_answers]
    | some v =>
      show ((asked c t d.1 (arrive c t s)).answers, (asked c t d.1 (arrive c t s)).cells.set _ v) = _
      rw [a1.1, a1.2, arrive_cells, arrive_answers]
theorem ran_plain {c : Cfg} (ok : c.ok) {g : G} {row : List Deed} (hr : rowOk c row) : ∀ i, i ≤ row.length → nums (runTo c g row i) ∧ ((runTo c g row i).answers, (runTo c g row i).cells) = plain c.mem (row.take i)
  | 0, _ => ⟨(fun e he => nomatch he), rfl⟩
  | i + 1, h => by
    obtain ⟨h1, h2⟩ := ran_plain ok (g := g) hr i (by omega)
    have hi : row[i]? = some (row.getD i (0, none)) := by
      rw [List.getD_eq_getElem?_getD, List.getElem?_eq_getElem (by omega)]
      rfl
    obtain ⟨h3, h4⟩ := turn_plain ok (says := saysAt g row i) (t := (i : Int)) (d := row.getD i (0, none)) (runTo_ok ok hr i (by omega) (g := g)) (hr _ (List.mem_of_getElem? hi)) h1
    refine ⟨h3, ?_⟩
    show ((turn c _ _ _ _).answers, (turn c _ _ _ _).cells) = _
    rw [h4, h2]
    have e : row.take (i + 1) = row.take i ++ [row.getD i (0, none)] := by
      rw [List.take_add_one, hi]
      rfl
    rw [e]
    unfold plain
    rw [List.foldl_append]
    rfl
end Sw
namespace Sw
theorem asked_hit {c : Cfg} {t : Int} {m : Mc} {e0 : En} (un : (m.shelf.map (·.pl)).Nodup) (h : e0 ∈ m.shelf) : asked c t e0.pl m = { m with shelf := m.shelf.filter (fun e => decide (e.pl ≠ e0.pl)) ++ [⟨e0.pl, e0.num, false⟩], story := m.story ++ [(t, if e0.waits = true then Wd.first else Wd.hit, e0.pl)] } := by
  unfold asked
  cases e : m.shelf.find? fun e => decide (e.pl = e0.pl) with
  | none =>
    have := find_on.mp e
    rw [onShelf_iff.mpr ⟨e0, h, rfl⟩] at this
    cases this
  | some e1 =>
    have h1 := List.mem_of_find?_eq_some e
    have h2 : e1.pl = e0.pl := by simpa using List.find?_some e
    have := inj_of_nodup un h1 h h2
    subst this
    rfl
theorem asked_else {c : Cfg} {t q : Int} {m : Mc} (h : onShelf m.shelf q = false) : asked c t q m = lay c.room t (if (m.way.any fun x => decide (x.1 = q)) = true then Wd.late else Wd.miss) false q { m with way := m.way.filter fun x => decide (x.1 ≠ q) } := by
  unfold asked
  rw [find_on.mpr h]
/-- laying leaves the way alone -/
theorem lays_with (c : Cfg) (t : Int) (w : List (Int × Int)) : ∀ (l : List (Int × Int)) (s : Mc), l.foldl (fun s x => lay c.room t .come true x.1 s) { s with way := w } = { (l.foldl (fun s x => lay c.room t .come true x.1 s) s) with way := w }
  | [], _ => rfl
  | x :: l, s => lays_with c t w l (lay c.room t .come true x.1 s)
end Sw
set_option Elab.async false
set_option linter.all false
set_option maxRecDepth 100000
set_option maxHeartbeats 4000000
namespace SwD
open PySem PySem.Spec PyProof.Rows L2 SwX StX Sw
local macro_rules | `(tactic| walk_at "lk") => `(tactic| first | exact lk_at | exact lk_no | ((refine' lk_by (by decide +kernel) ?wq); (case wq => walk_at "lk")))
local macro_rules | `(tactic| walk_at "pf") => `(tactic| first | exact pf_at | exact pf_nil | ((refine' pf_by (by decide +kernel) ?wq); (case wq => walk_at "pf")))
local macro_rules | `(tactic| walk_at "w1") => `(tactic| with_reducible first
  | refine w_seq ?_ | refine w_asg ?_ | refine w_name ?_ | refine w_ret ?_ | refine w_retN ?_ | refine w_drop ?_ | refine w_next ?_ | refine w_if ?_ | refine w_ifE ?_ | refine w_test ?_ | refine w_B ?_ | refine w_bl ?_
  | refine w_not ?_ | refine w_and ?_ | refine w_or ?_ | refine w_andV ?_ | refine w_orV ?_ | refine w_notV ?_ | refine w_isN ?_ | refine w_notN ?_ | refine w_yes ?_
  | refine w_c ?_ | refine w_op ?_ | refine w_un ?_ | refine w_i0 ?_ | refine w_neg ?_ | refine w_nil ?_ | refine w_cons ?_ | refine w_cb ?_ | refine w_call ?_ | refine w_tup ?_ | refine w_lst ?_
  | refine w_fld ?_ | refine w_sfld ?_ | refine w_match ?_ | refine w_case ?_ | refine w_mcons ?_ | refine w_mnil ?_ | refine w_mcap ?_ | refine w_many ?_ | refine w_myes ?_
  | refine w_sub ?_ | refine w_bm ?_ | refine w_sl ?_ | refine w_nopart ?_ | refine w_part ?_ | refine w_int ?_ | refine w_ift ?_ | refine w_iff ?_ | refine w_ifn ?_ | refine w_dget2 ?_ | refine w_star ?_ | refine w_dput ?_ | refine w_dnewK ?_ | refine w_meth ?_ | refine w_oneOf ?_ | refine w_make ?_ | refine w_lc ?_ | refine w_for ?_ | refine w_ilist ?_ | refine w_irng1 ?_ | refine w_irng2 ?_ | refine w_irng3 ?_)
local macro_rules | `(tactic| walk_at "w2") => `(tactic| first
  | ((with_reducible refine' w_var ?wh ?_); (case wh => rfl))
  | ((with_reducible refine' w_eq ?wh ?_); (case wh => rfl))
  | ((with_reducible refine' w_ne ?wh ?_); (case wh => rfl))
  | ((with_reducible refine' w_mno ?wh ?_); (case wh => decide +kernel))
  | ((with_reducible refine' w_mhit ?wh ?wl ?_); (case wh => assumption); (case wl => rfl))
  | ((with_reducible refine' w_mmiss ?wh ?wl ?_); (case wh => assumption); (case wl => simp))
  | ((with_reducible refine' w_fldA ?wh ?wc ?wn ?wl ?_); (case wh => first | assumption | exact upd_same); (case wc => assumption); (case wn => assumption); (case wl => walk_at "lk"))
  | ((with_reducible refine' w_ixl ?wh ?we ?_); (case wh => exact SqL.of (by first | assumption | exact upd_same)); (case we => rfl))
  | ((with_reducible refine' w_ixt ?wh ?we ?_); (case wh => assumption); (case we => rfl))
  | ((with_reducible refine' w_ifT ?wh ?_); (case wh => (with_reducible exact Eq.refl _)))
  | ((with_reducible refine' w_ifF ?wh ?_); (case wh => decide +kernel))
  | ((with_reducible refine' w_isiY ?wh ?wk ?_); (case wh => first | exact .int _ | exact .str _ | exact .lst (by assumption) | exact .tup (by assumption)); (case wk => decide +kernel))
  | ((with_reducible refine' w_isiN ?wh ?wk ?_); (case wh => first | exact .int _ | exact .str _ | exact .lst (by assumption) | exact .tup (by assumption)); (case wk => decide +kernel))
  | ((with_reducible refine' w_ifF ?wh ?_); (case wh => (intro z; cases z; done)))
  | ((with_reducible refine' w_setl ?wh ?we ?wl ?_); (case wh => first | assumption | exact upd_same); (case we => rfl); (case wl => rfl))
  | ((with_reducible refine' w_methA ?wh ?wl ?_); (case wh => first | assumption | exact upd_same); (case wl => walk_at "lk"))
  | ((with_reducible refine' w_sfldB ?wc ?wn ?wz ?wl ?_); (case wc => assumption); (case wn => assumption); (case wz => simp); (case wl => walk_at "pf"))
  | ((with_reducible refine' w_sfldA ?wh ?wc ?wn ?wz ?wl ?_); (case wh => assumption); (case wc => assumption); (case wn => assumption); (case wz => simp); (case wl => walk_at "pf")))
local macro_rules | `(tactic| walk_at "w") => `(tactic| repeat (first | walk_at "w1" | walk_at "w2" | (dsimp only [List.set, setAll, List.append, List.cons_append, List.nil_append])))
local macro_rules | `(tactic| walk_at "w1") => `(tactic| with_reducible first | refine w_rev ?_ | refine w_enum ?_ | refine w_itup' ?_ | refine w_bm0 ?_ | refine w_gcons ?_ | refine w_gnil ?_ | refine w_tm1' ?_ | refine w_tru ?_)
local macro_rules | `(tactic| walk_at "w1") => `(tactic| with_reducible first | refine w_dget ?_ | refine w_din ?_ | refine w_dpop ?_ | refine w_ddel ?_ | refine w_iitems ?_ | refine w_dnotin ?_ | refine w_chain ?_)
local macro_rules | `(tactic| walk_at "w2") => `(tactic| first
  | ((with_reducible refine' w_gfldB ?wv ?wc ?wn ?wz ?wl ?_); (case wv => rfl); (case wc => assumption); (case wn => assumption); (case wz => simp); (case wl => walk_at "pf"))
  | ((with_reducible refine' w_gfldA ?wv ?wh ?wc ?wn ?wz ?wl ?_); (case wv => rfl); (case wh => assumption); (case wc => assumption); (case wn => assumption); (case wz => simp); (case wl => walk_at "pf")))
/-! ### the program's machine in the heap -/
structure PA where
  p : Addr
  dx : Addr
  mem : Addr
  wat : Addr
  shelf : Addr
  unas : Addr
  way : Addr
  evs : Addr
  ans : Addr
abbrev pfs (A : PA) (c : Cfg) (t : Int) : List (Str × V) := [("room", .int c.room), ("late", .int c.late), ("most", .int c.most), ("memory", .ref A.mem), ("watcher", .ref A.wat), ("shelf", .ref A.shelf), ("unasked", .ref A.unas), ("way", .ref A.way), ("turn", .int t), ("events", .ref A.evs), ("answers", .ref A.ans)]
structure PF (K : PySem.W.Frag) (cP : Addr) : Prop where
  cls : Cls K cP
  n1 : NoAttr K cP "room"
  n2 : NoAttr K cP "late"
  n3 : NoAttr K cP "most"
  n4 : NoAttr K cP "memory"
  n5 : NoAttr K cP "watcher"
  n6 : NoAttr K cP "shelf"
  n7 : NoAttr K cP "unasked"
  n8 : NoAttr K cP "way"
  n9 : NoAttr K cP "turn"
  n10 : NoAttr K cP "events"
  n11 : NoAttr K cP "answers"
def InP (A : PA) (b : Addr) : Prop := b = A.p ∨ b = A.mem ∨ b = A.shelf ∨ b = A.unas ∨ b = A.way ∨ b = A.evs ∨ b = A.ans
def unt (q : Int) : Key × V := (.inl q, .bl true)
def wnt (x : Int × Int) : Key × V := (.inl x.1, .int x.2)
structure PApart (A : PA) : Prop where
  me : A.mem ≠ A.evs
  ma : A.mem ≠ A.ans
  ea : A.evs ≠ A.ans
  su : A.shelf ≠ A.unas
  sw : A.shelf ≠ A.way
  uw : A.unas ≠ A.way
structure PlayS (cP : Addr) (H : Hp) (A : PA) (c : Cfg) (t : Int) (m : Mc) (W : List Int) (sv : List V) : Prop where
  hp : H A.p = some (.ins cP A.dx (pfs A c t))
  hmem : H A.mem = some (.lst (m.cells.map V.int))
  hshelf : H A.shelf = some (.dK (m.shelf.map ent))
  hunas : H A.unas = some (.dK (W.map unt))
  hway : H A.way = some (.dK (m.way.map wnt))
  hevs : H A.evs = some (.lst sv)
  hans : H A.ans = some (.lst (m.answers.map V.int))
  ap : PApart A
  evs : All2 (EvAt H) m.story sv
def Wok (W : List Int) (sh : List En) : Prop := W.Nodup ∧ ∀ q, q ∈ W ↔ ∃ e, e ∈ sh ∧ e.pl = q ∧ e.waits = true
/-! ### dicts -/
theorem valV_ent (sh : List En) (q : Int) : valV (sh.map ent) (Sum.inl q : Key) = (sh.find? fun e => decide (e.pl = q)).map fun e => V.int e.num := by
  have e : ((fun (kv : Key × V) => decide (kv.1 = Sum.inl q)) ∘ ent) = fun e => decide (e.pl = q) := by
    funext e
    show decide ((Sum.inl e.pl : Key) = Sum.inl q) = decide (e.pl = q)
    rw [decide_eq_decide]
    exact ⟨Sum.inl.inj, fun h => by rw [h]⟩
  unfold valV
  rw [List.find?_map, Option.map_map, e]
  rfl
theorem valV_ent_on (sh : List En) (q : Int) : (valV (sh.map ent) (Sum.inl q : Key)).isSome = onShelf sh q := by
  rw [valV_ent]
  cases h : onShelf sh q with
  | false => rw [find_on.mpr h]; rfl
  | true =>
    cases h2 : sh.find? fun e => decide (e.pl = q) with
    | none => rw [find_on.mp h2] at h; cases h
    | some e => rfl
theorem dropK_ent (sh : List En) (q : Int) : dropK (sh.map ent) (Sum.inl q : Key) = (sh.filter fun e => decide (e.pl ≠ q)).map ent := by
  unfold dropK
  rw [List.filter_map]
  congr 2
  funext e
  show decide ((Sum.inl e.pl : Key) ≠ Sum.inl q) = decide (e.pl ≠ q)
  rw [decide_eq_decide]
  exact ⟨fun h z => h (by rw [z]), fun h z => h (Sum.inl.inj z)⟩
theorem putK_ent_new {sh : List En} {q v : Int} {fl : Bool} (h : onShelf sh q = false) : putK (sh.map ent) (Sum.inl q : Key) (.int v) = (sh ++ [(⟨q, v, fl⟩ : En)]).map ent := by
  have e : valV (sh.map ent) (Sum.inl q : Key) = none := by
    have := valV_ent_on sh q
    rw [h] at this
    cases q2 : valV (sh.map ent) (Sum.inl q : Key) with
    | none => rfl
    | some _ => rw [q2] at this; cases this
  rw [putK_new _ e, List.map_append]
  rfl
theorem putK_ent_old {sh : List En} {q v : Int} (h : onShelf sh q = true) : putK (sh.map ent) (Sum.inl q : Key) (.int v) = (sh.map fun e => if e.pl = q then { e with num := v } else e).map ent := by
  unfold putK
  rw [valV_any, valV_ent_on, h, if_pos rfl, List.map_map, List.map_map]
  apply List.map_congr_left
  intro e _
  show (if (Sum.inl e.pl : Key) = Sum.inl q then _ else _) = ent (if e.pl = q then _ else _)
  by_cases z : e.pl = q
  · rw [if_pos z, if_pos (by rw [z])]; rfl
  · rw [if_neg z, if_neg (fun w => z (Sum.inl.inj w))]
theorem valV_unt (W : List Int) (q : Int) : (valV (W.map unt) (Sum.inl q : Key)).isSome = decide (q ∈ W) := by
  rw [← valV_any, List.any_map, Bool.eq_iff_iff, List.any_eq_true, decide_eq_true_iff]
  constructor
  · rintro ⟨x, hx, e⟩
    rw [← Sum.inl.inj (of_decide_eq_true e)]
    exact hx
  · intro h
    exact ⟨q, h, decide_eq_true rfl⟩
theorem dropK_unt (W : List Int) (q : Int) : dropK (W.map unt) (Sum.inl q : Key) = (W.filter fun x => decide (x ≠ q)).map unt := by
  unfold dropK
  rw [List.filter_map]
  congr 2
  funext e
  show decide ((Sum.inl e : Key) ≠ Sum.inl q) = decide (e ≠ q)
  rw [decide_eq_decide]
  exact ⟨fun h z => h (by rw [z]), fun h z => h (Sum.inl.inj z)⟩
theorem putK_unt {W : List Int} {q : Int} (h : q ∉ W) : putK (W.map unt) (Sum.inl q : Key) (.bl true) = (W ++ [q]).map unt := by
  have e : valV (W.map unt) (Sum.inl q : Key) = none := by
    have := valV_unt W q
    rw [decide_eq_false h] at this
    cases q2 : valV (W.map unt) (Sum.inl q : Key) with
    | none => rfl
    | some _ => rw [q2] at this; cases this
  rw [putK_new _ e, List.map_append]
  rfl
theorem valV_wnt (l : List (Int × Int)) (q : Int) : (valV (l.map wnt) (Sum.inl q : Key)).isSome = l.any fun x => decide (x.1 = q) := by
  rw [← valV_any, List.any_map]
  congr 1
  funext x
  show decide ((Sum.inl x.1 : Key) = Sum.inl q) = decide (x.1 = q)
  rw [decide_eq_decide]
  exact ⟨Sum.inl.inj, fun h => by rw [h]⟩
theorem dropK_wnt (l : List (Int × Int)) (q : Int) : dropK (l.map wnt) (Sum.inl q : Key) = (l.filter fun x => decide (x.1 ≠ q)).map wnt := by
  unfold dropK
  rw [List.filter_map]
  congr 2
  funext e
  show decide ((Sum.inl e.1 : Key) ≠ Sum.inl q) = decide (e.1 ≠ q)
  rw [decide_eq_decide]
  exact ⟨fun h z => h (by rw [z]), fun h z => h (Sum.inl.inj z)⟩
theorem putK_wnt {l : List (Int × Int)} {q t : Int} (h : (l.any fun x => decide (x.1 = q)) = false) : putK (l.map wnt) (Sum.inl q : Key) (.int t) = (l ++ [(q, t)]).map wnt := by
  have e : valV (l.map wnt) (Sum.inl q : Key) = none := by
    have := valV_wnt l q
    rw [h] at this
    cases q2 : valV (l.map wnt) (Sum.inl q : Key) with
    | none => rfl
    | some _ => rw [q2] at this; cases this
  rw [putK_new _ e, List.map_append]
  rfl
/-! ### who waits -/
theorem wok_mem {W : List Int} {sh : List En} {e : En} (un : (sh.map (·.pl)).Nodup) (h : Wok W sh) (he : e ∈ sh) : e.pl ∈ W ↔ e.waits = true := by
  rw [h.2 e.pl]
  constructor
  · rintro ⟨e', h1, h2, h3⟩
    rw [inj_of_nodup un h1 he h2] at h3
    exact h3
  · intro z
    exact ⟨e, he, rfl, z⟩
theorem wok_drop {W : List Int} {e0 : En} {rest : List En} (un : ((e0 :: rest).map (·.pl)).Nodup) (h : Wok W (e0 :: rest)) : Wok (W.filter fun x => decide (x ≠ e0.pl)) rest := by
  obtain ⟨n1, n2⟩ := List.nodup_cons.mp (by simpa using un : (e0.pl :: rest.map (·.pl)).Nodup)
  refine ⟨h.1.sublist List.filter_sublist, fun q => ?_⟩
  rw [List.mem_filter, h.2 q]
  constructor
  · rintro ⟨⟨e, h1, h2, h3⟩, ne⟩
    have ne : q ≠ e0.pl := by simpa using ne
    rcases List.mem_cons.mp h1 with rfl | h1
    · exact absurd h2.symm ne
    · exact ⟨e, h1, h2, h3⟩
  · rintro ⟨e, h1, h2, h3⟩
    refine ⟨⟨e, List.mem_cons_of_mem _ h1, h2, h3⟩, decide_eq_true (fun z => n1 (by rw [← z, ← h2]; exact List.mem_map_of_mem h1))⟩
theorem wok_calm {W : List Int} {sh : List En} {q : Int} (h : q ∉ W) : (W.filter fun x => decide (x ≠ q)) = W := by
  rw [List.filter_eq_self]
  intro x hx
  exact decide_eq_true (fun z => h (z ▸ hx))
theorem wok_add {W : List Int} {sh : List En} {q v : Int} (h : Wok W sh) : Wok W (sh ++ [⟨q, v, false⟩]) := by
  refine ⟨h.1, fun x => ?_⟩
  rw [h.2 x]
  constructor
  · rintro ⟨e, h1, h2⟩
    exact ⟨e, List.mem_append_left _ h1, h2⟩
  · rintro ⟨e, h1, h2, h3⟩
    rcases List.mem_append.mp h1 with h1 | h1
    · exact ⟨e, h1, h2, h3⟩
    · rw [List.mem_singleton.mp h1] at h3; cases h3
theorem wok_addT {W : List Int} {sh : List En} {q v : Int} (off : onShelf sh q = false) (h : Wok W sh) : q ∉ W ∧ Wok (W ++ [q]) (sh ++ [⟨q, v, true⟩]) := by
  have nq : q ∉ W := fun z => by
    obtain ⟨e, h1, h2, _⟩ := (h.2 q).mp z
    rw [onShelf_iff.mpr ⟨e, h1, h2⟩] at off
    cases off
  refine ⟨nq, List.nodup_append.mpr ⟨h.1, by simp, fun a ha b hb => ?_⟩, fun x => ?_⟩
  · rw [List.mem_singleton.mp hb]
    rintro rfl
    exact nq ha
  · rw [List.mem_append, List.mem_singleton, h.2 x]
    constructor
    · rintro (⟨e, h1, h2⟩ | rfl)
      · exact ⟨e, List.mem_append_left _ h1, h2⟩
      · exact ⟨⟨x, v, true⟩, by simp, rfl, rfl⟩
    · rintro ⟨e, h1, h2, h3⟩
      rcases List.mem_append.mp h1 with h1 | h1
      · exact .inl ⟨e, h1, h2, h3⟩
      · rw [List.mem_singleton.mp h1] at h2
        exact .inr h2.symm
theorem wok_asked {W : List Int} {sh : List En} {p n : Int} (h : Wok W sh) : Wok (W.filter fun x => decide (x ≠ p)) ((sh.filter fun e => decide (e.pl ≠ p)) ++ [⟨p, n, false⟩]) := by
  refine ⟨h.1.sublist List.filter_sublist, fun q => ?_⟩
  rw [List.mem_filter, h.2 q]
  constructor
  · rintro ⟨⟨e, h1, h2, h3⟩, ne⟩
    have ne : q ≠ p := by simpa using ne
    exact ⟨e, List.mem_append_left _ (List.mem_filter.mpr ⟨h1, decide_eq_true (by rw [h2]; exact ne)⟩), h2, h3⟩
  · rintro ⟨e, h1, h2, h3⟩
    rcases List.mem_append.mp h1 with h1 | h1
    · obtain ⟨g1, g2⟩ := List.mem_filter.mp h1
      have g2 : e.pl ≠ p := by simpa using g2
      exact ⟨⟨e, g1, h2, h3⟩, decide_eq_true (by rw [← h2]; exact g2)⟩
    · rw [List.mem_singleton.mp h1] at h3; cases h3
theorem wok_act {W : List Int} {d : Deed} {m : Mc} (h : Wok W m.shelf) : Wok W (act d m).shelf := by
  unfold act
  split
  · exact h
  · rename_i v _
    refine ⟨h.1, fun q => ?_⟩
    rw [h.2 q]
    constructor
    · rintro ⟨e, h1, h2, h3⟩
      refine ⟨_, List.mem_map_of_mem h1, ?_, ?_⟩
      · split <;> exact h2
      · split <;> exact h3
    · rintro ⟨e, h1, h2, h3⟩
      obtain ⟨e', g1, rfl⟩ := List.mem_map.mp h1
      refine ⟨e', g1, ?_, ?_⟩
      · revert h2; split <;> exact id
      · revert h3; split <;> exact id
theorem nodup_le2 : ∀ {l k : List Int}, l.Nodup → (∀ x, x ∈ l → x ∈ k) → l.length ≤ k.length
  | [], _, _, _ => Nat.zero_le _
  | x :: l, k, nd, h => by
    obtain ⟨n1, n2⟩ := List.nodup_cons.mp nd
    have hx := h x List.mem_cons_self
    have := nodup_le2 (l := l) (k := k.erase x) n2 (fun y hy => (List.mem_erase_of_ne (fun z => n1 (by rw [← z]; exact hy))).mpr (h y (List.mem_cons_of_mem _ hy)))
    have h2 := List.length_erase_of_mem hx
    have h3 : 0 < k.length := List.length_pos_of_mem hx
    show l.length + 1 ≤ k.length
    omega
theorem wok_len {W : List Int} {sh : List En} (un : (sh.map (·.pl)).Nodup) (h : Wok W sh) : W.length = waitsN sh := by
  have e : waitsN sh = ((sh.filter fun e => e.waits).map (·.pl)).length := by
    rw [List.length_map]
    exact List.countP_eq_length_filter
  rw [e]
  refine Nat.le_antisymm (nodup_le2 h.1 fun x hx => ?_) (nodup_le2 (un.sublist (List.filter_sublist.map _)) fun x hx => ?_)
  · obtain ⟨e, h1, h2, h3⟩ := (h.2 x).mp hx
    exact List.mem_map.mpr ⟨e, List.mem_filter.mpr ⟨h1, h3⟩, h2⟩
  · obtain ⟨e, h1, rfl⟩ := List.mem_map.mp hx
    obtain ⟨g1, g2⟩ := List.mem_filter.mp h1
    exact (h.2 _).mpr ⟨e, g1, rfl, g2⟩
/-! ### steps -/
theorem keepO {H : Hp} {a b : Addr} {o u : HO} (h : H a = some o) (n : a ≠ b) : upd H b u a = some o := by
  rw [upd_ne n]
  exact h
theorem ev_upd {H : Hp} {q : Addr} {o u : HO} (h : H q = some o) (n : ∀ xs, o ≠ .tup xs) {l : List Ev} {sv : List V} (e : All2 (EvAt H) l sv) : All2 (EvAt (upd H q u)) l sv :=
  e.imp (ev_keep fun a xs z => by rw [upd_ne (ne_of z h (fun w => n xs w.symm))]; exact z)
section
variable {cP : Addr} {H : Hp} {A : PA} {c : Cfg} {t : Int} {m : Mc} {W : List Int} {sv : List V}
theorem PlayS.same {H' : Hp} (e : Same H H') (h : PlayS cP H A c t m W sv) : PlayS cP H' A c t m W sv :=
  ⟨e _ _ h.hp, e _ _ h.hmem, e _ _ h.hshelf, e _ _ h.hunas, e _ _ h.hway, e _ _ h.hevs, e _ _ h.hans, h.ap, h.evs.imp (ev_keep (tk_same e))⟩
theorem PlayS.out {H' : Hp} {M : Addr → Prop} (o : Out M H H') (n : ∀ b, InP A b → ¬ M b) (k : TKeep H H') (h : PlayS cP H A c t m W sv) : PlayS cP H' A c t m W sv :=
  ⟨o _ _ h.hp (n _ (.inl rfl)), o _ _ h.hmem (n _ (.inr (.inl rfl))), o _ _ h.hshelf (n _ (.inr (.inr (.inl rfl)))), o _ _ h.hunas (n _ (.inr (.inr (.inr (.inl rfl))))), o _ _ h.hway (n _ (.inr (.inr (.inr (.inr (.inl rfl)))))), o _ _ h.hevs (n _ (.inr (.inr (.inr (.inr (.inr (.inl rfl))))))), o _ _ h.hans (n _ (.inr (.inr (.inr (.inr (.inr (.inr rfl))))))), h.ap, h.evs.imp (ev_keep k)⟩
theorem pd_ne {a b : Addr} {C dx : Addr} {fs : List (Str × V)} {o : HO} (h : H a = some (.ins C dx fs)) (h' : H b = some o) (n : ∀ C dx fs, o ≠ .ins C dx fs) : a ≠ b := ne_of h h' (fun z => n _ _ _ z.symm)
theorem PlayS.tell {ev : Ev} {v : V} (h : PlayS cP H A c t m W sv) (he : EvAt H ev v) : PlayS cP (upd H A.evs (.lst (sv ++ [v]))) A c t { m with story := m.story ++ [ev] } W (sv ++ [v]) := by
  have k : TKeep H (upd H A.evs (.lst (sv ++ [v]))) := tk_put h.hevs
  exact ⟨keepO h.hp (pd_ne h.hp h.hevs (fun _ _ _ z => nomatch z)), keepO h.hmem h.ap.me, keepO h.hshelf (ne_of h.hshelf h.hevs (fun z => nomatch z)), keepO h.hunas (ne_of h.hunas h.hevs (fun z => nomatch z)), keepO h.hway (ne_of h.hway h.hevs (fun z => nomatch z)), upd_same, keepO h.hans h.ap.ea.symm, h.ap, (h.evs.imp (ev_keep k)).more (ev_keep k _ _ he)⟩
theorem PlayS.setShelf (h : PlayS cP H A c t m W sv) (sh : List En) : PlayS cP (upd H A.shelf (.dK (sh.map ent))) A c t { m with shelf := sh } W sv :=
  ⟨keepO h.hp (pd_ne h.hp h.hshelf (fun _ _ _ z => nomatch z)), keepO h.hmem (ne_of h.hmem h.hshelf (fun z => nomatch z)), upd_same, keepO h.hunas h.ap.su.symm, keepO h.hway h.ap.sw.symm, keepO h.hevs (ne_of h.hevs h.hshelf (fun z => nomatch z)), keepO h.hans (ne_of h.hans h.hshelf (fun z => nomatch z)), h.ap, ev_upd h.hshelf (fun _ z => nomatch z) h.evs⟩
theorem PlayS.setUn (h : PlayS cP H A c t m W sv) (W' : List Int) : PlayS cP (upd H A.unas (.dK (W'.map unt))) A c t m W' sv :=
  ⟨keepO h.hp (pd_ne h.hp h.hunas (fun _ _ _ z => nomatch z)), keepO h.hmem (ne_of h.hmem h.hunas (fun z => nomatch z)), keepO h.hshelf h.ap.su, upd_same, keepO h.hway h.ap.uw.symm, keepO h.hevs (ne_of h.hevs h.hunas (fun z => nomatch z)), keepO h.hans (ne_of h.hans h.hunas (fun z => nomatch z)), h.ap, ev_upd h.hunas (fun _ z => nomatch z) h.evs⟩
theorem PlayS.setWay (h : PlayS cP H A c t m W sv) (l : List (Int × Int)) : PlayS cP (upd H A.way (.dK (l.map wnt))) A c t { m with way := l } W sv :=
  ⟨keepO h.hp (pd_ne h.hp h.hway (fun _ _ _ z => nomatch z)), keepO h.hmem (ne_of h.hmem h.hway (fun z => nomatch z)), keepO h.hshelf h.ap.sw, keepO h.hunas h.ap.uw, upd_same, keepO h.hevs (ne_of h.hevs h.hway (fun z => nomatch z)), keepO h.hans (ne_of h.hans h.hway (fun z => nomatch z)), h.ap, ev_upd h.hway (fun _ z => nomatch z) h.evs⟩
theorem PlayS.setMem (h : PlayS cP H A c t m W sv) (l : List Int) : PlayS cP (upd H A.mem (.lst (l.map V.int))) A c t { m with cells := l } W sv :=
  ⟨keepO h.hp (pd_ne h.hp h.hmem (fun _ _ _ z => nomatch z)), upd_same, keepO h.hshelf (ne_of h.hshelf h.hmem (fun z => nomatch z)), keepO h.hunas (ne_of h.hunas h.hmem (fun z => nomatch z)), keepO h.hway (ne_of h.hway h.hmem (fun z => nomatch z)), keepO h.hevs h.ap.me.symm, keepO h.hans h.ap.ma.symm, h.ap, ev_upd h.hmem (fun _ z => nomatch z) h.evs⟩
theorem PlayS.setAns (h : PlayS cP H A c t m W sv) (l : List Int) : PlayS cP (upd H A.ans (.lst (l.map V.int))) A c t { m with answers := l } W sv :=
  ⟨keepO h.hp (pd_ne h.hp h.hans (fun _ _ _ z => nomatch z)), keepO h.hmem h.ap.ma, keepO h.hshelf (ne_of h.hshelf h.hans (fun z => nomatch z)), keepO h.hunas (ne_of h.hunas h.hans (fun z => nomatch z)), keepO h.hway (ne_of h.hway h.hans (fun z => nomatch z)), keepO h.hevs h.ap.ea, upd_same, h.ap, ev_upd h.hans (fun _ z => nomatch z) h.evs⟩
theorem PlayS.setTurn (h : PlayS cP H A c t m W sv) (t' : Int) : PlayS cP (upd H A.p (.ins cP A.dx (pfs A c t'))) A c t' m W sv :=
  ⟨upd_same, keepO h.hmem (pd_ne h.hp h.hmem (fun _ _ _ z => nomatch z)).symm, keepO h.hshelf (pd_ne h.hp h.hshelf (fun _ _ _ z => nomatch z)).symm, keepO h.hunas (pd_ne h.hp h.hunas (fun _ _ _ z => nomatch z)).symm, keepO h.hway (pd_ne h.hp h.hway (fun _ _ _ z => nomatch z)).symm, keepO h.hevs (pd_ne h.hp h.hevs (fun _ _ _ z => nomatch z)).symm, keepO h.hans (pd_ne h.hp h.hans (fun _ _ _ z => nomatch z)).symm, h.ap, ev_upd h.hp (fun _ z => nomatch z) h.evs⟩
theorem PlayS.flags (h : PlayS cP H A c t m W sv) {sh : List En} (e : sh.map ent = m.shelf.map ent) : PlayS cP H A c t { m with shelf := sh } W sv :=
  ⟨h.hp, h.hmem, by show H A.shelf = some (.dK (sh.map ent)); rw [e]; exact h.hshelf, h.hunas, h.hway, h.hevs, h.hans, h.ap, h.evs⟩
theorem inP_out {a : Addr} {u : HO} (h : InP A a) : Out (InP A) H (upd H a u) := fun b o hb nb => by
  rw [upd_ne (fun z => nb (by rw [z]; exact h))]
  exact hb
theorem inP_free {H' : Hp} (h : PlayS cP H A c t m W sv) (o : Out (InP A) H H') (g : PlayS cP H' A c t m W sv) {b : Addr} (f : H' b = none) : H b = none := by
  cases q : H b with
  | none => rfl
  | some u =>
    by_cases z : InP A b
    · rcases z with rfl | rfl | rfl | rfl | rfl | rfl | rfl
      · rw [g.hp] at f; cases f
      · rw [g.hmem] at f; cases f
      · rw [g.hshelf] at f; cases f
      · rw [g.hunas] at f; cases f
      · rw [g.hway] at f; cases f
      · rw [g.hevs] at f; cases f
      · rw [g.hans] at f; cases f
    · rw [o b u q z] at f; cases f
end
/-- the play stands at A -/
def PlayAt (cP : Addr) (H : Hp) (A : PA) (c : Cfg) (t : Int) (m : Mc) : Prop := ∃ W sv, PlayS cP H A c t m W sv ∧ Wok W m.shelf
theorem wd_first {b : Bool} : (if b = true then wdStr .first else wdStr .hit) = wdStr (if b = true then .first else .hit) := by cases b <;> rfl
section
variable {K : PySem.W.Frag} {cP : Addr}
def spTell (cP : Addr) : Sp := fun vs H Q _ => ∃ A c t m W sv w q, vs = [.ref A.p, .str (wdStr w), .int q] ∧ PlayS cP H A c t m W sv ∧ sv.length ≤ 100000 ∧
  ∀ H' v, PlayS cP H' A c t { m with story := m.story ++ [(t, w, q)] } W (sv ++ [v]) → Out (InP A) H H' → Q .non H'
def t_Play_tell (K : PySem.W.Frag) : TS := tDrop (tBM K "list" rAppend (tFld K (tVar 0) "events") (tCons (tTup (tCons (tFld K (tVar 0) "turn") (tCons (tVar 1) (tCons (tVar 2) (tNil))))) (tNil)))
theorem pu_Play_tell (T : PF K cP) {vs : List V} {H : Hp} {Q : VK} {E : XK} (h : spTell cP vs H Q E) : t_Play_tell K (B Q) (start ["self", "word", "place"] vs) H := by
  obtain ⟨A, c, t, m, W, sv, w, q, rfl, h, hz, k⟩ := h
  obtain ⟨cls, n1, n2, n3, n4, n5, n6, n7, n8, n9, n10, n11⟩ := id T
  have hp := h.hp
  unfold t_Play_tell
  walk_at "w"
  refine ⟨.inl ⟨rfl, _, SqL.of h.hevs⟩, ?_⟩
  walk_at "w"
  refine ⟨small_le (by simp), w_new fun a H1 ha e1 h1 => ?_⟩
  have g1 := h.same e1
  walk_at "w"
  refine w_app g1.hevs (small_lt (by omega)) ?_
  refine k _ _ (g1.tell (ev := (t, w, q)) ⟨a, rfl, h1⟩) ((same_out e1).trans (inP_out (.inr (.inr (.inr (.inr (.inr (.inl rfl))))))))
/-! ### the oldest leaves -/
def spOldest (cP : Addr) : Sp := fun vs H Q _ => ∃ A c t m W sv e0 rest, vs = [.ref A.p] ∧ PlayS cP H A c t m W sv ∧ Wok W m.shelf ∧ (m.shelf.map (·.pl)).Nodup ∧ m.shelf = e0 :: rest ∧ sv.length ≤ 90000 ∧
  ∀ H', PlayAt cP H' A c t { m with shelf := rest, story := m.story ++ [(t, if e0.waits = true then .waste else .leave, e0.pl)] } → Out (InP A) H H' → Q .non H'
def t_Play_let_oldest_leave (K : PySem.W.Frag) (c_Play : Addr) (sp_Play_tell : Sp) : TS := tSeq (tAsg (tOp (rIxL K) (tCB (rListD) (tCons (tFld K (tVar 0) "shelf") (tNil))) (tC (.int 0))) (gName 1))
  (tSeq (sDDel (tFld K (tVar 0) "shelf") (tVar 1))
  (tIfS (tB (tDIn (tVar 1) (tFld K (tVar 0) "unasked"))) (tSeq (sDDel (tFld K (tVar 0) "unasked") (tVar 1))
  (tDrop (tMeth c_Play "tell" sp_Play_tell [] E0 (tVar 0) (tCons (tC (.str "waste")) (tCons (tVar 1) (tNil)))))) (tDrop (tMeth c_Play "tell" sp_Play_tell [] E0 (tVar 0) (tCons (tC (.str "leave")) (tCons (tVar 1) (tNil)))))))
theorem pu_Play_let_oldest_leave (T : PF K cP) {vs : List V} {H : Hp} {Q : VK} {E : XK} (h : spOldest cP vs H Q E) : t_Play_let_oldest_leave K cP (spTell cP) (B Q) (start ["self", "oldest"] vs) H := by
  obtain ⟨A, c, t, m, W, sv, e0, rest, rfl, h, hw, un, hs, hz, k⟩ := h
  obtain ⟨cls, n1, n2, n3, n4, n5, n6, n7, n8, n9, n10, n11⟩ := id T
  have hp := h.hp
  have hm := wok_mem un hw (e := e0) (by rw [hs]; exact List.mem_cons_self)
  have un2 := un
  rw [hs] at un2 hw
  have hd := wok_drop un2 hw
  unfold t_Play_let_oldest_leave
  walk_at "w"
  refine w_listD h.hshelf (w_new fun l H1 hl e1 h1 => ?_)
  have g1 := h.same e1
  walk_at "w"
  refine w_ixl (SqL.of h1) (v := .int e0.pl) (by rw [hs]; exact atI_nat (j := 0) rfl) ?_
  have hp1 := g1.hp
  walk_at "w"
  refine w_ddelI g1.hshelf (by rw [hs]; simp [ent, valV]) ?_
  have ed : dropK (m.shelf.map ent) (Sum.inl e0.pl : Key) = rest.map ent := by
    rw [dropK_ent, hs, List.filter_cons, if_neg (by simp), List.filter_eq_self.mpr]
    intro e he
    obtain ⟨n1, _⟩ := List.nodup_cons.mp (by simpa using un2 : (e0.pl :: rest.map (·.pl)).Nodup)
    exact decide_eq_true (fun z => n1 (by rw [← z]; exact List.mem_map_of_mem he))
  rw [ed]
  have g2 := g1.setShelf rest
  have o2 : Out (InP A) H (upd H1 A.shelf (.dK (rest.map ent))) := (same_out e1).trans (inP_out (.inr (.inr (.inl rfl))))
  generalize upd H1 A.shelf (.dK (rest.map ent)) = H2 at g2 o2 ⊢
  have hp2 := g2.hp
  walk_at "w"
  refine w_dinI (.inl g2.hunas) ?_
  rw [valV_unt]
  walk_at "w"
  cases hwt : e0.waits with
  | true =>
    rw [hwt, if_pos rfl] at k
    rw [decide_eq_true (hm.mpr hwt)]
    walk_at "w"
    refine w_ddelI g2.hunas (by rw [valV_unt, decide_eq_true (hm.mpr hwt)]) ?_
    rw [dropK_unt]
    have g3 := g2.setUn (W.filter fun x => decide (x ≠ e0.pl))
    have o3 : Out (InP A) H2 (upd H2 A.unas (.dK ((W.filter fun x => decide (x ≠ e0.pl)).map unt))) := inP_out (.inr (.inr (.inr (.inl rfl))))
    generalize upd H2 A.unas (.dK ((W.filter fun x => decide (x ≠ e0.pl)).map unt)) = H3 at g3 o3 ⊢
    have hp3 := g3.hp
    walk_at "w"
    refine ⟨A, c, t, _, _, sv, .waste, e0.pl, rfl, g3, by omega, fun H4 v g4 o4 => ?_⟩
    exact k H4 ⟨_, _, g4, hd⟩ (o2.trans (o3.trans o4))
  | false =>
    have nw : e0.pl ∉ W := fun z => by rw [hm.mp z] at hwt; cases hwt
    rw [hwt, if_neg (by decide)] at k
    rw [decide_eq_false nw]
    walk_at "w"
    refine ⟨A, c, t, _, _, sv, .leave, e0.pl, rfl, g2, by omega, fun H4 v g4 o4 => ?_⟩
    rw [wok_calm (sh := rest) nw] at hd
    exact k H4 ⟨_, _, g4, hd⟩ (o2.trans o4)
end
end SwD
set_option Elab.async false
set_option linter.all false
set_option maxRecDepth 100000
set_option maxHeartbeats 4000000
namespace SwD
open PySem PySem.Spec PyProof.Rows L2 SwX StX Sw
local macro_rules | `(tactic| walk_at "lk") => `(tactic| first | exact lk_at | exact lk_no | ((refine' lk_by (by decide +kernel) ?wq); (case wq => walk_at "lk")))
local macro_rules | `(tactic| walk_at "pf") => `(tactic| first | exact pf_at | exact pf_nil | ((refine' pf_by (by decide +kernel) ?wq); (case wq => walk_at "pf")))
local macro_rules | `(tactic| walk_at "w1") => `(tactic| with_reducible first
  | refine w_seq ?_ | refine w_asg ?_ | refine w_name ?_ | refine w_ret ?_ | refine w_retN ?_ | refine w_drop ?_ | refine w_next ?_ | refine w_if ?_ | refine w_ifE ?_ | refine w_test ?_ | refine w_B ?_ | refine w_bl ?_
  | refine w_not ?_ | refine w_and ?_ | refine w_or ?_ | refine w_andV ?_ | refine w_orV ?_ | refine w_notV ?_ | refine w_isN ?_ | refine w_notN ?_ | refine w_yes ?_
  | refine w_c ?_ | refine w_op ?_ | refine w_un ?_ | refine w_i0 ?_ | refine w_neg ?_ | refine w_nil ?_ | refine w_cons ?_ | refine w_cb ?_ | refine w_call ?_ | refine w_tup ?_ | refine w_lst ?_
  | refine w_fld ?_ | refine w_sfld ?_ | refine w_match ?_ | refine w_case ?_ | refine w_mcons ?_ | refine w_mnil ?_ | refine w_mcap ?_ | refine w_many ?_ | refine w_myes ?_
  | refine w_sub ?_ | refine w_bm ?_ | refine w_sl ?_ | refine w_nopart ?_ | refine w_part ?_ | refine w_int ?_ | refine w_ift ?_ | refine w_iff ?_ | refine w_ifn ?_ | refine w_dget2 ?_ | refine w_star ?_ | refine w_dput ?_ | refine w_dnewK ?_ | refine w_meth ?_ | refine w_oneOf ?_ | refine w_make ?_ | refine w_lc ?_ | refine w_for ?_ | refine w_ilist ?_ | refine w_irng1 ?_ | refine w_irng2 ?_ | refine w_irng3 ?_)
local macro_rules | `(tactic| walk_at "w2") => `(tactic| first
  | ((with_reducible refine' w_var ?wh ?_); (case wh => rfl))
  | ((with_reducible refine' w_eq ?wh ?_); (case wh => rfl))
  | ((with_reducible refine' w_ne ?wh ?_); (case wh => rfl))
  | ((with_reducible refine' w_mno ?wh ?_); (case wh => decide +kernel))
  | ((with_reducible refine' w_mhit ?wh ?wl ?_); (case wh => assumption); (case wl => rfl))
  | ((with_reducible refine' w_mmiss ?wh ?wl ?_); (case wh => assumption); (case wl => simp))
  | ((with_reducible refine' w_fldA ?wh ?wc ?wn ?wl ?_); (case wh => first | assumption | exact upd_same); (case wc => assumption); (case wn => assumption); (case wl => walk_at "lk"))
  | ((with_reducible refine' w_ixl ?wh ?we ?_); (case wh => exact SqL.of (by first | assumption | exact upd_same)); (case we => rfl))
  | ((with_reducible refine' w_ixt ?wh ?we ?_); (case wh => assumption); (case we => rfl))
  | ((with_reducible refine' w_ifT ?wh ?_); (case wh => (with_reducible exact Eq.refl _)))
  | ((with_reducible refine' w_ifF ?wh ?_); (case wh => decide +kernel))
  | ((with_reducible refine' w_isiY ?wh ?wk ?_); (case wh => first | exact .int _ | exact .str _ | exact .lst (by assumption) | exact .tup (by assumption)); (case wk => decide +kernel))
  | ((with_reducible refine' w_isiN ?wh ?wk ?_); (case wh => first | exact .int _ | exact .str _ | exact .lst (by assumption) | exact .tup (by assumption)); (case wk => decide +kernel))
  | ((with_reducible refine' w_ifF ?wh ?_); (case wh => (intro z; cases z; done)))
  | ((with_reducible refine' w_setl ?wh ?we ?wl ?_); (case wh => first | assumption | exact upd_same); (case we => rfl); (case wl => rfl))
  | ((with_reducible refine' w_methA ?wh ?wl ?_); (case wh => first | assumption | exact upd_same); (case wl => walk_at "lk"))
  | ((with_reducible refine' w_sfldB ?wc ?wn ?wz ?wl ?_); (case wc => assumption); (case wn => assumption); (case wz => simp); (case wl => walk_at "pf"))
  | ((with_reducible refine' w_sfldA ?wh ?wc ?wn ?wz ?wl ?_); (case wh => assumption); (case wc => assumption); (case wn => assumption); (case wz => simp); (case wl => walk_at "pf")))
local macro_rules | `(tactic| walk_at "w") => `(tactic| repeat (first | walk_at "w1" | walk_at "w2" | (dsimp only [List.set, setAll, List.append, List.cons_append, List.nil_append])))
local macro_rules | `(tactic| walk_at "w1") => `(tactic| with_reducible first | refine w_rev ?_ | refine w_enum ?_ | refine w_itup' ?_ | refine w_bm0 ?_ | refine w_gcons ?_ | refine w_gnil ?_ | refine w_tm1' ?_ | refine w_tru ?_)
local macro_rules | `(tactic| walk_at "w1") => `(tactic| with_reducible first | refine w_dget ?_ | refine w_din ?_ | refine w_dpop ?_ | refine w_ddel ?_ | refine w_iitems ?_ | refine w_dnotin ?_ | refine w_chain ?_)
local macro_rules | `(tactic| walk_at "w2") => `(tactic| first
  | ((with_reducible refine' w_gfldB ?wv ?wc ?wn ?wz ?wl ?_); (case wv => rfl); (case wc => assumption); (case wn => assumption); (case wz => simp); (case wl => walk_at "pf"))
  | ((with_reducible refine' w_gfldA ?wv ?wh ?wc ?wn ?wz ?wl ?_); (case wv => rfl); (case wh => assumption); (case wc => assumption); (case wn => assumption); (case wz => simp); (case wl => walk_at "pf")))
theorem tkP {cP : Addr} {H H' : Hp} {A : PA} {c : Cfg} {t : Int} {m : Mc} {W : List Int} {sv : List V} (h : PlayS cP H A c t m W sv) (o : Out (InP A) H H') : TKeep H H' := fun b xs hb => o b _ hb (fun z => by
  rcases z with rfl | rfl | rfl | rfl | rfl | rfl | rfl
  · rw [h.hp] at hb; cases hb
  · rw [h.hmem] at hb; cases hb
  · rw [h.hshelf] at hb; cases hb
  · rw [h.hunas] at hb; cases hb
  · rw [h.hway] at hb; cases hb
  · rw [h.hevs] at hb; cases hb
  · rw [h.hans] at hb; cases hb)
theorem PlayAt.tk {cP : Addr} {H H' : Hp} {A : PA} {c : Cfg} {t : Int} {m : Mc} (h : PlayAt cP H A c t m) (o : Out (InP A) H H') : TKeep H H' := by
  obtain ⟨W, sv, g, _⟩ := h
  exact tkP g o
section
variable {K : PySem.W.Frag} {cP : Addr}
/-! ### a place is laid -/
def spLayP (cP : Addr) : Sp := fun vs H Q _ => ∃ A c t m q w, vs = [.ref A.p, .int q, .str (wdStr w)] ∧ PlayAt cP H A c t m ∧ (m.shelf.map (·.pl)).Nodup ∧ (m.shelf.length : Int) ≤ c.room ∧ 1 ≤ c.room ∧ c.room ≤ 1000 ∧ onShelf m.shelf q = false ∧ 0 ≤ q ∧ q < (m.cells.length : Int) ∧ m.story.length ≤ 80000 ∧
  ∀ H', PlayAt cP H' A c t (lay c.room t w false q m) → Out (InP A) H H' → Q .non H'
def t_Play_lay (K : PySem.W.Frag) (c_Play : Addr) (sp_Play_let_oldest_leave sp_Play_tell : Sp) : TS := tSeq (tIfS (tTest (tOp (rEq) (tCB (rLenD) (tCons (tFld K (tVar 0) "shelf") (tNil))) (tFld K (tVar 0) "room"))) (tDrop (tMeth c_Play "let_oldest_leave" sp_Play_let_oldest_leave [] E0 (tVar 0) tNil)) (tNext))
  (tSeq (sDPut (tFld K (tVar 0) "shelf") (tVar 1) (tOp (rIxL K) (tFld K (tVar 0) "memory") (tVar 1)))
  (tDrop (tMeth c_Play "tell" sp_Play_tell [] E0 (tVar 0) (tCons (tVar 2) (tCons (tVar 1) (tNil))))))
theorem pu_Play_lay (T : PF K cP) {vs : List V} {H : Hp} {Q : VK} {E : XK} (h : spLayP cP vs H Q E) : t_Play_lay K cP (spOldest cP) (spTell cP) (B Q) (start ["self", "place", "word"] vs) H := by
  obtain ⟨A, c, t, m, q, w, rfl, ⟨W, sv, h, hw⟩, un, hl, r1, r2, off, q0, q1, hz, k⟩ := h
  obtain ⟨cls, n1, n2, n3, n4, n5, n6, n7, n8, n9, n10, n11⟩ := id T
  have hp := h.hp
  have hsv := h.evs.len
  -- behind the one that leaves
  have fin : ∀ (H1 : Hp) (W1 : List Int) (sv1 : List V), PlayS cP H1 A c t { m with shelf := stays c.room m.shelf, story := m.story ++ gone t (leaves c.room m.shelf) } W1 sv1 → Wok W1 (stays c.room m.shelf) → Out (InP A) H H1 →
      tSeq (sDPut (tFld K (tVar 0) "shelf") (tVar 1) (tOp (rIxL K) (tFld K (tVar 0) "memory") (tVar 1))) (tDrop (tMeth cP "tell" (spTell cP) [] E0 (tVar 0) (tCons (tVar 2) (tCons (tVar 1) (tNil))))) (B Q) [some (.ref A.p), some (.int q), some (.str (wdStr w))] H1 := by
    intro H1 W1 sv1 g gw o1
    have hp1 := g.hp
    have off1 : onShelf (stays c.room m.shelf) q = false := by
      cases z : onShelf (stays c.room m.shelf) q with
      | false => rfl
      | true =>
        obtain ⟨e, h1, h2⟩ := onShelf_iff.mp z
        rw [onShelf_iff.mpr ⟨e, stays_sub h1, h2⟩] at off
        cases off
    have hsv1 := g.evs.len
    have hgl : (gone t (leaves c.room m.shelf)).length ≤ 1 := by
      unfold gone
      rw [List.length_map]
      exact leaves_len _ _
    have hst : (stays c.room m.shelf).length ≤ 1000 := by
      have := stays_len r1 hl
      omega
    walk_at "w"
    refine w_ixl (SqL.of g.hmem) (at_getD q0 q1) ?_
    walk_at "w"
    refine w_putI g.hshelf (small_lt (by rw [List.length_map]; show (stays c.room m.shelf).length ≤ _; omega)) ?_
    rw [putK_ent_new (fl := false) off1]
    have g2 := g.setShelf (stays c.room m.shelf ++ [⟨q, m.cells.getD q.toNat 0, false⟩])
    have o2 : Out (InP A) H1 (upd H1 A.shelf (.dK ((stays c.room m.shelf ++ [(⟨q, m.cells.getD q.toNat 0, false⟩ : En)]).map ent))) := inP_out (.inr (.inr (.inl rfl)))
    generalize upd H1 A.shelf (.dK ((stays c.room m.shelf ++ [(⟨q, m.cells.getD q.toNat 0, false⟩ : En)]).map ent)) = H2 at g2 o2 ⊢
    have hp2 := g2.hp
    walk_at "w"
    refine ⟨A, c, t, _, _, sv1, w, q, rfl, g2, ?_, fun H4 v g4 o4 => ?_⟩
    · rw [← hsv1]
      show (m.story ++ gone t (leaves c.room m.shelf)).length ≤ _
      rw [List.length_append]
      omega
    · exact k H4 ⟨_, _, g4, wok_add gw⟩ (o1.trans (o2.trans o4))
  unfold t_Play_lay
  walk_at "w"
  refine w_lenD h.hshelf ?_
  walk_at "w"
  rw [List.length_map]
  refine w_if2 (fun e => ?_) (fun e => ?_)
  · have e : (m.shelf.length : Int) = c.room := by injection e
    obtain ⟨e0, rest, hs⟩ : ∃ e0 rest, m.shelf = e0 :: rest := by
      cases z : m.shelf with
      | nil => rw [z] at e; simp at e; omega
      | cons a b => exact ⟨a, b, rfl⟩
    have es : stays c.room m.shelf = rest := by
      unfold stays
      rw [if_pos e, hs]
      rfl
    have el : leaves c.room m.shelf = [e0] := by
      unfold leaves
      rw [if_pos e, hs]
      rfl
    rw [es, el] at fin
    walk_at "w"
    refine ⟨A, c, t, m, W, sv, e0, rest, rfl, h, hw, un, hs, by omega, fun H1 g o1 => ?_⟩
    obtain ⟨W1, sv1, g1, gw⟩ := g
    exact fin H1 W1 sv1 g1 gw o1
  · have e : ¬ (m.shelf.length : Int) = c.room := fun z => e (by rw [z])
    have es : stays c.room m.shelf = m.shelf := by
      unfold stays
      rw [if_neg e]
    have el : leaves c.room m.shelf = [] := by
      unfold leaves
      rw [if_neg e]
    rw [es, el] at fin
    refine w_next ?_
    dsimp only
    refine fin H W sv ?_ hw Out.refl
    show PlayS cP H A c t { m with story := m.story ++ [] } W sv
    rw [List.append_nil]
    exact h
/-! ### a place on the shelf is asked -/
def spAskOn (cP : Addr) : Sp := fun vs H Q _ => ∃ A c t m e0, vs = [.ref A.p, .int e0.pl] ∧ PlayAt cP H A c t m ∧ (m.shelf.map (·.pl)).Nodup ∧ e0 ∈ m.shelf ∧ m.shelf.length ≤ 1000 ∧ m.story.length ≤ 80000 ∧
  ∀ H', PlayAt cP H' A c t { m with shelf := m.shelf.filter (fun e => decide (e.pl ≠ e0.pl)) ++ [⟨e0.pl, e0.num, false⟩], story := m.story ++ [(t, if e0.waits = true then Wd.first else Wd.hit, e0.pl)] } → Out (InP A) H H' → Q .non H'
def t_Play_ask_on_shelf (K : PySem.W.Frag) (c_Play : Addr) (sp_Play_tell : Sp) : TS := tSeq (tIfS (tB (tDIn (tVar 1) (tFld K (tVar 0) "unasked"))) (tSeq (sDDel (tFld K (tVar 0) "unasked") (tVar 1))
  (tDrop (tMeth c_Play "tell" sp_Play_tell [] E0 (tVar 0) (tCons (tC (.str "first")) (tCons (tVar 1) (tNil)))))) (tDrop (tMeth c_Play "tell" sp_Play_tell [] E0 (tVar 0) (tCons (tC (.str "hit")) (tCons (tVar 1) (tNil))))))
  (tSeq (tAsg (tDPop1 (tFld K (tVar 0) "shelf") (tVar 1)) (gName 2))
  (sDPut (tFld K (tVar 0) "shelf") (tVar 1) (tVar 2)))
theorem find_mem {sh : List En} {e0 : En} (un : (sh.map (·.pl)).Nodup) (h : e0 ∈ sh) : (sh.find? fun e => decide (e.pl = e0.pl)) = some e0 := by
  cases e : sh.find? fun e => decide (e.pl = e0.pl) with
  | none =>
    have := find_on.mp e
    rw [onShelf_iff.mpr ⟨e0, h, rfl⟩] at this
    cases this
  | some e1 =>
    have h2 : e1.pl = e0.pl := by simpa using List.find?_some e
    rw [inj_of_nodup un (List.mem_of_find?_eq_some e) h h2]
theorem off_filter (sh : List En) (p : Int) : onShelf (sh.filter fun e => decide (e.pl ≠ p)) p = false := by
  cases z : onShelf (sh.filter fun e => decide (e.pl ≠ p)) p with
  | false => rfl
  | true =>
    obtain ⟨e, h1, h2⟩ := onShelf_iff.mp z
    exact absurd h2 (by simpa using (List.mem_filter.mp h1).2)
theorem pu_Play_ask_on_shelf (T : PF K cP) {vs : List V} {H : Hp} {Q : VK} {E : XK} (h : spAskOn cP vs H Q E) : t_Play_ask_on_shelf K cP (spTell cP) (B Q) (start ["self", "place", "number"] vs) H := by
  obtain ⟨A, c, t, m, e0, rfl, ⟨W, sv, h, hw⟩, un, he, hl, hz, k⟩ := h
  obtain ⟨cls, n1, n2, n3, n4, n5, n6, n7, n8, n9, n10, n11⟩ := id T
  have hp := h.hp
  have hsv := h.evs.len
  have hm := wok_mem un hw he
  have ww := wok_asked (p := e0.pl) (n := e0.num) hw
  -- behind the word: taken off and laid again
  have fin : ∀ (H1 : Hp) (sv1 : List V), PlayS cP H1 A c t { m with story := m.story ++ [(t, if e0.waits = true then Wd.first else Wd.hit, e0.pl)] } (W.filter fun x => decide (x ≠ e0.pl)) sv1 → Out (InP A) H H1 →
      tSeq (tAsg (tDPop1 (tFld K (tVar 0) "shelf") (tVar 1)) (gName 2)) (sDPut (tFld K (tVar 0) "shelf") (tVar 1) (tVar 2)) (B Q) [some (.ref A.p), some (.int e0.pl), none] H1 := by
    intro H1 sv1 g o1
    have hp1 := g.hp
    walk_at "w"
    refine ⟨A.shelf, rfl, .inl ⟨_, .inl g.hshelf⟩, ?_⟩
    walk_at "w"
    refine w_dpopI g.hshelf (v := .int e0.num) (by
      show valV (m.shelf.map ent) _ = _
      rw [valV_ent, find_mem un he]
      rfl) ?_
    dsimp only
    rw [dropK_ent]
    have g2 := g.setShelf (m.shelf.filter fun e => decide (e.pl ≠ e0.pl))
    have o2 : Out (InP A) H1 (upd H1 A.shelf (.dK ((m.shelf.filter fun e => decide (e.pl ≠ e0.pl)).map ent))) := inP_out (.inr (.inr (.inl rfl)))
    generalize upd H1 A.shelf (.dK ((m.shelf.filter fun e => decide (e.pl ≠ e0.pl)).map ent)) = H2 at g2 o2 ⊢
    have hp2 := g2.hp
    walk_at "w"
    refine w_putI g2.hshelf (small_lt ?_) ?_
    · rw [List.length_map]
      show (m.shelf.filter fun e => decide (e.pl ≠ e0.pl)).length ≤ _
      have := List.length_filter_le (fun e => decide (e.pl ≠ e0.pl)) m.shelf
      omega
    rw [putK_ent_new (fl := false) (off_filter m.shelf e0.pl)]
    have g3 := g2.setShelf ((m.shelf.filter fun e => decide (e.pl ≠ e0.pl)) ++ [⟨e0.pl, e0.num, false⟩])
    exact k _ ⟨_, _, g3, ww⟩ (o1.trans (o2.trans (inP_out (.inr (.inr (.inl rfl))))))
  unfold t_Play_ask_on_shelf
  walk_at "w"
  refine w_dinI (.inl h.hunas) ?_
  rw [valV_unt]
  walk_at "w"
  cases hwt : e0.waits with
  | true =>
    rw [hwt, if_pos rfl] at fin
    rw [decide_eq_true (hm.mpr hwt)]
    walk_at "w"
    refine w_ddelI h.hunas (by rw [valV_unt, decide_eq_true (hm.mpr hwt)]) ?_
    rw [dropK_unt]
    have g2 := h.setUn (W.filter fun x => decide (x ≠ e0.pl))
    have o2 : Out (InP A) H (upd H A.unas (.dK ((W.filter fun x => decide (x ≠ e0.pl)).map unt))) := inP_out (.inr (.inr (.inr (.inl rfl))))
    generalize upd H A.unas (.dK ((W.filter fun x => decide (x ≠ e0.pl)).map unt)) = H2 at g2 o2 ⊢
    have hp2 := g2.hp
    walk_at "w"
    refine ⟨A, c, t, _, _, sv, .first, e0.pl, rfl, g2, by omega, fun H4 v g4 o4 => ?_⟩
    exact fin H4 _ g4 (o2.trans o4)
  | false =>
    have nw : e0.pl ∉ W := fun z => by rw [hm.mp z] at hwt; cases hwt
    rw [hwt, if_neg (by decide), wok_calm (sh := m.shelf) nw] at fin
    rw [decide_eq_false nw]
    walk_at "w"
    refine ⟨A, c, t, _, _, sv, .hit, e0.pl, rfl, h, by omega, fun H4 v g4 o4 => ?_⟩
    exact fin H4 _ g4 o4
/-! ### a place is asked -/
def spAskP (cP : Addr) : Sp := fun vs H Q _ => ∃ A c t m p, vs = [.ref A.p, .int p] ∧ PlayAt cP H A c t m ∧ Cfg.ok c ∧ Mc.ok c m ∧ c.room ≤ 1000 ∧ 0 ≤ p ∧ p < (c.mem.length : Int) ∧ m.story.length ≤ 80000 ∧
  ∀ H', PlayAt cP H' A c t (asked c t p m) → Out (InP A) H H' → Q .non H'
def t_Play_ask (K : PySem.W.Frag) (c_Play : Addr) (sp_Play_ask_on_shelf sp_Play_lay : Sp) : TS := tIfS (tB (tDIn (tVar 1) (tFld K (tVar 0) "shelf"))) (tDrop (tMeth c_Play "ask_on_shelf" sp_Play_ask_on_shelf [] E0 (tVar 0) (tCons (tVar 1) (tNil)))) (tIfS (tB (tDIn (tVar 1) (tFld K (tVar 0) "way"))) (tSeq (sDDel (tFld K (tVar 0) "way") (tVar 1))
  (tDrop (tMeth c_Play "lay" sp_Play_lay [] E0 (tVar 0) (tCons (tVar 1) (tCons (tC (.str "late")) (tNil)))))) (tDrop (tMeth c_Play "lay" sp_Play_lay [] E0 (tVar 0) (tCons (tVar 1) (tCons (tC (.str "miss")) (tNil))))))
theorem pu_Play_ask (T : PF K cP) {vs : List V} {H : Hp} {Q : VK} {E : XK} (h : spAskP cP vs H Q E) : t_Play_ask K cP (spAskOn cP) (spLayP cP) (B Q) (start ["self", "place"] vs) H := by
  obtain ⟨A, c, t, m, p, rfl, ⟨W, sv, h, hw⟩, ok, km, r2, p0, p1, hz, k⟩ := h
  obtain ⟨cls, n1, n2, n3, n4, n5, n6, n7, n8, n9, n10, n11⟩ := id T
  have hp := h.hp
  unfold t_Play_ask
  walk_at "w"
  refine w_dinI (.inl h.hshelf) ?_
  rw [valV_ent_on]
  walk_at "w"
  cases hon : onShelf m.shelf p with
  | true =>
    obtain ⟨e0, he, rfl⟩ := onShelf_iff.mp hon
    walk_at "w"
    refine ⟨A, c, t, m, e0, rfl, ⟨W, sv, h, hw⟩, km.uniq, he, by have := km.room; omega, hz, fun H1 g o => ?_⟩
    refine k H1 ?_ o
    rw [asked_hit km.uniq he]
    exact g
  | false =>
    rw [asked_else hon] at k
    refine w_iff ?_
    walk_at "w"
    refine w_dinI (.inl h.hway) ?_
    rw [valV_wnt]
    walk_at "w"
    have hlen : (m.cells.length : Int) = (c.mem.length : Int) := by rw [km.cells]
    cases hy : m.way.any fun x => decide (x.1 = p) with
    | true =>
      rw [hy, if_pos rfl] at k
      walk_at "w"
      refine w_ddelI h.hway (by rw [valV_wnt, hy]) ?_
      rw [dropK_wnt]
      have g2 := h.setWay (m.way.filter fun x => decide (x.1 ≠ p))
      have o2 : Out (InP A) H (upd H A.way (.dK ((m.way.filter fun x => decide (x.1 ≠ p)).map wnt))) := inP_out (.inr (.inr (.inr (.inr (.inl rfl)))))
      generalize upd H A.way (.dK ((m.way.filter fun x => decide (x.1 ≠ p)).map wnt)) = H2 at g2 o2 ⊢
      have hp2 := g2.hp
      walk_at "w"
      exact ⟨A, c, t, _, p, .late, rfl, ⟨W, sv, g2, hw⟩, km.uniq, km.room, ok.room1, r2, hon, p0, by show p < (m.cells.length : Int); omega, hz, fun H1 g o => k H1 g (o2.trans o)⟩
    | false =>
      rw [hy, if_neg (by decide), filter_none (f := fun (x : Int × Int) => x.1) hy] at k
      refine w_iff ?_
      walk_at "w"
      exact ⟨A, c, t, m, p, .miss, rfl, ⟨W, sv, h, hw⟩, km.uniq, km.room, ok.room1, r2, hon, p0, by omega, hz, fun H1 g o => k H1 g o⟩
/-! ### the deed itself -/
def spAct (cP : Addr) : Sp := fun vs H Q _ => ∃ A c t m d v, vs = [.ref A.p, v] ∧ DeedAt H d v ∧ PlayAt cP H A c t m ∧ onShelf m.shelf d.1 = true ∧ m.shelf.length ≤ 1000 ∧ 0 ≤ d.1 ∧ d.1 < (m.cells.length : Int) ∧ m.answers.length ≤ 80000 ∧
  ∀ H', PlayAt cP H' A c t (act d m) → Out (InP A) H H' → Q .non H'
def t_Play_read_or_write (K : PySem.W.Frag) : TS := tMatch (tVar 1) (csCons (mSeq K 3 (msCons (mVal (.str "write")) (msCons (mCap) (msCons (mCap) (msNil))))) [2, 3] (tSeq (sDPut (tFld K (tVar 0) "shelf") (tVar 2) (tVar 3))
  (tAsg (tVar 3) (gSub (tFld K (tVar 0) "memory") (tVar 2) rSetL)))
    (csCons (mSeq K 2 (msCons (mVal (.str "read")) (msCons (mCap) (msNil)))) [2] (tDrop (tBM K "list" rAppend (tFld K (tVar 0) "answers") (tCons (tDGet (tFld K (tVar 0) "shelf") (tVar 2)) (tNil))))
    (csNil)))
theorem atN {n : Nat} {p : Int} (h0 : 0 ≤ p) (h1 : p < (n : Int)) : ixN n p = some p.toNat := by
  unfold ixN
  simp only [h0, h1, if_true]
theorem pu_Play_read_or_write (T : PF K cP) {vs : List V} {H : Hp} {Q : VK} {E : XK} (h : spAct cP vs H Q E) : t_Play_read_or_write K (B Q) (start ["self", "deed", "place", "number"] vs) H := by
  obtain ⟨A, c, t, m, d, v, rfl, hd, ⟨W, sv, h, hw⟩, hon, hl, p0, p1, hz, k⟩ := h
  obtain ⟨cls, n1, n2, n3, n4, n5, n6, n7, n8, n9, n10, n11⟩ := id T
  have hp := h.hp
  obtain ⟨p, o⟩ := d
  have wk := wok_act (d := (p, o)) hw
  unfold t_Play_read_or_write
  cases o with
  | none =>
    obtain ⟨a, rfl, ha⟩ := (show ∃ a, v = .ref a ∧ H a = some (.tup [.str "read", .int p]) from hd)
    have hs : SqT K H a [.str "read", .int p] := .of ha
    walk_at "w"
    refine ⟨.inl ⟨rfl, _, SqL.of h.hans⟩, ?_⟩
    walk_at "w"
    refine w_dgetI (.inl h.hshelf) (v := .int (Sw.numAt m.shelf p)) ?_ ?_
    · rw [valV_ent]
      cases e : m.shelf.find? fun e => decide (e.pl = p) with
      | none =>
        have := find_on.mp e
        rw [hon] at this
        cases this
      | some e0 =>
        unfold Sw.numAt
        rw [e]
        rfl
    walk_at "w"
    refine w_app h.hans (small_lt (by rw [List.length_map]; omega)) ?_
    have g2 := h.setAns (m.answers ++ [Sw.numAt m.shelf p])
    rw [List.map_append] at g2
    exact k _ ⟨W, sv, g2, hw⟩ (inP_out (.inr (.inr (.inr (.inr (.inr (.inr rfl)))))))
  | some n =>
    obtain ⟨a, rfl, ha⟩ := (show ∃ a, v = .ref a ∧ H a = some (.tup [.str "write", .int p, .int n]) from hd)
    have hs : SqT K H a [.str "write", .int p, .int n] := .of ha
    walk_at "w"
    refine w_putI h.hshelf (small_lt (by rw [List.length_map]; omega)) ?_
    rw [putK_ent_old hon]
    have g2 := h.setShelf (m.shelf.map fun e => if e.pl = p then { e with num := n } else e)
    have o2 : Out (InP A) H (upd H A.shelf (.dK ((m.shelf.map fun e => if e.pl = p then { e with num := n } else e).map ent))) := inP_out (.inr (.inr (.inl rfl)))
    generalize upd H A.shelf (.dK ((m.shelf.map fun e => if e.pl = p then { e with num := n } else e).map ent)) = H2 at g2 o2 ⊢
    have hp2 := g2.hp
    walk_at "w"
    refine w_setl (xs := m.cells.map V.int) (ys := (m.cells.set p.toNat n).map V.int) g2.hmem (by rw [List.length_map]; exact atN p0 p1) (by rw [List.map_set]) ?_
    have g3 := g2.setMem (m.cells.set p.toNat n)
    exact k _ ⟨W, sv, g3, wk⟩ (o2.trans (inP_out (.inr (.inl rfl))))
/-! ### may a place be started -/
def mayB (c : Cfg) (m : Mc) (q : Int) : Bool := decide (0 ≤ q ∧ q < (c.mem.length : Int) ∧ onShelf m.shelf q = false ∧ (m.way.any fun x => decide (x.1 = q)) = false ∧ (m.way.length : Int) < c.most)
def spMay (cP : Addr) : Sp := fun vs H Q _ => ∃ A c t m q, vs = [.ref A.p, .int q] ∧ PlayAt cP H A c t m ∧ m.cells.length = c.mem.length ∧ Q (.bl (mayB c m q)) H
def t_Play_may_start (K : PySem.W.Frag) : TS := tSeq (tIfS (tNot (tTest (tChain (rLeI) (rLtI) (tC (.int 0)) (tVar 1) (tCB (rLenQ K) (tCons (tFld K (tVar 0) "memory") (tNil)))))) (tRet (tC (.bl false))) (tNext))
  (tRet (tAndV (tDNotIn (tVar 1) (tFld K (tVar 0) "shelf")) (tAndV (tDNotIn (tVar 1) (tFld K (tVar 0) "way")) (tOp (rLtI) (tCB (rLenD) (tCons (tFld K (tVar 0) "way") (tNil))) (tFld K (tVar 0) "most")))))
theorem pu_Play_may_start (T : PF K cP) {vs : List V} {H : Hp} {Q : VK} {E : XK} (h : spMay cP vs H Q E) : t_Play_may_start K (B Q) (start ["self", "place"] vs) H := by
  obtain ⟨A, c, t, m, q, rfl, ⟨W, sv, h, hw⟩, hc, k⟩ := h
  obtain ⟨cls, n1, n2, n3, n4, n5, n6, n7, n8, n9, n10, n11⟩ := id T
  have hp := h.hp
  unfold mayB at k
  have rest : 0 ≤ q ∧ q < (c.mem.length : Int) → tRet (tAndV (tDNotIn (tVar 1) (tFld K (tVar 0) "shelf")) (tAndV (tDNotIn (tVar 1) (tFld K (tVar 0) "way")) (tOp (rLtI) (tCB (rLenD) (tCons (tFld K (tVar 0) "way") (tNil))) (tFld K (tVar 0) "most")))) (B Q) [some (.ref A.p), some (.int q)] H := by
    rintro ⟨q0, q1⟩
    refine w_ret ?_
    refine w_andV ?_
    refine w_dnotin ?_
    walk_at "w"
    refine w_dinI (.inl h.hshelf) ?_
    rw [valV_ent_on]
    refine ⟨_, rfl, ?_⟩
    cases hon : onShelf m.shelf q with
    | true =>
      rw [decide_eq_false (fun z => by rw [hon] at z; cases z.2.2.1)] at k
      exact k
    | false =>
      rw [if_pos (show (!false) = true by decide)]
      refine w_andV ?_
      refine w_dnotin ?_
      walk_at "w"
      refine w_dinI (.inl h.hway) ?_
      rw [valV_wnt]
      refine ⟨_, rfl, ?_⟩
      cases hy : m.way.any fun x => decide (x.1 = q) with
      | true =>
        rw [decide_eq_false (fun z => by rw [hy] at z; cases z.2.2.2.1)] at k
        exact k
      | false =>
        rw [if_pos (show (!false) = true by decide)]
        walk_at "w"
        refine w_lenD h.hway ?_
        walk_at "w"
        rw [List.length_map]
        have e : decide (0 ≤ q ∧ q < (c.mem.length : Int) ∧ onShelf m.shelf q = false ∧ (m.way.any fun x => decide (x.1 = q)) = false ∧ (m.way.length : Int) < c.most) = decide ((m.way.length : Int) < c.most) := by
          rw [decide_eq_decide]
          exact ⟨fun z => z.2.2.2.2, fun z => ⟨q0, q1, hon, hy, z⟩⟩
        rw [e] at k
        exact k
  unfold t_Play_may_start
  refine w_seq (w_if (w_not (w_test ?_)))
  refine w_chain ?_
  walk_at "w"
  by_cases q0 : 0 ≤ q
  · rw [decide_eq_true q0, if_pos rfl]
    walk_at "w"
    refine w_len (.inl (SqL.of h.hmem)) ?_
    walk_at "w"
    rw [List.length_map, hc]
    by_cases q1 : q < (c.mem.length : Int)
    · rw [decide_eq_true q1]
      refine w_ift ?_
      refine SwX.w_next ?_
      exact rest ⟨q0, q1⟩
    · rw [decide_eq_false q1]
      walk_at "w"
      rw [decide_eq_false (fun z => q1 z.2.1)] at k
      exact k
  · rw [decide_eq_false q0, if_neg (by decide)]
    refine ⟨false, rfl, ?_⟩
    walk_at "w"
    rw [decide_eq_false (fun z => q0 z.1)] at k
    exact k
end
end SwD
set_option Elab.async false
set_option linter.all false
set_option maxRecDepth 100000
set_option maxHeartbeats 4000000
namespace SwD
open PySem PySem.Spec PyProof.Rows L2 SwX StX Sw
local macro_rules | `(tactic| walk_at "lk") => `(tactic| first | exact lk_at | exact lk_no | ((refine' lk_by (by decide +kernel) ?wq); (case wq => walk_at "lk")))
local macro_rules | `(tactic| walk_at "pf") => `(tactic| first | exact pf_at | exact pf_nil | ((refine' pf_by (by decide +kernel) ?wq); (case wq => walk_at "pf")))
local macro_rules | `(tactic| walk_at "w1") => `(tactic| with_reducible first
  | refine w_seq ?_ | refine w_asg ?_ | refine w_name ?_ | refine w_ret ?_ | refine w_retN ?_ | refine w_drop ?_ | refine w_next ?_ | refine w_if ?_ | refine w_ifE ?_ | refine w_test ?_ | refine w_B ?_ | refine w_bl ?_
  | refine w_not ?_ | refine w_and ?_ | refine w_or ?_ | refine w_andV ?_ | refine w_orV ?_ | refine w_notV ?_ | refine w_isN ?_ | refine w_notN ?_ | refine w_yes ?_
  | refine w_c ?_ | refine w_op ?_ | refine w_un ?_ | refine w_i0 ?_ | refine w_neg ?_ | refine w_nil ?_ | refine w_cons ?_ | refine w_cb ?_ | refine w_call ?_ | refine w_tup ?_ | refine w_lst ?_
  | refine w_fld ?_ | refine w_sfld ?_ | refine w_match ?_ | refine w_case ?_ | refine w_mcons ?_ | refine w_mnil ?_ | refine w_mcap ?_ | refine w_many ?_ | refine w_myes ?_
  | refine w_sub ?_ | refine w_bm ?_ | refine w_sl ?_ | refine w_nopart ?_ | refine w_part ?_ | refine w_int ?_ | refine w_ift ?_ | refine w_iff ?_ | refine w_ifn ?_ | refine w_dget2 ?_ | refine w_star ?_ | refine w_dput ?_ | refine w_dnewK ?_ | refine w_meth ?_ | refine w_oneOf ?_ | refine w_make ?_ | refine w_lc ?_ | refine w_for ?_ | refine w_ilist ?_ | refine w_irng1 ?_ | refine w_irng2 ?_ | refine w_irng3 ?_)
local macro_rules | `(tactic| walk_at "w2") => `(tactic| first
  | ((with_reducible refine' w_var ?wh ?_); (case wh => rfl))
  | ((with_reducible refine' w_eq ?wh ?_); (case wh => rfl))
  | ((with_reducible refine' w_ne ?wh ?_); (case wh => rfl))
  | ((with_reducible refine' w_mno ?wh ?_); (case wh => decide +kernel))
  | ((with_reducible refine' w_mhit ?wh ?wl ?_); (case wh => assumption); (case wl => rfl))
  | ((with_reducible refine' w_mmiss ?wh ?wl ?_); (case wh => assumption); (case wl => simp))
  | ((with_reducible refine' w_fldA ?wh ?wc ?wn ?wl ?_); (case wh => first | assumption | exact upd_same); (case wc => assumption); (case wn => assumption); (case wl => walk_at "lk"))
  | ((with_reducible refine' w_ixl ?wh ?we ?_); (case wh => exact SqL.of (by first | assumption | exact upd_same)); (case we => rfl))
  | ((with_reducible refine' w_ixt ?wh ?we ?_); (case wh => assumption); (case we => rfl))
  | ((with_reducible refine' w_ifT ?wh ?_); (case wh => (with_reducible exact Eq.refl _)))
  | ((with_reducible refine' w_ifF ?wh ?_); (case wh => decide +kernel))
  | ((with_reducible refine' w_isiY ?wh ?wk ?_); (case wh => first | exact .int _ | exact .str _ | exact .lst (by assumption) | exact .tup (by assumption)); (case wk => decide +kernel))
  | ((with_reducible refine' w_isiN ?wh ?wk ?_); (case wh => first | exact .int _ | exact .str _ | exact .lst (by assumption) | exact .tup (by assumption)); (case wk => decide +kernel))
  | ((with_reducible refine' w_ifF ?wh ?_); (case wh => (intro z; cases z; done)))
  | ((with_reducible refine' w_setl ?wh ?we ?wl ?_); (case wh => first | assumption | exact upd_same); (case we => rfl); (case wl => rfl))
  | ((with_reducible refine' w_methA ?wh ?wl ?_); (case wh => first | assumption | exact upd_same); (case wl => walk_at "lk"))
  | ((with_reducible refine' w_sfldB ?wc ?wn ?wz ?wl ?_); (case wc => assumption); (case wn => assumption); (case wz => simp); (case wl => walk_at "pf"))
  | ((with_reducible refine' w_sfldA ?wh ?wc ?wn ?wz ?wl ?_); (case wh => assumption); (case wc => assumption); (case wn => assumption); (case wz => simp); (case wl => walk_at "pf")))
local macro_rules | `(tactic| walk_at "w") => `(tactic| repeat (first | walk_at "w1" | walk_at "w2" | (dsimp only [List.set, setAll, List.append, List.cons_append, List.nil_append])))
local macro_rules | `(tactic| walk_at "w1") => `(tactic| with_reducible first | refine w_rev ?_ | refine w_enum ?_ | refine w_itup' ?_ | refine w_bm0 ?_ | refine w_gcons ?_ | refine w_gnil ?_ | refine w_tm1' ?_ | refine w_tru ?_)
local macro_rules | `(tactic| walk_at "w1") => `(tactic| with_reducible first | refine w_dget ?_ | refine w_din ?_ | refine w_dpop ?_ | refine w_ddel ?_ | refine w_iitems ?_ | refine w_dnotin ?_ | refine w_chain ?_)
local macro_rules | `(tactic| walk_at "w2") => `(tactic| first
  | ((with_reducible refine' w_gfldB ?wv ?wc ?wn ?wz ?wl ?_); (case wv => rfl); (case wc => assumption); (case wn => assumption); (case wz => simp); (case wl => walk_at "pf"))
  | ((with_reducible refine' w_gfldA ?wv ?wh ?wc ?wn ?wz ?wl ?_); (case wv => rfl); (case wh => assumption); (case wc => assumption); (case wn => assumption); (case wz => simp); (case wl => walk_at "pf")))
section
variable {K : PySem.W.Frag} {cP : Addr} {ca : CA}
/-! ### what comes -/
/-- the first i that come are laid; the rest are on the way yet -/
def midWay (l : List (Int × Int)) (w : List (Int × Int)) : List (Int × Int) := w.filter fun x => decide (x.1 ∉ l.map (·.1))
theorem midWay_nil (w : List (Int × Int)) : midWay [] w = w := by
  unfold midWay
  rw [List.filter_eq_self]
  intro x _
  exact decide_eq_true (by simp)
theorem midWay_more (l : List (Int × Int)) (x : Int × Int) (w : List (Int × Int)) : (midWay l w).filter (fun y => decide (y.1 ≠ x.1)) = midWay (l ++ [x]) w := by
  unfold midWay
  rw [List.filter_filter]
  apply List.filter_congr
  intro y _
  rw [List.map_append]
  by_cases h1 : y.1 = x.1
  · simp [h1]
  · by_cases h2 : y.1 ∈ l.map (·.1)
    · simp [h1, h2]
    · simp [h1, h2]
theorem midWay_due {c : Cfg} {t : Int} {w : List (Int × Int)} (un : (w.map (·.1)).Nodup) : midWay (w.filter (due c t)) w = w.filter fun x => !due c t x := by
  unfold midWay
  apply List.filter_congr
  intro y hy
  cases h : due c t y with
  | true =>
    have : y.1 ∈ (w.filter (due c t)).map (·.1) := List.mem_map_of_mem (List.mem_filter.mpr ⟨hy, h⟩)
    rw [decide_eq_false (fun z => z this)]
    rfl
  | false =>
    have : y.1 ∉ (w.filter (due c t)).map (·.1) := fun z => by
      obtain ⟨x, hx, e⟩ := List.mem_map.mp z
      obtain ⟨h1, h2⟩ := List.mem_filter.mp hx
      rw [inj_of_nodup un h1 hy e, h] at h2
      cases h2
    rw [decide_eq_true this]
    rfl
/-- behind the first i that come -/
def midM (c : Cfg) (t : Int) (m : Mc) (i : Nat) : Mc := ((m.way.filter (due c t)).take i).foldl (fun s x => lay c.room t .come true x.1 s) { m with way := m.way.filter fun x => !due c t x }
theorem midM_more {c : Cfg} {t : Int} {m : Mc} {i : Nat} {x : Int × Int} (h : (m.way.filter (due c t))[i]? = some x) : midM c t m (i + 1) = lay c.room t .come true x.1 (midM c t m i) := by
  unfold midM
  rw [take_more' h, List.foldl_append]
  rfl
theorem midM_end (c : Cfg) (t : Int) (m : Mc) : midM c t m (m.way.filter (due c t)).length = arrive c t m := by
  unfold midM
  rw [List.take_length]
  rfl
theorem midM_ok {c : Cfg} (ok : c.ok) {t : Int} {m : Mc} (km : m.ok c) (i : Nat) : (midM c t m i).ok c := by
  refine lays_ok ok _ (way_less km _) ((km.wayU.sublist (List.filter_sublist.map _)).sublist ((List.take_sublist i _).map _)) fun x hx => ?_
  obtain ⟨hx1, hx2⟩ := List.mem_filter.mp (List.mem_of_mem_take hx)
  refine ⟨km.wayR x hx1, offShelf km hx1, fun y hy e => ?_⟩
  obtain ⟨hy1, hy2⟩ := List.mem_filter.mp hy
  have := inj_of_nodup km.wayU hy1 hx1 e
  rw [this, hx2] at hy2
  cases hy2
theorem lays_off {c : Cfg} {t p : Int} : ∀ (l : List (Int × Int)) {s : Mc}, onShelf s.shelf p = false → (∀ x, x ∈ l → x.1 ≠ p) → onShelf (l.foldl (fun s x => lay c.room t .come true x.1 s) s).shelf p = false
  | [], _, h, _ => h
  | x :: l, s, h, hn => lays_off l (lay_shelf h (fun z => hn x List.mem_cons_self z.symm)) fun y hy => hn y (List.mem_cons_of_mem _ hy)
theorem midM_off {c : Cfg} {t : Int} {m : Mc} (km : m.ok c) {i : Nat} {x : Int × Int} (h : (m.way.filter (due c t))[i]? = some x) : onShelf (midM c t m i).shelf x.1 = false := by
  have hm := (List.mem_filter.mp (List.mem_of_getElem? h)).1
  refine lays_off _ (offShelf km hm) fun y hy e => ?_
  have nd : ((m.way.filter (due c t)).map (·.1)).Nodup := km.wayU.sublist (List.filter_sublist.map _)
  obtain ⟨j, hj⟩ := List.getElem?_of_mem hy
  rw [List.getElem?_take] at hj
  split at hj
  · rename_i hji
    have := inj_of_nodup nd (List.mem_of_getElem? hj) (List.mem_of_getElem? h) e
    subst this
    have nd2 : (m.way.filter (due c t)).Nodup := (List.pairwise_map.mp nd).imp fun h z => h (by rw [z])
    obtain ⟨l1, g1⟩ := List.getElem?_eq_some_iff.mp hj
    obtain ⟨l2, g2⟩ := List.getElem?_eq_some_iff.mp h
    have := (List.getElem_inj nd2).mp (g1.trans g2.symm)
    omega
  · cases hj
def spComes (cP : Addr) : Sp := fun vs H Q _ => ∃ A c t m, vs = [.ref A.p] ∧ PlayAt cP H A c t m ∧ Cfg.ok c ∧ Mc.ok c m ∧ wayT c t m ∧ c.room ≤ 1000 ∧ c.most ≤ 1000 ∧ m.story.length ≤ 60000 ∧
  ∀ H', PlayAt cP H' A c t (arrive c t m) → Out (InP A) H H' → Q .non H'
def t_Play_lay_what_comes (K : PySem.W.Frag) (c_Play : Addr) (sp_Play_lay : Sp) : TS := tSeq (tLock (tAsg (tLc (iItems (tFld K (tVar 0) "way")) (gTup K 2 (gCons (gName 2) (gCons (gName 3) (gNil)))) (tTest (tOp (rEq) (tOp (rSubI) (tFld K (tVar 0) "turn") (tVar 3)) (tOp (rAddI) (tFld K (tVar 0) "late") (tC (.int 1))))) (tVar 2) [2, 3]) (gName 1)))
  (tFor (iList K (tVar 1)) (gName 2) (tSeq (sDDel (tFld K (tVar 0) "way") (tVar 2))
  (tSeq (tDrop (tMeth c_Play "lay" sp_Play_lay [] E0 (tVar 0) (tCons (tVar 2) (tCons (tC (.str "come")) (tNil)))))
  (sDPut (tFld K (tVar 0) "unasked") (tVar 2) (tC (.bl true))))))
theorem lock_keep {cP : Addr} {H : Hp} {A : PA} {c : Cfg} {t : Int} {m : Mc} {W : List Int} {sv : List V} {od : Obj} {u : HO} (h : PlayS cP H A c t m W sv) {H' : Hp} (e : Same (upd H A.way (.frz od u)) H') : H' A.p = some (.ins cP A.dx (pfs A c t)) := e _ _ (keepO h.hp (pd_ne h.hp h.hway (fun _ _ _ z => nomatch z)))
theorem pu_Play_lay_what_comes (T : PF K cP) {vs : List V} {H : Hp} {Q : VK} {E : XK} (h : spComes cP vs H Q E) : t_Play_lay_what_comes K cP (spLayP cP) (B Q) (start ["self", "coming", "place", "since"] vs) H := by
  obtain ⟨A, c, t, m, rfl, ⟨W, sv, h, hw⟩, ok, km, wt, r2, m2, hz, k⟩ := h
  obtain ⟨cls, n1, n2, n3, n4, n5, n6, n7, n8, n9, n10, n11⟩ := id T
  have hp := h.hp
  have hwl : m.way.length ≤ 1000 := by have := km.most; omega
  unfold t_Play_lay_what_comes
  refine w_seq ?_
  refine ⟨A.way, _, h.hway, trivial, fun od => ?_⟩
  have un : ∀ H', Same (upd H A.way (.frz od (.dK (m.way.map wnt)))) H' → Same H (upd H' A.way (.dK (m.way.map wnt))) := fun H' e => unlock h.hway e
  have hpf := lock_keep h (Same.refl (upd H A.way (.frz od (.dK (m.way.map wnt)))))
  have hwf : upd H A.way (.frz od (.dK (m.way.map wnt))) A.way = some (.frz od (.dK (m.way.map wnt))) := upd_same
  generalize hH1 : upd H A.way (.frz od (.dK (m.way.map wnt))) = H1 at un hpf hwf ⊢
  walk_at "w"
  refine ⟨A.way, od, _, rfl, hwf, ?_⟩
  refine w_lci (f := fun kv => match kv.2 with | .int s => decide (t - s = c.late + 1) | _ => false) (gv := fun kv => kV kv.1) hwf (small_lt (by rw [List.length_map]; omega)) (fun _ _ => rfl) (fun kv hkv H' e R r => ?_) (fun kv hkv _ H' e R r => ?_) (fun l H' hl e hl2 => ?_)
  · obtain ⟨x, hx, rfl⟩ := List.mem_map.mp hkv
    have hp' := e _ _ hpf
    refine w_test (w_op ?_)
    walk_at "w"
    show rSubI (.int t) (.int x.2) H' _
    walk_at "w"
    have e9 : decide (V.int (t - x.2) = V.int (c.late + 1)) = decide (t - x.2 = c.late + 1) := by
      rw [decide_eq_decide]
      exact ⟨fun z => by injection z, fun z => by rw [z]⟩
    rw [e9]
    exact r _ (Same.refl _)
  · walk_at "w"
    exact r _ (Same.refl _)
  · have efil : (((m.way.map wnt).filter fun kv => match kv.2 with | .int s => decide (t - s = c.late + 1) | _ => false).map fun kv => kV kv.1) = ((m.way.filter (due c t)).map (·.1)).map V.int := by
      rw [List.filter_map, List.map_map, List.map_map]
      have : (m.way.filter ((fun (kv : Key × V) => match kv.2 with | .int s => decide (t - s = c.late + 1) | _ => false) ∘ wnt)) = m.way.filter (due c t) := by
        apply List.filter_congr
        intro x hx
        exact (due_now wt hx).symm
      rw [this]
      rfl
    rw [efil] at hl2
    have s2 := un H' e
    have fl : H l = none := by
      rw [← hH1] at hl
      by_cases z : l = A.way
      · rw [z, upd_same] at hl; cases hl
      · rw [upd_ne z] at hl; exact hl
    have nlw : l ≠ A.way := fun z => by rw [z, h.hway] at fl; cases fl
    refine w_name ⟨e _ _ hwf, ?_⟩
    have hl3 : upd H' A.way (.dK (m.way.map wnt)) l = some (.lst (((m.way.filter (due c t)).map (·.1)).map V.int)) := keepO hl2 nlw
    have g2 := h.same s2
    generalize upd H' A.way (.dK (m.way.map wnt)) = H2 at s2 hl3 g2 ⊢
    have nl : ¬ InP A l := fun z => by
      rcases z with rfl | rfl | rfl | rfl | rfl | rfl | rfl
      · rw [h.hp] at fl; cases fl
      · rw [h.hmem] at fl; cases fl
      · rw [h.hshelf] at fl; cases fl
      · rw [h.hunas] at fl; cases fl
      · rw [h.hway] at fl; cases fl
      · rw [h.hevs] at fl; cases fl
      · rw [h.hans] at fl; cases fl
    have dlen : (m.way.filter (due c t)).length ≤ 1000 := by
      have := List.length_filter_le (due c t) m.way
      omega
    walk_at "w"
    refine w_forl (fun i σ H' => ∃ v2 v3, σ = [some (.ref A.p), some (.ref l), v2, v3] ∧ PlayAt cP H' A c t { midM c t m i with way := midWay ((m.way.filter (due c t)).take i) m.way } ∧ Out (InP A) H2 H') (SqL.of hl3) ⟨_, _, rfl, ⟨W, sv, ?_, ?_⟩, Out.refl⟩ (fun i σ H' _ p => ?_) (fun i x σ H' hi p => ?_) (fun σ H' p => ?_)
    · show PlayS cP H2 A c t { m with way := midWay [] m.way } W sv
      rw [midWay_nil]
      exact g2
    · exact hw
    · obtain ⟨_, _, _, _, o⟩ := p
      exact SqL.of (o _ _ hl3 nl)
    · obtain ⟨v2, v3, rfl, ⟨W3, sv3, g3, gw3⟩, o3⟩ := p
      obtain ⟨y, hy, rfl⟩ : ∃ y, (m.way.filter (due c t))[i]? = some y ∧ x = V.int y.1 := by
        rw [List.map_map, List.getElem?_map] at hi
        cases e : (m.way.filter (due c t))[i]? with
        | none => rw [e] at hi; cases hi
        | some y => rw [e] at hi; exact ⟨y, rfl, (Option.some.inj hi).symm⟩
      have hil := (List.getElem?_eq_some_iff.mp hy).1
      have kmid := midM_ok ok km (t := t) i
      have hoff := midM_off km hy
      have hp3 := g3.hp
      have hym := (List.mem_filter.mp (List.mem_of_getElem? hy)).1
      have hyr := km.wayR y hym
      walk_at "w"
      -- it is taken off the way
      refine w_ddelI g3.hway ?_ ?_
      · rw [valV_wnt]
        refine List.any_eq_true.mpr ⟨y, ?_, decide_eq_true rfl⟩
        show y ∈ midWay _ _
        unfold midWay
        refine List.mem_filter.mpr ⟨hym, decide_eq_true fun z => ?_⟩
        obtain ⟨z0, hz0, ez⟩ := List.mem_map.mp z
        have nd : ((m.way.filter (due c t)).map (·.1)).Nodup := km.wayU.sublist (List.filter_sublist.map _)
        obtain ⟨j, hj⟩ := List.getElem?_of_mem hz0
        rw [List.getElem?_take] at hj
        split at hj
        · rename_i hji
          have := inj_of_nodup nd (List.mem_of_getElem? hj) (List.mem_of_getElem? hy) ez
          subst this
          have nd2 : (m.way.filter (due c t)).Nodup := (List.pairwise_map.mp nd).imp fun h z => h (by rw [z])
          obtain ⟨l1, g1⟩ := List.getElem?_eq_some_iff.mp hj
          obtain ⟨l2, g2⟩ := List.getElem?_eq_some_iff.mp hy
          have := (List.getElem_inj nd2).mp (g1.trans g2.symm)
          omega
        · cases hj
      dsimp only
      rw [dropK_wnt, midWay_more]
      have g4 := g3.setWay (midWay ((m.way.filter (due c t)).take i ++ [y]) m.way)
      have o4 : Out (InP A) H' (upd H' A.way (.dK ((midWay ((m.way.filter (due c t)).take i ++ [y]) m.way).map wnt))) := inP_out (.inr (.inr (.inr (.inr (.inl rfl)))))
      generalize upd H' A.way (.dK ((midWay ((m.way.filter (due c t)).take i ++ [y]) m.way).map wnt)) = H4 at g4 o4 ⊢
      have hp4 := g4.hp
      have slen : (midM c t m i).story.length ≤ 70000 := by
        have h1 := lays_len c t ((m.way.filter (due c t)).take i) { m with way := m.way.filter fun x => !due c t x }
        have h2 : ((m.way.filter (due c t)).take i).length ≤ (m.way.filter (due c t)).length := List.length_take_le' _ _
        have h1 : (midM c t m i).story.length ≤ m.story.length + 2 * ((m.way.filter (due c t)).take i).length := h1
        omega
      walk_at "w"
      refine ⟨A, c, t, _, y.1, .come, rfl, ⟨W3, sv3, g4, gw3⟩, kmid.uniq, kmid.room, ok.room1, r2, hoff, hyr.1, ?_, ?_, fun H5 g5 o5 => ?_⟩
      · show y.1 < ((midM c t m i).cells.length : Int)
        rw [kmid.cells]
        exact hyr.2
      · show (midM c t m i).story.length ≤ _
        omega
      obtain ⟨W5, sv5, g5, gw5⟩ := g5
      have hp5 := g5.hp
      -- it waits
      have wk : y.1 ∉ W5 ∧ Wok (W5 ++ [y.1]) (midM c t m (i + 1)).shelf := by
        have e1 : (midM c t m (i + 1)).shelf = stays c.room (midM c t m i).shelf ++ [⟨y.1, cellAt (midM c t m i).cells y.1, true⟩] := by
          rw [midM_more hy]
          rfl
        have off1 : onShelf (stays c.room (midM c t m i).shelf) y.1 = false := by
          cases z : onShelf (stays c.room (midM c t m i).shelf) y.1 with
          | false => rfl
          | true =>
            obtain ⟨e, h1, h2⟩ := onShelf_iff.mp z
            rw [onShelf_iff.mpr ⟨e, stays_sub h1, h2⟩] at hoff
            cases hoff
        have gw : Wok W5 (stays c.room (midM c t m i).shelf) := by
          have gw5 : Wok W5 (stays c.room (midM c t m i).shelf ++ [⟨y.1, cellAt (midM c t m i).cells y.1, false⟩]) := gw5
          refine ⟨gw5.1, fun q => ?_⟩
          rw [gw5.2 q]
          constructor
          · rintro ⟨e, h1, h2, h3⟩
            rcases List.mem_append.mp h1 with h1 | h1
            · exact ⟨e, h1, h2, h3⟩
            · rw [List.mem_singleton.mp h1] at h3; cases h3
          · rintro ⟨e, h1, h2⟩
            exact ⟨e, List.mem_append_left _ h1, h2⟩
        rw [e1]
        exact wok_addT off1 gw
      walk_at "w"
      refine w_dputI g5.hunas (small_lt ?_) ?_
      · rw [List.length_map]
        have u5 : ((lay c.room t Wd.come false y.1 { midM c t m i with way := midWay ((m.way.filter (due c t)).take i ++ [y]) m.way }).shelf.map (·.pl)).Nodup := by
          have := (midM_ok ok km (t := t) (i + 1)).uniq
          rw [midM_more hy] at this
          have e1 : (lay c.room t Wd.come true y.1 (midM c t m i)).shelf.map (·.pl) = (lay c.room t Wd.come false y.1 { midM c t m i with way := midWay ((m.way.filter (due c t)).take i ++ [y]) m.way }).shelf.map (·.pl) := by
            show (stays _ _ ++ [_]).map _ = (stays _ _ ++ [_]).map _
            rw [List.map_append, List.map_append]
            rfl
          rw [← e1]
          exact this
        have h1 := wok_len u5 gw5
        have h2 : waitsN (lay c.room t Wd.come false y.1 { midM c t m i with way := midWay ((m.way.filter (due c t)).take i ++ [y]) m.way }).shelf ≤ (lay c.room t Wd.come false y.1 { midM c t m i with way := midWay ((m.way.filter (due c t)).take i ++ [y]) m.way }).shelf.length := List.countP_le_length
        have h3 := (midM_ok ok km (t := t) (i + 1)).room
        rw [midM_more hy] at h3
        have h4 : (lay c.room t Wd.come true y.1 (midM c t m i)).shelf.length = (lay c.room t Wd.come false y.1 { midM c t m i with way := midWay ((m.way.filter (due c t)).take i ++ [y]) m.way }).shelf.length := by
          show (stays _ _ ++ [_]).length = (stays _ _ ++ [_]).length
          rw [List.length_append, List.length_append]
          rfl
        omega
      rw [putK_unt wk.1]
      have g6 := g5.setUn (W5 ++ [y.1])
      refine ⟨_, _, rfl, ⟨W5 ++ [y.1], sv5, ?_, wk.2⟩, o3.trans (o4.trans (o5.trans (inP_out (.inr (.inr (.inr (.inl rfl)))))))⟩
      rw [take_more' hy]
      have g7 := g6.flags (sh := (midM c t m (i + 1)).shelf) (by
        rw [midM_more hy]
        show (stays _ _ ++ [_]).map ent = (stays _ _ ++ [_]).map ent
        rw [List.map_append, List.map_append]
        rfl)
      rw [midM_more hy] at g7 ⊢
      exact g7
    · obtain ⟨v2, v3, rfl, g, o⟩ := p
      rw [List.length_map, List.length_map] at g
      rw [List.take_length, midWay_due km.wayU, midM_end] at g
      refine k H' ?_ ((same_out s2).trans o)
      have e : ({ arrive c t m with way := m.way.filter fun x => !due c t x } : Mc) = arrive c t m := by
        have := arrive_way c t m
        cases q : arrive c t m
        rw [q] at this
        cases this
        rfl
      rw [e] at g
      exact g
end
end SwD
set_option Elab.async false
set_option linter.all false
set_option maxRecDepth 100000
set_option maxHeartbeats 4000000
namespace SwD
open PySem PySem.Spec PyProof.Rows L2 SwX StX Sw
/-! ### the law's own run: what a read, a write and a start do -/
section
variable {K : PySem.W.Frag} {H : Hp} {A : Ads} {ck : Int} {U L : List (Key × V)} {W : List Int} {wv sv : List V} {tm : Int → Int} {m : Mc} {B : Nat}
theorem LS.answer {x : Int} (h : LS H A ck U L W wv sv tm m B) : LS (upd H A.answers (.lst ((m.answers ++ [x]).map V.int))) A ck U L W wv sv tm { m with answers := m.answers ++ [x] } B := by
  have tk : TKeep H (upd H A.answers (.lst ((m.answers ++ [x]).map V.int))) := tk_put h.hanswers
  refine ⟨?_, ?_, ?_, ?_, ?_, ?_, ?_, upd_same, h.ap, h.times, h.asc, h.perm, h.waits, h.wnd, h.ways.imp (way_keep tk), h.evs.imp (ev_keep tk), h.ck0, h.ulen, h.cks⟩
  · rw [upd_ne (dl_ne h.hp h.hanswers)]; exact h.hp
  · rw [upd_ne h.ap.ca]; exact h.hcells
  · rw [upd_ne (dl_ne h.hused h.hanswers)]; exact h.hused
  · rw [upd_ne (dl_ne h.hlies h.hanswers)]; exact h.hlies
  · rw [upd_ne h.ap.wa]; exact h.hwaits
  · rw [upd_ne h.ap.ya]; exact h.hway
  · rw [upd_ne h.ap.sa]; exact h.hstory
theorem LS.cell {cs : List Int} (h : LS H A ck U L W wv sv tm m B) : LS (upd H A.cells (.lst (cs.map V.int))) A ck U L W wv sv tm { m with cells := cs } B := by
  have tk : TKeep H (upd H A.cells (.lst (cs.map V.int))) := tk_put h.hcells
  refine ⟨?_, upd_same, ?_, ?_, ?_, ?_, ?_, ?_, h.ap, h.times, h.asc, h.perm, h.waits, h.wnd, h.ways.imp (way_keep tk), h.evs.imp (ev_keep tk), h.ck0, h.ulen, h.cks⟩
  · rw [upd_ne (dl_ne h.hp h.hcells)]; exact h.hp
  · rw [upd_ne (dl_ne h.hused h.hcells)]; exact h.hused
  · rw [upd_ne (dl_ne h.hlies h.hcells)]; exact h.hlies
  · rw [upd_ne h.ap.cw.symm]; exact h.hwaits
  · rw [upd_ne h.ap.cy.symm]; exact h.hway
  · rw [upd_ne h.ap.cs.symm]; exact h.hstory
  · rw [upd_ne h.ap.ca.symm]; exact h.hanswers
def renum (q v : Int) (e : En) : En := if e.pl = q then { e with num := v } else e
theorem renum_pl {q v : Int} {e : En} : (renum q v e).pl = e.pl := by unfold renum; split <;> rfl
theorem renum_waits {q v : Int} {e : En} : (renum q v e).waits = e.waits := by unfold renum; split <;> rfl
theorem putK_perm {q v : Int} {sh : List En} (hp : L.Perm (sh.map ent)) (hon : onShelf sh q = true) : (putK L (Sum.inl q : Key) (.int v)).Perm ((sh.map (renum q v)).map ent) := by
  obtain ⟨e, he, ep⟩ := onShelf_iff.mp hon
  unfold putK
  rw [if_pos (List.any_eq_true.mpr ⟨ent e, hp.mem_iff.mpr (List.mem_map_of_mem he), by rw [show (ent e).1 = Sum.inl e.pl from rfl, ep]; simp⟩)]
  refine (hp.map _).trans ?_
  rw [List.map_map, List.map_map]
  refine List.Perm.of_eq (List.map_congr_left fun f _ => ?_)
  show (if (Sum.inl f.pl : Key) = Sum.inl q then (Sum.inl f.pl, V.int v) else ent f) = ent (renum q v f)
  unfold renum
  by_cases z : f.pl = q
  · rw [if_pos (by rw [z]), if_pos z]
    rfl
  · rw [if_neg (fun w => z (Sum.inl.inj w)), if_neg z]
theorem LS.write {q v : Int} (h : LS H A ck U L W wv sv tm m B) (hon : onShelf m.shelf q = true) :
    LS (upd H A.lies (.dK (putK L (.inl q) (.int v)))) A ck U (putK L (.inl q) (.int v)) W wv sv tm { m with shelf := m.shelf.map (renum q v) } B := by
  have tk : TKeep H (upd H A.lies (.dK (putK L (.inl q) (.int v)))) := tk_dk h.hlies
  refine ⟨?_, ?_, ?_, upd_same, ?_, ?_, ?_, ?_, h.ap, fun e he => ?_, ?_, putK_perm h.perm hon, fun x => ?_, h.wnd, h.ways.imp (way_keep tk), h.evs.imp (ev_keep tk), h.ck0, h.ulen, h.cks⟩
  · rw [upd_ne h.ap.pl]; exact h.hp
  · rw [upd_ne (ld_ne h.hcells h.hlies)]; exact h.hcells
  · rw [upd_ne h.ap.ul]; exact h.hused
  · rw [upd_ne (ld_ne h.hwaits h.hlies)]; exact h.hwaits
  · rw [upd_ne (ld_ne h.hway h.hlies)]; exact h.hway
  · rw [upd_ne (ld_ne h.hstory h.hlies)]; exact h.hstory
  · rw [upd_ne (ld_ne h.hanswers h.hlies)]; exact h.hanswers
  · obtain ⟨f, hf, rfl⟩ := List.mem_map.mp he
    rw [renum_pl]
    exact h.times f hf
  · show List.Pairwise _ _
    rw [List.pairwise_map]
    refine h.asc.imp fun {e f} lt => ?_
    rw [renum_pl, renum_pl]
    exact lt
  · rw [h.waits x]
    constructor
    · rintro ⟨e, h1, h2, h3⟩
      exact ⟨renum q v e, List.mem_map_of_mem h1, by rw [renum_pl]; exact h2, by rw [renum_waits]; exact h3⟩
    · rintro ⟨e, h1, h2, h3⟩
      obtain ⟨f, hf, rfl⟩ := List.mem_map.mp h1
      exact ⟨f, hf, by rw [renum_pl] at h2; exact h2, by rw [renum_waits] at h3; exact h3⟩
theorem LS.goes {x : Int × Int} {v : V} (h : LS H A ck U L W wv sv tm m B) (hv : WayAt H x v) : LS (upd H A.way (.lst (wv ++ [v]))) A ck U L W (wv ++ [v]) sv tm { m with way := m.way ++ [x] } B := by
  have tk : TKeep H (upd H A.way (.lst (wv ++ [v]))) := tk_put h.hway
  refine ⟨?_, ?_, ?_, ?_, ?_, upd_same, ?_, ?_, h.ap, h.times, h.asc, h.perm, h.waits, h.wnd, (h.ways.imp (way_keep tk)).more (way_keep tk _ _ hv), h.evs.imp (ev_keep tk), h.ck0, h.ulen, h.cks⟩
  · rw [upd_ne (dl_ne h.hp h.hway)]; exact h.hp
  · rw [upd_ne h.ap.cy]; exact h.hcells
  · rw [upd_ne (dl_ne h.hused h.hway)]; exact h.hused
  · rw [upd_ne (dl_ne h.hlies h.hway)]; exact h.hlies
  · rw [upd_ne h.ap.wy]; exact h.hwaits
  · rw [upd_ne h.ap.ys.symm]; exact h.hstory
  · rw [upd_ne h.ap.ya.symm]; exact h.hanswers
theorem LS.inA (h : LS H A ck U L W wv sv tm m B) {b : Addr} (z : InA A b) : (∃ kvs, H b = some (.dK kvs)) ∨ ∃ xs, H b = some (.lst xs) := by
  rcases z with rfl | rfl | rfl | rfl | rfl | rfl | rfl | rfl
  · exact .inl ⟨_, h.hp⟩
  · exact .inr ⟨_, h.hcells⟩
  · exact .inl ⟨_, h.hused⟩
  · exact .inr ⟨_, h.hwaits⟩
  · exact .inr ⟨_, h.hway⟩
  · exact .inl ⟨_, h.hlies⟩
  · exact .inr ⟨_, h.hstory⟩
  · exact .inr ⟨_, h.hanswers⟩
theorem LS.tk {H' : Hp} (h : LS H A ck U L W wv sv tm m B) (o : OutA A H H') : TKeep H H' := fun b xs hb => o b _ hb fun z => by
  rcases h.inA z with ⟨_, w⟩ | ⟨_, w⟩
  · rw [w] at hb; cases hb
  · rw [w] at hb; cases hb
theorem LS.notIn (h : LS H A ck U L W wv sv tm m B) {b : Addr} (n : H b = none) : ¬ InA A b := fun z => by
  rcases h.inA z with ⟨_, w⟩ | ⟨_, w⟩
  · rw [w] at n; cases n
  · rw [w] at n; cases n
/-- what is kept of the machine behind a step that keeps its lists -/
theorem LS.step_same {H' : Hp} (e : Same H H') (h : LS H A ck U L W wv sv tm m B) : LS H' A ck U L W wv sv tm m B := h.same e
end
end SwD
set_option Elab.async false
set_option linter.all false
set_option maxRecDepth 100000
set_option maxHeartbeats 4000000
namespace SwD
open PySem PySem.Spec PyProof.Rows L2 SwX StX Sw
local macro_rules | `(tactic| walk_at "lk") => `(tactic| first | exact lk_at | exact lk_no | ((refine' lk_by (by decide +kernel) ?wq); (case wq => walk_at "lk")))
local macro_rules | `(tactic| walk_at "pf") => `(tactic| first | exact pf_at | exact pf_nil | ((refine' pf_by (by decide +kernel) ?wq); (case wq => walk_at "pf")))
local macro_rules | `(tactic| walk_at "w1") => `(tactic| with_reducible first
  | refine w_seq ?_ | refine w_asg ?_ | refine w_name ?_ | refine w_ret ?_ | refine w_retN ?_ | refine w_drop ?_ | refine w_next ?_ | refine w_if ?_ | refine w_ifE ?_ | refine w_test ?_ | refine w_B ?_ | refine w_bl ?_
  | refine w_not ?_ | refine w_and ?_ | refine w_or ?_ | refine w_andV ?_ | refine w_orV ?_ | refine w_notV ?_ | refine w_isN ?_ | refine w_notN ?_ | refine w_yes ?_
  | refine w_c ?_ | refine w_op ?_ | refine w_un ?_ | refine w_i0 ?_ | refine w_neg ?_ | refine w_nil ?_ | refine w_cons ?_ | refine w_cb ?_ | refine w_call ?_ | refine w_tup ?_ | refine w_lst ?_
  | refine w_fld ?_ | refine w_sfld ?_ | refine w_match ?_ | refine w_case ?_ | refine w_mcons ?_ | refine w_mnil ?_ | refine w_mcap ?_ | refine w_many ?_ | refine w_myes ?_
  | refine w_sub ?_ | refine w_bm ?_ | refine w_sl ?_ | refine w_nopart ?_ | refine w_part ?_ | refine w_int ?_ | refine w_ift ?_ | refine w_iff ?_ | refine w_ifn ?_ | refine w_dget2 ?_ | refine w_star ?_ | refine w_dput ?_ | refine w_dnewK ?_ | refine w_meth ?_ | refine w_oneOf ?_ | refine w_make ?_ | refine w_lc ?_ | refine w_for ?_ | refine w_ilist ?_ | refine w_irng1 ?_ | refine w_irng2 ?_ | refine w_irng3 ?_)
local macro_rules | `(tactic| walk_at "w2") => `(tactic| first
  | ((with_reducible refine' w_var ?wh ?_); (case wh => rfl))
  | ((with_reducible refine' w_eq ?wh ?_); (case wh => rfl))
  | ((with_reducible refine' w_ne ?wh ?_); (case wh => rfl))
  | ((with_reducible refine' w_mno ?wh ?_); (case wh => decide +kernel))
  | ((with_reducible refine' w_mhit ?wh ?wl ?_); (case wh => assumption); (case wl => rfl))
  | ((with_reducible refine' w_mmiss ?wh ?wl ?_); (case wh => assumption); (case wl => simp))
  | ((with_reducible refine' w_fldA ?wh ?wc ?wn ?wl ?_); (case wh => first | assumption | exact upd_same); (case wc => assumption); (case wn => assumption); (case wl => walk_at "lk"))
  | ((with_reducible refine' w_ixl ?wh ?we ?_); (case wh => exact SqL.of (by first | assumption | exact upd_same)); (case we => rfl))
  | ((with_reducible refine' w_ixt ?wh ?we ?_); (case wh => assumption); (case we => rfl))
  | ((with_reducible refine' w_ifT ?wh ?_); (case wh => (with_reducible exact Eq.refl _)))
  | ((with_reducible refine' w_ifF ?wh ?_); (case wh => decide +kernel))
  | ((with_reducible refine' w_isiY ?wh ?wk ?_); (case wh => first | exact .int _ | exact .str _ | exact .lst (by assumption) | exact .tup (by assumption)); (case wk => decide +kernel))
  | ((with_reducible refine' w_isiN ?wh ?wk ?_); (case wh => first | exact .int _ | exact .str _ | exact .lst (by assumption) | exact .tup (by assumption)); (case wk => decide +kernel))
  | ((with_reducible refine' w_ifF ?wh ?_); (case wh => (intro z; cases z; done)))
  | ((with_reducible refine' w_setl ?wh ?we ?wl ?_); (case wh => first | assumption | exact upd_same); (case we => rfl); (case wl => rfl))
  | ((with_reducible refine' w_methA ?wh ?wl ?_); (case wh => first | assumption | exact upd_same); (case wl => walk_at "lk"))
  | ((with_reducible refine' w_sfldB ?wc ?wn ?wz ?wl ?_); (case wc => assumption); (case wn => assumption); (case wz => simp); (case wl => walk_at "pf"))
  | ((with_reducible refine' w_sfldA ?wh ?wc ?wn ?wz ?wl ?_); (case wh => assumption); (case wc => assumption); (case wn => assumption); (case wz => simp); (case wl => walk_at "pf")))
local macro_rules | `(tactic| walk_at "w") => `(tactic| repeat (first | walk_at "w1" | walk_at "w2" | (dsimp only [List.set, setAll, List.append, List.cons_append, List.nil_append])))
local macro_rules | `(tactic| walk_at "w1") => `(tactic| with_reducible first | refine w_rev ?_ | refine w_enum ?_ | refine w_itup' ?_ | refine w_bm0 ?_ | refine w_gcons ?_ | refine w_gnil ?_ | refine w_tm1' ?_ | refine w_tru ?_)
local macro_rules | `(tactic| walk_at "w1") => `(tactic| with_reducible first | refine w_dget ?_ | refine w_din ?_ | refine w_dpop ?_ | refine w_ddel ?_ | refine w_iitems ?_ | refine w_dnotin ?_ | refine w_chain ?_)
local macro_rules | `(tactic| walk_at "w2") => `(tactic| first
  | ((with_reducible refine' w_gfldB ?wv ?wc ?wn ?wz ?wl ?_); (case wv => rfl); (case wc => assumption); (case wn => assumption); (case wz => simp); (case wl => walk_at "pf"))
  | ((with_reducible refine' w_gfldA ?wv ?wh ?wc ?wn ?wz ?wl ?_); (case wv => rfl); (case wh => assumption); (case wc => assumption); (case wn => assumption); (case wz => simp); (case wl => walk_at "pf")))
local macro_rules | `(tactic| walk_at "w1") => `(tactic| with_reducible first | refine w_ienumT ?_ | refine w_kget ?_ | refine w_allT ?_)
local macro_rules | `(tactic| walk_at "s1") => `(tactic| first
  | exact sd_lies | exact sd_used | exact sd_waits | exact sd_way | exact sd_story | exact sd_cells | exact sd_answers | exact sd_clock)
local macro_rules | `(tactic| walk_at "s2") => `(tactic| first
  | (with_reducible refine w_dget ?_) | (with_reducible refine w_din ?_) | (with_reducible refine w_dpop ?_) | (with_reducible refine w_ikeys ?_)
  | ((refine' w_stG ?wh ?we ?_); (case wh => assumption); (case we => walk_at "s1")))
local macro_rules | `(tactic| walk_at "s") => `(tactic| repeat (first | walk_at "w1" | walk_at "w2" | walk_at "s2" | (dsimp only [List.set, setAll, List.append, List.cons_append, List.nil_append])))

/-! ### the law's own run: what comes -/
section
variable {K : PySem.W.Frag} {H : Hp} {A : Ads} {ck : Int} {U L : List (Key × V)} {W : List Int} {wv sv : List V} {tm : Int → Int} {m : Mc} {B : Nat}
def dueV (H : Hp) (c : Cfg) (t : Int) (v : V) : Bool := due c t (wayOf H v)
theorem added_id (f : V → Bool) (l : List V) : added f id l = l.filter f := by
  unfold added
  rw [List.map_id]
theorem run_coming {c : Cfg} {t : Int} {D : Ends} {s0 s1 s2 s3 s6 s9 s10 s11 s12 s13 s14 : Option V} (ok : Cfg.ok c) (km : m.ok c) (r8 : c.room ≤ 8) (m4 : c.most ≤ 4) (h : LS H A ck U L W wv sv tm m B) (hb : B ≤ 60000) (hst : m.story.length ≤ 60000)
    (k : ∀ H' A' ck' U' L' W' sv' tm' v10 v11, LS H' A' ck' U' L' W' wv sv' tm' { arrive c t m with way := m.way } (B + 4) → Grown H A A' → A'.way = A.way → OutA A H H' →
      D.nx [s0, s1, s2, s3, some (.int c.room), some (.int c.late), s6, some (.ref A'.p), some (.int t), s9, v10, v11, s12, s13, s14] H') :
    (tFor (iList K (tLc (iList K (tDGet (tVar 7) (tC (.str "way")))) (gName 13) (tTest (tOp (rLtI) (tOp (rAddI) (tOp (rIxT K) (tVar 13) (tC (.int 1))) (tVar 5)) (tVar 8))) (tVar 13) [13])) (gTup K 2 (gCons (gName 10) (gCons (gName 11) (gNil)))) (tSeq (tDrop (tCall (spLaid K) [] E0 (tCons (tVar 7) (tCons (tVar 4) (tCons (tVar 8) (tCons (tVar 10) (tCons (tC (.str "come")) (tNil))))))))
  (tDrop (tBM K "list" rAppend (tDGet (tVar 7) (tC (.str "waits"))) (tCons (tVar 10) (tNil)))))) D [s0, s1, s2, s3, some (.int c.room), some (.int c.late), s6, some (.ref A.p), some (.int t), s9, s10, s11, s12, s13, s14] H := by
  have hwy := h.ways.len
  have hml := km.most
  refine w_for (w_ilist (w_lc (w_ilist (w_dget ?_))))
  walk_at "s"
  refine w_lcl (dueV H c t) id (SqL.of h.hway) (small_lt (by omega)) (fun _ => rfl) (fun v hv H' s R rr => ?_) (fun v hv _ H' s R rr => ?_) (fun dl H1 hdl e1 h1 => ?_)
  · obtain ⟨x, _, hx⟩ := h.ways.mem hv
    have ex := wayOf_at hx
    obtain ⟨b, rfl, hb⟩ := hx
    walk_at "w"
    refine w_ixt (SqT.of (s _ _ hb)) (v := .int x.2) rfl ?_
    walk_at "w"
    have e8 : dueV H c t (.ref b) = decide (x.2 + c.late < t) := by
      unfold dueV due
      rw [ex]
    rw [← e8]
    exact rr _ (Same.refl _)
  · walk_at "w"
    exact rr _ (Same.refl _)
  rw [added_id] at h1
  have hA1 := h.same e1
  have due2 : All2 (WayAt H1) (m.way.filter (due c t)) (wv.filter (dueV H c t)) := (h.ways.filter fun x v hx => by unfold dueV; rw [wayOf_at hx]).imp (way_keep (tk_same e1))
  have ndl : ¬ InA A dl := h.notIn hdl
  have dlen : (m.way.filter (due c t)).length ≤ 4 := by
    have := List.length_filter_le (due c t) m.way
    omega
  have vlen := due2.len
  refine w_forl (fun j σ H' => ∃ A' ck' U' L' W' sv' tm' v10 v11, σ = [s0, s1, s2, s3, some (.int c.room), some (.int c.late), s6, some (.ref A'.p), some (.int t), s9, v10, v11, s12, s13, s14] ∧ LS H' A' ck' U' L' W' wv sv' tm' { midM c t m j with way := m.way } (B + j) ∧ Grown H1 A A' ∧ A'.way = A.way ∧ OutA A H1 H')
    (SqL.of h1) ⟨A, ck, U, L, W, sv, tm, s10, s11, rfl, hA1, .refl, rfl, .refl⟩ (fun j σ H' _ p => ?_) (fun j x σ H' hx p => ?_) (fun σ H' p => ?_)
  · obtain ⟨_, _, _, _, _, _, _, _, _, _, _, _, _, o⟩ := p
    exact SqL.of (o _ _ h1 ndl)
  · obtain ⟨A', ck', U', L', W', sv', tm', v10, v11, rfl, h', g', ew, o'⟩ := p
    obtain ⟨y, hy, hyx⟩ : ∃ y, (m.way.filter (due c t))[j]? = some y ∧ WayAt H1 y x := by
      have hl := (List.getElem?_eq_some_iff.mp hx).1
      obtain ⟨y, hy⟩ : ∃ y, (m.way.filter (due c t))[j]? = some y := ⟨_, List.getElem?_eq_getElem (by omega)⟩
      obtain ⟨v, hv, hr⟩ := due2.at hy
      rw [hx] at hv
      cases hv
      exact ⟨y, hy, hr⟩
    obtain ⟨b, rfl, hb1⟩ := way_keep (hA1.tk o') y x hyx
    have hjl := (List.getElem?_eq_some_iff.mp hy).1
    have kmid := midM_ok ok km (t := t) j
    have hoff := midM_off km hy
    have hyr := km.wayR y (List.mem_filter.mp (List.mem_of_getElem? hy)).1
    have slen : (midM c t m j).story.length ≤ 70000 := by
      have h1 := lays_len c t ((m.way.filter (due c t)).take j) { m with way := m.way.filter fun x => !due c t x }
      have h2 : ((m.way.filter (due c t)).take j).length ≤ (m.way.filter (due c t)).length := List.length_take_le' _ _
      have h1 : (midM c t m j).story.length ≤ m.story.length + 2 * ((m.way.filter (due c t)).take j).length := h1
      omega
    refine w_gtup (SqT.of hb1) rfl ?_
    walk_at "w"
    refine ⟨A', ck', U', L', W', wv, sv', tm', _, B + j, c.room, t, y.1, .come, rfl, h', ok.room1, r8, kmid.room, (fun e he z => by
      have : onShelf (midM c t m j).shelf y.1 = true := onShelf_iff.mpr ⟨e, he, z⟩
      rw [hoff] at this
      cases this), hyr.1, by show y.1 < ((midM c t m j).cells.length : Int); rw [kmid.cells]; exact hyr.2, by omega, by show (midM c t m j).story.length ≤ 90000; omega, fun H2 A2 ck2 U2 L2 W2 sv2 tm2 h2 g2 ew2 o2 => ?_⟩
    rw [← g2.1]
    have wl := h2.wlen
    have lr : ((lay c.room t .come false y.1 { midM c t m j with way := m.way }).shelf.length : Int) ≤ 9 := by
      show ((stays c.room (midM c t m j).shelf ++ [_]).length : Int) ≤ 9
      have h1 : (stays c.room (midM c t m j).shelf).length ≤ (midM c t m j).shelf.length := by
        unfold stays
        split
        · rw [List.length_drop]; omega
        · exact Nat.le_refl _
      have := kmid.room
      rw [List.length_append, List.length_singleton]
      omega
    walk_at "s"
    refine ⟨.inl ⟨rfl, _, SqL.of h2.hwaits⟩, ?_⟩
    walk_at "s"
    refine w_app h2.hwaits (small_lt (by rw [List.length_map]; omega)) ?_
    have h3 := h2.wait (q := y.1) (v := cellAt (midM c t m j).cells y.1) (rest := stays c.room (midM c t m j).shelf) rfl
    rw [show (W2.map V.int ++ [V.int y.1]) = (W2 ++ [y.1]).map V.int from by rw [List.map_append]; rfl]
    have o3 : OutA A2 H2 _ := outA_upd (H := H2) (u := .lst ((W2 ++ [y.1]).map V.int)) (.inr (.inr (.inr (.inl rfl))) : InA A2 A2.waits)
    generalize upd H2 A2.waits (.lst ((W2 ++ [y.1]).map V.int)) = H3 at h3 o3 ⊢
    refine ⟨A2, ck2, U2, L2, W2 ++ [y.1], sv2, tm2, _, _, rfl, ?_, g'.trans o' g2, ew2.trans ew, (OutA.trans g' o' o2).trans (g'.trans o' g2) o3⟩
    rw [midM_more hy]
    exact h3
  · obtain ⟨A', ck', U', L', W', sv', tm', v10, v11, rfl, h', g', ew, o'⟩ := p
    rw [← vlen, midM_end] at h'
    have g : Grown H A A' := ⟨g'.1, g'.2.1, g'.2.2.1, g'.2.2.2.1, g'.2.2.2.2.1, g'.2.2.2.2.2.1, g'.2.2.2.2.2.2.1.imp_right fun z => e1.free z, g'.2.2.2.2.2.2.2.imp_right fun z => e1.free z⟩
    exact k H' A' ck' U' L' W' sv' tm' v10 v11 (h'.more (by omega)) g ew (fun b o hb n => o' b o (e1 b o hb) n)
end
end SwD
set_option Elab.async false
set_option linter.all false
set_option maxRecDepth 100000
set_option maxHeartbeats 4000000
namespace SwD
open PySem PySem.Spec PyProof.Rows L2 SwX StX Sw
local macro_rules | `(tactic| walk_at "lk") => `(tactic| first | exact lk_at | exact lk_no | ((refine' lk_by (by decide +kernel) ?wq); (case wq => walk_at "lk")))
local macro_rules | `(tactic| walk_at "pf") => `(tactic| first | exact pf_at | exact pf_nil | ((refine' pf_by (by decide +kernel) ?wq); (case wq => walk_at "pf")))
local macro_rules | `(tactic| walk_at "w1") => `(tactic| with_reducible first
  | refine w_seq ?_ | refine w_asg ?_ | refine w_name ?_ | refine w_ret ?_ | refine w_retN ?_ | refine w_drop ?_ | refine w_next ?_ | refine w_if ?_ | refine w_ifE ?_ | refine w_test ?_ | refine w_B ?_ | refine w_bl ?_
  | refine w_not ?_ | refine w_and ?_ | refine w_or ?_ | refine w_andV ?_ | refine w_orV ?_ | refine w_notV ?_ | refine w_isN ?_ | refine w_notN ?_ | refine w_yes ?_
  | refine w_c ?_ | refine w_op ?_ | refine w_un ?_ | refine w_i0 ?_ | refine w_neg ?_ | refine w_nil ?_ | refine w_cons ?_ | refine w_cb ?_ | refine w_call ?_ | refine w_tup ?_ | refine w_lst ?_
  | refine w_fld ?_ | refine w_sfld ?_ | refine w_match ?_ | refine w_case ?_ | refine w_mcons ?_ | refine w_mnil ?_ | refine w_mcap ?_ | refine w_many ?_ | refine w_myes ?_
  | refine w_sub ?_ | refine w_bm ?_ | refine w_sl ?_ | refine w_nopart ?_ | refine w_part ?_ | refine w_int ?_ | refine w_ift ?_ | refine w_iff ?_ | refine w_ifn ?_ | refine w_dget2 ?_ | refine w_star ?_ | refine w_dput ?_ | refine w_dnewK ?_ | refine w_meth ?_ | refine w_oneOf ?_ | refine w_make ?_ | refine w_lc ?_ | refine w_for ?_ | refine w_ilist ?_ | refine w_irng1 ?_ | refine w_irng2 ?_ | refine w_irng3 ?_)
local macro_rules | `(tactic| walk_at "w2") => `(tactic| first
  | ((with_reducible refine' w_var ?wh ?_); (case wh => rfl))
  | ((with_reducible refine' w_eq ?wh ?_); (case wh => rfl))
  | ((with_reducible refine' w_ne ?wh ?_); (case wh => rfl))
  | ((with_reducible refine' w_mno ?wh ?_); (case wh => decide +kernel))
  | ((with_reducible refine' w_mhit ?wh ?wl ?_); (case wh => assumption); (case wl => rfl))
  | ((with_reducible refine' w_mmiss ?wh ?wl ?_); (case wh => assumption); (case wl => simp))
  | ((with_reducible refine' w_fldA ?wh ?wc ?wn ?wl ?_); (case wh => first | assumption | exact upd_same); (case wc => assumption); (case wn => assumption); (case wl => walk_at "lk"))
  | ((with_reducible refine' w_ixl ?wh ?we ?_); (case wh => exact SqL.of (by first | assumption | exact upd_same)); (case we => rfl))
  | ((with_reducible refine' w_ixt ?wh ?we ?_); (case wh => assumption); (case we => rfl))
  | ((with_reducible refine' w_ifT ?wh ?_); (case wh => (with_reducible exact Eq.refl _)))
  | ((with_reducible refine' w_ifF ?wh ?_); (case wh => decide +kernel))
  | ((with_reducible refine' w_isiY ?wh ?wk ?_); (case wh => first | exact .int _ | exact .str _ | exact .lst (by assumption) | exact .tup (by assumption)); (case wk => decide +kernel))
  | ((with_reducible refine' w_isiN ?wh ?wk ?_); (case wh => first | exact .int _ | exact .str _ | exact .lst (by assumption) | exact .tup (by assumption)); (case wk => decide +kernel))
  | ((with_reducible refine' w_ifF ?wh ?_); (case wh => (intro z; cases z; done)))
  | ((with_reducible refine' w_setl ?wh ?we ?wl ?_); (case wh => first | assumption | exact upd_same); (case we => rfl); (case wl => rfl))
  | ((with_reducible refine' w_methA ?wh ?wl ?_); (case wh => first | assumption | exact upd_same); (case wl => walk_at "lk"))
  | ((with_reducible refine' w_sfldB ?wc ?wn ?wz ?wl ?_); (case wc => assumption); (case wn => assumption); (case wz => simp); (case wl => walk_at "pf"))
  | ((with_reducible refine' w_sfldA ?wh ?wc ?wn ?wz ?wl ?_); (case wh => assumption); (case wc => assumption); (case wn => assumption); (case wz => simp); (case wl => walk_at "pf")))
local macro_rules | `(tactic| walk_at "w") => `(tactic| repeat (first | walk_at "w1" | walk_at "w2" | (dsimp only [List.set, setAll, List.append, List.cons_append, List.nil_append])))
local macro_rules | `(tactic| walk_at "w1") => `(tactic| with_reducible first | refine w_rev ?_ | refine w_enum ?_ | refine w_itup' ?_ | refine w_bm0 ?_ | refine w_gcons ?_ | refine w_gnil ?_ | refine w_tm1' ?_ | refine w_tru ?_)
local macro_rules | `(tactic| walk_at "w1") => `(tactic| with_reducible first | refine w_dget ?_ | refine w_din ?_ | refine w_dpop ?_ | refine w_ddel ?_ | refine w_iitems ?_ | refine w_dnotin ?_ | refine w_chain ?_)
local macro_rules | `(tactic| walk_at "w2") => `(tactic| first
  | ((with_reducible refine' w_gfldB ?wv ?wc ?wn ?wz ?wl ?_); (case wv => rfl); (case wc => assumption); (case wn => assumption); (case wz => simp); (case wl => walk_at "pf"))
  | ((with_reducible refine' w_gfldA ?wv ?wh ?wc ?wn ?wz ?wl ?_); (case wv => rfl); (case wh => assumption); (case wc => assumption); (case wn => assumption); (case wz => simp); (case wl => walk_at "pf")))
/-- a promise, and that tuples stay -/
def tupSp (sp : Sp) : Sp := fun vs H Q E => sp vs H (fun v H' => TKeep H H' → Q v H') E
theorem tup_ok {P : Program} {w : World} {K : PySem.W.Frag} {mg : Str → Option Value} {base : Heap} {CX : CXT} {k : Nat} {f : Addr} {fd : FuncData} {ps : List Str} {sp : Sp} (F : FnOk P w K mg base CX k f fd ps sp) : FnOk P w K mg base CX k f fd ps (tupSp sp) := by
  refine ⟨fun vs H Q E h => F.len _ _ _ _ h, fun A outer s H args us vs Q E hr e0 hb hv h => codeAny_mono (F.run A outer s H args us vs _ E hr e0 hb hv h) fun r s' q => ?_⟩
  cases r with
  | error e => exact q
  | ok fl =>
    cases fl with
    | ret u =>
      obtain ⟨v, H', h1, h2, un, h4, h5, h6⟩ := q
      exact ⟨v, H', h1, h2, un, h4, h5, h6 fun a xs z => un.tups a xs z⟩
    | next => exact q
    | brk => exact q
    | cont => exact q
section
variable {K : PySem.W.Frag} {cP : Addr} {ca : CA}
theorem gat_play {H H' : Hp} {A : PA} {N : Nat} {s : S} {M : Addr → Prop} (o : Out (InP A) H H') (dj : ∀ b, InP A b → ¬ M b) (d : Dom M H) (g : GAt ca H N s A.wat M) : GAt ca H' N s A.wat M ∧ Dom M H' :=
  ⟨gat_keep (fun b hb => by obtain ⟨u, hu⟩ := d b hb; rw [hu]; exact o b u hu (fun z => dj b z hb)) g, fun b hb => by obtain ⟨u, hu⟩ := d b hb; exact ⟨u, o b u hu (fun z => dj b z hb)⟩⟩
/-! ### what is guessed is started -/
def spStartG (cP : Addr) (ca : CA) : Sp := fun vs H Q _ => ∃ A c t m p s M N, vs = [.ref A.p, .int p] ∧ PlayAt cP H A c t m ∧ GAt ca H N s A.wat M ∧ Dom M H ∧ (∀ b, InP A b → ¬ M b) ∧ deep s ≤ 3 ∧ Good s ∧ N < 100000 ∧ Mc.ok c m ∧ c.most ≤ 1000 ∧ m.story.length ≤ 70000 ∧
  ∀ H' M', PlayAt cP H' A c t (starts c t (s.says p) m) → GAt ca H' (N + 1) (s.next p) A.wat M' → Dom M' H' → (∀ a, M a → M' a) → (∀ a, M' a → M a ∨ H a = none) → (∀ b, InP A b → ¬ M' b) → Out (fun b => InP A b ∨ M b) H H' → Q .non H'
def t_Play_start_guessed (K : PySem.W.Frag) (c_Play : Addr) (R_guess : Lab → Addr) (sp_guess : Lab → Sp) (sp_Play_may_start sp_Play_tell : Sp) : TS := tFor (iList K (tOneOf R_guess "guess" sp_guess E0 (tFld K (tVar 0) "watcher") (tCons (tVar 1) (tNil)))) (gName 2) (tIfS (tB (tMeth c_Play "may_start" sp_Play_may_start [] E0 (tVar 0) (tCons (tVar 2) (tNil)))) (tSeq (sDPut (tFld K (tVar 0) "way") (tVar 2) (tFld K (tVar 0) "turn"))
  (tDrop (tMeth c_Play "tell" sp_Play_tell [] E0 (tVar 0) (tCons (tC (.str "start")) (tCons (tVar 2) (tNil)))))) (tNext))
theorem begin_may (c : Cfg) (t : Int) (m : Mc) (q : Int) : begin_ c t m q = if mayB c m q = true then { m with way := m.way ++ [(q, t)], story := m.story ++ [(t, .start, q)] } else m := by
  unfold begin_ mayB
  by_cases h : 0 ≤ q ∧ q < (c.mem.length : Int) ∧ onShelf m.shelf q = false ∧ (m.way.any fun x => decide (x.1 = q)) = false ∧ (m.way.length : Int) < c.most
  · rw [if_pos h, decide_eq_true h, if_pos rfl]
  · rw [if_neg h, decide_eq_false h, if_neg (by decide)]
theorem starts_more {c : Cfg} {t : Int} {l : List Int} {m : Mc} {i : Nat} {x : Int} (h : l[i]? = some x) : starts c t (l.take (i + 1)) m = begin_ c t (starts c t (l.take i) m) x := by
  unfold starts
  rw [take_more' h, List.foldl_append]
  rfl
theorem inP_some {H : Hp} {A : PA} {c : Cfg} {t : Int} {m : Mc} (h : PlayAt cP H A c t m) {b : Addr} (hb : InP A b) : ∃ o, H b = some o := by
  obtain ⟨W, sv, h, _⟩ := h
  rcases hb with rfl | rfl | rfl | rfl | rfl | rfl | rfl
  · exact ⟨_, h.hp⟩
  · exact ⟨_, h.hmem⟩
  · exact ⟨_, h.hshelf⟩
  · exact ⟨_, h.hunas⟩
  · exact ⟨_, h.hway⟩
  · exact ⟨_, h.hevs⟩
  · exact ⟨_, h.hans⟩
theorem pu_Play_start_guessed (T : PF K cP) {vs : List V} {H : Hp} {Q : VK} {E : XK} (h : spStartG cP ca vs H Q E) : t_Play_start_guessed K cP ca.at (fun i => tupSp (spGuessL ca 3 i)) (spMay cP) (spTell cP) (B Q) (start ["self", "place", "guessed"] vs) H := by
  obtain ⟨A, c, t, m, p, s, M, N, rfl, hpl, ga, dom, dj, dp, gd, hN, km, m2, hz, k⟩ := h
  obtain ⟨cls, n1, n2, n3, n4, n5, n6, n7, n8, n9, n10, n11⟩ := id T
  obtain ⟨W, sv, h, hw⟩ := id hpl
  have hp := h.hp
  unfold t_Play_start_guessed
  walk_at "w"
  obtain ⟨dxw, fw, hwa, lw⟩ := gat_ins ga
  refine ⟨A.wat, lab s, dxw, fw, rfl, hwa, lw, ?_⟩
  walk_at "w"
  refine ⟨A.wat, p, s, M, N, rfl, rfl, ga, dom, dp, gd, hN, fun H1 q M1 fq hq nq g1 d1 t1 s1 o1 tk1 => ?_⟩
  have hs1 := h.out o1 dj tk1
  have nqP : ¬ InP A q := fun z => by
    obtain ⟨o, ho⟩ := inP_some hpl z
    rw [fq] at ho
    cases ho
  have dj1 : ∀ b, InP A b → ¬ M1 b := fun b hb z => by
    rcases s1 b z with z | z
    · exact dj b hb z
    · obtain ⟨o, ho⟩ := inP_some hpl hb
      rw [z] at ho
      cases ho
  have slen : (s.says p).length ≤ 1000 := by
    have h1 := says_le p gd
    have h2 : 2 ^ deep s ≤ 2 ^ 3 := Nat.pow_le_pow_right (by decide) dp
    omega
  refine w_forl (fun i σ H' => ∃ v2, σ = [some (.ref A.p), some (.int p), v2] ∧ PlayAt cP H' A c t (starts c t ((s.says p).take i) m) ∧ Out (InP A) H1 H') (SqL.of hq) ⟨_, rfl, ⟨W, sv, hs1, hw⟩, Out.refl⟩ (fun i σ H' _ pv => ?_) (fun i x σ H' hi pv => ?_) (fun σ H' pv => ?_)
  · obtain ⟨_, _, _, o⟩ := pv
    exact SqL.of (o _ _ hq nqP)
  · obtain ⟨v2, rfl, hpl2, o2⟩ := pv
    obtain ⟨y, hy, rfl⟩ : ∃ y, (s.says p)[i]? = some y ∧ x = V.int y := by
      rw [List.getElem?_map] at hi
      cases e : (s.says p)[i]? with
      | none => rw [e] at hi; cases hi
      | some y => rw [e] at hi; exact ⟨y, rfl, (Option.some.inj hi).symm⟩
    have kmi := starts_ok (c := c) (t := t) ((s.says p).take i) km
    have hlen := starts_len c t ((s.says p).take i) m
    have hmost := kmi.most
    rw [starts_more hy, begin_may]
    generalize hmi : starts c t ((s.says p).take i) m = mi at hpl2 kmi hlen hmost ⊢
    obtain ⟨W2, sv2, g2, gw2⟩ := hpl2
    have hp2 := g2.hp
    have hsv2 := g2.evs.len
    walk_at "w"
    refine ⟨A, c, t, mi, y, rfl, ⟨W2, sv2, g2, gw2⟩, kmi.cells, ?_⟩
    walk_at "w"
    cases hmay : mayB c mi y with
    | false =>
      refine w_iff ?_
      refine SwX.w_next ?_
      exact ⟨_, rfl, ⟨W2, sv2, g2, gw2⟩, o2⟩
    | true =>
      have hc := of_decide_eq_true hmay
      rw [if_pos rfl]
      walk_at "w"
      refine w_dputI g2.hway (small_lt (by rw [List.length_map]; omega)) ?_
      rw [putK_wnt hc.2.2.2.1]
      have g3 := g2.setWay (mi.way ++ [(y, t)])
      have o3 : Out (InP A) H' (upd H' A.way (.dK ((mi.way ++ [(y, t)]).map wnt))) := inP_out (.inr (.inr (.inr (.inr (.inl rfl)))))
      generalize upd H' A.way (.dK ((mi.way ++ [(y, t)]).map wnt)) = H3 at g3 o3 ⊢
      have hp3 := g3.hp
      walk_at "w"
      refine ⟨A, c, t, _, W2, sv2, .start, y, rfl, g3, by omega, fun H4 v g4 o4 => ?_⟩
      exact ⟨_, rfl, ⟨W2, _, g4, gw2⟩, o2.trans (o3.trans o4)⟩
  · obtain ⟨v2, rfl, hpl2, o2⟩ := pv
    rw [List.length_map, List.take_length] at hpl2
    obtain ⟨g3, d3⟩ := gat_play o2 dj1 d1 g1
    exact k H' M1 hpl2 g3 d3 t1 s1 dj1 (fun b o hb nb => o2 _ _ (o1 _ _ hb (fun z => nb (.inr z))) (fun z => nb (.inl z)))
/-! ### a turn -/
def spTakeTurn (cP : Addr) (ca : CA) : Sp := fun vs H Q _ => ∃ A c t0 t m d v s M N, vs = [.ref A.p, .int t, v] ∧ DeedAt H d v ∧ PlayAt cP H A c t0 m ∧ GAt ca H N s A.wat M ∧ Dom M H ∧ (∀ b, InP A b → ¬ M b) ∧ deep s ≤ 3 ∧ Good s ∧ N < 100000 ∧ Cfg.ok c ∧ Mc.ok c m ∧ wayT c t m ∧ c.room ≤ 1000 ∧ c.most ≤ 4 ∧ 0 ≤ d.1 ∧ d.1 < (c.mem.length : Int) ∧ m.story.length ≤ 50000 ∧ m.answers.length ≤ 50000 ∧
  ∀ H' M', PlayAt cP H' A c t (turn c (s.says d.1) t d m) → GAt ca H' (N + 1) (s.next d.1) A.wat M' → Dom M' H' → (∀ a, M a → M' a) → (∀ a, M' a → M a ∨ H a = none) → (∀ b, InP A b → ¬ M' b) → Out (fun b => InP A b ∨ M b) H H' → Q .non H'
def t_Play_take_turn (K : PySem.W.Frag) (c_Play : Addr) (sp_Play_lay_what_comes sp_Play_ask sp_Play_read_or_write sp_Play_start_guessed : Sp) : TS := tSeq (sFld K (tVar 0) (tVar 1) "turn")
  (tSeq (tAsg (tOp (rIxT K) (tVar 2) (tC (.int 1))) (gName 3))
  (tSeq (tDrop (tMeth c_Play "lay_what_comes" sp_Play_lay_what_comes [] E0 (tVar 0) tNil))
  (tSeq (tDrop (tMeth c_Play "ask" sp_Play_ask [] E0 (tVar 0) (tCons (tVar 3) (tNil))))
  (tSeq (tDrop (tMeth c_Play "read_or_write" sp_Play_read_or_write [] E0 (tVar 0) (tCons (tVar 2) (tNil))))
  (tDrop (tMeth c_Play "start_guessed" sp_Play_start_guessed [] E0 (tVar 0) (tCons (tVar 3) (tNil))))))))
theorem deed_tup {H : Hp} {d : Deed} {v : V} (h : DeedAt H d v) : ∃ a xs, v = .ref a ∧ H a = some (.tup xs) ∧ atI xs 1 = some (.int d.1) := by
  obtain ⟨p, o⟩ := d
  cases o with
  | none =>
    obtain ⟨a, h1, h2⟩ := (show ∃ a, v = .ref a ∧ H a = some (.tup [.str "read", .int p]) from h)
    exact ⟨a, _, h1, h2, rfl⟩
  | some n =>
    obtain ⟨a, h1, h2⟩ := (show ∃ a, v = .ref a ∧ H a = some (.tup [.str "write", .int p, .int n]) from h)
    exact ⟨a, _, h1, h2, rfl⟩
theorem turn_pf {A : PA} {c : Cfg} {t t' : Int} : L2.putF "turn" (.int t') (pfs A c t) = pfs A c t' := by
  show L2.putF ("turn" : Str) (V.int t') [(("room" : Str), V.int c.room), ("late", .int c.late), ("most", .int c.most), ("memory", .ref A.mem), ("watcher", .ref A.wat), ("shelf", .ref A.shelf), ("unasked", .ref A.unas), ("way", .ref A.way), ("turn", .int t), ("events", .ref A.evs), ("answers", .ref A.ans)] = _
  walk_at "pf"
theorem pu_Play_take_turn (T : PF K cP) {vs : List V} {H : Hp} {Q : VK} {E : XK} (h : spTakeTurn cP ca vs H Q E) : t_Play_take_turn K cP (spComes cP) (spAskP cP) (spAct cP) (spStartG cP ca) (B Q) (start ["self", "turn", "deed", "place"] vs) H := by
  obtain ⟨A, c, t0, t, m, d, v, s, M, N, rfl, hd, ⟨W, sv, h, hw⟩, ga, dom, dj, dp, gd, hN, ok, km, wt, r2, m2, p0, p1, hz, hza, k⟩ := h
  obtain ⟨cls, n1, n2, n3, n4, n5, n6, n7, n8, n9, n10, n11⟩ := id T
  have hp := h.hp
  unfold t_Play_take_turn
  walk_at "w"
  have h1 := h.setTurn t
  have o1 : Out (InP A) H (upd H A.p (.ins cP A.dx (pfs A c t))) := inP_out (.inl rfl)
  have hd1 := deed_keep (tkP h o1) hd
  generalize upd H A.p (.ins cP A.dx (pfs A c t)) = H1 at h1 o1 hd1 ⊢
  have hp1 := h1.hp
  obtain ⟨a, xs, rfl, ha, hat⟩ := deed_tup hd1
  refine w_ixt (.of ha) hat ?_
  walk_at "w"
  refine ⟨A, c, t, m, rfl, ⟨W, sv, h1, hw⟩, ok, km, wt, r2, by omega, by omega, fun H2 hpl2 o2 => ?_⟩
  have hd2 := deed_keep (tkP h1 o2) hd1
  have km2 := arrive_ok ok km (t := t)
  have al := lays_len c t (m.way.filter (due c t)) { m with way := m.way.filter fun x => !due c t x }
  have al2 := List.length_filter_le (due c t) m.way
  have al3 := km.most
  have al : (arrive c t m).story.length ≤ m.story.length + 2 * (m.way.filter (due c t)).length := al
  obtain ⟨W2, sv2, h2, hw2⟩ := id hpl2
  have hp2 := h2.hp
  walk_at "w"
  refine ⟨A, c, t, _, d.1, rfl, hpl2, ok, km2, r2, p0, p1, by omega, fun H3 hpl3 o3 => ?_⟩
  have hd3 := deed_keep (PlayAt.tk hpl2 o3) hd2
  have km3 := asked_ok ok km2 ⟨p0, p1⟩ (t := t)
  have bl := asked_len c t d.1 (arrive c t m)
  obtain ⟨r3, n3', hl3⟩ := asked_last c t d.1 (arrive c t m)
  have on3 : onShelf (asked c t d.1 (arrive c t m)).shelf d.1 = true := by
    rw [hl3]
    exact onShelf_iff.mpr ⟨⟨d.1, n3', false⟩, by simp, rfl⟩
  have ans3 : (asked c t d.1 (arrive c t m)).answers = m.answers := by rw [(asked_cells c t d.1 _).2, arrive_answers]
  have rm3 := km3.room
  have cl3 := km3.cells
  obtain ⟨W3, sv3, h3, hw3⟩ := id hpl3
  have hp3 := h3.hp
  walk_at "w"
  refine ⟨A, c, t, _, d, .ref a, rfl, hd3, hpl3, on3, by omega, p0, by omega, by rw [ans3]; omega, fun H4 hpl4 o4 => ?_⟩
  have km4 := act_ok (d := d) km3
  have o14 : Out (InP A) H H4 := o1.trans (o2.trans (o3.trans o4))
  obtain ⟨g4, d4⟩ := gat_play o14 dj dom ga
  obtain ⟨W4, sv4, h4, hw4⟩ := id hpl4
  have hp4 := h4.hp
  walk_at "w"
  refine ⟨A, c, t, _, d.1, s, M, N, rfl, hpl4, g4, d4, dj, dp, gd, hN, km4, by omega, by rw [act_story]; omega, fun H5 M5 hpl5 g5 d5 t5 s5 dj5 o5 => ?_⟩
  refine k H5 M5 hpl5 g5 d5 t5 (fun b hb => ?_) dj5 (fun b o hb nb => o5 b o (o14 b o hb (fun z => nb (.inl z))) nb)
  rcases s5 b hb with z | z
  · exact .inl z
  · refine .inr ?_
    cases q : H b with
    | none => rfl
    | some o =>
      by_cases zz : InP A b
      · obtain ⟨o', ho'⟩ := inP_some hpl4 zz
        rw [z] at ho'
        cases ho'
      · rw [o14 b o q zz] at z
        cases z
end
end SwD
set_option Elab.async false
set_option linter.all false
set_option maxRecDepth 100000
set_option maxHeartbeats 4000000
namespace SwX
open PySem PySem.Spec PyProof.Rows L2 StX
theorem w_listofT {K : PySem.W.Frag} {H : Hp} {Q : VK} {a : Addr} {xs : List V} (h : SqT K H a xs) (k : New Q H (.lst xs)) : rListOf K [.ref a] H Q := ⟨a, xs, rfl, .inr h, k⟩
end SwX
namespace SwD
open PySem PySem.Spec PyProof.Rows L2 SwX StX Sw
local macro_rules | `(tactic| walk_at "lk") => `(tactic| first | exact lk_at | exact lk_no | ((refine' lk_by (by decide +kernel) ?wq); (case wq => walk_at "lk")))
local macro_rules | `(tactic| walk_at "pf") => `(tactic| first | exact pf_at | exact pf_nil | ((refine' pf_by (by decide +kernel) ?wq); (case wq => walk_at "pf")))
local macro_rules | `(tactic| walk_at "w1") => `(tactic| with_reducible first
  | refine w_seq ?_ | refine w_asg ?_ | refine w_name ?_ | refine w_ret ?_ | refine w_retN ?_ | refine w_drop ?_ | refine w_next ?_ | refine w_if ?_ | refine w_ifE ?_ | refine w_test ?_ | refine w_B ?_ | refine w_bl ?_
  | refine w_not ?_ | refine w_and ?_ | refine w_or ?_ | refine w_andV ?_ | refine w_orV ?_ | refine w_notV ?_ | refine w_isN ?_ | refine w_notN ?_ | refine w_yes ?_
  | refine w_c ?_ | refine w_op ?_ | refine w_un ?_ | refine w_i0 ?_ | refine w_neg ?_ | refine w_nil ?_ | refine w_cons ?_ | refine w_cb ?_ | refine w_call ?_ | refine w_tup ?_ | refine w_lst ?_
  | refine w_fld ?_ | refine w_sfld ?_ | refine w_match ?_ | refine w_case ?_ | refine w_mcons ?_ | refine w_mnil ?_ | refine w_mcap ?_ | refine w_many ?_ | refine w_myes ?_
  | refine w_sub ?_ | refine w_bm ?_ | refine w_sl ?_ | refine w_nopart ?_ | refine w_part ?_ | refine w_int ?_ | refine w_ift ?_ | refine w_iff ?_ | refine w_ifn ?_ | refine w_dget2 ?_ | refine w_star ?_ | refine w_dput ?_ | refine w_dnewK ?_ | refine w_meth ?_ | refine w_oneOf ?_ | refine w_make ?_ | refine w_lc ?_ | refine w_for ?_ | refine w_ilist ?_ | refine w_irng1 ?_ | refine w_irng2 ?_ | refine w_irng3 ?_)
local macro_rules | `(tactic| walk_at "w2") => `(tactic| first
  | ((with_reducible refine' w_var ?wh ?_); (case wh => rfl))
  | ((with_reducible refine' w_eq ?wh ?_); (case wh => rfl))
  | ((with_reducible refine' w_ne ?wh ?_); (case wh => rfl))
  | ((with_reducible refine' w_mno ?wh ?_); (case wh => decide +kernel))
  | ((with_reducible refine' w_mhit ?wh ?wl ?_); (case wh => assumption); (case wl => rfl))
  | ((with_reducible refine' w_mmiss ?wh ?wl ?_); (case wh => assumption); (case wl => simp))
  | ((with_reducible refine' w_fldA ?wh ?wc ?wn ?wl ?_); (case wh => first | assumption | exact upd_same); (case wc => assumption); (case wn => assumption); (case wl => walk_at "lk"))
  | ((with_reducible refine' w_ixl ?wh ?we ?_); (case wh => exact SqL.of (by first | assumption | exact upd_same)); (case we => rfl))
  | ((with_reducible refine' w_ixt ?wh ?we ?_); (case wh => assumption); (case we => rfl))
  | ((with_reducible refine' w_ifT ?wh ?_); (case wh => (with_reducible exact Eq.refl _)))
  | ((with_reducible refine' w_ifF ?wh ?_); (case wh => decide +kernel))
  | ((with_reducible refine' w_isiY ?wh ?wk ?_); (case wh => first | exact .int _ | exact .str _ | exact .lst (by assumption) | exact .tup (by assumption)); (case wk => decide +kernel))
  | ((with_reducible refine' w_isiN ?wh ?wk ?_); (case wh => first | exact .int _ | exact .str _ | exact .lst (by assumption) | exact .tup (by assumption)); (case wk => decide +kernel))
  | ((with_reducible refine' w_ifF ?wh ?_); (case wh => (intro z; cases z; done)))
  | ((with_reducible refine' w_setl ?wh ?we ?wl ?_); (case wh => first | assumption | exact upd_same); (case we => rfl); (case wl => rfl))
  | ((with_reducible refine' w_methA ?wh ?wl ?_); (case wh => first | assumption | exact upd_same); (case wl => walk_at "lk"))
  | ((with_reducible refine' w_sfldB ?wc ?wn ?wz ?wl ?_); (case wc => assumption); (case wn => assumption); (case wz => simp); (case wl => walk_at "pf"))
  | ((with_reducible refine' w_sfldA ?wh ?wc ?wn ?wz ?wl ?_); (case wh => assumption); (case wc => assumption); (case wn => assumption); (case wz => simp); (case wl => walk_at "pf")))
local macro_rules | `(tactic| walk_at "w") => `(tactic| repeat (first | walk_at "w1" | walk_at "w2" | (dsimp only [List.set, setAll, List.append, List.cons_append, List.nil_append])))
local macro_rules | `(tactic| walk_at "w1") => `(tactic| with_reducible first | refine w_rev ?_ | refine w_enum ?_ | refine w_itup' ?_ | refine w_bm0 ?_ | refine w_gcons ?_ | refine w_gnil ?_ | refine w_tm1' ?_ | refine w_tru ?_)
local macro_rules | `(tactic| walk_at "w1") => `(tactic| with_reducible first | refine w_dget ?_ | refine w_din ?_ | refine w_dpop ?_ | refine w_ddel ?_ | refine w_iitems ?_ | refine w_dnotin ?_ | refine w_chain ?_)
local macro_rules | `(tactic| walk_at "w2") => `(tactic| first
  | ((with_reducible refine' w_gfldB ?wv ?wc ?wn ?wz ?wl ?_); (case wv => rfl); (case wc => assumption); (case wn => assumption); (case wz => simp); (case wl => walk_at "pf"))
  | ((with_reducible refine' w_gfldA ?wv ?wh ?wc ?wn ?wz ?wl ?_); (case wv => rfl); (case wh => assumption); (case wc => assumption); (case wn => assumption); (case wz => simp); (case wl => walk_at "pf")))
section
variable {K : PySem.W.Frag} {cP : Addr} {ca : CA}
/-! ### a play begins -/
def spPlayInit (cP : Addr) (ca : CA) : Sp := fun vs H Q _ => ∃ p dx a g c G, vs = [.ref p, .ref a, .ref g] ∧ H p = some (.ins cP dx []) ∧ SetAt H a c ∧ GTup H G g ∧ G.depth ≤ 3 ∧
  ∀ (H' : Hp) (A : PA) (M : Addr → Prop), A.p = p → PlayAt cP H' A c 0 (fresh c) → GAt ca H' 0 (begun G) A.wat M → Dom M H' → (∀ b, InP A b → ¬ M b) → (∀ b, M b → H b = none) → (∀ b, InP A b → b = p ∨ H b = none) → Out (Is p) H H' → Q .non H'
def t_Play_init (K : PySem.W.Frag) (sp_begun : Sp) : TS := tSeq (tAsg (tVar 1) (gTup K 4 (gCons (gName 3) (gCons (gFld K (tVar 0) "room") (gCons (gFld K (tVar 0) "late") (gCons (gFld K (tVar 0) "most") (gNil)))))))
  (tSeq (sFld K (tVar 0) (tCB (rListOf K) (tCons (tVar 3) (tNil))) "memory")
  (tSeq (sFld K (tVar 0) (tCall sp_begun [] E0 (tCons (tVar 2) (tNil))) "watcher")
  (tSeq (sFld K (tVar 0) (tDNewK) "shelf")
  (tSeq (sFld K (tVar 0) (tDNewK) "unasked")
  (tSeq (sFld K (tVar 0) (tDNewK) "way")
  (tSeq (sFld K (tVar 0) (tC (.int 0)) "turn")
  (tSeq (sFld K (tVar 0) (tLst (tNil)) "events")
  (sFld K (tVar 0) (tLst (tNil)) "answers"))))))))
theorem is_ne {H : Hp} {p b : Addr} {o : HO} (h : H p = some o) (f : H b = none) : b ≠ p := fun z => by rw [z, h] at f; cases f
theorem fresh_is {H H' : Hp} {p b : Addr} (o : Out (Is p) H H') (n : b ≠ p) (f : H' b = none) : H b = none := out_free o f n
theorem pu_Play_init (T : PF K cP) {vs : List V} {H : Hp} {Q : VK} {E : XK} (h : spPlayInit cP ca vs H Q E) : t_Play_init K (spBegun ca 4) (B Q) (start ["self", "setting", "guesser", "memory"] vs) H := by
  obtain ⟨p, dx, a, g, c, G, rfl, hp, ⟨mm, ha, hmm⟩, hg, dp, k⟩ := h
  obtain ⟨cls, n1, n2, n3, n4, n5, n6, n7, n8, n9, n10, n11⟩ := id T
  unfold t_Play_init
  walk_at "w"
  refine w_gtup (SqT.of ha) rfl ?_
  walk_at "w"
  have o1 : Out (Is p) H (upd H p (.ins cP dx [("room", .int c.room), ("late", .int c.late), ("most", .int c.most)])) := out_upd
  have hp1 : upd H p (.ins cP dx [("room", .int c.room), ("late", .int c.late), ("most", .int c.most)]) p = some (.ins cP dx [("room", .int c.room), ("late", .int c.late), ("most", .int c.most)]) := upd_same
  generalize upd H p (.ins cP dx [("room", .int c.room), ("late", .int c.late), ("most", .int c.most)]) = H1 at o1 hp1 ⊢
  have nmm : ¬ Is p mm := fun z => by rw [show mm = p from z, hp] at hmm; cases hmm
  refine w_listofT (.of (o1 _ _ hmm nmm)) (w_new fun l H2 hl e2 h2 => ?_)
  have hp2 := e2 _ _ hp1
  have nl := is_ne hp1 hl
  walk_at "w"
  have o3 : Out (Is p) H2 (upd H2 p (.ins cP dx [("room", .int c.room), ("late", .int c.late), ("most", .int c.most), ("memory", .ref l)])) := out_upd
  have hp3 : upd H2 p (.ins cP dx [("room", .int c.room), ("late", .int c.late), ("most", .int c.most), ("memory", .ref l)]) p = some (.ins cP dx [("room", .int c.room), ("late", .int c.late), ("most", .int c.most), ("memory", .ref l)]) := upd_same
  generalize upd H2 p (.ins cP dx [("room", .int c.room), ("late", .int c.late), ("most", .int c.most), ("memory", .ref l)]) = H3 at o3 hp3 ⊢
  have o03 : Out (Is p) H H3 := o1.trans ((same_out e2).trans o3)
  have hl3 := o3 _ _ h2 nl
  have tk3 : TKeep H H3 := fun b xs hb => o03 b _ hb (fun z => by rw [show b = p from z, hp] at hb; cases hb)
  refine ⟨g, G, rfl, gtup_keep tk3 hg, by omega, fun H4 pw M e4 g4 d4 f4 => ?_⟩
  have hp4 := e4 _ _ hp3
  have hl4 := e4 _ _ hl3
  have nMp : ¬ M p := fun z => by have := f4 p z; rw [hp3] at this; cases this
  have nMl : ¬ M l := fun z => by have := f4 l z; rw [hl3] at this; cases this
  walk_at "w"
  have o5 : Out (Is p) H4 (upd H4 p (.ins cP dx [("room", .int c.room), ("late", .int c.late), ("most", .int c.most), ("memory", .ref l), ("watcher", .ref pw)])) := out_upd
  have hp5 : upd H4 p (.ins cP dx [("room", .int c.room), ("late", .int c.late), ("most", .int c.most), ("memory", .ref l), ("watcher", .ref pw)]) p = some (.ins cP dx [("room", .int c.room), ("late", .int c.late), ("most", .int c.most), ("memory", .ref l), ("watcher", .ref pw)]) := upd_same
  generalize upd H4 p (.ins cP dx [("room", .int c.room), ("late", .int c.late), ("most", .int c.most), ("memory", .ref l), ("watcher", .ref pw)]) = H5 at o5 hp5 ⊢
  refine w_new fun d1 H6 hd1 e6 h6 => ?_
  have hp6 := e6 _ _ hp5
  have nd1 := is_ne hp5 hd1
  walk_at "w"
  have o7 : Out (Is p) H6 (upd H6 p (.ins cP dx [("room", .int c.room), ("late", .int c.late), ("most", .int c.most), ("memory", .ref l), ("watcher", .ref pw), ("shelf", .ref d1)])) := out_upd
  have hp7 : upd H6 p (.ins cP dx [("room", .int c.room), ("late", .int c.late), ("most", .int c.most), ("memory", .ref l), ("watcher", .ref pw), ("shelf", .ref d1)]) p = some (.ins cP dx [("room", .int c.room), ("late", .int c.late), ("most", .int c.most), ("memory", .ref l), ("watcher", .ref pw), ("shelf", .ref d1)]) := upd_same
  generalize upd H6 p (.ins cP dx [("room", .int c.room), ("late", .int c.late), ("most", .int c.most), ("memory", .ref l), ("watcher", .ref pw), ("shelf", .ref d1)]) = H7 at o7 hp7 ⊢
  have h7 := o7 _ _ h6 nd1
  refine w_new fun d2 H8 hd2 e8 h8 => ?_
  have hp8 := e8 _ _ hp7
  have nd2 := is_ne hp7 hd2
  walk_at "w"
  have o9 : Out (Is p) H8 (upd H8 p (.ins cP dx [("room", .int c.room), ("late", .int c.late), ("most", .int c.most), ("memory", .ref l), ("watcher", .ref pw), ("shelf", .ref d1), ("unasked", .ref d2)])) := out_upd
  have hp9 : upd H8 p (.ins cP dx [("room", .int c.room), ("late", .int c.late), ("most", .int c.most), ("memory", .ref l), ("watcher", .ref pw), ("shelf", .ref d1), ("unasked", .ref d2)]) p = some (.ins cP dx [("room", .int c.room), ("late", .int c.late), ("most", .int c.most), ("memory", .ref l), ("watcher", .ref pw), ("shelf", .ref d1), ("unasked", .ref d2)]) := upd_same
  generalize upd H8 p (.ins cP dx [("room", .int c.room), ("late", .int c.late), ("most", .int c.most), ("memory", .ref l), ("watcher", .ref pw), ("shelf", .ref d1), ("unasked", .ref d2)]) = H9 at o9 hp9 ⊢
  have h9 := o9 _ _ h8 nd2
  have h9' := o9 _ _ (e8 _ _ h7) nd1
  refine w_new fun d3 H10 hd3 e10 h10 => ?_
  have hp10 := e10 _ _ hp9
  have nd3 := is_ne hp9 hd3
  walk_at "w"
  have o11 : Out (Is p) H10 (upd H10 p (.ins cP dx [("room", .int c.room), ("late", .int c.late), ("most", .int c.most), ("memory", .ref l), ("watcher", .ref pw), ("shelf", .ref d1), ("unasked", .ref d2), ("way", .ref d3), ("turn", .int 0)])) := out_upd
  have hp11 : upd H10 p (.ins cP dx [("room", .int c.room), ("late", .int c.late), ("most", .int c.most), ("memory", .ref l), ("watcher", .ref pw), ("shelf", .ref d1), ("unasked", .ref d2), ("way", .ref d3), ("turn", .int 0)]) p = some (.ins cP dx [("room", .int c.room), ("late", .int c.late), ("most", .int c.most), ("memory", .ref l), ("watcher", .ref pw), ("shelf", .ref d1), ("unasked", .ref d2), ("way", .ref d3), ("turn", .int 0)]) := upd_same
  generalize upd H10 p (.ins cP dx [("room", .int c.room), ("late", .int c.late), ("most", .int c.most), ("memory", .ref l), ("watcher", .ref pw), ("shelf", .ref d1), ("unasked", .ref d2), ("way", .ref d3), ("turn", .int 0)]) = H11 at o11 hp11 ⊢
  have h11 := o11 _ _ h10 nd3
  refine ⟨small_le (by simp), w_new fun l2 H12 hl2 e12 h12 => ?_⟩
  have hp12 := e12 _ _ hp11
  have nl2 := is_ne hp11 hl2
  walk_at "w"
  have o13 : Out (Is p) H12 (upd H12 p (.ins cP dx [("room", .int c.room), ("late", .int c.late), ("most", .int c.most), ("memory", .ref l), ("watcher", .ref pw), ("shelf", .ref d1), ("unasked", .ref d2), ("way", .ref d3), ("turn", .int 0), ("events", .ref l2)])) := out_upd
  have hp13 : upd H12 p (.ins cP dx [("room", .int c.room), ("late", .int c.late), ("most", .int c.most), ("memory", .ref l), ("watcher", .ref pw), ("shelf", .ref d1), ("unasked", .ref d2), ("way", .ref d3), ("turn", .int 0), ("events", .ref l2)]) p = some (.ins cP dx [("room", .int c.room), ("late", .int c.late), ("most", .int c.most), ("memory", .ref l), ("watcher", .ref pw), ("shelf", .ref d1), ("unasked", .ref d2), ("way", .ref d3), ("turn", .int 0), ("events", .ref l2)]) := upd_same
  generalize upd H12 p (.ins cP dx [("room", .int c.room), ("late", .int c.late), ("most", .int c.most), ("memory", .ref l), ("watcher", .ref pw), ("shelf", .ref d1), ("unasked", .ref d2), ("way", .ref d3), ("turn", .int 0), ("events", .ref l2)]) = H13 at o13 hp13 ⊢
  have h13 := o13 _ _ h12 nl2
  refine ⟨small_le (by simp), w_new fun l3 H14 hl3' e14 h14 => ?_⟩
  have hp14 := e14 _ _ hp13
  have nl3 := is_ne hp13 hl3'
  walk_at "w"
  have o15 : Out (Is p) H14 (upd H14 p (.ins cP dx (pfs ⟨p, dx, l, pw, d1, d2, d3, l2, l3⟩ c 0))) := out_upd
  have o1315 : Out (Is p) H13 (upd H14 p (.ins cP dx (pfs ⟨p, dx, l, pw, d1, d2, d3, l2, l3⟩ c 0))) := (same_out e14).trans o15
  have o1115 : Out (Is p) H11 (upd H14 p (.ins cP dx (pfs ⟨p, dx, l, pw, d1, d2, d3, l2, l3⟩ c 0))) := (same_out e12).trans (o13.trans o1315)
  have o915 : Out (Is p) H9 (upd H14 p (.ins cP dx (pfs ⟨p, dx, l, pw, d1, d2, d3, l2, l3⟩ c 0))) := (same_out e10).trans (o11.trans o1115)
  have o515 : Out (Is p) H5 (upd H14 p (.ins cP dx (pfs ⟨p, dx, l, pw, d1, d2, d3, l2, l3⟩ c 0))) := (same_out e6).trans (o7.trans ((same_out e8).trans (o9.trans o915)))
  have o415 : Out (Is p) H4 (upd H14 p (.ins cP dx (pfs ⟨p, dx, l, pw, d1, d2, d3, l2, l3⟩ c 0))) := o5.trans o515
  have o015 : Out (Is p) H (upd H14 p (.ins cP dx (pfs ⟨p, dx, l, pw, d1, d2, d3, l2, l3⟩ c 0))) := o03.trans ((same_out e4).trans o415)
  have o05 : Out (Is p) H H5 := o03.trans ((same_out e4).trans o5)
  have o07 : Out (Is p) H H7 := o05.trans ((same_out e6).trans o7)
  have o09 : Out (Is p) H H9 := o07.trans ((same_out e8).trans o9)
  have o011 : Out (Is p) H H11 := o09.trans ((same_out e10).trans o11)
  have o013 : Out (Is p) H H13 := o011.trans ((same_out e12).trans o13)
  have hl15 := o415 _ _ hl4 nl
  have h15a := o915 _ _ h9' nd1
  have h15b := o915 _ _ h9 nd2
  have h15c := o1115 _ _ h11 nd3
  have h15d := o1315 _ _ h13 nl2
  have h15e := o15 _ _ h14 nl3
  -- the guesser is told of in no other place
  have dM5 : ∀ b, M b → ∃ o, H5 b = some o := fun b z => by
    obtain ⟨o, ho⟩ := d4 b z
    exact ⟨o, o5 _ _ ho (fun w => nMp (by rw [show b = p from w] at z; exact z))⟩
  have nM : ∀ (b : Addr) (Hx : Hp), Out (Is p) H5 Hx → Hx b = none → ¬ M b := fun b Hx ox f z => by
    obtain ⟨o, ho⟩ := dM5 b z
    have nb : ¬ Is p b := fun w => by rw [show b = p from w] at z; exact nMp z
    rw [ox b o ho nb] at f
    cases f
  have o57 : Out (Is p) H5 H7 := (same_out e6).trans o7
  have o59 : Out (Is p) H5 H9 := o57.trans ((same_out e8).trans o9)
  have o511 : Out (Is p) H5 H11 := o59.trans ((same_out e10).trans o11)
  have o513 : Out (Is p) H5 H13 := o511.trans ((same_out e12).trans o13)
  refine k _ ⟨p, dx, l, pw, d1, d2, d3, l2, l3⟩ M rfl ⟨[], [], ⟨upd_same, hl15, h15a, h15b, h15c, h15d, h15e, ⟨?_, ?_, ?_, ?_, ?_, ?_⟩, .nil⟩, List.nodup_nil, fun q => ⟨(fun z => nomatch z), fun ⟨_, z, _⟩ => nomatch z⟩⟩ ?_ ?_ ?_ ?_ ?_ o015
  · exact fun (z : l = l2) => (is_ne (p := l) (b := l2) (o511 _ _ (o5 _ _ hl4 nl) nl) hl2) z.symm
  · exact fun (z : l = l3) => (is_ne (p := l) (b := l3) (o513 _ _ (o5 _ _ hl4 nl) nl) hl3') z.symm
  · exact fun (z : l2 = l3) => (is_ne (p := l2) (b := l3) h13 hl3') z.symm
  · exact fun (z : d1 = d2) => (is_ne (p := d1) (b := d2) h7 hd2) z.symm
  · exact fun (z : d1 = d3) => (is_ne (p := d1) (b := d3) h9' hd3) z.symm
  · exact fun (z : d2 = d3) => (is_ne (p := d2) (b := d3) h9 hd3) z.symm
  · exact gat_keep (fun b z => by
      obtain ⟨o, ho⟩ := d4 b z
      rw [ho]
      exact o415 _ _ ho (fun w => by rw [show b = p from w] at z; exact nMp z)) g4
  · exact fun b z => by
      obtain ⟨o, ho⟩ := d4 b z
      exact ⟨o, o415 _ _ ho (fun w => by rw [show b = p from w] at z; exact nMp z)⟩
  · rintro b (rfl | rfl | rfl | rfl | rfl | rfl | rfl)
    · exact nMp
    · exact nMl
    · exact nM _ H5 Out.refl hd1
    · exact nM _ H7 o57 hd2
    · exact nM _ H9 o59 hd3
    · exact nM _ H11 o511 hl2
    · exact nM _ H13 o513 hl3'
  · intro b z
    have nb : b ≠ p := fun w => by rw [w] at z; exact nMp z
    exact fresh_is o03 nb (f4 b z)
  · rintro b (rfl | rfl | rfl | rfl | rfl | rfl | rfl)
    · exact .inl rfl
    · exact .inr (fresh_is o1 nl hl)
    · exact .inr (fresh_is o05 nd1 hd1)
    · exact .inr (fresh_is o07 nd2 hd2)
    · exact .inr (fresh_is o09 nd3 hd3)
    · exact .inr (fresh_is o011 nl2 hl2)
    · exact .inr (fresh_is o013 nl3 hl3')
/-! ### a whole row -/
def spPlayed (K : PySem.W.Frag) (cP : Addr) : Sp := fun vs H Q _ => ∃ (a g l : Addr) (c : Cfg) (G : G) (row : List Deed) (xs : List V), vs = [.ref a, .ref g, .ref l] ∧ SetAt H a c ∧ Cfg.fit c ∧ GTup H G g ∧ G.ok ∧ G.depth ≤ 3 ∧ SqL K H l xs ∧ Deeds H row xs ∧ rowOk c row ∧ row.length ≤ 1000 ∧
  ∀ (H' : Hp) (A : PA) (t : Int), Same H H' → PlayAt cP H' A c t (ran c G row) → (∀ b, InP A b → H b = none) → Q (.ref A.p) H'
def t_played (K : PySem.W.Frag) (c_Play : Addr) (sp_Play_init sp_Play_take_turn : Sp) : TS := tSeq (tAsg (tMake c_Play sp_Play_init [] E0 (tCons (tVar 0) (tCons (tVar 1) (tNil)))) (gName 3))
  (tSeq (tFor (iEnum K (tCons (tVar 2) (tNil))) (gTup K 2 (gCons (gName 4) (gCons (gName 5) (gNil)))) (tDrop (tMeth c_Play "take_turn" sp_Play_take_turn [] E0 (tVar 3) (tCons (tVar 4) (tCons (tVar 5) (tNil))))))
  (tRet (tVar 3)))
theorem says_row {g : G} (ok : g.ok) {row : List Deed} {i : Nat} {d : Deed} (h : row[i]? = some d) : ((begun g).after ((row.take i).map (·.1))).says d.1 = saysAt g row i := by
  unfold saysAt
  rw [says_looked ok, take_more' h, List.map_append]
  rfl
theorem after_row {s : S} {row : List Deed} {i : Nat} {d : Deed} (h : row[i]? = some d) : (s.after ((row.take i).map (·.1))).next d.1 = s.after ((row.take (i + 1)).map (·.1)) := by
  rw [take_more' h, List.map_append]
  exact (after_snoc s _ d.1).symm
theorem ans_len {c : Cfg} (ok : c.ok) {g : G} {row : List Deed} (hr : rowOk c row) {i : Nat} (hi : i ≤ row.length) : (runTo c g row i).answers.length ≤ i := by
  have h := (ran_plain ok (g := g) hr i hi).2
  have e : (runTo c g row i).answers = (plain c.mem (row.take i)).1 := congrArg Prod.fst h
  rw [e]
  have key : ∀ (l : List Deed) (x : List Int × List Int), (l.foldl (fun x d => plainStep d x) x).1.length ≤ x.1.length + l.length := by
    intro l
    induction l with
    | nil => intro x; exact Nat.le_refl _
    | cons d l ih =>
      intro x
      have h1 := ih (plainStep d x)
      have h2 : (plainStep d x).1.length ≤ x.1.length + 1 := by
        unfold plainStep
        split
        · show (x.1 ++ [_]).length ≤ _
          rw [List.length_append]; exact Nat.le_refl _
        · exact Nat.le_succ _
      show (l.foldl _ (plainStep d x)).1.length ≤ x.1.length + (l.length + 1)
      omega
  have h3 := key (row.take i) ([], c.mem)
  have h4 : (row.take i).length ≤ i := List.length_take_le _ _
  unfold Sw.plain
  simp only [List.length_nil] at h3
  omega
theorem pu_played (T : PF K cP) {vs : List V} {H : Hp} {Q : VK} {E : XK} (h : spPlayed K cP vs H Q E) : t_played K cP (spPlayInit cP ca) (spTakeTurn cP ca) (B Q) (start ["setting", "guesser", "row", "play", "turn", "deed"] vs) H := by
  obtain ⟨a, g, l, c, G, row, xs, rfl, hs, cf, hg, gok, dp, hx, hdd, hr, hl, k⟩ := h
  have ok := cf.ok
  unfold t_played
  walk_at "w"
  intro p dx hp hdx ne
  have e1 : Same H (upd (upd H dx (.own p)) p (.ins cP dx [])) := fun b o hb => by
    rw [upd_ne (fun z => by rw [z, hp] at hb; cases hb), upd_ne (fun z => by rw [z, hdx] at hb; cases hb)]
    exact hb
  have hp1 : upd (upd H dx (.own p)) p (.ins cP dx []) p = some (.ins cP dx []) := upd_same
  have fr1 : ∀ b, upd (upd H dx (.own p)) p (.ins cP dx []) b = none → H b = none := fun b hb => e1.free hb
  generalize upd (upd H dx (.own p)) p (.ins cP dx []) = H1 at e1 hp1 fr1 ⊢
  refine ⟨p, dx, a, g, c, G, rfl, hp1, set_keep (tk_same e1) hs, gtup_same e1 hg, dp, fun H2 A M eA hpl ga dom dj fM fP o2 => ⟨rfl, ?_⟩⟩
  subst eA
  have s2 : Same H H2 := fun b o hb => o2 b o (e1 b o hb) (fun z => by rw [show b = A.p from z, hp] at hb; cases hb)
  have fP2 : ∀ b, InP A b → H b = none := fun b hb => by
    rcases fP b hb with rfl | z
    · exact hp
    · exact fr1 b z
  walk_at "w"
  have hlen := hdd.len
  refine w_forenum (fun i σ H' => ∃ v4 v5 M t, σ = [some (.ref a), some (.ref g), some (.ref l), some (.ref A.p), v4, v5] ∧ PlayAt cP H' A c t (runTo c G row i) ∧ GAt ca H' i ((begun G).after ((row.take i).map (·.1))) A.wat M ∧ Dom M H' ∧ (∀ b, InP A b → ¬ M b) ∧ (∀ b, M b → H b = none) ∧ Same H H') (s2.seq hx)
    ⟨_, _, M, 0, rfl, hpl, ga, dom, dj, fun b hb => fr1 b (fM b hb), s2⟩ (fun i σ H' _ pv => ?_) (fun i x σ H' T2 H3 hi pv hxi hT e3 h3 => ?_) (fun σ H' pv => ?_)
  · obtain ⟨_, _, _, _, _, _, _, _, _, _, s⟩ := pv
    exact s.seq hx
  · obtain ⟨v4, v5, M3, t, rfl, hpl3, ga3, dom3, dj3, fM3, s3⟩ := pv
    obtain ⟨d, hd⟩ : ∃ d, row[i]? = some d := ⟨_, List.getElem?_eq_getElem (by omega)⟩
    obtain ⟨x', hx', dd⟩ := hdd.at hd
    rw [hxi] at hx'
    cases hx'
    have dd3 := deed_keep (tk_same (s3.trans e3)) dd
    obtain ⟨W3, sv3, g3, w3⟩ := id hpl3
    have g3' := g3.same e3
    have hp3 := g3'.hp
    have hrd := hr d (List.mem_of_getElem? hd)
    have hil : i < row.length := (List.getElem?_eq_some_iff.mp hd).1
    have kr := runTo_ok ok hr i (by omega) (g := G)
    have wt := ran_wayT ok G row i
    have sl := ran_len ok cf.most4 hr i (by omega) (g := G)
    have al := ans_len ok hr (g := G) (i := i) (by omega)
    refine w_gtup (SqT.of h3) rfl ?_
    walk_at "w"
    refine ⟨A, c, t, (i : Int), runTo c G row i, d, x, (begun G).after ((row.take i).map (·.1)), M3, i, rfl, dd3, ⟨W3, sv3, g3', w3⟩, gat_same dom3 e3 ga3, dom_same dom3 e3, dj3, by rw [after_deep, deep_begun]; exact dp, after_good _ (good_begun gok), by omega, ok, kr, wt, by have := cf.room8; omega, cf.most4, hrd.1, hrd.2, by omega, by omega, fun H4 M4 hpl4 ga4 dom4 t4 s4 dj4 o4 => ?_⟩
    rw [says_row gok hd] at hpl4
    rw [after_row hd] at ga4
    have ed : row.getD i (0, none) = d := by
      rw [List.getD_eq_getElem?_getD, hd]
      rfl
    have er : runTo c G row (i + 1) = turn c (saysAt G row i) (i : Int) d (runTo c G row i) := by
      show turn c (saysAt G row i) (i : Int) (row.getD i (0, none)) (runTo c G row i) = _
      rw [ed]
    rw [← er] at hpl4
    refine ⟨_, _, M4, _, rfl, hpl4, ga4, dom4, dj4, fun b hb => ?_, fun b o hb => ?_⟩
    · rcases s4 b hb with z | z
      · exact fM3 b z
      · exact s3.free (e3.free z)
    · refine o4 b o (e3 b o (s3 b o hb)) (fun z => ?_)
      rcases z with z | z
      · rw [fP2 b z] at hb; cases hb
      · rw [fM3 b z] at hb; cases hb
  · obtain ⟨v4, v5, M3, t, rfl, hpl3, ga3, dom3, dj3, fM3, s3⟩ := pv
    walk_at "w"
    rw [← hlen] at hpl3
    exact k H' A t s3 hpl3 fP2
/-! ### the counts -/
def countsV (m : Mc) : List V := [.int ((cnt .hit m.story : Int) + (cnt .first m.story : Int)), .int (cnt .late m.story : Int), .int (cnt .miss m.story : Int), .int (cnt .start m.story : Int), .int ((cnt .first m.story : Int) + (cnt .late m.story : Int)), .int (cnt .waste m.story : Int), .int ((waitsN m.shelf : Int) + (m.way.length : Int))]
def spCounts (cP : Addr) : Sp := fun vs H Q _ => ∃ A c t m, vs = [.ref A.p] ∧ PlayAt cP H A c t m ∧ (m.shelf.map (·.pl)).Nodup ∧ m.story.length ≤ 50000 ∧ ∀ H' q, Same H H' → H q = none → H' q = some (.tup (countsV m)) → Q (.ref q) H'
def t_counts_of (K : PySem.W.Frag) : TS := tSeq (tAsg (tLc (iList K (tFld K (tVar 0) "events")) (gName 5) (tYes) (tOp (rIxT K) (tVar 5) (tC (.int 1))) [5]) (gName 1))
  (tSeq (tAsg (tBM K "list" (rCntS K) (tVar 1) (tCons (tC (.str "first")) (tNil))) (gName 2))
  (tSeq (tAsg (tBM K "list" (rCntS K) (tVar 1) (tCons (tC (.str "late")) (tNil))) (gName 3))
  (tSeq (tAsg (tOp (rAddI) (tCB (rLenD) (tCons (tFld K (tVar 0) "unasked") (tNil))) (tCB (rLenD) (tCons (tFld K (tVar 0) "way") (tNil)))) (gName 4))
  (tRet (tTup (tCons (tOp (rAddI) (tBM K "list" (rCntS K) (tVar 1) (tCons (tC (.str "hit")) (tNil))) (tVar 2)) (tCons (tVar 3) (tCons (tBM K "list" (rCntS K) (tVar 1) (tCons (tC (.str "miss")) (tNil))) (tCons (tBM K "list" (rCntS K) (tVar 1) (tCons (tC (.str "start")) (tNil))) (tCons (tOp (rAddI) (tVar 2) (tVar 3)) (tCons (tBM K "list" (rCntS K) (tVar 1) (tCons (tC (.str "waste")) (tNil))) (tCons (tVar 4) (tNil)))))))))))))
theorem wd_inj : ∀ {a b : Wd}, wdStr a = wdStr b → a = b := by
  have key : ∀ a b : Wd, decide (wdStr a = wdStr b) = decide (a = b) := by
    intro a b
    cases a <;> cases b <;> decide +kernel
  intro a b h
  have := key a b
  rw [decide_eq_true h] at this
  exact of_decide_eq_true this.symm
theorem cnt_words (w : Wd) (st : List Ev) : ((st.map fun e => wdStr e.2.1).count (wdStr w)) = cnt w st := by
  rw [List.count_eq_countP, List.countP_map]
  unfold Sw.cnt
  congr 1
  funext e
  show (wdStr e.2.1 == wdStr w) = decide (e.2.1 = w)
  by_cases h : e.2.1 = w
  · rw [h]; simp
  · rw [decide_eq_false h]
    exact beq_eq_false_iff_ne.mpr (fun z => h (wd_inj z))
/-- the word of an event, read off the heap -/
def wordOf (H : Hp) : V → V
  | .ref a => match H a with
    | some (.tup [_, .str w, _]) => .str w
    | _ => .non
  | _ => .non
theorem wordOf_at {H : Hp} {e : Ev} {v : V} (h : EvAt H e v) : wordOf H v = .str (wdStr e.2.1) := by
  obtain ⟨a, rfl, h⟩ := h
  simp only [wordOf, h]
theorem words_of_evs {H : Hp} : ∀ {st : List Ev} {sv : List V}, All2 (EvAt H) st sv → sv.map (wordOf H) = (st.map fun e => wdStr e.2.1).map V.str
  | _, _, .nil => rfl
  | _, _, .cons h t => by
    rw [List.map_cons, wordOf_at h, words_of_evs t]
    rfl
theorem pu_counts_of (T : PF K cP) {vs : List V} {H : Hp} {Q : VK} {E : XK} (h : spCounts cP vs H Q E) : t_counts_of K (B Q) (start ["play", "words", "firsts", "lates", "idle", "event"] vs) H := by
  obtain ⟨A, c, t, m, rfl, ⟨W, sv, h, hw⟩, un, hz, k⟩ := h
  obtain ⟨cls, n1, n2, n3, n4, n5, n6, n7, n8, n9, n10, n11⟩ := id T
  have hp := h.hp
  have hsv := h.evs.len
  have hwl := wok_len un hw
  unfold t_counts_of
  walk_at "w"
  refine w_lcl (fun _ => true) (wordOf H) (SqL.of h.hevs) (small_lt (by omega)) (fun _ => rfl) (fun v hv H' s R r => ?_) (fun v hv _ H' s R r => ?_) (fun l H1 hl e1 h1 => ?_)
  · exact r _ (Same.refl _)
  · obtain ⟨e, _, he⟩ := h.evs.mem hv
    have e8 := wordOf_at he
    obtain ⟨b, rfl, hbt⟩ := he
    walk_at "w"
    refine w_ixt (.of (s _ _ hbt)) (v := .str (wdStr e.2.1)) rfl ?_
    rw [← e8]
    exact r _ (Same.refl _)
  rw [added_all, words_of_evs h.evs] at h1
  have g1 := h.same e1
  have hp1 := g1.hp
  have cs : ∀ w : Wd, ((m.story.map fun e => wdStr e.2.1).count (wdStr w)) = cnt w m.story := fun w => cnt_words w m.story
  walk_at "w"
  refine ⟨.inl ⟨rfl, _, SqL.of h1⟩, ?_⟩
  walk_at "w"
  refine w_cntS (SqL.of h1) ?_
  walk_at "w"
  refine ⟨.inl ⟨rfl, _, SqL.of h1⟩, ?_⟩
  walk_at "w"
  refine w_cntS (SqL.of h1) ?_
  walk_at "w"
  refine w_lenD g1.hunas ?_
  walk_at "w"
  refine w_lenD g1.hway ?_
  walk_at "w"
  refine ⟨.inl ⟨rfl, _, SqL.of h1⟩, ?_⟩
  walk_at "w"
  refine w_cntS (SqL.of h1) ?_
  walk_at "w"
  refine ⟨.inl ⟨rfl, _, SqL.of h1⟩, ?_⟩
  walk_at "w"
  refine w_cntS (SqL.of h1) ?_
  walk_at "w"
  refine ⟨.inl ⟨rfl, _, SqL.of h1⟩, ?_⟩
  walk_at "w"
  refine w_cntS (SqL.of h1) ?_
  walk_at "w"
  refine ⟨.inl ⟨rfl, _, SqL.of h1⟩, ?_⟩
  walk_at "w"
  refine w_cntS (SqL.of h1) ?_
  walk_at "w"
  refine ⟨small_le (by simp), w_new fun q H2 hq e2 h2 => ?_⟩
  refine k H2 q (e1.trans e2) (e1.free hq) ?_
  rw [h2, show ("first" : Str) = wdStr .first from rfl, show ("late" : Str) = wdStr .late from rfl, show ("hit" : Str) = wdStr .hit from rfl, show ("miss" : Str) = wdStr .miss from rfl, show ("start" : Str) = wdStr .start from rfl, show ("waste" : Str) = wdStr .waste from rfl, cs, cs, cs, cs, cs, cs, List.length_map, List.length_map, hwl]
  rfl
end
end SwD
set_option Elab.async false
set_option linter.all false
set_option maxRecDepth 100000
set_option maxHeartbeats 2000000
/-! all(test of x for x in a tuple of ints): the test may call a def of the text -/
namespace SwX
open PySem PySem.Spec PyProof.Rows L2 StX
/-- the test of the number c, as the generator's frame evaluates it -/
def EltI (X : Cx) (D U : Nat) (sc : Scope) (x : Str) (elt : Expr) (pb : Int → Bool) : Prop :=
  ∀ (ce : Env) (B : Around) (Er : Value → Shared → Prop) (c : Int) (t : Tok) (s : Shared) (m : Str → Option Value), ce.scope = sc → ce.globals = X.env.globals → B.handled = none → B.depth ≤ D → B.units ≤ U →
    (∀ b o, X.base.get? b = some o → s.heap.get? b = some o) → s.heap.Ns ce.locals m → m x = some (.int c t) →
    wpAny (model X.prog X.w) B (eval elt ce) (fun y s' => y = .bool (pb c) ∧ Keeps s s') Er s
def trI (pb : Int → Bool) (l : List Int) (j : Nat) : Bool := ((l[j]?).map pb).getD false
theorem trI_at {pb : Int → Bool} {l : List Int} {j : Nat} {b : Int} (h : l[j]? = some b) : trI pb l j = pb b := by
  unfold trI
  rw [h]
  rfl
theorem all_trI (pb : Int → Bool) (l : List Int) : (List.range l.length).all (trI pb l) = l.all pb := by
  rw [Bool.eq_iff_iff, List.all_eq_true, List.all_eq_true]
  refine ⟨fun h b hb => ?_, fun h j hj => ?_⟩
  · obtain ⟨j, hj⟩ := List.getElem?_of_mem hb
    have := h j (List.mem_range.mpr (List.getElem?_eq_some_iff.mp hj).1)
    rwa [trI_at hj] at this
  · have hj := List.mem_range.mp hj
    rw [trI_at (List.getElem?_eq_getElem hj)]
    exact h _ (List.getElem_mem hj)
/-- the generator is ready to be walked -/
def GoI (X : Cx) (pins : List (Addr × Obj)) (σ : L2.St) (H1 : Hp) (P : Addr) (l : List Int) (pb : Int → Bool) (g : Addr) (s5 : Shared) : Prop :=
  ∃ (fp wr : List Addr) (G : Array GenState → Array GenState → Prop) (F : Nat → Value → Prop) (St : Nat → Shared → Prop),
    WalksS X.prog X.w X.A.in1 g fp wr G l.length F St ∧ St 0 s5 ∧ TruthOf X.prog X.w X.A.in1 F (trI pb l) ∧ ∀ s', Moved wr G s5 s' → ∃ H2, GxR.Tabbed P H1 H2 ∧ Inv X pins σ H2 s'
section
variable {X : Cx} {pins : List (Addr × Obj)} {σ : L2.St} {H : Hp} {s : Shared}
theorem ints_at {l : List Int} {its : List Value} (r : Vals (l.map V.int) its) {i : Nat} {v : Value} (h : its[i]? = some v) : ∃ (c : Int) (t : Tok), l[i]? = some c ∧ v = .int c t := by
  have hi : i < its.length := (List.getElem?_eq_some_iff.mp h).1
  have hl := r.length
  rw [List.length_map] at hl
  obtain ⟨c, hc⟩ : ∃ c, l[i]? = some c := ⟨_, List.getElem?_eq_getElem (show i < l.length by omega)⟩
  obtain ⟨u, hu, ru⟩ := r.get (show (l.map V.int)[i]? = some (V.int c) by rw [List.getElem?_map, hc] <;> rfl)
  rw [h] at hu
  cases hu
  obtain ⟨t, e⟩ := (show ∃ t, v = Value.int c t from ru)
  exact ⟨c, t, hc, e⟩
theorem gen_tup {c P : Addr} {elt iter : Expr} {x : Str} {px gpos : Pos} {sc : Scope} {pb : Int → Bool} {te : TE} {k : Nat} {Qn : Value → Shared → Prop} {R : List Int → Hp → Prop}
    (hr : Room k X.A) (TB : GxR.TabB X.base X.mg c P) (hc : X.env.code = .ref c) (S : GxR.GenS X.env sc x) (hi : PE X iter te) (hel : X.Ok → EltI X (X.A.depth + 1) (X.A.units + 8) sc x elt pb)
    (hf : ∀ v, genFold iter X.env v = pure v) (I : Inv X pins σ H s) (h : te σ H fun v H1 => ∃ (a : Addr) (l : List Int), v = .ref a ∧ SqT X.K H1 a (l.map V.int) ∧ GxR.TabG H1 P ∧ R l H1)
    (hQ : ∀ l H1 g s5, R l H1 → GoI X pins σ H1 P l pb g s5 → Qn (.ref g) s5) :
    wpAny (model X.prog X.w) X.A (eval (.GeneratorExp elt [⟨.Name x px, iter, [], 0⟩] sc gpos) X.env) Qn X.xe s := by
  refine wpAny_GeneratorExp_walksQD hr.hd S.co (closure_ok S.free) S.cell S.dot S.loc S.kind (by have := hr.dp; omega) (thn (hi.run pins s σ H _ I h) fun xv s1 ⟨v, H1, I1, r1, q1⟩ => ?_) hf
  obtain ⟨ta, l, rfl, hta, ⟨ps, hP, htr⟩, q1⟩ := q1
  obtain rfl : xv = Value.ref ta := r1
  obtain ⟨its, rv, hT, hz⟩ := I1.tuple hta
  have hlen : its.length = l.length := by
    have := rv.length
    rw [List.length_map] at this
    exact this.symm
  refine wpAny_pyIter_tuple hT ?_
  generalize ho : ({ cls := .type "tuple_iterator", data := .fields #[.ref ta, .int 0 0] } : Obj) = o
  have hit : (s1.heap.push o).IsTupleIter s1.heap.objs.size ta 0 := by
    rw [← ho]
    exact ⟨_, Heap.get?_push_size _ rfl, rfl, rfl⟩
  have hPs := I1.hok P _ hP
  have hPs : s1.heap.get? P = some { cls := .none, data := .fields ps } := hPs
  have ltP := Heap.lt_size hPs
  have lta : ta < s1.heap.objs.size := let ⟨_, e, _⟩ := hT; Heap.lt_size e
  have naP : ta ≠ P := fun z => by
    obtain ⟨_, e, _, _, d⟩ := hT
    rw [z, hPs] at e
    cases e
    cases d
  have hP2 : (s1.heap.push o).get? P = some { cls := .none, data := .fields ps } := Heap.get?_push_of_some o hPs
  have CD : PySem.W.CodeHd (s1.heap.push o) c P := TB.code.keeps fun b u e => Heap.get?_push_of_some _ (I1.bk b u e)
  have lim := I1.nolimit.push o
  have fin : ∀ (cv : Value) (h3 : Heap) (tk : Nat) (qs : Array Value), Heap.ExtBut P (s1.heap.push o) h3 → (s1.heap.push o).objs.size ≤ h3.objs.size → h3.get? P = some { cls := .none, data := .fields qs } → (∃ more, qs = ps ++ more) → TriplesOk qs.toList →
      wpAny (model X.prog X.w) X.A (builtinsFor X.env.globals X.env.builtins) (fun bi s4 =>
        ∃ Ia fp wr n₀ Pf St₀ pz F, Value.ref s1.heap.objs.size = .ref Ia ∧ (∀ A' : Around, A'.handled = none → Walks X.prog X.w A' Ia fp wr n₀ Pf St₀) ∧ St₀ 0 s4.heap ∧ (∀ b ∈ fp, b < s4.heap.objs.size) ∧ s4.heap.NoLimit ∧ cStatics ∉ wr ∧
          (∀ href : Heap, (∀ b o, s4.heap.get? b = some o → href.get? b = some o) → QuietGenD X.prog X.w (genEnv sc (cloFrom X.env.cells sc.names []) s4.heap.objs.size cv bi X.env) x [] elt (List.range s4.heap.objs.size) wr Pf pz F href (X.A.depth + 1) (X.A.units + 8)) ∧
          (∀ a h₅ tk gs, gs.bare = true → s4.heap.objs.size < a → h₅.objs.size = a + 1 → (∀ b o, s4.heap.get? b = some o → h₅.get? b = some o) →
            WalksS X.prog X.w X.A.in4 a (a :: s4.heap.objs.size :: List.range s4.heap.objs.size) (s4.heap.objs.size :: wr) (GenOnlyQ s4.gens.size) (passing pz n₀ 0).length (fun j y => ∃ i, (passing pz n₀ 0)[j]? = some i ∧ F i y) (GenAt X.prog X.w X.A.in4 a s4.gens.size s4.heap.objs.size (List.range s4.heap.objs.size) wr pz n₀ F) →
            GenAt X.prog X.w X.A.in4 a s4.gens.size s4.heap.objs.size (List.range s4.heap.objs.size) wr pz n₀ F 0 { s4 with gens := s4.gens.push gs, toks := tk, heap := h₅ } → Qn (.ref a) { s4 with gens := s4.gens.push gs, toks := tk, heap := h₅ })) X.xe { s1 with heap := h3, toks := tk } := by
    intro cv h3 tk qs hx hsz hP3 hmore htr3
    obtain ⟨bm, ob, b1, b2, b3, b4, b5, b6, b7, b8⟩ := TB.bm
    obtain ⟨_, hns, _⟩ := _root_.id I1.nolimit
    have stP : cStatics ≠ P := fun e => by
      obtain ⟨o', _, _, g1, g2, _⟩ := hns
      rw [e, hPs] at g1
      cases g1
      cases g2
    have stl := hns.lt
    have szp : (s1.heap.push o).objs.size = s1.heap.objs.size + 1 := Heap.size_push ..
    have kp : ∀ b u, b ≠ P → s1.heap.get? b = some u → h3.get? b = some u := fun b u hb e => hx b u hb (Heap.get?_push_of_some _ e)
    refine wpAny_builtinsFor (m := X.mg) (by rw [I1.ok.glob]; exact ((I1.mod.glob.keeps I1.bk).push o).extBut hx TB.gP) b1 b2 (kp _ _ b4 (I1.bk _ _ b5)) b6 b7 b8 ?_
    have hT3 : h3.IsTuple ta its.toArray := by
      obtain ⟨ob, e, r⟩ := _root_.id hT
      exact ⟨ob, kp _ _ naP e, r⟩
    refine ⟨s1.heap.objs.size, [s1.heap.objs.size, ta], [s1.heap.objs.size], its.toArray.size, (fun i v => its.toArray[i]? = some v), (fun i h => h.IsTupleIter s1.heap.objs.size ta i ∧ h.IsTuple ta its.toArray), (fun _ => true), (fun i y => ∃ q, l[i]? = some q ∧ y = .bool (pb q)), rfl,
      (fun A' hA => Walks.tuple hA _ _ (Nat.ne_of_lt lta) _), ⟨hit.at fun u e => hx _ u (Nat.ne_of_gt ltP) e, hT3⟩, ?_, lim.extBut hx stP, ?_, ?_, ?_⟩
    · intro b hb
      show b < h3.objs.size
      rcases List.mem_cons.mp hb with z | z
      · rw [z]
        show s1.heap.objs.size < h3.objs.size
        omega
      · rw [List.mem_singleton.mp z]
        have h9 : s1.heap.objs.size ≤ h3.objs.size := by omega
        exact Nat.lt_of_lt_of_le lta h9
    · intro z
      exact Nat.ne_of_lt stl (List.mem_singleton.mp z)
    · intro href hhref
      refine ⟨fun A' E' i v s₂ m₂ _ _ _ _ _ _ _ => ?_, fun A' E' i v s₂ m₂ hA hd hu hv _ hn hm hk => ?_⟩
      · rw [List.forIn_nil]
        exact wpAny_pure ⟨rfl, GxR.keeps_refl s₂⟩
      · obtain ⟨q, t, hq, rfl⟩ := ints_at rv (show its[i]? = some v by simpa using hv)
        refine wpAny_mono (hel I1.ok _ A' E' q t s₂ m₂ rfl rfl hA hd hu (fun b u e => ?_) hn hm) (fun y s3 r => ⟨⟨q, hq, r.1⟩, r.2⟩) fun _ _ e => e
        have e1 := I1.bk b u e
        have lb := Heap.lt_size e1
        have nbP : b ≠ P := fun z => by
          have := (I1.bs b u e).2
          rw [z, hP] at this
          cases this
        have lb3 : b < h3.objs.size := by have lb : (b : Nat) < s1.heap.objs.size := lb; exact Nat.lt_of_lt_of_le lb (by omega)
        refine hk b (List.mem_range.mpr lb3) (fun z => ?_) u (hhref b u (kp b u nbP e1))
        rw [List.mem_singleton.mp z] at lb
        exact Nat.lt_irrefl _ lb
    · intro g h5 tk5 gs hgb hag hsz5 hk5 W5 hat
      have hn5 : its.toArray.size = l.length := by rw [List.size_toArray, hlen]
      rw [GxR.passing_true, List.length_range, hn5] at W5
      rw [hn5] at hat
      refine hQ l H1 g _ q1 ⟨_, _, _, _, _, W5.in4_1, hat, fun j y sj Qj Ej hy hQj => ?_, fun s' hm => ?_⟩
      · obtain ⟨i, hij, q, hq, rfl⟩ := hy
        obtain ⟨hj, ej⟩ := List.getElem?_eq_some_iff.mp hij
        rw [List.getElem_range] at ej
        subst ej
        have hQ2 : Qj (trI pb l j) sj := hQj
        rw [trI_at hq] at hQ2
        exact wpAny_truthy_bool hQ2
      · obtain ⟨more, em⟩ := hmore
        have nw : ∀ b u, s1.heap.get? b = some u → b ∉ h3.objs.size :: [s1.heap.objs.size] := fun b u e hb => by
          have lb : (b : Nat) < s1.heap.objs.size := Heap.lt_size e
          rcases List.mem_cons.mp hb with z | z
          · rw [z] at lb
            have h9 : (h3.objs.size : Nat) < s1.heap.objs.size := lb
            omega
          · rw [List.mem_singleton.mp z] at lb
            exact Nat.lt_irrefl _ lb
        have J := GxR.inv_tab (more := more) (h' := s'.heap) (g' := s'.gens) (d' := s'.drawn) (t' := s'.toks) I1 hP (fun b u hb e => hm.heap b u (nw b u e) (hk5 b u (kp b u hb e))) (em ▸ hm.heap P _ (nw P _ hPs) (hk5 P _ hP3)) (AllBare.movedS (I1.bare.push hgb) hm)
        rw [GxR.sh_eta s1 s' hm.os] at J
        exact ⟨_, ⟨⟨ps ++ more, upd_same, em ▸ htr3⟩, fun b hb => upd_ne hb⟩, J⟩
  refine ⟨lim, ?_⟩
  cases hcode : codeAmong gpos ps.toList with
  | some cv =>
    refine wpAny_genexprCode_hit hc (CD.code hP2 htr) hcode ?_
    exact fin cv (s1.heap.push o) s1.toks ps (Heap.ExtBut.refl _ _) (Nat.le_refl _) hP2 ⟨#[], by simp⟩ htr
  | none =>
    refine wpAny_genexprCodeX hc (CD.code hP2 htr) (CD.tab hP2) hcode fun c' h' tk hx hge hlt hco _ htab _ => ?_
    obtain ⟨o1, vs, f1, tf, fl, tg, inF, tx, tt, op, _, _, _, _, _, _, _, _, _, hts, _⟩ := hco
    exact fin _ h' tk _ hx (Nat.le_trans hge (Nat.le_of_lt hlt)) htab.2 ⟨_, rfl⟩ hts
/-- all(test for x in e), e a tuple of ints; the def's table may have grown behind it -/
def tAllT (K : PySem.W.Frag) (P : Addr) (pb : Int → Bool) (te : TE) : TE := fun σ H Q => te σ H fun v H1 => ∃ (a : Addr) (l : List Int), v = .ref a ∧ SqT K H1 a (l.map V.int) ∧ GxR.TabG H1 P ∧ ∀ H2, GxR.Tabbed P H1 H2 → Q (.bl (l.all pb)) H2
theorem pe_allT {c P : Addr} {elt iter : Expr} {x : Str} {px p pos gpos : Pos} {sc : Scope} {pb : Int → Bool} {te : TE} {k : Nat}
    (hr : Room k X.A) (hg : Gl X "all") (hm : X.mg "all" = none) (TB : GxR.TabB X.base X.mg c P) (hc : X.env.code = .ref c) (S : GxR.GenS X.env sc x) (hi : PE X iter te) (hel : X.Ok → EltI X (X.A.depth + 1) (X.A.units + 8) sc x elt pb)
    (hf : ∀ v, genFold iter X.env v = pure v)
    (he : starEach [.GeneratorExp elt [⟨.Name x px, iter, [], 0⟩] sc gpos] X.env = (false, eval (.GeneratorExp elt [⟨.Name x px, iter, [], 0⟩] sc gpos) X.env) :: starEach [] X.env := by rfl) :
    PE X (.Call (.Name "all" p) [.GeneratorExp elt [⟨.Name x px, iter, [], 0⟩] sc gpos] [] pos) (tAllT X.K P pb te) := by
  refine ⟨fun pins s σ H Q I h => wpAny_Call_Name_kw (ld_blt I hg hm (show bootBuiltins "all" = some (.builtin "all") by decide +kernel) (PyProof.Rows.callWith_builtin1 ?_ he (by rfl)))⟩
  rw [he]
  show wpAny _ _ (spliced ((false, eval (.GeneratorExp elt [⟨.Name x px, iter, [], 0⟩] sc gpos) X.env) :: backTo pos (starEach [] X.env))) _ _ s
  refine Calls.spliced_cons (gen_tup (R := fun l H1 => ∀ H2, GxR.Tabbed P H1 H2 → Q (.bl (l.all pb)) H2) hr TB hc S hi hel hf I h fun l H1 g s5 hR hG => Calls.spliced_nil ?_)
  obtain ⟨fp, wr, G, F, St, W, hst, htr, hI⟩ := hG
  refine call_all_walkS (W.self 0 _ _ _ hst ⟨g, fp, wr, G, _, F, St, _, rfl, W, hst, htr, fun s' hmv => ?_⟩)
  obtain ⟨H2, hT, J⟩ := hI s' hmv
  exact ⟨.bl _, H2, J, rfl, by rw [all_trI]; exact hR H2 hT⟩
end
end SwX
set_option Elab.async false
set_option linter.all false
set_option maxRecDepth 100000
set_option maxHeartbeats 2000000
namespace SwX
open PySem PySem.Spec PyProof.Rows L2 StX
section
variable {prog : Program} {w : World} {B : Around} {Er : Value → Shared → Prop} {s : Shared}
/-- lo <= x <= g, x a local, g a module's constant -/
theorem chain_eval {ce : Env} {x g : Str} {m mg : Str → Option Value} {lo hi c : Int} {t tg : Tok} {j : Nat} {p1 p2 p3 p4 : Pos} (hk : ce.scope.kind = .function) (hx : ce.scope.names.lookup x = some .local) (hn : s.heap.Ns ce.locals m) (hm : m x = some (.int c t))
    (hg : ce.kindOf g = some .globalImplicit) (hG : s.heap.Ns ce.globals mg) (hv : mg g = some (.int hi tg)) (dx : (x == ("__debug__" : Str)) = false) (dg : (g == ("__debug__" : Str)) = false)
    (hmk : lastMarks [.LtE, .LtE] [.Name x p2, .Name g p3] = false := by with_unfolding_all rfl) :
    wpAny (model prog w) B (eval (.Compare (.Constant (.int lo) j p1) [.LtE, .LtE] [.Name x p2, .Name g p3] p4) ce) (fun y s' => y = .bool (decide (lo ≤ c) && decide (c ≤ hi)) ∧ Keeps s s') Er s := by
  refine Compare_chain (wpAny_Constant_int (chain_link (wpAny_Name (wpAny_loadName_local hk hx hn hm ?_) dx))) hmk
  refine PyProof.Rows.le_int (wpAny_truthy_bool ?_)
  by_cases h : lo ≤ c
  · rw [if_pos (decide_eq_true h), decide_eq_true h, Bool.true_and]
    refine chain_last (Calls.Name_function_global hk hg (Calls.loadGlobal_global hG hv (PyProof.Rows.le_int ⟨rfl, ?_⟩)) dg)
    exact GxR.keeps_tok _ _
  · rw [if_neg (by rw [decide_eq_false h]; decide), decide_eq_false h]
    exact ⟨rfl, GxR.keeps_tok _ _⟩
end
theorem keeps_trans {a b c : Shared} (h : Keeps a b) (h' : Keeps b c) : Keeps a c := by
  obtain ⟨h1, t1, rfl, k1⟩ := h
  obtain ⟨h2, t2, rfl, k2⟩ := h'
  exact ⟨h2, t2, rfl, fun b o e => k2 b o (k1 b o e)⟩
section
variable {X : Cx} {D U : Nat} {sc : Scope} {x : Str}
theorem elt_between {g : Str} {lo hi : Int} {tg : Tok} {j : Nat} {p1 p2 p3 p4 : Pos} (ok : X.Ok) (hk : sc.kind = .function) (hx : sc.names.lookup x = some .local) (hg : sc.names.lookup g = some .globalImplicit) (hv : X.mg g = some (.int hi tg)) (dx : (x == ("__debug__" : Str)) = false) (dg : (g == ("__debug__" : Str)) = false)
    (hmk : lastMarks [.LtE, .LtE] [.Name x p2, .Name g p3] = false := by with_unfolding_all rfl) :
    EltI X D U sc x (.Compare (.Constant (.int lo) j p1) [.LtE, .LtE] [.Name x p2, .Name g p3] p4) fun c => decide (lo ≤ c) && decide (c ≤ hi) := by
  intro ce B Er c t s m es eg _ _ _ hb hn hm
  subst es
  exact chain_eval hk hx hn hm hg (by rw [eg, ok.glob]; exact ok.mod.glob.keeps hb) hv dx dg hmk
/-- f(x), f a def of the text whose body is one return -/
theorem elt_call {g : Str} {f : Addr} {name qual par : Str} {params : Arguments} {body : List Stmt} {fsc : Scope} {dV kV doc pm cdv ct oc : Value} {an od : Option Addr} {osl : Array (Option Value)} {pb : Int → Bool} {p1 p2 pos : Pos} (ok : X.Ok)
    (hk : sc.kind = .function) (hx : sc.names.lookup x = some .local) (hg : sc.names.lookup g = some .globalImplicit) (hv : X.mg g = some (.ref f)) (dx : (x == ("__debug__" : Str)) = false) (dg : (g == ("__debug__" : Str)) = false)
    (lk : X.K.lookup f = some ⟨oc, od, .func (PySem.W.fnOf name qual params body fsc dV kV doc pm an cdv ct), osl⟩) (hcd : PySem.W.codeIn X.K cdv qual = true) (kp : PySem.W.keepIn X.K (.ref f) = true)
    (hD : D < recursionLimit) (hb : ∀ (s : Shared) (u : Value), BindsTo s (PySem.W.fnOf name qual params body fsc dV kV doc pm an cdv ct) ⟨[u], []⟩ [(par, u)])
    (hp : fsc.names.lookup par = some .local) (hco : fsc.isCoroutine = false) (hgen : fsc.isGenerator = false) (hfk : fsc.kind = .function)
    (hbody : ∀ (ce : Env) (B : Around) (Er : Value → Shared → Prop) (c : Int) (t : Tok) (s : Shared) (m : Str → Option Value), ce.scope = fsc → ce.globals = mainGlobals → (∀ b o, X.base.get? b = some o → s.heap.get? b = some o) → s.heap.Ns ce.locals m → m par = some (.int c t) →
      wpAny (model X.prog X.w) B (execs body ce) (fun fl s' => fl = .ret (.bool (pb c)) ∧ Keeps s s') Er s)
    (he : ∀ ce : Env, starEach [.Name x p2] ce = (false, eval (.Name x p2) ce) :: starEach [] ce := by intro _; rfl) (hpl : ∀ ce : Env, (backTo pos (starEach [] ce)).any (·.1) = false := by intro _; rfl) :
    EltI X D U sc x (.Call (.Name g p1) [.Name x p2] [] pos) pb := by
  intro ce B Er c t s m es eg hh hd hu hbs hn hm
  subst es
  have KX : X.K.In s.heap := ok.mod.kin.keeps hbs
  refine wpAny_Call_Name_kw (Calls.Name_function_global hk hg (Calls.loadGlobal_global (by rw [eg, ok.glob]; exact ok.mod.glob.keeps hbs) hv ?_) dg)
  refine PySem.W.callWith_K (h₀ := X.base) ok.mod.kin kp ?_ (he ce) (hpl ce)
  rw [he ce]
  show wpAny _ _ (spliced ((false, eval (.Name x p2) ce) :: backTo pos (starEach [] ce))) _ _ s
  refine Calls.spliced_cons (wpAny_Name (wpAny_loadName_local hk hx hn hm (Calls.spliced_nil ⟨KX, ?_⟩)) dx)
  refine wpAny_call (Att.call_fn KX (ok.mod.nolimit.keeps hbs) lk hcd (Nat.lt_of_le_of_lt hd hD) (hb s (.int c t)) ?_ (fun s1 hin => ?_) hco hgen hfk)
  · show (((fsc.names.lookup par == some .local) || _) && true) = true
    rw [hp]
    rfl
  · have k1 : Keeps s s1 := hin.done
    have hns := hin.toInCall.ns
    have kb : ∀ b o, X.base.get? b = some o → s1.heap.get? b = some o := fun b o e => hin.toInCall.keep b o (hbs b o e)
    refine wpAny_mono (hbody _ _ _ c t s1 _ rfl rfl kb hns ?_) (fun fl s' r => ?_) fun _ _ e => e
    · show (if (envOfC qual fsc s.heap.objs.size f cdv).kindOf par = some .local then (fun y => if y = par then some (Value.int c t) else none) else fun _ => none) par = _
      have h1 : (envOfC qual fsc s.heap.objs.size f cdv).kindOf par = some .local := hp
      rw [if_pos h1]
      exact if_pos rfl
    · obtain ⟨rfl, k2⟩ := r
      exact ⟨rfl, keeps_trans k1 k2⟩
end
/-! ### a def of the text whose code object is known -/
structure FunC (K : PySem.W.Frag) (x qual : Str) (st : Stmt) (f c : Addr) (fd : FuncData) : Prop where
  ex : ∃ (oc : Value) (od : Option Addr) (kV doc pm : Value) (an : Option Addr) (ct : Value) (osl : Array (Option Value)),
    fd = PySem.W.fnOf x qual (defArgs st) (defBody st) (defScope st) .none kV doc pm an (.ref c) ct ∧ K.lookup f = some ⟨oc, od, .func fd, osl⟩ ∧ PySem.W.codeIn K (.ref c) qual = true
section
variable {P : Program} {w : World} {K : PySem.W.Frag} {mg : Str → Option Value} {base : Heap}
theorem FunC.ok {CX : CXT} {x qual : Str} {st : Stmt} {f c : Addr} {fd : FuncData} {N ps : List Str} {k : Nat} {sp : Sp} (F : FunC K x qual st f c fd) (S : FnScope N ps (defScope st)) (len : ∀ vs H Q E, sp vs H Q E → vs.length = ps.length)
    (hbody : ∀ (A : Around) (outer : List Env) (s : Shared) (H : Hp) (vs : List V) (Q : VK) (E : XK), Room k (A.deeper (envOfC qual (defScope st) s.heap.objs.size f (.ref c))) → sp vs H Q E →
      ∃ t, PSs (cxOf CX P w K mg base N qual (defScope st) f (.ref c) A outer s H E) (defBody st) t ∧ t { nx := fun _ H' => Q .non H', rt := Q } (start N vs) H) : FnOk P w K mg base CX (k + 1) f fd ps sp := by
  obtain ⟨oc, od, kV, doc, pm, an, ct, osl, rfl, lk, hcd⟩ := F.ex
  exact fn_of lk hcd S len hbody
end
/-! ### what is known of the tables of the text's defs -/
def TabOf (h : Heap) (mg : Str → Option Value) (nm : Str) : Prop := ∃ (a : Addr) (o : Obj) (fd : FuncData) (c P : Addr), mg nm = some (.ref a) ∧ h.get? a = some o ∧ o.data = .func fd ∧ fd.code = .ref c ∧ PySem.W.CodeHd h c P ∧ h.get? P = some { cls := .none, data := .fields #[] }
open LamX in
theorem walk_tabs {l : PySem.W.OpenLaw} {n k : Nat} {q : Program} {loose : List Str} {XP : (Str → Option Value) → Heap → Prop} {YP : World → Heap → Prop} {d : DefRec} {K : Params → PySem.W.Frag} {CX : World → CXT} {x : Str} {nms : List Str}
    (hn : l.most = some n) (hn2 : n ≤ sizeLine) (hdf : d.params.defaults = []) (hr : Room k callerA) (hrec : (nms.all fun nm => (recsOf q).any fun e => e.name == nm) = true) (hY : ∀ (w : World) (h : Heap), YP w h → (K w.params).In h)
    (F : ∀ (w : World) (mg : Str → Option Value) (fa : Addr) (h : Heap), YP w h → (K w.params).In h → h.Ns mainGlobals mg → mg d.name = some (.ref fa) → (∀ nm ∈ nms, TabOf h mg nm) → LawAtS l w (K w.params) (CX w) k n x mg fa h)
    (hCX : ∀ (w : World) (H : Hp) (s : Shared) (e : Value) (s' : Shared), CX w [] H s (fun _ _ _ => False) e s' → False) : PySem.W.WalkO q loose XP YP l.row.toRowW d [] (fun f vs => PySem.call f vs) := by
  refine Att.attach_callB hn hdf fun w s₀ s₁ mg mb fa o pm cd doc a vs ns G Y ho hd hcd hmg hobj hints hlen hbits hg => ?_
  have KX := hY w _ Y
  have tabs : ∀ nm ∈ nms, TabOf s₁.heap mg nm := fun nm hnm => by
    obtain ⟨dL, hm, hn1⟩ := List.any_eq_true.mp (List.all_eq_true.mp hrec nm hnm)
    obtain ⟨a', o', fd', c', P', h1, h2, h3, h4, h5, h6⟩ := G.T.tab dL hm
    rw [beq_iff_eq.mp hn1] at h1
    exact ⟨a', o', fd', c', P', h1, h2, h3, h4, PySem.W.CodeHd.of h5 h6, h6.2⟩
  obtain ⟨fd, cs, sp, hT, nT, C, hb, hsp, hF⟩ := F w mg fa _ Y KX G.T.g hmg tabs
  exact law_callTs KX G.T.g G.T.b G.T.builtins G.T.nolimit hg hT nT C G.T.bmain hobj hints (Nat.le_trans hlen hn2) hr hF hb (fun H hH hS => hsp H a ns hlen hbits hH hS) fun H e s' => hCX w H s₁ e s'
end SwX
set_option Elab.async false
set_option linter.all false
set_option maxRecDepth 100000
/-! enumerate(t), t a tuple; d[k], d a written dict -/
namespace SwX
open PySem PySem.Spec PyProof.Rows L2 StX
open PySem.F in
set_option maxHeartbeats 1000000 in
theorem enum_meets {v : Value} {o : Obj} {G : Heap → Prop} (Bg : Begins v o G) :
    Meets (Builtin.«enumerate.__new__» ⟨[.type "enumerate", v], []⟩) (fun _ R s => G s.heap ∧ R (.ok (.ret (.ref (s.heap.push o).objs.size)))
      { s with heap := (s.heap.push o).push { cls := .type "enumerate", data := .fields #[.none, .bool false, .ref s.heap.objs.size, rawInt 0, .none, .none] } }) := by
  refine .of_wp fun prog w A R s hh => ?_
  obtain ⟨hp, gs, dr, tk, os⟩ := s
  obtain ⟨g1, hh⟩ := hh
  have sub := sub_enumerate
  have it : ∀ {A' : Around} {E : Value → Shared → Prop} {Q : Value → Shared → Prop}, Q (.ref hp.objs.size) ⟨hp.push o, gs, dr, tk, os⟩ → wpAny (model prog w) A' (pyIter v) Q E ⟨hp, gs, dr, tk, os⟩ := fun q => Bg.iter prog w _ _ ⟨hp, gs, dr, tk, os⟩ _ g1 q
  wp_walk using it
  refine wpAny_stack_any fun _ => wpAny_pure ?_
  split
  · rename_i cc _ _ _ _ _
    cases cc == Value.type "enumerate" with
    | false =>
      wp_walk using it
      exact ⟨_, rfl, hh⟩
    | true =>
      wp_walk using it
      exact ⟨_, rfl, hh⟩
  · wp_walk using it
    exact ⟨_, rfl, hh⟩
section
variable {prog : Program} {w : World} {A : Around} {Er : Value → Shared → Prop} {s : Shared}
theorem enum_call {v : Value} {o : Obj} {G : Heap → Prop} {Q : Value → Shared → Prop} (Bg : Begins v o G) (g : G s.heap)
    (k : ∀ h', IsEnum h' (s.heap.objs.size + 1) s.heap.objs.size 0 .none → h'.get? s.heap.objs.size = some o → h'.objs.size = s.heap.objs.size + 2 → (∀ b u, s.heap.get? b = some u → h'.get? b = some u) → Q (.ref (s.heap.objs.size + 1)) { s with heap := h' }) :
    wpAny (model prog w) A (call (.type "enumerate") [v]) Q Er s := by
  refine callType_new F.called_enumerate (by decide) (F.typeCall_enumerate_1 v) (F.newCall_enumerate_1 v) (fun obj => F.args_object_init_2 obj _) F.entry_enumerate_new (enum_meets Bg) ⟨g, ?_⟩
  have sz : (s.heap.push o).objs.size = s.heap.objs.size + 1 := Heap.size_push ..
  show _ ∧ _
  rw [sz]
  have en : IsEnum ((s.heap.push o).push { cls := .type "enumerate", data := .fields #[.none, .bool false, .ref s.heap.objs.size, rawInt 0, .none, .none] }) (s.heap.objs.size + 1) s.heap.objs.size 0 .none := by
    have q := Heap.get?_push_size (s.heap.push o) (o := { cls := .type "enumerate", data := .fields #[.none, .bool false, .ref s.heap.objs.size, rawInt 0, .none, .none] }) rfl
    rw [sz] at q
    exact q
  exact ⟨⟨_, en, rfl⟩, k _ en (Heap.get?_push_of_some _ (Heap.get?_push_size _ Bg.free)) (by rw [Heap.size_push, sz]) fun b u x => Heap.get?_push_of_some _ (Heap.get?_push_of_some _ x)⟩
end
theorem enum_done {prog : Program} {w : World} {A : Around} {Er : Value → Shared → Prop} {s : Shared} {e it a : Addr} {i : Nat} {its : Array Value} {old : Value} {Q : Option Value → Shared → Prop} (hh : A.handled = none) (he : IsEnum s.heap e it i old) (hit : s.heap.IsTupleIter it a i) (hT : s.heap.IsTuple a its) (hx : its[i]? = none)
    (k : ∀ h', Heap.ExtBut it s.heap h' → Q none { s with heap := h' }) : wpAny (model prog w) A (pyNext (.ref e)) Q Er s := by
  have ty : s.TypeIs (.ref e) "enumerate" := ⟨_, he, rfl⟩
  unfold pyNext
  refine wpAny_bind (wpAny_attempt (wpAny_callSpecial?_slot (name := Str.ofString "__next__") ty F.slot_enumerate_next (wpAny_call_entry F.slot_enumerate_next ty F.entry_enumerate_next ?_ (F.args_enumerate_next_1 _))))
  show wpAny _ _ (field (.ref e) 2 >>= _) _ _ s
  refine wpAny_bind (wpAny_field he rfl (x := .ref it) rfl (wpAny_bind (wpAny_nextOf_tuple_end hh hit hT hx fun h' x e1 e2 => ?_)))
  obtain ⟨o, o1, o2⟩ := e2
  exact wpAny_bind (wpAny_isInstance (T := "StopIteration") (b := true) ⟨o, o1, o2⟩ isSubtype_stop (wpAny_pure (k _ e1)))
/-- the tuple at a, each item in a new pair -/
def IteT (K : PySem.W.Frag) (a : Addr) : It :=
  ⟨fun i H => ∃ (xs : List V) (x : V), SqT K H a xs ∧ xs[i]? = some x, fun i H v H' => ∃ T x, v = .ref T ∧ H T = none ∧ H' = upd H T (.tup [.int (i : Nat), x]) ∧ ∀ ys, SqT K H a ys → ys[i]? = some x, fun i H => ∃ xs : List V, SqT K H a xs ∧ xs.length ≤ i⟩
/-- its two cells, over the tuple's items -/
def EnT (a e it : Addr) (its : Array Value) (i : Nat) (h : Heap) : Prop := (∃ old, IsEnum h e it ((i : Nat) : Int) old) ∧ h.IsTupleIter it a i ∧ h.IsTuple a its ∧ e ≠ it ∧ a ≠ it ∧ e ≠ a
theorem turn_enumT {P : Program} {w : World} {K : PySem.W.Frag} {elts : List Expr} {kk : Nat} {tpos : Pos} (a e it : Addr) : Turn P w K (.Tuple elts kk tpos) (IteT K a) [e, it] e (fun i h => (∃ old, IsEnum h e it ((i : Nat) : Int) old) ∧ h.IsTupleIter it a i ∧ e ≠ it ∧ a ≠ it ∧ e ≠ a) where
  mem := by simp
  obj := fun i h st b hb => by
    obtain ⟨⟨old, he⟩, ⟨o, ho, hc, hd⟩, _⟩ := st
    rcases (show b = e ∨ b = it by simpa using hb) with z | z
    · rw [z]
      exact ⟨_, he, fun v q => nomatch q⟩
    · rw [z]
      exact ⟨o, ho, fun v q => by rw [hd] at q; cases q⟩
  keep := fun i h h' st k => let ⟨⟨old, he⟩, hi, r⟩ := st; ⟨⟨old, k e (by simp) _ he⟩, hi.at fun o q => k it (by simp) o q, r⟩
  item := by
    intro X hP hw hK hc i pins s σ H E I hf st hg
    subst hP hw hK
    obtain ⟨⟨old, he⟩, hit, n1, n2, n3⟩ := st
    obtain ⟨xs, x, hq, hx⟩ := hg
    obtain ⟨its, rv, hT, hz⟩ := I.tuple hq
    obtain ⟨u, hu, ru⟩ := rv.get hx
    have le := Heap.lt_size he
    have li : it < s.heap.objs.size := let ⟨_, q, _⟩ := hit; Heap.lt_size q
    have hil : i < its.toArray.size := by
      have := (List.getElem?_eq_some_iff.mp hu).1
      simpa using this
    refine wpAny_pyNext_enum_itemD (Draws.tuple (A := X.A.in1) (I.ok.hd hc) it a n2 its.toArray) he ⟨hit, hT⟩ hil n1 (by simp [n1, n3]) fun y h' tk hy ho hs' hT2 hsz hk => ?_
    obtain ⟨hit', hT'⟩ := hs'
    have hy : y = u := by
      have hy : its[i]? = some y := by simpa using hy
      rw [hu] at hy
      exact (Option.some.inj hy).symm
    subst hy
    refine ⟨_, rfl, wpAny_letOwnedTupleGo_enum (s := { s with heap := h', toks := tk + 1 }) ho fun h'' he' sb => ?_⟩
    have hT3 : h''.get? s.heap.objs.size = some { cls := .type "tuple", data := .seq #[.int i tk, y] } := (sb.2 _ (Nat.ne_of_gt le)).trans hT2
    have new : ObjOk X.prog X.w (upd H s.heap.objs.size (.tup [.int (i : Nat), x])) h'' s.heap.objs.size (.tup [.int (i : Nat), x]) := ⟨(show 2 ≤ sizeLine by decide), [.int i tk, y], .cons ⟨_, rfl⟩ (.cons ru .nil), ⟨_, hT3, rfl, _, rfl⟩⟩
    have I1 : Inv X pins σ (upd H s.heap.objs.size (.tup [.int (i : Nat), x])) { s with heap := h'', toks := tk + 1 } := I.turnedNew (ch := [e, it]) (fun b ob hb q => (sb.2 b (fun z => hb (by simp [z]))).trans (hk b ob (fun z => hb (by simp [z])) (fun z => hb (by simp [z])) q)) hf (Nat.le_refl _) new
    refine ⟨.ref s.heap.objs.size, _, I1, rfl, ⟨_, x, rfl, I.hok.fresh (Nat.le_refl _), rfl, fun ys hy => by rw [I.tuple_inj hy hq]; exact hx⟩, ⟨⟨y, ?_⟩, hit'.at fun o q => (sb.2 it (Ne.symm n1)).trans q, n1, n2, n3⟩, fun b hb => ?_⟩
    · rw [show ((i + 1 : Nat) : Int) = (i : Int) + 1 by omega]
      exact he'
    · have lb : b < s.heap.objs.size := by
        rcases (show b = e ∨ b = it by simpa using hb) with z | z
        · rw [z]
          exact le
        · rw [z]
          exact li
      rw [upd_ne (Nat.ne_of_lt lb)]
      exact (hf b hb).1
  done := by
    intro X hP hw hK hc i pins s σ H E I hf st hg
    subst hP hw hK
    obtain ⟨⟨old, he⟩, hit, n1, n2, n3⟩ := st
    obtain ⟨xs, hq, hx⟩ := hg
    obtain ⟨its, rv, hT, hz⟩ := I.tuple hq
    obtain ⟨f0, f1, f2, f3, f4, f5⟩ := hf it (by simp)
    have hl := rv.length
    refine enum_done (I.ok.hd hc) he hit hT (by simp; omega) fun h' eb => ⟨rfl, I.turned (t' := s.toks) (fun b o hb q => eb b o hb q) f0 f1 f3 f4 f5⟩
  self := fun A i s Q E st h => let ⟨⟨_, he⟩, _⟩ := st; wpAny_pyIter_enum he h
/-- enumerate(t) -/
def iEnumT (K : PySem.W.Frag) (ta : TA) : TI := fun σ H R => ta σ H fun vs H1 => ∃ a xs, vs = [.ref a] ∧ SqT K H1 a xs ∧ R (IteT K a) H1
theorem pi_enumT {X : Cx} {e : Expr} {ta : TA} {p pos tpos : Pos} {elts : List Expr} {kk : Nat} (hg : Gl X "enumerate") (hm : X.mg "enumerate" = none) (ha : PA X [e] ta) (hs : starEach [e] X.env = [(false, eval e X.env)] := by rfl) : PI X (.Tuple elts kk tpos) (.Call (.Name "enumerate" p) [e] [] pos) (iEnumT X.K ta) := by
  refine ⟨fun pins s σ H R I h => Call_ (ld_blt I hg hm boot_enumerate (PyProof.Rows.callWith_type1 (thn (ha.run pos pins s σ H _ I h) fun us s1 ⟨vs, H1, I1, r1, a, xs, ex, hq, q⟩ => ?_) hs rfl))⟩
  subst ex
  obtain ⟨u, rfl, ru⟩ := r1.one
  obtain rfl : u = Value.ref a := ru
  obtain ⟨its, rv, hT, hz⟩ := I1.tuple hq
  have la : a < s1.heap.objs.size := let ⟨_, e, _⟩ := hT; Heap.lt_size e
  refine enum_call (begins_tuple a its.toArray) hT fun h' he hit hsz hk => wpAny_pyIter_enum he ?_
  have I2 : Inv X pins σ H1 { s1 with heap := h' } := I1.kept (t' := s1.toks) hk
  have n1 : a ≠ s1.heap.objs.size := Nat.ne_of_lt la
  have n2 : s1.heap.objs.size + 1 ≠ a := fun z => by
    rw [← z] at la
    exact absurd la (Nat.not_lt.mpr (Nat.le_succ _))
  refine ⟨s1.heap.objs.size + 1, [s1.heap.objs.size + 1, s1.heap.objs.size], _, _, H1, rfl, I2, turn_enumT a (s1.heap.objs.size + 1) s1.heap.objs.size, ⟨⟨.none, he⟩, ⟨_, hit, rfl, rfl⟩, Nat.succ_ne_self _, n1, n2⟩, fun b hb => ?_, q⟩
  have hle : s1.heap.objs.size ≤ b := by
    rcases (show b = s1.heap.objs.size + 1 ∨ b = s1.heap.objs.size by simpa using hb) with z | z
    · rw [z]
      exact Nat.le_add_right _ _
    · rw [z]
      exact Nat.le_refl _
  exact I1.fpOk hle (I1.hok.fresh hle)
theorem walk_enumT {K : PySem.W.Frag} {a : Addr} {xs : List V} : Walk (IteT K a) xs.length (fun H => SqT K H a xs) (YPair (fun i => some (.int (i : Nat))) (fun i => xs[i]?)) := by
  refine ⟨fun i _ hi q => ⟨xs, xs[i], q, List.getElem?_eq_getElem hi⟩, fun _ q => ⟨xs, q, Nat.le_refl _⟩, fun i H v H' _ q y => ?_⟩
  obtain ⟨T, x, e1, e2, e3, e4⟩ := y
  exact ⟨T, .int (i : Nat), x, e1, e2, e3, rfl, e4 xs q⟩
/-! ### d[k], d a written dict with text keys -/
def tKGet (K : PySem.W.Frag) (d : Addr) (ty : TE) : TE := fun σ H Q => ty σ H fun y H1 => ∃ (z : Str) (u0 : Value) (v0 : V), y = .str z ∧ PySem.W.nsIn K d z = some (some u0) ∧ RelV v0 u0 ∧ Q v0 H1
theorem pe_kget {X : Cx} {x : Str} {i : Expr} {d : Addr} {es : Array DictEntry} {n : Nat} {p pos : Pos} {ty : TE} (hg : Gl X x) (hm : X.mg x = some (.ref d)) (D : KDict X.K X.w d es n) (hi : PE X i ty) (hs : NoSl i) (hd : (x == ("__debug__" : Str)) = false := by decide) : PE X (.Subscript (.Name x p) i pos) (tKGet X.K d ty) := by
  refine ⟨fun pins s σ H Q I h => ?_⟩
  refine subD_of PySem.F.slot_dict_getitem.lookup hs (ld_glob I hg hm (thn (hi.run pins s σ H _ I h) fun iv s2 ⟨y, H2, I2, ry, z, u0, v0, ey, e, r, q⟩ => ?_) hd)
  subst ey
  exact ⟨kd_type D I2, op_item_kd D pins s2 σ H2 (.ref d) (.str z) (.ref d) iv Q I2 rfl ry ⟨z, u0, v0, rfl, rfl, e, r, q⟩⟩
end SwX
set_option Elab.async false
set_option linter.all false
set_option maxRecDepth 100000
set_option maxHeartbeats 4000000
namespace SwX
open PySem PySem.Spec PyProof.Rows L2 StX
section
variable {K : PySem.W.Frag} {σ : L2.St} {H : Hp} {Q : VK} {D : Ends} {te : TE} {g : TG} {tb' : TS}
theorem w_ienumT {ta : TA} {R : It → Hp → Prop} (k : ta σ H fun vs H1 => ∃ a xs, vs = [.ref a] ∧ SqT K H1 a xs ∧ R (IteT K a) H1) : iEnumT K ta σ H R := k
theorem w_kget {d : Addr} (k : te σ H fun y H1 => ∃ (z : Str) (u0 : Value) (v0 : V), y = .str z ∧ PySem.W.nsIn K d z = some (some u0) ∧ RelV v0 u0 ∧ Q v0 H1) : tKGet K d te σ H Q := k
theorem w_allT {P : Addr} {pb : Int → Bool} (k : te σ H fun v H1 => ∃ (a : Addr) (l : List Int), v = .ref a ∧ SqT K H1 a (l.map V.int) ∧ GxR.TabG H1 P ∧ ∀ H2, GxR.Tabbed P H1 H2 → Q (.bl (l.all pb)) H2) : tAllT K P pb te σ H Q := k
theorem w_forenumT {a : Addr} {xs : List V} (Pv : Nat → L2.St → Hp → Prop) (hx : SqT K H a xs) (h0 : Pv 0 σ H) (hG : ∀ i σ H, i ≤ xs.length → Pv i σ H → SqT K H a xs)
    (hs : ∀ i x σ H T H', i < xs.length → Pv i σ H → xs[i]? = some x → H T = none → Same H H' → H' T = some (.tup [.int (i : Nat), x]) → g (.ref T) σ H' fun σ2 H2 => tb' { D with nx := Pv (i + 1), ct := Pv (i + 1), bk := D.nx } σ2 H2) (hd : ∀ σ H, Pv xs.length σ H → D.nx σ H) :
    ∃ (a' : Addr) (ys : List V), [V.ref a] = [.ref a'] ∧ SqT K H a' ys ∧ forK (IteT K a') g tb' D σ H :=
  ⟨a, xs, rfl, hx, for_it walk_enumT Pv h0 hG (fun i x σ H H' hi p y => by
    obtain ⟨T, x1, x2, rfl, hT, rfl, e1, e2⟩ := y
    cases e1
    exact hs i x2 σ H T _ hi p e2 hT (same_upd hT) upd_same) hd⟩
end
local macro_rules | `(tactic| walk_at "w1") => `(tactic| with_reducible first | refine w_ienumT ?_ | refine w_kget ?_ | refine w_allT ?_)
end SwX
namespace SwD
open PySem PySem.Spec PyProof.Rows L2 SwX StX Sw
local macro_rules | `(tactic| walk_at "lk") => `(tactic| first | exact lk_at | exact lk_no | ((refine' lk_by (by decide +kernel) ?wq); (case wq => walk_at "lk")))
local macro_rules | `(tactic| walk_at "pf") => `(tactic| first | exact pf_at | exact pf_nil | ((refine' pf_by (by decide +kernel) ?wq); (case wq => walk_at "pf")))
local macro_rules | `(tactic| walk_at "w1") => `(tactic| with_reducible first
  | refine w_seq ?_ | refine w_asg ?_ | refine w_name ?_ | refine w_ret ?_ | refine w_retN ?_ | refine w_drop ?_ | refine w_next ?_ | refine w_if ?_ | refine w_ifE ?_ | refine w_test ?_ | refine w_B ?_ | refine w_bl ?_
  | refine w_not ?_ | refine w_and ?_ | refine w_or ?_ | refine w_andV ?_ | refine w_orV ?_ | refine w_notV ?_ | refine w_isN ?_ | refine w_notN ?_ | refine w_yes ?_
  | refine w_c ?_ | refine w_op ?_ | refine w_un ?_ | refine w_i0 ?_ | refine w_neg ?_ | refine w_nil ?_ | refine w_cons ?_ | refine w_cb ?_ | refine w_call ?_ | refine w_tup ?_ | refine w_lst ?_
  | refine w_fld ?_ | refine w_sfld ?_ | refine w_match ?_ | refine w_case ?_ | refine w_mcons ?_ | refine w_mnil ?_ | refine w_mcap ?_ | refine w_many ?_ | refine w_myes ?_
  | refine w_sub ?_ | refine w_bm ?_ | refine w_sl ?_ | refine w_nopart ?_ | refine w_part ?_ | refine w_int ?_ | refine w_ift ?_ | refine w_iff ?_ | refine w_ifn ?_ | refine w_dget2 ?_ | refine w_star ?_ | refine w_dput ?_ | refine w_dnewK ?_ | refine w_meth ?_ | refine w_oneOf ?_ | refine w_make ?_ | refine w_lc ?_ | refine w_for ?_ | refine w_ilist ?_ | refine w_irng1 ?_ | refine w_irng2 ?_ | refine w_irng3 ?_)
local macro_rules | `(tactic| walk_at "w2") => `(tactic| first
  | ((with_reducible refine' w_var ?wh ?_); (case wh => rfl))
  | ((with_reducible refine' w_eq ?wh ?_); (case wh => rfl))
  | ((with_reducible refine' w_ne ?wh ?_); (case wh => rfl))
  | ((with_reducible refine' w_mno ?wh ?_); (case wh => decide +kernel))
  | ((with_reducible refine' w_mhit ?wh ?wl ?_); (case wh => assumption); (case wl => rfl))
  | ((with_reducible refine' w_mmiss ?wh ?wl ?_); (case wh => assumption); (case wl => simp))
  | ((with_reducible refine' w_fldA ?wh ?wc ?wn ?wl ?_); (case wh => first | assumption | exact upd_same); (case wc => assumption); (case wn => assumption); (case wl => walk_at "lk"))
  | ((with_reducible refine' w_ixl ?wh ?we ?_); (case wh => exact SqL.of (by first | assumption | exact upd_same)); (case we => rfl))
  | ((with_reducible refine' w_ixt ?wh ?we ?_); (case wh => assumption); (case we => rfl))
  | ((with_reducible refine' w_ifT ?wh ?_); (case wh => (with_reducible exact Eq.refl _)))
  | ((with_reducible refine' w_ifF ?wh ?_); (case wh => decide +kernel))
  | ((with_reducible refine' w_isiY ?wh ?wk ?_); (case wh => first | exact .int _ | exact .str _ | exact .lst (by assumption) | exact .tup (by assumption)); (case wk => decide +kernel))
  | ((with_reducible refine' w_isiN ?wh ?wk ?_); (case wh => first | exact .int _ | exact .str _ | exact .lst (by assumption) | exact .tup (by assumption)); (case wk => decide +kernel))
  | ((with_reducible refine' w_ifF ?wh ?_); (case wh => (intro z; cases z; done)))
  | ((with_reducible refine' w_setl ?wh ?we ?wl ?_); (case wh => first | assumption | exact upd_same); (case we => rfl); (case wl => rfl))
  | ((with_reducible refine' w_methA ?wh ?wl ?_); (case wh => first | assumption | exact upd_same); (case wl => walk_at "lk"))
  | ((with_reducible refine' w_sfldB ?wc ?wn ?wz ?wl ?_); (case wc => assumption); (case wn => assumption); (case wz => simp); (case wl => walk_at "pf"))
  | ((with_reducible refine' w_sfldA ?wh ?wc ?wn ?wz ?wl ?_); (case wh => assumption); (case wc => assumption); (case wn => assumption); (case wz => simp); (case wl => walk_at "pf")))
local macro_rules | `(tactic| walk_at "w") => `(tactic| repeat (first | walk_at "w1" | walk_at "w2" | (dsimp only [List.set, setAll, List.append, List.cons_append, List.nil_append])))
local macro_rules | `(tactic| walk_at "w1") => `(tactic| with_reducible first | refine w_rev ?_ | refine w_enum ?_ | refine w_itup' ?_ | refine w_bm0 ?_ | refine w_gcons ?_ | refine w_gnil ?_ | refine w_tm1' ?_ | refine w_tru ?_)
local macro_rules | `(tactic| walk_at "w1") => `(tactic| with_reducible first | refine w_dget ?_ | refine w_din ?_ | refine w_dpop ?_ | refine w_ddel ?_ | refine w_iitems ?_ | refine w_dnotin ?_ | refine w_chain ?_)
local macro_rules | `(tactic| walk_at "w2") => `(tactic| first
  | ((with_reducible refine' w_gfldB ?wv ?wc ?wn ?wz ?wl ?_); (case wv => rfl); (case wc => assumption); (case wn => assumption); (case wz => simp); (case wl => walk_at "pf"))
  | ((with_reducible refine' w_gfldA ?wv ?wh ?wc ?wn ?wz ?wl ?_); (case wv => rfl); (case wh => assumption); (case wc => assumption); (case wn => assumption); (case wz => simp); (case wl => walk_at "pf")))
local macro_rules | `(tactic| walk_at "w1") => `(tactic| with_reducible first | refine w_ienumT ?_ | refine w_kget ?_ | refine w_allT ?_)
/-! ### the same but for the table of a def's code -/
open GxR in
def Tb (P : Addr) (H H' : Hp) : Prop := TabG H P ∧ TabG H' P ∧ Out (Is P) H H'
section
variable {K : PySem.W.Frag} {P : Addr} {H H' H2 : Hp}
theorem tab_ne {a : Addr} {o : HO} (t : GxR.TabG H P) (h : H a = some o) (n : ∀ ps, o ≠ .tbl ps) : ¬ Is P a := fun z => by
  obtain ⟨ps, e, _⟩ := t
  rw [show a = P from z, e] at h
  exact n ps (Option.some.inj h).symm
theorem Tb.refl (t : GxR.TabG H P) : Tb P H H := ⟨t, t, .refl⟩
theorem Tb.trans (e : Tb P H H') (e' : Tb P H' H2) : Tb P H H2 := ⟨e.1, e'.2.1, e.2.2.trans e'.2.2⟩
theorem Tb.at (e : Tb P H H') {a : Addr} {o : HO} (h : H a = some o) (n : ∀ ps, o ≠ .tbl ps) : H' a = some o := e.2.2 a o h (tab_ne e.1 h n)
theorem Tb.tup (e : Tb P H H') {a : Addr} {xs : List V} (h : H a = some (.tup xs)) : H' a = some (.tup xs) := e.at h fun _ z => nomatch z
theorem Tb.lst (e : Tb P H H') {a : Addr} {xs : List V} (h : H a = some (.lst xs)) : H' a = some (.lst xs) := e.at h fun _ z => nomatch z
theorem Tb.tk (e : Tb P H H') : TKeep H H' := fun _ _ h => e.tup h
theorem tab_same (t : GxR.TabG H P) (e : Same H H') : GxR.TabG H' P := let ⟨ps, h, r⟩ := t; ⟨ps, e _ _ h, r⟩
theorem tb_same (t : GxR.TabG H P) (e : Same H H') : Tb P H H' := ⟨t, tab_same t e, same_out e⟩
theorem tb_tabbed (t : GxR.TabG H P) (e : GxR.Tabbed P H H') : Tb P H H' := ⟨t, e.1, fun b o h n => by rw [e.2 b n]; exact h⟩
theorem Tb.free (e : Tb P H H') {p : Addr} (h : H' p = none) : H p = none := out_free e.2.2 h fun z => by
  obtain ⟨ps, h', _⟩ := e.2.1
  rw [show p = P from z, h'] at h
  cases h
theorem tab_rd {a : Addr} {o : HO} (t : GxR.TabG H P) (h : Rd H a o) (n : ∀ ps, o ≠ .tbl ps) : ¬ Is P a := fun z => by
  obtain ⟨ps, e, _⟩ := t
  rcases h with h | ⟨b, h⟩
  · rw [show a = P from z, e] at h
    exact n ps (Option.some.inj h).symm
  · rw [show a = P from z, e] at h
    cases h
theorem Tb.sqt (e : Tb P H H') {a : Addr} {xs : List V} (h : SqT K H a xs) : SqT K H' a xs := by
  rcases h with h | h
  · exact .inl (rd_out e.2.2 (tab_rd e.1 h fun _ z => nomatch z) h)
  · exact .inr h
theorem Tb.sql (e : Tb P H H') {a : Addr} {xs : List V} (h : SqL K H a xs) : SqL K H' a xs := by
  rcases h with h | h
  · exact .inl (rd_out e.2.2 (tab_rd e.1 h fun _ z => nomatch z) h)
  · exact .inr h
/-! ### parts of a setting -/
def numB (c : Int) : Bool := decide (0 ≤ c) && decide (c ≤ 99)
def spIsNum : Sp := fun vs H Q _ => ∃ n : Int, vs = [.int n] ∧ Q (.bl (numB n)) H
def t_is_number : TS := tRet (tChain (rLeI) (rLeI) (tC (.int 0)) (tVar 0) (tC (.int 99)))
theorem chain_fin {tc : TE} {σ : L2.St} {a b c : Int} {Q : VK} (hc : ∀ R : VK, R (.int c) H → tc σ H R) (k : Q (.bl (decide (a ≤ b) && decide (b ≤ c))) H) : if decide (a ≤ b) = true then tc σ H fun w' H4 => rLeI (.int b) w' H4 Q else Q (.bl false) H := by
  by_cases h : a ≤ b
  · rw [decide_eq_true h] at k ⊢
    rw [if_pos rfl]
    refine hc _ ?_
    refine w_i0 ?_
    rw [Bool.true_and] at k
    exact k
  · rw [decide_eq_false h] at k ⊢
    rw [if_neg (by decide)]
    exact k
theorem pu_is_number {vs : List V} {Q : VK} {E : XK} (h : spIsNum vs H Q E) : t_is_number (B Q) (start ["number"] vs) H := by
  obtain ⟨n, rfl, k⟩ := h
  unfold t_is_number
  walk_at "w"
  exact chain_fin (fun R r => r) k
def memB (ms : List Int) : Bool := (decide (1 ≤ (ms.length : Int)) && decide ((ms.length : Int) ≤ 32)) && ms.all numB
def spIsMem (K : PySem.W.Frag) (P : Addr) : Sp := fun vs H Q _ => ∃ (a : Addr) (ms : List Int), vs = [.ref a] ∧ SqT K H a (ms.map V.int) ∧ GxR.TabG H P ∧ ∀ H', Tb P H H' → Q (.bl (memB ms)) H'
def t_is_memory (K : PySem.W.Frag) (P_m : Addr) (pbM : Int → Bool) : TS := tRet (tAndV (tChain (rLeI) (rLeI) (tC (.int 1)) (tCB (rLenQ K) (tCons (tVar 0) (tNil))) (tC (.int 32))) (tAllT K P_m pbM (tVar 0)))
theorem pu_is_memory {vs : List V} {Q : VK} {E : XK} (h : spIsMem K P vs H Q E) : t_is_memory K P numB (B Q) (start ["numbers", "number"] vs) H := by
  obtain ⟨a, ms, rfl, ha, t, k⟩ := h
  unfold t_is_memory
  have hl : (ms.map V.int).length = ms.length := List.length_map ..
  unfold memB at k
  walk_at "w"
  refine w_len (.inr ha) ?_
  walk_at "w"
  refine chain_fin (fun R r => r) ⟨_, rfl, ?_⟩
  · rw [hl]
    cases hb : decide (1 ≤ (ms.length : Int)) && decide ((ms.length : Int) ≤ 32) with
    | false =>
      rw [if_neg (by decide)]
      rw [hb] at k
      exact k H (.refl t)
    | true =>
      rw [hb] at k
      rw [if_pos rfl]
      walk_at "w"
      exact ⟨a, ms, rfl, ha, t, fun H2 e => k H2 (tb_tabbed t e)⟩
/-- the bounds of a setting's numbers -/
structure BoundsF (K : PySem.W.Frag) (cB : Addr) : Prop where
  get : ∀ z lo hi, (z, lo, hi) ∈ [(("room" : Str), (1 : Int), (8 : Int)), ("late", 0, 4), ("most", 1, 4)] → ∃ p, PySem.W.nsIn K cB z = some (some (.ref p)) ∧ ∀ H, SqT K H p [.int lo, .int hi]
def boundB (lo hi x : Int) : Bool := decide (lo ≤ x) && decide (x ≤ hi)
def spIsPart (K : PySem.W.Frag) (P : Addr) : Sp := fun vs H Q _ => GxR.TabG H P ∧ ((∃ (a : Addr) (ms : List Int), vs = [.str "memory", .ref a] ∧ SqT K H a (ms.map V.int) ∧ ∀ H', Tb P H H' → Q (.bl (memB ms)) H') ∨
  ∃ (z : Str) (lo hi x : Int), vs = [.str z, .int x] ∧ (z, lo, hi) ∈ [(("room" : Str), (1 : Int), (8 : Int)), ("late", 0, 4), ("most", 1, 4)] ∧ Q (.bl (boundB lo hi x)) H)
def t_is_part (K : PySem.W.Frag) (c_BOUNDS : Addr) (sp_is_memory : Sp) : TS := tSeq (tIfS (tTest (tOp (rEq) (tVar 0) (tC (.str "memory")))) (tRet (tCall sp_is_memory [] E0 (tCons (tVar 1) (tNil)))) (tNext))
  (tSeq (tAsg (tKGet K c_BOUNDS (tVar 0)) (gTup K 2 (gCons (gName 2) (gCons (gName 3) (gNil)))))
  (tRet (tChain (rLeI) (rLeI) (tVar 2) (tVar 1) (tVar 3))))
theorem pu_is_part {cB : Addr} (T : BoundsF K cB) {vs : List V} {Q : VK} {E : XK} (h : spIsPart K P vs H Q E) : t_is_part K cB (spIsMem K P) (B Q) (start ["word", "part", "low", "high"] vs) H := by
  obtain ⟨t, h⟩ := h
  unfold t_is_part
  rcases h with ⟨a, ms, rfl, ha, k⟩ | ⟨z, lo, hi, x, rfl, hz, k⟩
  · walk_at "w"
    exact ⟨a, ms, rfl, ha, t, k⟩
  · obtain ⟨p, hp, hs⟩ := T.get z lo hi hz
    have ne : decide (V.str z = V.str "memory") = false := by
      simp only [List.mem_cons, Prod.mk.injEq, List.not_mem_nil, or_false] at hz
      rcases hz with ⟨rfl, _⟩ | ⟨rfl, _⟩ | ⟨rfl, _⟩ <;> decide +kernel
    walk_at "w"
    rw [ne]
    walk_at "w"
    refine ⟨z, .ref p, .ref p, rfl, hp, rfl, w_gtup (hs H) rfl ?_⟩
    walk_at "w"
    refine chain_fin (fun R r => ?_) k
    walk_at "w"
    exact r
/-! ### a good setting -/
def spCheckSet (P : Addr) : Sp := fun vs H Q _ => ∃ a c, vs = [.ref a] ∧ SetAt H a c ∧ Cfg.fit c ∧ GxR.TabG H P ∧ ∀ H', Tb P H H' → Q .non H'
def t_check_setting (K : PySem.W.Frag) (c_PARTS : Addr) (sp_is_part : Sp) : TS := tSeq (tFor (iEnumT K (tCons (tC (.ref c_PARTS)) (tNil))) (gTup K 2 (gCons (gName 1) (gCons (gName 2) (gNil)))) (tIfS (tOr (tTest (tOp (rGeI) (tVar 1) (tCB (rLenQ K) (tCons (tVar 0) (tNil))))) (tNot (tB (tCall sp_is_part [] E0 (tCons (tVar 2) (tCons (tOp (rIxT K) (tVar 0) (tVar 1)) (tNil))))))) (tNever) (tNext)))
  (tIfS (tTest (tOp (rGtI) (tCB (rLenQ K) (tCons (tVar 0) (tNil))) (tCB (rLenQ K) (tCons (tC (.ref c_PARTS)) (tNil))))) (tNever) (tNext))
theorem mem_fit {c : Cfg} (f : Cfg.fit c) : memB c.mem = true := by
  have h1 := f.ok.some_
  have h2 := f.mem32
  unfold memB
  rw [decide_eq_true (by omega), decide_eq_true (by omega), Bool.true_and, Bool.true_and, List.all_eq_true]
  intro x hx
  have := f.nums x hx
  unfold numB
  rw [decide_eq_true this.1, decide_eq_true this.2]
  rfl
theorem bound_in {lo hi x : Int} (h : lo ≤ x) (h' : x ≤ hi) : boundB lo hi x = true := by
  unfold boundB
  rw [decide_eq_true h, decide_eq_true h']
  rfl
theorem pu_check_setting {cp : Addr} (hP : ∀ H, SqT K H cp [.str "memory", .str "room", .str "late", .str "most"]) {vs : List V} {Q : VK} {E : XK} (h : spCheckSet P vs H Q E) : t_check_setting K cp (spIsPart K P) (B Q) (start ["setting", "at", "word"] vs) H := by
  obtain ⟨a, c, rfl, hs, f, t, k⟩ := h
  unfold t_check_setting
  obtain ⟨mm, ha, hm⟩ := hs
  walk_at "w"
  refine w_forenumT (fun i σ H' => ∃ v1 v2, σ = [some (.ref a), v1, v2] ∧ Tb P H H') (hP _) ⟨_, _, rfl, .refl t⟩ (fun _ _ H' _ _ => hP H') (fun i x σ H1 T H2 hi pv hx hT e2 h2 => ?_) (fun σ H1 pv => ?_)
  · obtain ⟨v1, v2, rfl, e1⟩ := pv
    have tb := e1.trans (tb_same e1.2.1 e2)
    have ha2 := tb.tup ha
    have hm2 := tb.tup hm
    refine w_gtup (SqT.of h2) rfl ?_
    walk_at "w"
    refine w_len (.inr (SqT.of ha2)) ?_
    have hi4 : i < 4 := hi
    have lt : ¬ ((i : Int) ≥ (4 : Int)) := by omega
    walk_at "w"
    rw [if_neg (by rw [decide_eq_false (show ¬ ((i : Nat) : Int) ≥ (([V.ref mm, V.int c.room, V.int c.late, V.int c.most].length : Nat) : Int) from lt)]; decide)]
    have gone : ∀ v : V, ∀ H3, Tb P H2 H3 → (∀ v1 v2 : Option V, ∃ a1 a2, [some (V.ref a), v1, v2] = [some (V.ref a), a1, a2] ∧ Tb P H H3) := fun v H3 e v1 v2 => ⟨v1, v2, rfl, tb.trans e⟩
    have gone' : ∀ (v1 v2 : Option V) (H3 : Hp), Tb P H2 H3 → ∃ a1 a2, [some (V.ref a), v1, v2] = [some (V.ref a), a1, a2] ∧ Tb P H H3 := fun v1 v2 H3 e => ⟨v1, v2, rfl, tb.trans e⟩
    obtain rfl | rfl | rfl | rfl : i = 0 ∨ i = 1 ∨ i = 2 ∨ i = 3 := by omega
    · cases hx
      walk_at "w"
      refine w_ixt (SqT.of ha2) rfl ?_
      walk_at "w"
      refine ⟨tb.2.1, .inl ⟨mm, c.mem, rfl, SqT.of hm2, fun H3 e3 => ⟨_, rfl, ?_⟩⟩⟩
      rw [mem_fit f, if_neg (by decide)]
      exact gone' _ _ H3 e3
    · cases hx
      walk_at "w"
      refine w_ixt (SqT.of ha2) rfl ?_
      walk_at "w"
      refine ⟨tb.2.1, .inr ⟨"room", 1, 8, c.room, rfl, by simp, _, rfl, ?_⟩⟩
      rw [bound_in f.ok.room1 f.room8, if_neg (by decide)]
      exact gone' _ _ H2 (.refl tb.2.1)
    · cases hx
      walk_at "w"
      refine w_ixt (SqT.of ha2) rfl ?_
      walk_at "w"
      refine ⟨tb.2.1, .inr ⟨"late", 0, 4, c.late, rfl, by simp, _, rfl, ?_⟩⟩
      rw [bound_in f.ok.late0 f.late4, if_neg (by decide)]
      exact gone' _ _ H2 (.refl tb.2.1)
    · cases hx
      walk_at "w"
      refine w_ixt (SqT.of ha2) rfl ?_
      walk_at "w"
      refine ⟨tb.2.1, .inr ⟨"most", 1, 4, c.most, rfl, by simp, _, rfl, ?_⟩⟩
      rw [bound_in f.ok.most1 f.most4, if_neg (by decide)]
      exact gone' _ _ H2 (.refl tb.2.1)
  · obtain ⟨v1, v2, rfl, e1⟩ := pv
    have ha2 := e1.tup ha
    walk_at "w"
    refine w_len (.inr (SqT.of ha2)) ?_
    walk_at "w"
    refine w_len (.inr (hP _)) ?_
    refine w_i0 ?_
    refine ⟨_, rfl, ?_⟩
    rw [if_neg (by simp)]
    exact k _ e1
/-! ### a good row -/
def spIsDeed : Sp := fun vs H Q _ => ∃ (v : V) (d : Deed) (n : Int), vs = [v, .int n] ∧ DeedAt H d v ∧ Q (.bl (decide (0 ≤ d.1) && decide (d.1 < n) && (match d.2 with | none => true | some x => numB x))) H
def t_is_deed (K : PySem.W.Frag) (sp_is_number : Sp) : TS := tMatch (tVar 0) (csCons (mSeq K 2 (msCons (mVal (.str "read")) (msCons (mCap) (msNil)))) [2] (tRet (tChain (rLeI) (rLtI) (tC (.int 0)) (tVar 2) (tVar 1)))
    (csCons (mSeq K 3 (msCons (mVal (.str "write")) (msCons (mCap) (msCons (mCap) (msNil))))) [2, 3] (tRet (tAndV (tChain (rLeI) (rLtI) (tC (.int 0)) (tVar 2) (tVar 1)) (tCall sp_is_number [] E0 (tCons (tVar 3) (tNil)))))
    (csCons (mAny) [] (tRet (tC (.bl false)))
    (csNil))))
theorem chain_finL {tc : TE} {σ : L2.St} {a b c : Int} {Q : VK} (hc : ∀ R : VK, R (.int c) H → tc σ H R) (k : Q (.bl (decide (a ≤ b) && decide (b < c))) H) : if decide (a ≤ b) = true then tc σ H fun w' H4 => rLtI (.int b) w' H4 Q else Q (.bl false) H := by
  by_cases h : a ≤ b
  · rw [decide_eq_true h] at k ⊢
    rw [if_pos rfl]
    refine hc _ ?_
    refine w_i0 ?_
    rw [Bool.true_and] at k
    exact k
  · rw [decide_eq_false h] at k ⊢
    rw [if_neg (by decide)]
    exact k
theorem pu_is_deed {vs : List V} {Q : VK} {E : XK} (h : spIsDeed vs H Q E) : t_is_deed K spIsNum (B Q) (start ["deed", "places", "place", "number"] vs) H := by
  obtain ⟨v, d, n, rfl, hd, k⟩ := h
  unfold t_is_deed
  unfold DeedAt at hd
  cases e : d.2 with
  | none =>
    rw [e] at hd k
    obtain ⟨q, rfl, hq⟩ := hd
    have hs : SqT K H q [.str "read", .int d.1] := .of hq
    walk_at "w"
    rw [Bool.and_true] at k
    refine chain_finL (c := n) (fun R r => ?_) k
    walk_at "w"
    exact r
  | some x =>
    rw [e] at hd k
    obtain ⟨q, rfl, hq⟩ := hd
    have hs : SqT K H q [.str "write", .int d.1, .int x] := .of hq
    walk_at "w"
    refine chain_finL (c := n) (fun R r => ?_) ⟨_, rfl, ?_⟩
    · walk_at "w"
      exact r
    · cases hb : decide (0 ≤ d.1) && decide (d.1 < n) with
      | false =>
        rw [if_neg (by decide)]
        rw [hb] at k
        exact k
      | true =>
        rw [if_pos rfl]
        rw [hb] at k
        walk_at "w"
        exact ⟨x, rfl, k⟩
/-- what is written is a number -/
def rowNum (row : List Deed) : Prop := ∀ d, d ∈ row → ∀ x, d.2 = some x → 0 ≤ x ∧ x ≤ 99
def spCheckRow (K : PySem.W.Frag) : Sp := fun vs H Q _ => ∃ (a l : Addr) (c : Cfg) (row : List Deed) (xs : List V), vs = [.ref a, .ref l] ∧ SetAt H a c ∧ SqL K H l xs ∧ Deeds H row xs ∧ rowOk c row ∧ rowNum row ∧ row.length ≤ 100 ∧ ∀ H', Same H H' → Q .non H'
def t_check_row (K : PySem.W.Frag) (sp_is_deed : Sp) : TS := tSeq (tAsg (tCB (rLenQ K) (tCons (tOp (rIxT K) (tVar 0) (tC (.int 0))) (tNil))) (gName 2))
  (tFor (iEnum K (tCons (tVar 1) (tNil))) (gTup K 2 (gCons (gName 3) (gCons (gName 4) (gNil)))) (tIfS (tOr (tTest (tOp (rEq) (tVar 3) (tC (.int 100)))) (tNot (tB (tCall sp_is_deed [] E0 (tCons (tVar 4) (tCons (tVar 2) (tNil))))))) (tNever) (tNext)))
theorem deed_in {c : Cfg} {d : Deed} (h : 0 ≤ d.1 ∧ d.1 < (c.mem.length : Int)) (h' : ∀ x, d.2 = some x → 0 ≤ x ∧ x ≤ 99) : (decide (0 ≤ d.1) && decide (d.1 < (c.mem.length : Int)) && (match d.2 with | none => true | some x => numB x)) = true := by
  rw [decide_eq_true h.1, decide_eq_true h.2]
  cases e : d.2 with
  | none => rfl
  | some x =>
    have := h' x e
    show (true && true && numB x) = true
    unfold numB
    rw [decide_eq_true this.1, decide_eq_true this.2]
    rfl
theorem pu_check_row {vs : List V} {Q : VK} {E : XK} (h : spCheckRow K vs H Q E) : t_check_row K spIsDeed (B Q) (start ["setting", "row", "places", "number", "deed"] vs) H := by
  obtain ⟨a, l, c, row, xs, rfl, ⟨mm, ha, hm⟩, hx, hd, hr, hn, hl, k⟩ := h
  unfold t_check_row
  walk_at "w"
  refine w_ixt (SqT.of ha) rfl ?_
  walk_at "w"
  refine w_len (.inr (SqT.of hm)) ?_
  walk_at "w"
  have hlen := hd.len
  refine w_forenum (fun i σ H' => ∃ v1 v2, σ = [some (.ref a), some (.ref l), some (.int ((c.mem.map V.int).length : Int)), v1, v2] ∧ Same H H') hx ⟨_, _, rfl, Same.refl _⟩ (fun i σ H' _ pv => ?_) (fun i x σ H1 T H2 hi pv hxi hT e2 h2 => ?_) (fun σ H1 pv => ?_)
  · obtain ⟨_, _, _, e⟩ := pv
    exact e.seq hx
  · obtain ⟨v1, v2, rfl, e1⟩ := pv
    obtain ⟨d, hdi⟩ : ∃ d, row[i]? = some d := ⟨_, List.getElem?_eq_getElem (by omega)⟩
    obtain ⟨x', hx', dd⟩ := hd.at hdi
    rw [hxi] at hx'
    cases hx'
    have dd2 := deed_keep (tk_same (e1.trans e2)) dd
    have hrd := hr d (List.mem_of_getElem? hdi)
    refine w_gtup (SqT.of h2) rfl ?_
    walk_at "w"
    rw [if_neg (by rw [decide_eq_false (fun z => by injection z with z; omega)]; decide)]
    walk_at "w"
    refine ⟨x, d, _, rfl, dd2, _, rfl, ?_⟩
    rw [List.length_map, deed_in ⟨hrd.1, hrd.2⟩ (hn d (List.mem_of_getElem? hdi)), if_neg (by decide)]
    exact ⟨_, _, rfl, e1.trans e2⟩
  · obtain ⟨v1, v2, rfl, e1⟩ := pv
    exact k _ e1
end
end SwD
set_option Elab.async false
set_option linter.all false
set_option maxRecDepth 100000
set_option maxHeartbeats 4000000
namespace SwD
open PySem PySem.Spec PyProof.Rows L2 SwX StX Sw
local macro_rules | `(tactic| walk_at "lk") => `(tactic| first | exact lk_at | exact lk_no | ((refine' lk_by (by decide +kernel) ?wq); (case wq => walk_at "lk")))
local macro_rules | `(tactic| walk_at "pf") => `(tactic| first | exact pf_at | exact pf_nil | ((refine' pf_by (by decide +kernel) ?wq); (case wq => walk_at "pf")))
local macro_rules | `(tactic| walk_at "w1") => `(tactic| with_reducible first
  | refine w_seq ?_ | refine w_asg ?_ | refine w_name ?_ | refine w_ret ?_ | refine w_retN ?_ | refine w_drop ?_ | refine w_next ?_ | refine w_if ?_ | refine w_ifE ?_ | refine w_test ?_ | refine w_B ?_ | refine w_bl ?_
  | refine w_not ?_ | refine w_and ?_ | refine w_or ?_ | refine w_andV ?_ | refine w_orV ?_ | refine w_notV ?_ | refine w_isN ?_ | refine w_notN ?_ | refine w_yes ?_
  | refine w_c ?_ | refine w_op ?_ | refine w_un ?_ | refine w_i0 ?_ | refine w_neg ?_ | refine w_nil ?_ | refine w_cons ?_ | refine w_cb ?_ | refine w_call ?_ | refine w_tup ?_ | refine w_lst ?_
  | refine w_fld ?_ | refine w_sfld ?_ | refine w_match ?_ | refine w_case ?_ | refine w_mcons ?_ | refine w_mnil ?_ | refine w_mcap ?_ | refine w_many ?_ | refine w_myes ?_
  | refine w_sub ?_ | refine w_bm ?_ | refine w_sl ?_ | refine w_nopart ?_ | refine w_part ?_ | refine w_int ?_ | refine w_ift ?_ | refine w_iff ?_ | refine w_ifn ?_ | refine w_dget2 ?_ | refine w_star ?_ | refine w_dput ?_ | refine w_dnewK ?_ | refine w_meth ?_ | refine w_oneOf ?_ | refine w_make ?_ | refine w_lc ?_ | refine w_for ?_ | refine w_ilist ?_ | refine w_irng1 ?_ | refine w_irng2 ?_ | refine w_irng3 ?_)
local macro_rules | `(tactic| walk_at "w2") => `(tactic| first
  | ((with_reducible refine' w_var ?wh ?_); (case wh => rfl))
  | ((with_reducible refine' w_eq ?wh ?_); (case wh => rfl))
  | ((with_reducible refine' w_ne ?wh ?_); (case wh => rfl))
  | ((with_reducible refine' w_mno ?wh ?_); (case wh => decide +kernel))
  | ((with_reducible refine' w_mhit ?wh ?wl ?_); (case wh => assumption); (case wl => rfl))
  | ((with_reducible refine' w_mmiss ?wh ?wl ?_); (case wh => assumption); (case wl => simp))
  | ((with_reducible refine' w_fldA ?wh ?wc ?wn ?wl ?_); (case wh => first | assumption | exact upd_same); (case wc => assumption); (case wn => assumption); (case wl => walk_at "lk"))
  | ((with_reducible refine' w_ixl ?wh ?we ?_); (case wh => exact SqL.of (by first | assumption | exact upd_same)); (case we => rfl))
  | ((with_reducible refine' w_ixt ?wh ?we ?_); (case wh => assumption); (case we => rfl))
  | ((with_reducible refine' w_ifT ?wh ?_); (case wh => (with_reducible exact Eq.refl _)))
  | ((with_reducible refine' w_ifF ?wh ?_); (case wh => decide +kernel))
  | ((with_reducible refine' w_isiY ?wh ?wk ?_); (case wh => first | exact .int _ | exact .str _ | exact .lst (by assumption) | exact .tup (by assumption)); (case wk => decide +kernel))
  | ((with_reducible refine' w_isiN ?wh ?wk ?_); (case wh => first | exact .int _ | exact .str _ | exact .lst (by assumption) | exact .tup (by assumption)); (case wk => decide +kernel))
  | ((with_reducible refine' w_ifF ?wh ?_); (case wh => (intro z; cases z; done)))
  | ((with_reducible refine' w_setl ?wh ?we ?wl ?_); (case wh => first | assumption | exact upd_same); (case we => rfl); (case wl => rfl))
  | ((with_reducible refine' w_methA ?wh ?wl ?_); (case wh => first | assumption | exact upd_same); (case wl => walk_at "lk"))
  | ((with_reducible refine' w_sfldB ?wc ?wn ?wz ?wl ?_); (case wc => assumption); (case wn => assumption); (case wz => simp); (case wl => walk_at "pf"))
  | ((with_reducible refine' w_sfldA ?wh ?wc ?wn ?wz ?wl ?_); (case wh => assumption); (case wc => assumption); (case wn => assumption); (case wz => simp); (case wl => walk_at "pf")))
local macro_rules | `(tactic| walk_at "w") => `(tactic| repeat (first | walk_at "w1" | walk_at "w2" | (dsimp only [List.set, setAll, List.append, List.cons_append, List.nil_append])))
local macro_rules | `(tactic| walk_at "w1") => `(tactic| with_reducible first | refine w_rev ?_ | refine w_enum ?_ | refine w_itup' ?_ | refine w_bm0 ?_ | refine w_gcons ?_ | refine w_gnil ?_ | refine w_tm1' ?_ | refine w_tru ?_)
local macro_rules | `(tactic| walk_at "w1") => `(tactic| with_reducible first | refine w_dget ?_ | refine w_din ?_ | refine w_dpop ?_ | refine w_ddel ?_ | refine w_iitems ?_ | refine w_dnotin ?_ | refine w_chain ?_)
local macro_rules | `(tactic| walk_at "w2") => `(tactic| first
  | ((with_reducible refine' w_gfldB ?wv ?wc ?wn ?wz ?wl ?_); (case wv => rfl); (case wc => assumption); (case wn => assumption); (case wz => simp); (case wl => walk_at "pf"))
  | ((with_reducible refine' w_gfldA ?wv ?wh ?wc ?wn ?wz ?wl ?_); (case wv => rfl); (case wh => assumption); (case wc => assumption); (case wn => assumption); (case wz => simp); (case wl => walk_at "pf")))
local macro_rules | `(tactic| walk_at "w1") => `(tactic| with_reducible first | refine w_ienumT ?_ | refine w_kget ?_ | refine w_allT ?_)
/-! ### the play of what was handed in; run, story -/
section
variable {K : PySem.W.Frag} {cP P : Addr}
/-- a setting, a guesser and a row that are good, in the heap -/
structure GoodIn (K : PySem.W.Frag) (H : Hp) (a g l : Addr) (c : Cfg) (G : G) (row : List Deed) : Prop where
  set : SetAt H a c
  fit : Cfg.fit c
  gue : GTup H G g
  gok : G.ok
  dp : G.depth ≤ 3
  deeds : ∃ xs, SqL K H l xs ∧ Deeds H row xs
  rok : rowOk c row
  num : rowNum row
  len : row.length ≤ 100
theorem GoodIn.tb {H H' : Hp} {a g l : Addr} {c : Cfg} {G : G} {row : List Deed} (e : Tb P H H') (h : GoodIn K H a g l c G row) : GoodIn K H' a g l c G row :=
  ⟨set_keep e.tk h.set, h.fit, gtup_keep (fun b xs hb => e.tup hb) h.gue, h.gok, h.dp, let ⟨xs, h1, h2⟩ := h.deeds; ⟨xs, e.sql h1, h2.keep e.tk⟩, h.rok, h.num, h.len⟩
def spChecked (K : PySem.W.Frag) (cP P : Addr) : Sp := fun vs H Q _ => ∃ (a g l : Addr) (c : Cfg) (G : G) (row : List Deed), vs = [.ref a, .ref g, .ref l] ∧ GoodIn K H a g l c G row ∧ GxR.TabG H P ∧
  ∀ (H' : Hp) (A : PA) (t : Int), Tb P H H' → PlayAt cP H' A c t (ran c G row) → (∀ b, InP A b → H b = none) → Q (.ref A.p) H'
def t_checked_play (sp_check_setting sp_check_guesser sp_check_row sp_played : Sp) : TS := tSeq (tDrop (tCall sp_check_setting [] E0 (tCons (tVar 0) (tNil))))
  (tSeq (tDrop (tCall sp_check_guesser [] E0 (tCons (tVar 1) (tNil))))
  (tSeq (tDrop (tCall sp_check_row [] E0 (tCons (tVar 0) (tCons (tVar 2) (tNil)))))
  (tRet (tCall sp_played [] E0 (tCons (tVar 0) (tCons (tVar 1) (tCons (tVar 2) (tNil))))))))
theorem pu_checked_play {H : Hp} {vs : List V} {Q : VK} {E : XK} (h : spChecked K cP P vs H Q E) : t_checked_play (spCheckSet P) spCheck (spCheckRow K) (spPlayed K cP) (B Q) (start ["setting", "guesser", "row"] vs) H := by
  obtain ⟨a, g, l, c, G, row, rfl, gi, t, k⟩ := h
  unfold t_checked_play
  walk_at "w"
  refine ⟨a, c, rfl, gi.set, gi.fit, t, fun H1 e1 => ?_⟩
  have g1 := gi.tb e1
  walk_at "w"
  refine ⟨g, G, rfl, g1.gue, g1.gok, g1.dp, fun H2 e2 => ?_⟩
  have b2 := e1.trans (tb_same e1.2.1 e2)
  have g2 := gi.tb b2
  obtain ⟨xs, x1, x2⟩ := g2.deeds
  walk_at "w"
  refine ⟨a, l, c, row, xs, rfl, g2.set, x1, x2, g2.rok, g2.num, g2.len, fun H3 e3 => ?_⟩
  have b3 := b2.trans (tb_same b2.2.1 e3)
  have g3 := gi.tb b3
  obtain ⟨xs, x1, x2⟩ := g3.deeds
  walk_at "w"
  refine ⟨a, g, l, c, G, row, xs, rfl, g3.set, g3.fit, g3.gue, g3.gok, g3.dp, x1, x2, g3.rok, by have := g3.len; omega, fun H4 A u e4 pl fr => ?_⟩
  exact k H4 A u (b3.trans (tb_same b3.2.1 e4)) pl fun b hb => b3.free (fr b hb)
/-- what story tells -/
def spStory (K : PySem.W.Frag) (P : Addr) : Sp := fun vs H Q _ => ∃ (a g l : Addr) (c : Cfg) (G : G) (row : List Deed), vs = [.ref a, .ref g, .ref l] ∧ GoodIn K H a g l c G row ∧ GxR.TabG H P ∧
  ∀ (H' : Hp) (q : Addr) (xs : List V), Tb P H H' → H q = none → H' q = some (.lst xs) → All2 (EvAt H') (ran c G row).story xs → Q (.ref q) H'
def t_story (K : PySem.W.Frag) (sp_checked_play : Sp) : TS := tRet (tFld K (tCall sp_checked_play [] E0 (tCons (tVar 0) (tCons (tVar 1) (tCons (tVar 2) (tNil))))) "events")
theorem pu_story (T : PF K cP) {H : Hp} {vs : List V} {Q : VK} {E : XK} (h : spStory K P vs H Q E) : t_story K (spChecked K cP P) (B Q) (start ["setting", "guesser", "row"] vs) H := by
  obtain ⟨a, g, l, c, G, row, rfl, gi, t, k⟩ := h
  obtain ⟨cls, n1, n2, n3, n4, n5, n6, n7, n8, n9, n10, n11⟩ := id T
  unfold t_story
  walk_at "w"
  refine ⟨a, g, l, c, G, row, rfl, gi, t, fun H1 A u e1 pl fr => ?_⟩
  obtain ⟨W, sv, h, hw⟩ := pl
  have hp := h.hp
  unfold pfs at hp
  walk_at "w"
  exact k H1 A.evs sv e1 (fr _ (by simp [InP])) h.hevs h.evs
/-- what run tells -/
def RunAt (H : Hp) (p a : Addr) (m : Mc) : Prop := ∃ t k, H p = some (.tup [.ref a, .ref t, .ref k]) ∧ H a = some (.lst (m.answers.map V.int)) ∧ H t = some (.tup (m.cells.map V.int)) ∧ H k = some (.tup (countsV m))
def spRun (K : PySem.W.Frag) (P : Addr) : Sp := fun vs H Q _ => ∃ (a g l : Addr) (c : Cfg) (G : G) (row : List Deed), vs = [.ref a, .ref g, .ref l] ∧ GoodIn K H a g l c G row ∧ GxR.TabG H P ∧
  ∀ (H' : Hp) (p b : Addr), Tb P H H' → H p = none → H b = none → RunAt H' p b (ran c G row) → Q (.ref p) H'
def t_run (K : PySem.W.Frag) (sp_checked_play sp_counts_of : Sp) : TS := tSeq (tAsg (tCall sp_checked_play [] E0 (tCons (tVar 0) (tCons (tVar 1) (tCons (tVar 2) (tNil))))) (gName 3))
  (tRet (tTup (tCons (tFld K (tVar 3) "answers") (tCons (tCB (rTupleOf K) (tCons (tFld K (tVar 3) "memory") (tNil))) (tCons (tCall sp_counts_of [] E0 (tCons (tVar 3) (tNil))) (tNil))))))
theorem pu_run (T : PF K cP) {H : Hp} {vs : List V} {Q : VK} {E : XK} (h : spRun K P vs H Q E) : t_run K (spChecked K cP P) (spCounts cP) (B Q) (start ["setting", "guesser", "row", "play"] vs) H := by
  obtain ⟨a, g, l, c, G, row, rfl, gi, t, k⟩ := h
  obtain ⟨cls, n1, n2, n3, n4, n5, n6, n7, n8, n9, n10, n11⟩ := id T
  unfold t_run
  walk_at "w"
  refine ⟨a, g, l, c, G, row, rfl, gi, t, fun H1 A u e1 pl fr => ?_⟩
  obtain ⟨W, sv, h, hw⟩ := id pl
  have hp := h.hp
  have fa : H A.ans = none := fr _ (by simp [InP])
  unfold pfs at hp
  walk_at "w"
  refine w_tupleof (SqL.of h.hmem) (w_new fun t1 H2 ht1 e2 h2 => ?_)
  walk_at "w"
  have ok := gi.fit.ok
  have kr := runTo_ok ok gi.rok row.length (Nat.le_refl _) (g := G)
  have sl := ran_len ok gi.fit.most4 gi.rok row.length (Nat.le_refl _) (g := G)
  have len := gi.len
  refine ⟨A, c, u, ran c G row, rfl, ⟨W, sv, h.same e2, hw⟩, kr.uniq, by show (runTo c G row row.length).story.length ≤ 50000; omega, fun H3 q e3 hq h3 => ?_⟩
  walk_at "w"
  refine ⟨small_le (by simp), w_new fun p H4 hp4 e4 h4 => ?_⟩
  have b4 : Tb P H H4 := e1.trans (tb_same e1.2.1 (e2.trans (e3.trans e4)))
  exact k H4 p A.ans b4 (e1.free (e2.free (e3.free hp4))) fa ⟨t1, q, h4, e4 _ _ (e3 _ _ (e2 _ _ h.hans)), e4 _ _ (e3 _ _ h2), e4 _ _ h3⟩
end
end SwD
set_option Elab.async false
set_option linter.all false
set_option maxRecDepth 100000
set_option maxHeartbeats 1000000
/-! len(set(e)), e a list of ints: as many as unlike ones -/
namespace SwX
open PySem PySem.Spec PyProof.Rows L2 StX Sw
theorem met_list (ns : List Int) : firstMet (fun i => ns.getD i 0) ns.length = ns.foldl step_dedup [] := by
  unfold firstMet
  congr 1
  apply List.ext_getElem
  · simp
  · intro i h1 h2
    simp at h1
    simp [h1]
theorem dd_mem : ∀ (l a : List Int) (x : Int), x ∈ l.foldl step_dedup a ↔ x ∈ a ∨ x ∈ l
  | [], a, x => by simp
  | y :: l, a, x => by
    rw [List.foldl_cons, dd_mem l]
    unfold step_dedup
    split
    · rename_i h
      obtain ⟨z, hz, e⟩ := List.any_eq_true.mp h
      have e : z = y := eq_of_beq e
      subst e
      simp only [List.mem_cons]
      exact ⟨fun h => h.elim .inl fun h => .inr (.inr h), fun h => h.elim .inl fun h => h.elim (fun h => .inl (h ▸ hz)) .inr⟩
    · simp only [List.mem_append, List.mem_cons, List.mem_singleton, List.not_mem_nil, or_false]
      exact ⟨fun h => h.elim (fun h => h.elim .inl fun h => .inr (.inl h)) fun h => .inr (.inr h), fun h => h.elim (fun h => .inl (.inl h)) fun h => h.elim (fun h => .inl (.inr h)) .inr⟩
theorem dd_nodup : ∀ (l a : List Int), a.Nodup → (l.foldl step_dedup a).Nodup
  | [], a, h => h
  | y :: l, a, h => by
    rw [List.foldl_cons]
    refine dd_nodup l _ ?_
    unfold step_dedup
    split
    · exact h
    · rename_i n
      refine List.nodup_append.mpr ⟨h, by simp, fun u hu v hv e => ?_⟩
      rw [List.mem_singleton.mp hv] at e
      exact n (List.any_eq_true.mpr ⟨u, hu, by rw [e]; exact beq_self_eq_true y⟩)
theorem firsts_nd : ∀ l : List Int, (firsts l).Nodup
  | [] => List.nodup_nil
  | x :: r => by
    unfold firsts
    refine List.nodup_cons.mpr ⟨fun h => ?_, (firsts_nd r).filter _⟩
    have := (List.mem_filter.mp h).2
    simp at this
theorem met_len (ns : List Int) : (firstMet (fun i => ns.getD i 0) ns.length).length = (firsts ns).length := by
  rw [met_list]
  refine ((List.perm_ext_iff_of_nodup (dd_nodup ns [] List.nodup_nil) (firsts_nd ns)).mpr fun x => ?_).length_eq
  rw [dd_mem, mem_firsts]
  simp
def tSetLen (K : PySem.W.Frag) (ta : TE) : TE := fun σ H Q => ta σ H fun x H1 => ∃ (l : Addr) (ns : List Int), x = .ref l ∧ SqL K H1 l (ns.map V.int) ∧ ns.length ≤ 4000 ∧ Q (.int ((firsts ns).length : Nat)) H1
theorem pe_setLen {X : Cx} {a : Expr} {ta : TE} {p p2 q pos : Pos} (gl : Gl X "len") (ml : X.mg "len" = none) (gs : Gl X "set") (ms : X.mg "set" = none) (ha : PE X a ta) (hc : X.calm = true := by rfl)
    (na : starEach [a] X.env = (false, eval a X.env) :: starEach [] X.env := by rfl) : PE X (.Call (.Name "len" p) [.Call (.Name "set" p2) [a] [] q] [] pos) (tSetLen X.K ta) := by
  refine ⟨fun pins s σ H Q I h => Call_ (ld_blt I gl ml boot_len (callWith_builtin1 (args_cons (Call_ (ld_blt I gs ms boot_set (callWith_type1 (args_cons (thn (ha.run pins s σ H _ I h) fun v s1 ⟨x, H1, I1, r1, l, ns, ex, hq, hz4, q1⟩ => args_nil ?_) na) na rfl))) rfl) rfl rfl))⟩
  subst ex
  obtain rfl : v = Value.ref l := r1
  obtain ⟨its, r, pl, hz⟩ := I1.list hq
  have len : its.toArray.size = ns.length := by
    have := r.length
    rw [List.length_map] at this
    rw [List.size_toArray, this]
  refine call_set_list (I1.ok.hd hc) pl.isList (ns := ns) (by simpa using RZ.intsAre_vals r) (by rw [len]; unfold scanBound; omega) fun h' tk hS hk => args_nil ?_
  rw [len] at hS
  have hln := met_len ns
  obtain ⟨o, es, ep, t, ho, hex, hd, _, _, _, hf, hn⟩ := hS
  have lf : (firstMet (fun i => ns.getD i 0) ns.length).length ≤ ns.length := firstMet_length_le _ _
  refine call_len_set ho hex hd hf (by rw [hn]; omega) ⟨.int ((firsts ns).length : Nat), H1, (I1.kept (t' := tk) fun b o e => hk b o (Heap.lt_size e) e).tok _, ⟨_, by rw [hn, hln]⟩, q1⟩
theorem w_setLen {K : PySem.W.Frag} {σ : L2.St} {H : Hp} {Q : VK} {ta : TE} (k : ta σ H fun x H1 => ∃ (l : Addr) (ns : List Int), x = .ref l ∧ SqL K H1 l (ns.map V.int) ∧ ns.length ≤ 4000 ∧ Q (.int ((firsts ns).length : Nat)) H1) : tSetLen K ta σ H Q := k
end SwX
set_option Elab.async false
set_option linter.all false
set_option maxRecDepth 100000
set_option maxHeartbeats 4000000
namespace SwD
open PySem PySem.Spec PyProof.Rows L2 SwX StX Sw
local macro_rules | `(tactic| walk_at "lk") => `(tactic| first | exact lk_at | exact lk_no | ((refine' lk_by (by decide +kernel) ?wq); (case wq => walk_at "lk")))
local macro_rules | `(tactic| walk_at "pf") => `(tactic| first | exact pf_at | exact pf_nil | ((refine' pf_by (by decide +kernel) ?wq); (case wq => walk_at "pf")))
local macro_rules | `(tactic| walk_at "w1") => `(tactic| with_reducible first
  | refine w_seq ?_ | refine w_asg ?_ | refine w_name ?_ | refine w_ret ?_ | refine w_retN ?_ | refine w_drop ?_ | refine w_next ?_ | refine w_if ?_ | refine w_ifE ?_ | refine w_test ?_ | refine w_B ?_ | refine w_bl ?_
  | refine w_not ?_ | refine w_and ?_ | refine w_or ?_ | refine w_andV ?_ | refine w_orV ?_ | refine w_notV ?_ | refine w_isN ?_ | refine w_notN ?_ | refine w_yes ?_
  | refine w_c ?_ | refine w_op ?_ | refine w_un ?_ | refine w_i0 ?_ | refine w_neg ?_ | refine w_nil ?_ | refine w_cons ?_ | refine w_cb ?_ | refine w_call ?_ | refine w_tup ?_ | refine w_lst ?_
  | refine w_fld ?_ | refine w_sfld ?_ | refine w_match ?_ | refine w_case ?_ | refine w_mcons ?_ | refine w_mnil ?_ | refine w_mcap ?_ | refine w_many ?_ | refine w_myes ?_
  | refine w_sub ?_ | refine w_bm ?_ | refine w_sl ?_ | refine w_nopart ?_ | refine w_part ?_ | refine w_int ?_ | refine w_ift ?_ | refine w_iff ?_ | refine w_ifn ?_ | refine w_dget2 ?_ | refine w_star ?_ | refine w_dput ?_ | refine w_dnewK ?_ | refine w_meth ?_ | refine w_oneOf ?_ | refine w_make ?_ | refine w_lc ?_ | refine w_for ?_ | refine w_ilist ?_ | refine w_irng1 ?_ | refine w_irng2 ?_ | refine w_irng3 ?_)
local macro_rules | `(tactic| walk_at "w2") => `(tactic| first
  | ((with_reducible refine' w_var ?wh ?_); (case wh => rfl))
  | ((with_reducible refine' w_eq ?wh ?_); (case wh => rfl))
  | ((with_reducible refine' w_ne ?wh ?_); (case wh => rfl))
  | ((with_reducible refine' w_mno ?wh ?_); (case wh => decide +kernel))
  | ((with_reducible refine' w_mhit ?wh ?wl ?_); (case wh => assumption); (case wl => rfl))
  | ((with_reducible refine' w_mmiss ?wh ?wl ?_); (case wh => assumption); (case wl => simp))
  | ((with_reducible refine' w_fldA ?wh ?wc ?wn ?wl ?_); (case wh => first | assumption | exact upd_same); (case wc => assumption); (case wn => assumption); (case wl => walk_at "lk"))
  | ((with_reducible refine' w_ixl ?wh ?we ?_); (case wh => exact SqL.of (by first | assumption | exact upd_same)); (case we => rfl))
  | ((with_reducible refine' w_ixt ?wh ?we ?_); (case wh => assumption); (case we => rfl))
  | ((with_reducible refine' w_ifT ?wh ?_); (case wh => (with_reducible exact Eq.refl _)))
  | ((with_reducible refine' w_ifF ?wh ?_); (case wh => decide +kernel))
  | ((with_reducible refine' w_isiY ?wh ?wk ?_); (case wh => first | exact .int _ | exact .str _ | exact .lst (by assumption) | exact .tup (by assumption)); (case wk => decide +kernel))
  | ((with_reducible refine' w_isiN ?wh ?wk ?_); (case wh => first | exact .int _ | exact .str _ | exact .lst (by assumption) | exact .tup (by assumption)); (case wk => decide +kernel))
  | ((with_reducible refine' w_ifF ?wh ?_); (case wh => (intro z; cases z; done)))
  | ((with_reducible refine' w_setl ?wh ?we ?wl ?_); (case wh => first | assumption | exact upd_same); (case we => rfl); (case wl => rfl))
  | ((with_reducible refine' w_methA ?wh ?wl ?_); (case wh => first | assumption | exact upd_same); (case wl => walk_at "lk"))
  | ((with_reducible refine' w_sfldB ?wc ?wn ?wz ?wl ?_); (case wc => assumption); (case wn => assumption); (case wz => simp); (case wl => walk_at "pf"))
  | ((with_reducible refine' w_sfldA ?wh ?wc ?wn ?wz ?wl ?_); (case wh => assumption); (case wc => assumption); (case wn => assumption); (case wz => simp); (case wl => walk_at "pf")))
local macro_rules | `(tactic| walk_at "w") => `(tactic| repeat (first | walk_at "w1" | walk_at "w2" | (dsimp only [List.set, setAll, List.append, List.cons_append, List.nil_append])))
local macro_rules | `(tactic| walk_at "w1") => `(tactic| with_reducible first | refine w_rev ?_ | refine w_enum ?_ | refine w_itup' ?_ | refine w_bm0 ?_ | refine w_gcons ?_ | refine w_gnil ?_ | refine w_tm1' ?_ | refine w_tru ?_)
local macro_rules | `(tactic| walk_at "w1") => `(tactic| with_reducible first | refine w_dget ?_ | refine w_din ?_ | refine w_dpop ?_ | refine w_ddel ?_ | refine w_iitems ?_ | refine w_dnotin ?_ | refine w_chain ?_)
local macro_rules | `(tactic| walk_at "w2") => `(tactic| first
  | ((with_reducible refine' w_gfldB ?wv ?wc ?wn ?wz ?wl ?_); (case wv => rfl); (case wc => assumption); (case wn => assumption); (case wz => simp); (case wl => walk_at "pf"))
  | ((with_reducible refine' w_gfldA ?wv ?wh ?wc ?wn ?wz ?wl ?_); (case wv => rfl); (case wh => assumption); (case wc => assumption); (case wn => assumption); (case wz => simp); (case wl => walk_at "pf")))
local macro_rules | `(tactic| walk_at "w1") => `(tactic| with_reducible first | refine w_ienumT ?_ | refine w_kget ?_ | refine w_allT ?_)
/-! ### what a law needs of run and story -/
section
variable {K : PySem.W.Frag} {P : Addr} {H H' : Hp} {r : Addr}
theorem tab_row (t : GxR.TabG H P) (row : RowAt K H r) (o : Out (Is r) H H') : GxR.TabG H' P := by
  obtain ⟨ps, h, tr⟩ := t
  obtain ⟨xs, hx⟩ := row_lst row
  exact ⟨ps, o _ _ h (fun z => by rw [show P = r from z, hx] at h; cases h), tr⟩
theorem row_tb (row : RowAt K H r) (e : Tb P H H') : RowAt K H' r := by
  obtain ⟨scr, i, z, ns, hr, hi, hz0, hz1, hs⟩ := row
  exact ⟨scr, i, z, ns, e.lst hr, hi, hz0, hz1, scr_keep (fun o u w => e.at w fun _ z => nomatch z) hs⟩
theorem tb_gtup {a : Addr} {g : G} (e : Tb P H H') (t : GTup H g a) : GTup H' g a := gtup_keep (fun b xs hb => e.tup hb) t
/-- the place of a deed, read off the heap -/
def placeOf (H : Hp) : V → V
  | .ref a => match H a with
    | some (.tup (_ :: v :: _)) => v
    | _ => .non
  | _ => .non
theorem placeOf_at {d : Deed} {v : V} (h : DeedAt H d v) : placeOf H v = .int d.1 := by
  unfold DeedAt at h
  cases e : d.2 with
  | none =>
    rw [e] at h
    obtain ⟨a, rfl, h⟩ := h
    simp only [placeOf, h]
  | some x =>
    rw [e] at h
    obtain ⟨a, rfl, h⟩ := h
    simp only [placeOf, h]
theorem places_of {ds : List Deed} {xs : List V} (h : Deeds H ds xs) : xs.map (placeOf H) = (ds.map (·.1)).map V.int := by
  induction h with
  | nil => rfl
  | cons h t ih => rw [List.map_cons, placeOf_at h, ih]; rfl
theorem deed_mem {ds : List Deed} {xs : List V} (h : Deeds H ds xs) {v : V} (hv : v ∈ xs) : ∃ d, d ∈ ds ∧ DeedAt H d v := by
  induction h with
  | nil => cases hv
  | @cons d v' ds' vs' h t ih =>
    rcases List.mem_cons.mp hv with rfl | hv
    · exact ⟨d, List.mem_cons_self, h⟩
    · obtain ⟨d', h1, h2⟩ := ih hv
      exact ⟨d', List.mem_cons_of_mem _ h1, h2⟩
/-- deed[1] -/
theorem deed_ix1 {d : Deed} {v : V} (h : DeedAt H d v) {Q : VK} (k : Q (.int d.1) H) : rIxT K v (.int 1) H Q := by
  unfold DeedAt at h
  cases e : d.2 with
  | none =>
    rw [e] at h
    obtain ⟨a, rfl, h⟩ := h
    exact w_ixt (SqT.of h) rfl k
  | some x =>
    rw [e] at h
    obtain ⟨a, rfl, h⟩ := h
    exact w_ixt (SqT.of h) rfl k
theorem dp_tints {a : Addr} {ls : List Int} (h : SqT K H a (ls.map V.int)) : Dp K H (.ref a) (.tuple (ls.map PyData.int)) := .tup h (dp_ints.dpAll ls)
theorem shaped_tints (ls : List Int) : SeqAt.shaped (.tuple (ls.map PyData.int)) = true := shaped_ints ls
/-- the setting, made again with another room -/
theorem set_room {c : Cfg} {n : Int} {mm q : Addr} (hm : H mm = some (.tup (c.mem.map V.int))) (h : H q = some (.tup [.ref mm, .int n, .int c.late, .int c.most])) : SetAt H q { c with room := n } := ⟨mm, h, hm⟩
theorem fit_room {c : Cfg} {n : Int} (f : Cfg.fit c) (h1 : 1 ≤ n) (h8 : n ≤ 8) : Cfg.fit { c with room := n } := ⟨⟨f.ok.some_, h1, f.ok.late0, f.ok.most1⟩, f.mem32, f.nums, h8, f.late4, f.most4⟩
end
end SwD
set_option Elab.async false
set_option linter.all false
set_option maxRecDepth 100000
set_option maxHeartbeats 4000000
namespace SwD
open PySem PySem.Spec PyProof.Rows L2 SwX StX Sw
local macro_rules | `(tactic| walk_at "lk") => `(tactic| first | exact lk_at | exact lk_no | ((refine' lk_by (by decide +kernel) ?wq); (case wq => walk_at "lk")))
local macro_rules | `(tactic| walk_at "pf") => `(tactic| first | exact pf_at | exact pf_nil | ((refine' pf_by (by decide +kernel) ?wq); (case wq => walk_at "pf")))
local macro_rules | `(tactic| walk_at "w1") => `(tactic| with_reducible first
  | refine w_seq ?_ | refine w_asg ?_ | refine w_name ?_ | refine w_ret ?_ | refine w_retN ?_ | refine w_drop ?_ | refine w_next ?_ | refine w_if ?_ | refine w_ifE ?_ | refine w_test ?_ | refine w_B ?_ | refine w_bl ?_
  | refine w_not ?_ | refine w_and ?_ | refine w_or ?_ | refine w_andV ?_ | refine w_orV ?_ | refine w_notV ?_ | refine w_isN ?_ | refine w_notN ?_ | refine w_yes ?_
  | refine w_c ?_ | refine w_op ?_ | refine w_un ?_ | refine w_i0 ?_ | refine w_neg ?_ | refine w_nil ?_ | refine w_cons ?_ | refine w_cb ?_ | refine w_call ?_ | refine w_tup ?_ | refine w_lst ?_
  | refine w_fld ?_ | refine w_sfld ?_ | refine w_match ?_ | refine w_case ?_ | refine w_mcons ?_ | refine w_mnil ?_ | refine w_mcap ?_ | refine w_many ?_ | refine w_myes ?_
  | refine w_sub ?_ | refine w_bm ?_ | refine w_sl ?_ | refine w_nopart ?_ | refine w_part ?_ | refine w_int ?_ | refine w_ift ?_ | refine w_iff ?_ | refine w_ifn ?_ | refine w_dget2 ?_ | refine w_star ?_ | refine w_dput ?_ | refine w_dnewK ?_ | refine w_meth ?_ | refine w_oneOf ?_ | refine w_make ?_ | refine w_lc ?_ | refine w_for ?_ | refine w_ilist ?_ | refine w_irng1 ?_ | refine w_irng2 ?_ | refine w_irng3 ?_)
local macro_rules | `(tactic| walk_at "w2") => `(tactic| first
  | ((with_reducible refine' w_var ?wh ?_); (case wh => rfl))
  | ((with_reducible refine' w_eq ?wh ?_); (case wh => rfl))
  | ((with_reducible refine' w_ne ?wh ?_); (case wh => rfl))
  | ((with_reducible refine' w_mno ?wh ?_); (case wh => decide +kernel))
  | ((with_reducible refine' w_mhit ?wh ?wl ?_); (case wh => assumption); (case wl => rfl))
  | ((with_reducible refine' w_mmiss ?wh ?wl ?_); (case wh => assumption); (case wl => simp))
  | ((with_reducible refine' w_fldA ?wh ?wc ?wn ?wl ?_); (case wh => first | assumption | exact upd_same); (case wc => assumption); (case wn => assumption); (case wl => walk_at "lk"))
  | ((with_reducible refine' w_ixl ?wh ?we ?_); (case wh => exact SqL.of (by first | assumption | exact upd_same)); (case we => rfl))
  | ((with_reducible refine' w_ixt ?wh ?we ?_); (case wh => assumption); (case we => rfl))
  | ((with_reducible refine' w_ifT ?wh ?_); (case wh => (with_reducible exact Eq.refl _)))
  | ((with_reducible refine' w_ifF ?wh ?_); (case wh => decide +kernel))
  | ((with_reducible refine' w_isiY ?wh ?wk ?_); (case wh => first | exact .int _ | exact .str _ | exact .lst (by assumption) | exact .tup (by assumption)); (case wk => decide +kernel))
  | ((with_reducible refine' w_isiN ?wh ?wk ?_); (case wh => first | exact .int _ | exact .str _ | exact .lst (by assumption) | exact .tup (by assumption)); (case wk => decide +kernel))
  | ((with_reducible refine' w_ifF ?wh ?_); (case wh => (intro z; cases z; done)))
  | ((with_reducible refine' w_setl ?wh ?we ?wl ?_); (case wh => first | assumption | exact upd_same); (case we => rfl); (case wl => rfl))
  | ((with_reducible refine' w_methA ?wh ?wl ?_); (case wh => first | assumption | exact upd_same); (case wl => walk_at "lk"))
  | ((with_reducible refine' w_sfldB ?wc ?wn ?wz ?wl ?_); (case wc => assumption); (case wn => assumption); (case wz => simp); (case wl => walk_at "pf"))
  | ((with_reducible refine' w_sfldA ?wh ?wc ?wn ?wz ?wl ?_); (case wh => assumption); (case wc => assumption); (case wn => assumption); (case wz => simp); (case wl => walk_at "pf")))
local macro_rules | `(tactic| walk_at "w") => `(tactic| repeat (first | walk_at "w1" | walk_at "w2" | (dsimp only [List.set, setAll, List.append, List.cons_append, List.nil_append])))
local macro_rules | `(tactic| walk_at "w1") => `(tactic| with_reducible first | refine w_rev ?_ | refine w_enum ?_ | refine w_itup' ?_ | refine w_bm0 ?_ | refine w_gcons ?_ | refine w_gnil ?_ | refine w_tm1' ?_ | refine w_tru ?_)
local macro_rules | `(tactic| walk_at "w1") => `(tactic| with_reducible first | refine w_dget ?_ | refine w_din ?_ | refine w_dpop ?_ | refine w_ddel ?_ | refine w_iitems ?_ | refine w_dnotin ?_ | refine w_chain ?_)
local macro_rules | `(tactic| walk_at "w2") => `(tactic| first
  | ((with_reducible refine' w_gfldB ?wv ?wc ?wn ?wz ?wl ?_); (case wv => rfl); (case wc => assumption); (case wn => assumption); (case wz => simp); (case wl => walk_at "pf"))
  | ((with_reducible refine' w_gfldA ?wv ?wh ?wc ?wn ?wz ?wl ?_); (case wv => rfl); (case wh => assumption); (case wc => assumption); (case wn => assumption); (case wz => simp); (case wl => walk_at "pf")))
local macro_rules | `(tactic| walk_at "w1") => `(tactic| with_reducible first | refine w_ienumT ?_ | refine w_kget ?_ | refine w_allT ?_)
local macro_rules | `(tactic| walk_at "s1") => `(tactic| first
  | exact sd_lies | exact sd_used | exact sd_waits | exact sd_way | exact sd_story | exact sd_cells | exact sd_answers | exact sd_clock)
local macro_rules | `(tactic| walk_at "s2") => `(tactic| first
  | (with_reducible refine w_dget ?_) | (with_reducible refine w_din ?_) | (with_reducible refine w_dpop ?_) | (with_reducible refine w_ikeys ?_)
  | ((refine' w_stG ?wh ?we ?_); (case wh => assumption); (case we => walk_at "s1")))
local macro_rules | `(tactic| walk_at "s") => `(tactic| repeat (first | walk_at "w1" | walk_at "w2" | walk_at "s2" | (dsimp only [List.set, setAll, List.append, List.cons_append, List.nil_append])))

/-! ### the law's own run: what is started -/
section
variable {K : PySem.W.Frag} {H : Hp} {A : Ads} {ck : Int} {U L : List (Key × V)} {W : List Int} {wv sv : List V} {tm : Int → Int} {m : Mc} {B : Nat}
def wayP (H : Hp) (v : V) : V := .int (wayOf H v).1
theorem way_places : ∀ {way : List (Int × Int)} {wv : List V}, All2 (WayAt H) way wv → wv.map (wayP H) = (way.map (·.1)).map V.int
  | _, _, .nil => rfl
  | _, _, .cons h t => by
    rw [List.map_cons, way_places t]
    unfold wayP
    rw [wayOf_at h]
    rfl
theorem any_way {way : List (Int × Int)} {q : Int} : (way.any fun x => decide (x.1 = q)) = decide (q ∈ way.map (·.1)) := by
  rw [Bool.eq_iff_iff, List.any_eq_true, decide_eq_true_iff, List.mem_map]
  exact ⟨fun ⟨x, h1, h2⟩ => ⟨x, h1, of_decide_eq_true h2⟩, fun ⟨x, h1, h2⟩ => ⟨x, h1, decide_eq_true h2⟩⟩
theorem run_begin {c : Cfg} {t q : Int} {D : Ends} {mm : Addr} {s0 s1 s2 s5 s9 s11 s12 s13 s14 : Option V} (hm : SqT K H mm (c.mem.map V.int)) (h : LS H A ck U L W wv sv tm m B) (m4 : c.most ≤ 4) (hw : (m.way.length : Int) ≤ c.most) (hst : m.story.length ≤ 70000) 
    (k : ∀ H' wv' sv' v12, LS H' A ck U L W wv' sv' tm (begin_ c t m q) B → OutA A H H' → D.nx [s0, s1, s2, some (.ref mm), some (.int c.room), s5, some (.int c.most), some (.ref A.p), some (.int t), s9, some (.int q), s11, v12, s13, s14] H') :
    (tSeq (tAsg (tOrV (tDIn (tVar 10) (tDGet (tVar 7) (tC (.str "lies")))) (tOp (rIn K false) (tVar 10) (tLc (iList K (tDGet (tVar 7) (tC (.str "way")))) (gName 13) (tYes) (tOp (rIxT K) (tVar 13) (tC (.int 0))) [13]))) (gName 12))
  (tIfS (tAnd (tTest (tChain (rLeI) (rLtI) (tC (.int 0)) (tVar 10) (tCB (rLenQ K) (tCons (tVar 3) (tNil))))) (tAnd (tNot (tB (tVar 12))) (tTest (tOp (rLtI) (tCB (rLenQ K) (tCons (tDGet (tVar 7) (tC (.str "way"))) (tNil))) (tVar 6))))) (tSeq (tDrop (tBM K "list" rAppend (tDGet (tVar 7) (tC (.str "way"))) (tCons (tTup (tCons (tVar 10) (tCons (tVar 8) (tNil)))) (tNil))))
  (tDrop (tBM K "list" rAppend (tDGet (tVar 7) (tC (.str "story"))) (tCons (tTup (tCons (tVar 8) (tCons (tC (.str "start")) (tCons (tVar 10) (tNil))))) (tNil))))) (tNext))) D [s0, s1, s2, some (.ref mm), some (.int c.room), s5, some (.int c.most), some (.ref A.p), some (.int t), s9, some (.int q), s11, s12, s13, s14] H := by
  have hwy := h.ways.len
  have hsv := h.evs.len
  have rest : ∀ (th : Bool) (v12 : V) (H2 : Hp), v12 = .bl th → th = (onShelf m.shelf q || m.way.any fun x => decide (x.1 = q)) → Same H H2 → (tIfS (tAnd (tTest (tChain (rLeI) (rLtI) (tC (.int 0)) (tVar 10) (tCB (rLenQ K) (tCons (tVar 3) (tNil))))) (tAnd (tNot (tB (tVar 12))) (tTest (tOp (rLtI) (tCB (rLenQ K) (tCons (tDGet (tVar 7) (tC (.str "way"))) (tNil))) (tVar 6))))) (tSeq (tDrop (tBM K "list" rAppend (tDGet (tVar 7) (tC (.str "way"))) (tCons (tTup (tCons (tVar 10) (tCons (tVar 8) (tNil)))) (tNil))))
  (tDrop (tBM K "list" rAppend (tDGet (tVar 7) (tC (.str "story"))) (tCons (tTup (tCons (tVar 8) (tCons (tC (.str "start")) (tCons (tVar 10) (tNil))))) (tNil))))) (tNext)) D [s0, s1, s2, some (.ref mm), some (.int c.room), s5, some (.int c.most), some (.ref A.p), some (.int t), s9, some (.int q), s11, some v12, s13, s14] H2 := by
    intro th v12 H2 e12 eth e2
    subst e12
    have h2 := h.same e2
    have hm2 : SqT K H2 mm (c.mem.map V.int) := by
      rcases hm with z | z
      · exact .inl (z.elim (fun z => .inl (e2 _ _ z)) fun ⟨o, z⟩ => .inr ⟨o, e2 _ _ z⟩)
      · exact .inr z
    have none : ¬ (0 ≤ q ∧ q < (c.mem.length : Int) ∧ onShelf m.shelf q = false ∧ (m.way.any fun x => decide (x.1 = q)) = false ∧ (m.way.length : Int) < c.most) → D.nx [s0, s1, s2, some (.ref mm), some (.int c.room), s5, some (.int c.most), some (.ref A.p), some (.int t), s9, some (.int q), s11, some (.bl th), s13, s14] H2 := fun no => by
      have e : begin_ c t m q = m := if_neg no
      exact k H2 wv sv _ (by rw [e]; exact h2) (outA_same e2)
    walk_at "s"
    by_cases q0 : 0 ≤ q
    · rw [if_pos (decide_eq_true q0)]
      walk_at "s"
      refine w_len (.inr hm2) ?_
      rw [List.length_map]
      walk_at "s"
      by_cases q1 : q < (c.mem.length : Int)
      · rw [if_pos (decide_eq_true q1)]
        walk_at "s"
        cases hth : th with
        | true =>
          rw [hth] at eth none
          have no : ¬ (0 ≤ q ∧ q < (c.mem.length : Int) ∧ onShelf m.shelf q = false ∧ (m.way.any fun x => decide (x.1 = q)) = false ∧ (m.way.length : Int) < c.most) := fun z => by
            rw [z.2.2.1, z.2.2.2.1] at eth
            cases eth
          walk_at "s"
          exact none no
        | false =>
          rw [hth] at eth none
          have eth2 := eth.symm
          rw [Bool.or_eq_false_iff] at eth2
          walk_at "s"
          refine w_len (.inl (SqL.of h2.hway)) ?_
          rw [← hwy]
          walk_at "s"
          by_cases q2 : (m.way.length : Int) < c.most
          · rw [if_pos (decide_eq_true q2)]
            have e : begin_ c t m q = { m with way := m.way ++ [(q, t)], story := m.story ++ [(t, .start, q)] } := if_pos ⟨q0, q1, eth2.1, eth2.2, q2⟩
            walk_at "s"
            refine ⟨.inl ⟨rfl, _, SqL.of h2.hway⟩, ?_⟩
            walk_at "s"
            refine ⟨small_le (by simp), w_new fun p3 H3 hp3 e3 h3t => ?_⟩
            have h3 := h2.same e3
            walk_at "s"
            refine w_app h3.hway (small_lt (by omega)) ?_
            have h4 := h3.goes (x := (q, t)) (v := .ref p3) ⟨p3, rfl, h3t⟩
            have o4 : OutA A H3 _ := outA_upd (H := H3) (u := .lst (wv ++ [V.ref p3])) (.inr (.inr (.inr (.inr (.inl rfl)))) : InA A A.way)
            generalize upd H3 A.way (.lst (wv ++ [V.ref p3])) = H4 at h4 o4 ⊢
            walk_at "s"
            refine ⟨.inl ⟨rfl, _, SqL.of h4.hstory⟩, ?_⟩
            walk_at "s"
            refine ⟨small_le (by simp), w_new fun p5 H5 hp5 e5 h5t => ?_⟩
            have h5 := h4.same e5
            walk_at "s"
            refine w_app h5.hstory (small_lt (by omega)) ?_
            have h6 := h5.tell (ev := (t, .start, q)) (v := .ref p5) ⟨p5, rfl, h5t⟩
            have o6 : OutA A H5 _ := outA_upd (H := H5) (u := .lst (sv ++ [V.ref p5])) (.inr (.inr (.inr (.inr (.inr (.inr (.inl rfl)))))) : InA A A.story)
            generalize upd H5 A.story (.lst (sv ++ [V.ref p5])) = H6 at h6 o6 ⊢
            refine k H6 _ _ _ (by rw [e]; exact h6) (fun b o hb nb => o6 b o (e5 b o (o4 b o (e3 b o (e2 b o hb)) nb)) nb)
          · rw [if_neg (by rw [decide_eq_false q2]; decide)]
            walk_at "s"
            exact none fun z => q2 z.2.2.2.2
      · rw [if_neg (by rw [decide_eq_false q1]; decide)]
        walk_at "s"
        exact none fun z => q1 z.2.1
    · rw [if_neg (by rw [decide_eq_false q0]; decide)]
      walk_at "s"
      exact none fun z => q0 z.1
  walk_at "s"
  refine w_dinI (.inl h.hlies) ?_
  rw [h.on]
  refine ⟨_, rfl, ?_⟩
  cases hon : onShelf m.shelf q with
  | true =>
    rw [if_pos rfl]
    exact rest true _ H rfl (by rw [hon]; rfl) (Same.refl _)
  | false =>
    rw [if_neg (by decide)]
    refine w_op ?_
    walk_at "s"
    refine w_lcl (fun _ => true) (wayP H) (SqL.of h.hway) (small_lt (by omega)) (fun _ => rfl) (fun v hv H' s R rr => ?_) (fun v hv _ H' s R rr => ?_) (fun wl H1 hwl e1 h1 => ?_)
    · exact rr _ (Same.refl _)
    · obtain ⟨x, _, hx⟩ := h.ways.mem hv
      have ex := wayOf_at hx
      obtain ⟨b, rfl, hb⟩ := hx
      walk_at "w"
      refine w_ixt (SqT.of (s _ _ hb)) (v := .int x.1) rfl ?_
      have e8 : wayP H (.ref b) = .int x.1 := by
        unfold wayP
        rw [ex]
      rw [← e8]
      exact rr _ (Same.refl _)
    rw [added_all, way_places h.ways] at h1
    refine w_inl (SqL.of h1) ?_
    rw [if_neg (by decide)]
    refine rest _ _ H1 rfl ?_ e1
    rw [hon, any_way]
    rfl
end
end SwD
set_option Elab.async false
set_option linter.all false
set_option maxRecDepth 100000
set_option maxHeartbeats 4000000
namespace SwD
open PySem PySem.Spec PyProof.Rows L2 SwX StX Sw
local macro_rules | `(tactic| walk_at "lk") => `(tactic| first | exact lk_at | exact lk_no | ((refine' lk_by (by decide +kernel) ?wq); (case wq => walk_at "lk")))
local macro_rules | `(tactic| walk_at "pf") => `(tactic| first | exact pf_at | exact pf_nil | ((refine' pf_by (by decide +kernel) ?wq); (case wq => walk_at "pf")))
local macro_rules | `(tactic| walk_at "w1") => `(tactic| with_reducible first
  | refine w_seq ?_ | refine w_asg ?_ | refine w_name ?_ | refine w_ret ?_ | refine w_retN ?_ | refine w_drop ?_ | refine w_next ?_ | refine w_if ?_ | refine w_ifE ?_ | refine w_test ?_ | refine w_B ?_ | refine w_bl ?_
  | refine w_not ?_ | refine w_and ?_ | refine w_or ?_ | refine w_andV ?_ | refine w_orV ?_ | refine w_notV ?_ | refine w_isN ?_ | refine w_notN ?_ | refine w_yes ?_
  | refine w_c ?_ | refine w_op ?_ | refine w_un ?_ | refine w_i0 ?_ | refine w_neg ?_ | refine w_nil ?_ | refine w_cons ?_ | refine w_cb ?_ | refine w_call ?_ | refine w_tup ?_ | refine w_lst ?_
  | refine w_fld ?_ | refine w_sfld ?_ | refine w_match ?_ | refine w_case ?_ | refine w_mcons ?_ | refine w_mnil ?_ | refine w_mcap ?_ | refine w_many ?_ | refine w_myes ?_
  | refine w_sub ?_ | refine w_bm ?_ | refine w_sl ?_ | refine w_nopart ?_ | refine w_part ?_ | refine w_int ?_ | refine w_ift ?_ | refine w_iff ?_ | refine w_ifn ?_ | refine w_dget2 ?_ | refine w_star ?_ | refine w_dput ?_ | refine w_dnewK ?_ | refine w_meth ?_ | refine w_oneOf ?_ | refine w_make ?_ | refine w_lc ?_ | refine w_for ?_ | refine w_ilist ?_ | refine w_irng1 ?_ | refine w_irng2 ?_ | refine w_irng3 ?_)
local macro_rules | `(tactic| walk_at "w2") => `(tactic| first
  | ((with_reducible refine' w_var ?wh ?_); (case wh => rfl))
  | ((with_reducible refine' w_eq ?wh ?_); (case wh => rfl))
  | ((with_reducible refine' w_ne ?wh ?_); (case wh => rfl))
  | ((with_reducible refine' w_mno ?wh ?_); (case wh => decide +kernel))
  | ((with_reducible refine' w_mhit ?wh ?wl ?_); (case wh => assumption); (case wl => rfl))
  | ((with_reducible refine' w_mmiss ?wh ?wl ?_); (case wh => assumption); (case wl => simp))
  | ((with_reducible refine' w_fldA ?wh ?wc ?wn ?wl ?_); (case wh => first | assumption | exact upd_same); (case wc => assumption); (case wn => assumption); (case wl => walk_at "lk"))
  | ((with_reducible refine' w_ixl ?wh ?we ?_); (case wh => exact SqL.of (by first | assumption | exact upd_same)); (case we => rfl))
  | ((with_reducible refine' w_ixt ?wh ?we ?_); (case wh => assumption); (case we => rfl))
  | ((with_reducible refine' w_ifT ?wh ?_); (case wh => (with_reducible exact Eq.refl _)))
  | ((with_reducible refine' w_ifF ?wh ?_); (case wh => decide +kernel))
  | ((with_reducible refine' w_isiY ?wh ?wk ?_); (case wh => first | exact .int _ | exact .str _ | exact .lst (by assumption) | exact .tup (by assumption)); (case wk => decide +kernel))
  | ((with_reducible refine' w_isiN ?wh ?wk ?_); (case wh => first | exact .int _ | exact .str _ | exact .lst (by assumption) | exact .tup (by assumption)); (case wk => decide +kernel))
  | ((with_reducible refine' w_ifF ?wh ?_); (case wh => (intro z; cases z; done)))
  | ((with_reducible refine' w_setl ?wh ?we ?wl ?_); (case wh => first | assumption | exact upd_same); (case we => rfl); (case wl => rfl))
  | ((with_reducible refine' w_methA ?wh ?wl ?_); (case wh => first | assumption | exact upd_same); (case wl => walk_at "lk"))
  | ((with_reducible refine' w_sfldB ?wc ?wn ?wz ?wl ?_); (case wc => assumption); (case wn => assumption); (case wz => simp); (case wl => walk_at "pf"))
  | ((with_reducible refine' w_sfldA ?wh ?wc ?wn ?wz ?wl ?_); (case wh => assumption); (case wc => assumption); (case wn => assumption); (case wz => simp); (case wl => walk_at "pf")))
local macro_rules | `(tactic| walk_at "w") => `(tactic| repeat (first | walk_at "w1" | walk_at "w2" | (dsimp only [List.set, setAll, List.append, List.cons_append, List.nil_append])))
local macro_rules | `(tactic| walk_at "w1") => `(tactic| with_reducible first | refine w_rev ?_ | refine w_enum ?_ | refine w_itup' ?_ | refine w_bm0 ?_ | refine w_gcons ?_ | refine w_gnil ?_ | refine w_tm1' ?_ | refine w_tru ?_)
local macro_rules | `(tactic| walk_at "w1") => `(tactic| with_reducible first | refine w_dget ?_ | refine w_din ?_ | refine w_dpop ?_ | refine w_ddel ?_ | refine w_iitems ?_ | refine w_dnotin ?_ | refine w_chain ?_)
local macro_rules | `(tactic| walk_at "w2") => `(tactic| first
  | ((with_reducible refine' w_gfldB ?wv ?wc ?wn ?wz ?wl ?_); (case wv => rfl); (case wc => assumption); (case wn => assumption); (case wz => simp); (case wl => walk_at "pf"))
  | ((with_reducible refine' w_gfldA ?wv ?wh ?wc ?wn ?wz ?wl ?_); (case wv => rfl); (case wh => assumption); (case wc => assumption); (case wn => assumption); (case wz => simp); (case wl => walk_at "pf")))
local macro_rules | `(tactic| walk_at "w1") => `(tactic| with_reducible first | refine w_ienumT ?_ | refine w_kget ?_ | refine w_allT ?_)
local macro_rules | `(tactic| walk_at "s1") => `(tactic| first
  | exact sd_lies | exact sd_used | exact sd_waits | exact sd_way | exact sd_story | exact sd_cells | exact sd_answers | exact sd_clock)
local macro_rules | `(tactic| walk_at "s2") => `(tactic| first
  | (with_reducible refine w_dget ?_) | (with_reducible refine w_din ?_) | (with_reducible refine w_dpop ?_) | (with_reducible refine w_ikeys ?_)
  | ((refine' w_stG ?wh ?we ?_); (case wh => assumption); (case we => walk_at "s1")))
local macro_rules | `(tactic| walk_at "s") => `(tactic| repeat (first | walk_at "w1" | walk_at "w2" | walk_at "s2" | (dsimp only [List.set, setAll, List.append, List.cons_append, List.nil_append])))

/-! ### the law's own run: a turn -/
section
variable {K : PySem.W.Frag} {H : Hp} {A : Ads} {ck : Int} {U L : List (Key × V)} {W : List Int} {wv sv : List V} {tm : Int → Int} {m : Mc} {B : Nat}
theorem arrive_way (c : Cfg) (t : Int) (m : Mc) : (arrive c t m).way = m.way.filter fun x => !due c t x := by
  unfold arrive
  rw [lays_with]
theorem at_row {xs : List V} {i : Nat} {v : V} (h : xs[i]? = some v) : atI xs (i : Int) = some v := atI_nat h
theorem Deeds.take {H : Hp} : ∀ {ds : List Deed} {vs : List V} {n : Nat}, Deeds H ds vs → Deeds H (ds.take n) (vs.take n)
  | _, _, 0, _ => by rw [List.take_zero, List.take_zero]; exact .nil
  | _, _, _ + 1, .nil => by rw [List.take_nil, List.take_nil]; exact .nil
  | _, _, n + 1, .cons h t => .cons h t.take
/-- the starts of a turn -/
theorem run_starts {c : Cfg} {i : Nat} {row : List Deed} {xs : List V} {G : Sw.G} {g l mm : Addr} {D : Ends} {s0 s5 s9 s10 s11 s12 s13 s14 : Option V} (m4 : c.most ≤ 4) (hm : H mm = some (.tup (c.mem.map V.int))) (gt : GTup H G g) (gok : G.ok) (dp : G.depth ≤ 3)
    (hl : H l = some (.lst xs)) (hdd : Deeds H row xs) (hi : i < row.length) (h100 : row.length ≤ 100) (h : LS H A ck U L W wv sv tm m B) (km : m.ok c) (hst : m.story.length ≤ 60000)
    (k : ∀ H' wv' sv' v10 v12, LS H' A ck U L W wv' sv' tm (starts c (i : Int) (saysAt G row i) m) B → OutA A H H' → D.nx [s0, some (.ref g), some (.ref l), some (.ref mm), some (.int c.room), s5, some (.int c.most), some (.ref A.p), some (.int (i : Int)), s9, v10, s11, v12, s13, s14] H') :
    (tFor (iList K (tCall (spLawGuessed K 4) [] E0 (tCons (tVar 1) (tCons (tLc (iList K (tSl (rSlL K) (tVar 2) (tNoPart) (tPart (tOp (rAddI) (tVar 8) (tC (.int 1)))))) (gName 14) (tYes) (tOp (rIxT K) (tVar 14) (tC (.int 1))) [14]) (tNil))))) (gName 10) (tSeq (tAsg (tOrV (tDIn (tVar 10) (tDGet (tVar 7) (tC (.str "lies")))) (tOp (rIn K false) (tVar 10) (tLc (iList K (tDGet (tVar 7) (tC (.str "way")))) (gName 13) (tYes) (tOp (rIxT K) (tVar 13) (tC (.int 0))) [13]))) (gName 12))
  (tIfS (tAnd (tTest (tChain (rLeI) (rLtI) (tC (.int 0)) (tVar 10) (tCB (rLenQ K) (tCons (tVar 3) (tNil))))) (tAnd (tNot (tB (tVar 12))) (tTest (tOp (rLtI) (tCB (rLenQ K) (tCons (tDGet (tVar 7) (tC (.str "way"))) (tNil))) (tVar 6))))) (tSeq (tDrop (tBM K "list" rAppend (tDGet (tVar 7) (tC (.str "way"))) (tCons (tTup (tCons (tVar 10) (tCons (tVar 8) (tNil)))) (tNil))))
  (tDrop (tBM K "list" rAppend (tDGet (tVar 7) (tC (.str "story"))) (tCons (tTup (tCons (tVar 8) (tCons (tC (.str "start")) (tCons (tVar 10) (tNil))))) (tNil))))) (tNext)))) D [s0, some (.ref g), some (.ref l), some (.ref mm), some (.int c.room), s5, some (.int c.most), some (.ref A.p), some (.int (i : Int)), s9, s10, s11, s12, s13, s14] H := by
  have hlen := hdd.len
  walk_at "w"
  refine w_sll (SqL.of hl) (w_new fun l1 H1 hl1 e1 h1 => ?_)
  rw [cut_take _ (by omega), show ((i : Int) + 1).toNat = i + 1 by omega] at h1
  have hd1 : Deeds H1 (row.take (i + 1)) (xs.take (i + 1)) := (hdd.keep (tk_same e1)).take
  walk_at "w"
  refine w_lcl (fun _ => true) (placeOf H1) (SqL.of h1) (small_lt (by rw [List.length_take]; omega)) (fun _ => rfl) (fun y hy H' s R rr => ?_) (fun y hy _ H' s R rr => ?_) (fun l2 H2 hl2 e2 h2 => ?_)
  · exact rr _ (Same.refl _)
  · obtain ⟨dy, _, hdy⟩ := deed_mem hd1 hy
    walk_at "w"
    refine deed_ix1 (deed_keep (tk_same s) hdy) ?_
    rw [← placeOf_at hdy]
    exact rr _ (Same.refl _)
  rw [added_all, places_of hd1] at h2
  have e12 := e1.trans e2
  walk_at "w"
  refine ⟨g, l2, G, _, rfl, gtup_same e12 gt, gok, by omega, h2, ?_, ?_, fun H3 q3 e3 hq3 h3 => ?_⟩
  · intro z
    have := congrArg List.length z
    rw [List.length_map, List.length_take, List.length_nil] at this
    omega
  · rw [List.length_map, List.length_take]
    omega
  have e13 := e12.trans e3
  have hA := h.same e13
  have nq : ¬ InA A q3 := (h.same e12).notIn hq3
  have hm3 := e13 _ _ hm
  walk_at "w"
  refine w_forl (fun j σ H' => ∃ wv' sv' v10 v12, σ = [s0, some (.ref g), some (.ref l), some (.ref mm), some (.int c.room), s5, some (.int c.most), some (.ref A.p), some (.int (i : Int)), s9, v10, s11, v12, s13, s14] ∧ LS H' A ck U L W wv' sv' tm (starts c (i : Int) ((saysAt G row i).take j) m) B ∧ OutA A H3 H')
    (SqL.of h3) ⟨wv, sv, _, _, rfl, hA, .refl⟩ (fun j σ H' _ p => ?_) (fun j x σ H' hx p => ?_) (fun σ H' p => ?_)
  · obtain ⟨_, _, _, _, _, _, o⟩ := p
    exact SqL.of (o _ _ h3 nq)
  · obtain ⟨wv', sv', v10, v12, rfl, h', o'⟩ := p
    rw [List.getElem?_map] at hx
    obtain ⟨q, hq, rfl⟩ := Option.map_eq_some_iff.mp hx
    have hq : (saysAt G row i)[j]? = some q := hq
    have kj := starts_ok (c := c) (t := (i : Int)) ((saysAt G row i).take j) km
    have sl := starts_len c (i : Int) ((saysAt G row i).take j) m
    have km1 := kj.most
    have km0 := km.most
    refine w_name ?_
    refine run_begin (SqT.of (hA.tk o' _ _ hm3)) h' m4 km1 (by omega) (fun H4 wv4 sv4 v12' h4 o4 => ?_)
    refine ⟨wv4, sv4, _, _, rfl, ?_, o'.trans .refl o4⟩
    rw [take_more' hq]
    unfold starts
    rw [List.foldl_append]
    exact h4
  · obtain ⟨wv', sv', v10, v12, rfl, h', o'⟩ := p
    rw [List.length_map] at h'
    have h' : LS H' A ck U L W wv' sv' tm (starts c (i : Int) ((saysAt G row i).take (saysAt G row i).length) m) B := h'
    rw [List.take_length] at h'
    exact k H' wv' sv' v10 v12 h' (fun b o hb n => o' b o (e13 b o hb) n)
end
end SwD
set_option Elab.async false
set_option linter.all false
set_option maxRecDepth 100000
set_option maxHeartbeats 4000000
namespace SwD
open PySem PySem.Spec PyProof.Rows L2 SwX StX Sw
local macro_rules | `(tactic| walk_at "lk") => `(tactic| first | exact lk_at | exact lk_no | ((refine' lk_by (by decide +kernel) ?wq); (case wq => walk_at "lk")))
local macro_rules | `(tactic| walk_at "pf") => `(tactic| first | exact pf_at | exact pf_nil | ((refine' pf_by (by decide +kernel) ?wq); (case wq => walk_at "pf")))
local macro_rules | `(tactic| walk_at "w1") => `(tactic| with_reducible first
  | refine w_seq ?_ | refine w_asg ?_ | refine w_name ?_ | refine w_ret ?_ | refine w_retN ?_ | refine w_drop ?_ | refine w_next ?_ | refine w_if ?_ | refine w_ifE ?_ | refine w_test ?_ | refine w_B ?_ | refine w_bl ?_
  | refine w_not ?_ | refine w_and ?_ | refine w_or ?_ | refine w_andV ?_ | refine w_orV ?_ | refine w_notV ?_ | refine w_isN ?_ | refine w_notN ?_ | refine w_yes ?_
  | refine w_c ?_ | refine w_op ?_ | refine w_un ?_ | refine w_i0 ?_ | refine w_neg ?_ | refine w_nil ?_ | refine w_cons ?_ | refine w_cb ?_ | refine w_call ?_ | refine w_tup ?_ | refine w_lst ?_
  | refine w_fld ?_ | refine w_sfld ?_ | refine w_match ?_ | refine w_case ?_ | refine w_mcons ?_ | refine w_mnil ?_ | refine w_mcap ?_ | refine w_many ?_ | refine w_myes ?_
  | refine w_sub ?_ | refine w_bm ?_ | refine w_sl ?_ | refine w_nopart ?_ | refine w_part ?_ | refine w_int ?_ | refine w_ift ?_ | refine w_iff ?_ | refine w_ifn ?_ | refine w_dget2 ?_ | refine w_star ?_ | refine w_dput ?_ | refine w_dnewK ?_ | refine w_meth ?_ | refine w_oneOf ?_ | refine w_make ?_ | refine w_lc ?_ | refine w_for ?_ | refine w_ilist ?_ | refine w_irng1 ?_ | refine w_irng2 ?_ | refine w_irng3 ?_)
local macro_rules | `(tactic| walk_at "w2") => `(tactic| first
  | ((with_reducible refine' w_var ?wh ?_); (case wh => rfl))
  | ((with_reducible refine' w_eq ?wh ?_); (case wh => rfl))
  | ((with_reducible refine' w_ne ?wh ?_); (case wh => rfl))
  | ((with_reducible refine' w_mno ?wh ?_); (case wh => decide +kernel))
  | ((with_reducible refine' w_mhit ?wh ?wl ?_); (case wh => assumption); (case wl => rfl))
  | ((with_reducible refine' w_mmiss ?wh ?wl ?_); (case wh => assumption); (case wl => simp))
  | ((with_reducible refine' w_fldA ?wh ?wc ?wn ?wl ?_); (case wh => first | assumption | exact upd_same); (case wc => assumption); (case wn => assumption); (case wl => walk_at "lk"))
  | ((with_reducible refine' w_ixl ?wh ?we ?_); (case wh => exact SqL.of (by first | assumption | exact upd_same)); (case we => rfl))
  | ((with_reducible refine' w_ixt ?wh ?we ?_); (case wh => assumption); (case we => rfl))
  | ((with_reducible refine' w_ifT ?wh ?_); (case wh => (with_reducible exact Eq.refl _)))
  | ((with_reducible refine' w_ifF ?wh ?_); (case wh => decide +kernel))
  | ((with_reducible refine' w_isiY ?wh ?wk ?_); (case wh => first | exact .int _ | exact .str _ | exact .lst (by assumption) | exact .tup (by assumption)); (case wk => decide +kernel))
  | ((with_reducible refine' w_isiN ?wh ?wk ?_); (case wh => first | exact .int _ | exact .str _ | exact .lst (by assumption) | exact .tup (by assumption)); (case wk => decide +kernel))
  | ((with_reducible refine' w_ifF ?wh ?_); (case wh => (intro z; cases z; done)))
  | ((with_reducible refine' w_setl ?wh ?we ?wl ?_); (case wh => first | assumption | exact upd_same); (case we => rfl); (case wl => rfl))
  | ((with_reducible refine' w_methA ?wh ?wl ?_); (case wh => first | assumption | exact upd_same); (case wl => walk_at "lk"))
  | ((with_reducible refine' w_sfldB ?wc ?wn ?wz ?wl ?_); (case wc => assumption); (case wn => assumption); (case wz => simp); (case wl => walk_at "pf"))
  | ((with_reducible refine' w_sfldA ?wh ?wc ?wn ?wz ?wl ?_); (case wh => assumption); (case wc => assumption); (case wn => assumption); (case wz => simp); (case wl => walk_at "pf")))
local macro_rules | `(tactic| walk_at "w") => `(tactic| repeat (first | walk_at "w1" | walk_at "w2" | (dsimp only [List.set, setAll, List.append, List.cons_append, List.nil_append])))
local macro_rules | `(tactic| walk_at "w1") => `(tactic| with_reducible first | refine w_rev ?_ | refine w_enum ?_ | refine w_itup' ?_ | refine w_bm0 ?_ | refine w_gcons ?_ | refine w_gnil ?_ | refine w_tm1' ?_ | refine w_tru ?_)
local macro_rules | `(tactic| walk_at "w1") => `(tactic| with_reducible first | refine w_dget ?_ | refine w_din ?_ | refine w_dpop ?_ | refine w_ddel ?_ | refine w_iitems ?_ | refine w_dnotin ?_ | refine w_chain ?_)
local macro_rules | `(tactic| walk_at "w2") => `(tactic| first
  | ((with_reducible refine' w_gfldB ?wv ?wc ?wn ?wz ?wl ?_); (case wv => rfl); (case wc => assumption); (case wn => assumption); (case wz => simp); (case wl => walk_at "pf"))
  | ((with_reducible refine' w_gfldA ?wv ?wh ?wc ?wn ?wz ?wl ?_); (case wv => rfl); (case wh => assumption); (case wc => assumption); (case wn => assumption); (case wz => simp); (case wl => walk_at "pf")))
local macro_rules | `(tactic| walk_at "w1") => `(tactic| with_reducible first | refine w_ienumT ?_ | refine w_kget ?_ | refine w_allT ?_)
local macro_rules | `(tactic| walk_at "s1") => `(tactic| first
  | exact sd_lies | exact sd_used | exact sd_waits | exact sd_way | exact sd_story | exact sd_cells | exact sd_answers | exact sd_clock)
local macro_rules | `(tactic| walk_at "s2") => `(tactic| first
  | (with_reducible refine w_dget ?_) | (with_reducible refine w_din ?_) | (with_reducible refine w_dpop ?_) | (with_reducible refine w_ikeys ?_)
  | ((refine' w_stG ?wh ?we ?_); (case wh => assumption); (case we => walk_at "s1")))
local macro_rules | `(tactic| walk_at "s") => `(tactic| repeat (first | walk_at "w1" | walk_at "w2" | walk_at "s2" | (dsimp only [List.set, setAll, List.append, List.cons_append, List.nil_append])))

section
variable {K : PySem.W.Frag} {H : Hp} {A : Ads} {ck : Int} {U L : List (Key × V)} {W : List Int} {wv sv : List V} {tm : Int → Int} {m : Mc} {B : Nat}
theorem on_num {sh : List En} {q : Int} (h : onShelf sh q = true) : ∃ e, e ∈ sh ∧ e.pl = q ∧ Sw.numAt sh q = e.num := by
  obtain ⟨e0, he0, ep0⟩ := onShelf_iff.mp h
  cases hf : sh.find? fun e => decide (e.pl = q) with
  | none => exact absurd ep0 (by simpa using List.find?_eq_none.mp hf e0 he0)
  | some e =>
    refine ⟨e, List.mem_of_find?_eq_some hf, by simpa using List.find?_some hf, ?_⟩
    unfold Sw.numAt
    rw [hf]
/-- the deed of a turn -/
theorem run_act {c : Cfg} {i : Nat} {row : List Deed} {xs : List V} {l : Addr} {d : Deed} {D : Ends} {s0 s1 s3 s4 s5 s6 s10 s11 s12 s13 s14 : Option V}
    (hl : H l = some (.lst xs)) (hdd : Deeds H row xs) (hi : row[i]? = some d) (h : LS H A ck U L W wv sv tm m B) (hb : B ≤ 70000) (hon : onShelf m.shelf d.1 = true) (d0 : 0 ≤ d.1) (d1 : d.1 < (m.cells.length : Int)) (ha : m.answers.length ≤ 1000) (hsh : m.shelf.length ≤ 100)
    (k : ∀ H' L', LS H' A ck U L' W wv sv tm (act d m) B → OutA A H H' → D.nx [s0, s1, some (.ref l), s3, s4, s5, s6, some (.ref A.p), some (.int (i : Int)), some (.int d.1), s10, s11, s12, s13, s14] H') :
    (tIfS (tTest (tOp (rEq) (tOp (rIxT K) (tOp (rIxL K) (tVar 2) (tVar 8)) (tC (.int 0))) (tC (.str "read")))) (tDrop (tBM K "list" rAppend (tDGet (tVar 7) (tC (.str "answers"))) (tCons (tDGet (tDGet (tVar 7) (tC (.str "lies"))) (tVar 9)) (tNil)))) (tSeq (sDPut (tDGet (tVar 7) (tC (.str "lies"))) (tVar 9) (tOp (rIxT K) (tOp (rIxL K) (tVar 2) (tVar 8)) (tC (.int 2))))
  (tAsg (tOp (rIxT K) (tOp (rIxL K) (tVar 2) (tVar 8)) (tC (.int 2))) (gSub (tDGet (tVar 7) (tC (.str "cells"))) (tVar 9) rSetL)))) D [s0, s1, some (.ref l), s3, s4, s5, s6, some (.ref A.p), some (.int (i : Int)), some (.int d.1), s10, s11, s12, s13, s14] H := by
  obtain ⟨v, hv, dd⟩ := hdd.at hi
  have hx := at_row hv
  unfold DeedAt at dd
  cases e : d.2 with
  | none =>
    rw [e] at dd
    obtain ⟨q, rfl, hq⟩ := dd
    walk_at "w"
    refine w_ixl (SqL.of hl) hx ?_
    walk_at "w"
    refine w_ixt (SqT.of hq) rfl ?_
    walk_at "s"
    refine ⟨.inl ⟨rfl, _, SqL.of h.hanswers⟩, ?_⟩
    walk_at "s"
    obtain ⟨e0, he0, ep, en⟩ := on_num hon
    refine w_dgetI (.inl h.hlies) (by rw [← ep]; exact h.num he0) ?_
    walk_at "s"
    refine w_app h.hanswers (small_lt (by rw [List.length_map]; omega)) ?_
    have h1 := h.answer (x := e0.num)
    rw [show m.answers.map V.int ++ [V.int e0.num] = (m.answers ++ [e0.num]).map V.int from by rw [List.map_append]; rfl]
    refine k _ L ?_ (outA_upd (.inr (.inr (.inr (.inr (.inr (.inr (.inr rfl)))))) : InA A A.answers))
    have ea : act d m = { m with answers := m.answers ++ [e0.num] } := by
      unfold act
      rw [e]
      show { m with answers := m.answers ++ [Sw.numAt m.shelf d.1] } = _
      rw [en]
    rw [ea]
    exact h1
  | some n =>
    rw [e] at dd
    obtain ⟨q, rfl, hq⟩ := dd
    walk_at "w"
    refine w_ixl (SqL.of hl) hx ?_
    walk_at "w"
    refine w_ixt (SqT.of hq) rfl ?_
    walk_at "s"
    refine w_ixl (SqL.of hl) hx ?_
    walk_at "w"
    refine w_ixt (SqT.of hq) rfl ?_
    walk_at "s"
    have hL : L.length < sizeLine := by
      have := h.perm.length_eq
      rw [List.length_map] at this
      exact small_lt (by omega)
    refine w_putI h.hlies hL ?_
    have h1 := h.write (q := d.1) (v := n) hon
    have o1 : OutA A H _ := outA_upd (H := H) (u := .dK (putK L (Sum.inl d.1 : Key) (.int n))) (.inr (.inr (.inr (.inr (.inr (.inl rfl))))) : InA A A.lies)
    have tk1 : TKeep H (upd H A.lies (.dK (putK L (Sum.inl d.1 : Key) (.int n)))) := tk_dk h.hlies
    have hl1 : upd H A.lies (.dK (putK L (Sum.inl d.1 : Key) (.int n))) l = some (.lst xs) := by
      rw [upd_ne (ld_ne hl h.hlies)]
      exact hl
    have hq1 := tk1 _ _ hq
    generalize upd H A.lies (.dK (putK L (Sum.inl d.1 : Key) (.int n))) = H1 at h1 o1 tk1 hl1 hq1 ⊢
    walk_at "w"
    refine w_ixl (SqL.of hl1) hx ?_
    walk_at "w"
    refine w_ixt (SqT.of hq1) rfl ?_
    walk_at "s"
    refine w_setl (xs := m.cells.map V.int) (ys := (m.cells.set d.1.toNat n).map V.int) h1.hcells (by rw [List.length_map]; exact atN d0 d1) (by rw [List.map_set]) ?_
    have h2 := h1.cell (cs := m.cells.set d.1.toNat n)
    refine k _ (putK L (Sum.inl d.1 : Key) (.int n)) ?_ (o1.trans .refl (outA_upd (.inr (.inl rfl) : InA A A.cells)))
    have ea : act d m = { m with shelf := m.shelf.map (renum d.1 n), cells := m.cells.set d.1.toNat n } := by
      unfold act
      rw [e]
      rfl
    rw [ea]
    exact h2
/-- a turn -/
theorem run_turn {c : Cfg} {i : Nat} {row : List Deed} {xs : List V} {G : Sw.G} {g l mm : Addr} {d : Deed} {D : Ends} {s0 s9 s10 s11 s12 s13 s14 : Option V} (fit : Cfg.fit c) (hm : H mm = some (.tup (c.mem.map V.int))) (gt : GTup H G g) (gok : G.ok) (dp : G.depth ≤ 3)
    (hl : H l = some (.lst xs)) (nl : ¬ InA A l) (hdd : Deeds H row xs) (hi : row[i]? = some d) (hd : 0 ≤ d.1 ∧ d.1 < (c.mem.length : Int)) (h100 : row.length ≤ 100) (h : LS H A ck U L W wv sv tm m B) (km : m.ok c) (hb : B ≤ 50000) (hst : m.story.length ≤ 50000) (han : m.answers.length ≤ 1000)
    (k : ∀ H' A' ck' U' L' W' wv' sv' tm' v9 v10 v11 v12 v13 v14, LS H' A' ck' U' L' W' wv' sv' tm' (turn c (saysAt G row i) (i : Int) d m) (B + 14) → Grown H A A' → OutA A H H' → D.nx [s0, some (.ref g), some (.ref l), some (.ref mm), some (.int c.room), some (.int c.late), some (.int c.most), some (.ref A'.p), some (.int (i : Int)), v9, v10, v11, v12, v13, v14] H') :
    (tSeq (tAsg (tOp (rIxT K) (tOp (rIxL K) (tVar 2) (tVar 8)) (tC (.int 1))) (gName 9))
  (tSeq (tFor (iList K (tLc (iList K (tDGet (tVar 7) (tC (.str "way")))) (gName 13) (tTest (tOp (rLtI) (tOp (rAddI) (tOp (rIxT K) (tVar 13) (tC (.int 1))) (tVar 5)) (tVar 8))) (tVar 13) [13])) (gTup K 2 (gCons (gName 10) (gCons (gName 11) (gNil)))) (tSeq (tDrop (tCall (spLaid K) [] E0 (tCons (tVar 7) (tCons (tVar 4) (tCons (tVar 8) (tCons (tVar 10) (tCons (tC (.str "come")) (tNil))))))))
  (tDrop (tBM K "list" rAppend (tDGet (tVar 7) (tC (.str "waits"))) (tCons (tVar 10) (tNil))))))
  (tSeq (sDPut (tVar 7) (tC (.str "way")) (tLc (iList K (tDGet (tVar 7) (tC (.str "way")))) (gName 13) (tTest (tOp (rGeI) (tOp (rAddI) (tOp (rIxT K) (tVar 13) (tC (.int 1))) (tVar 5)) (tVar 8))) (tVar 13) [13]))
  (tSeq (tDrop (tCall (spAsked K) [] E0 (tCons (tVar 7) (tCons (tVar 4) (tCons (tVar 8) (tCons (tVar 9) (tNil)))))))
  (tSeq (tIfS (tTest (tOp (rEq) (tOp (rIxT K) (tOp (rIxL K) (tVar 2) (tVar 8)) (tC (.int 0))) (tC (.str "read")))) (tDrop (tBM K "list" rAppend (tDGet (tVar 7) (tC (.str "answers"))) (tCons (tDGet (tDGet (tVar 7) (tC (.str "lies"))) (tVar 9)) (tNil)))) (tSeq (sDPut (tDGet (tVar 7) (tC (.str "lies"))) (tVar 9) (tOp (rIxT K) (tOp (rIxL K) (tVar 2) (tVar 8)) (tC (.int 2))))
  (tAsg (tOp (rIxT K) (tOp (rIxL K) (tVar 2) (tVar 8)) (tC (.int 2))) (gSub (tDGet (tVar 7) (tC (.str "cells"))) (tVar 9) rSetL))))
  (tFor (iList K (tCall (spLawGuessed K 4) [] E0 (tCons (tVar 1) (tCons (tLc (iList K (tSl (rSlL K) (tVar 2) (tNoPart) (tPart (tOp (rAddI) (tVar 8) (tC (.int 1)))))) (gName 14) (tYes) (tOp (rIxT K) (tVar 14) (tC (.int 1))) [14]) (tNil))))) (gName 10) (tSeq (tAsg (tOrV (tDIn (tVar 10) (tDGet (tVar 7) (tC (.str "lies")))) (tOp (rIn K false) (tVar 10) (tLc (iList K (tDGet (tVar 7) (tC (.str "way")))) (gName 13) (tYes) (tOp (rIxT K) (tVar 13) (tC (.int 0))) [13]))) (gName 12))
  (tIfS (tAnd (tTest (tChain (rLeI) (rLtI) (tC (.int 0)) (tVar 10) (tCB (rLenQ K) (tCons (tVar 3) (tNil))))) (tAnd (tNot (tB (tVar 12))) (tTest (tOp (rLtI) (tCB (rLenQ K) (tCons (tDGet (tVar 7) (tC (.str "way"))) (tNil))) (tVar 6))))) (tSeq (tDrop (tBM K "list" rAppend (tDGet (tVar 7) (tC (.str "way"))) (tCons (tTup (tCons (tVar 10) (tCons (tVar 8) (tNil)))) (tNil))))
  (tDrop (tBM K "list" rAppend (tDGet (tVar 7) (tC (.str "story"))) (tCons (tTup (tCons (tVar 8) (tCons (tC (.str "start")) (tCons (tVar 10) (tNil))))) (tNil))))) (tNext))))))))) D [s0, some (.ref g), some (.ref l), some (.ref mm), some (.int c.room), some (.int c.late), some (.int c.most), some (.ref A.p), some (.int (i : Int)), s9, s10, s11, s12, s13, s14] H := by
  obtain ⟨v, hv, dd⟩ := hdd.at hi
  have ok := fit.ok
  have hil := (List.getElem?_eq_some_iff.mp hi).1
  walk_at "w"
  refine w_ixl (SqL.of hl) (at_row hv) ?_
  walk_at "w"
  refine deed_ix1 dd ?_
  refine w_name ?_
  refine w_seq (run_coming ok km fit.room8 fit.most4 h (by omega) (by omega) fun H1 A1 ck1 U1 L1 W1 sv1 tm1 v10 v11 h1 g1 ew1 o1 => ?_)
  have k1 := arrive_ok ok (t := (i : Int)) km
  have tk1 := h.tk o1
  have st1 : (arrive c (i : Int) m).story.length ≤ m.story.length + 8 := by
    have h1 := lays_len c (i : Int) (m.way.filter (due c (i : Int))) { m with way := m.way.filter fun x => !due c (i : Int) x }
    have h5 := List.length_filter_le (due c (i : Int)) m.way
    have h6 := km.most
    have h7 := fit.most4
    have h1 : (arrive c (i : Int) m).story.length ≤ m.story.length + 2 * (m.way.filter (due c (i : Int))).length := h1
    omega
  have hw1 := h1.ways.len
  have hw1 : m.way.length = wv.length := hw1
  have hmst := km.most
  have hm4 := fit.most4
  -- what is still on the way
  dsimp only
  refine w_seq (w_dput ?_)
  refine w_lc (w_ilist (w_dget ?_))
  walk_at "s"
  refine w_lcl (fun v => !dueV H1 c (i : Int) v) id (SqL.of h1.hway) (small_lt (by omega)) (fun _ => rfl) (fun v hv H' s R rr => ?_) (fun v hv _ H' s R rr => ?_) (fun y H2 hy e2 h2y => ?_)
  · obtain ⟨x, _, hx⟩ := h1.ways.mem hv
    have ex := wayOf_at hx
    obtain ⟨b, rfl, hb⟩ := hx
    walk_at "w"
    refine w_ixt (SqT.of (s _ _ hb)) (v := .int x.2) rfl ?_
    walk_at "w"
    have e8 : (!dueV H1 c (i : Int) (.ref b)) = decide (x.2 + c.late ≥ (i : Int)) := by
      unfold dueV due
      rw [ex]
      by_cases z : x.2 + c.late < (i : Int)
      · rw [decide_eq_true z, decide_eq_false (by omega)]; rfl
      · rw [decide_eq_false z, decide_eq_true (by omega)]; rfl
    rw [← e8]
    exact rr _ (Same.refl _)
  · walk_at "w"
    exact rr _ (Same.refl _)
  rw [added_id] at h2y
  have h2 := h1.same e2
  walk_at "s"
  refine w_putS h2.hp (by show 8 < sizeLine; decide) put_way ?_
  have h3 := h2.reway (y := y) (wv' := wv.filter fun v => !dueV H1 c (i : Int) v) (way' := m.way.filter fun x => !due c (i : Int) x) h2y ((h1.ways.filter fun x v hx => by unfold dueV; rw [wayOf_at hx]).imp (way_keep (tk_same e2))) (fun b hb => inA_ne h1 hy hb)
  have o3 : OutA A1 H2 _ := outA_upd (H := H2) (u := .dK (sd { A1 with way := y } ck1)) (.inl rfl : InA A1 A1.p)
  have g3 : Grown H1 A1 { A1 with way := y } := ⟨rfl, rfl, rfl, rfl, rfl, rfl, .inl (.inr (.inr (.inr (.inl rfl)))), .inr hy⟩
  have o13 : OutA A1 H1 _ := (outA_same e2).trans .refl o3
  generalize upd H2 A1.p (.dK (sd { A1 with way := y } ck1)) = H3 at h3 o3 o13 ⊢
  have em : ({ ({ arrive c (i : Int) m with way := m.way } : Mc) with way := m.way.filter fun x => !due c (i : Int) x } : Mc) = arrive c (i : Int) m := by
    have := arrive_way c (i : Int) m
    generalize arrive c (i : Int) m = m1 at this ⊢
    cases m1
    cases this
    rfl
  rw [em] at h3
  have g03 := g1.trans o1 g3
  have o03 := OutA.trans g1 o1 o13
  -- the ask
  have hcl : (arrive c (i : Int) m).cells.length = c.mem.length := k1.cells
  have k1m := k1.most
  walk_at "s"
  refine ⟨{ A1 with way := y }, ck1, U1, L1, W1, _, sv1, tm1, _, B + 4, c.room, (i : Int), d.1, rfl, h3, ok.room1, fit.room8, k1.room, hd.1, by omega, by omega, by omega, by omega, fun H4 A4 ck4 U4 L4 W4 wv4 sv4 tm4 hh4 g4 o4 => ?_⟩
  have h4 := hh4 c rfl
  have k4 := asked_ok ok (t := (i : Int)) (p := d.1) k1 hd
  have g04 := g03.trans o03 g4
  have o04 := OutA.trans g03 o03 o4
  have tk4 := h.tk o04
  have hl4 := o04 _ _ hl nl
  have on4 : onShelf (asked c (i : Int) d.1 (arrive c (i : Int) m)).shelf d.1 = true := by
    obtain ⟨r, n, e⟩ := asked_last c (i : Int) d.1 (arrive c (i : Int) m)
    exact onShelf_iff.mpr ⟨⟨d.1, n, false⟩, by rw [e]; simp, rfl⟩
  have st4 := asked_len c (i : Int) d.1 (arrive c (i : Int) m)
  have an4 : (asked c (i : Int) d.1 (arrive c (i : Int) m)).answers = m.answers := by
    rw [(asked_cells c (i : Int) d.1 _).2, arrive_answers]
  have sh4 := k4.room
  have r8 := fit.room8
  dsimp only
  rw [show ({ A1 with way := y } : Ads).p = A4.p from g4.1.symm]
  refine w_seq (run_act (c := c) hl4 (hdd.keep tk4) hi h4 (by omega) on4 hd.1 (by rw [k4.cells]; exact hd.2) (by rw [an4]; exact han) (by omega) fun H5 L5 h5 o5 => ?_)
  have k5 := act_ok (d := d) k4
  have o05 := OutA.trans g04 o04 o5
  have tk5 := h.tk o05
  have st5 : (act d (asked c (i : Int) d.1 (arrive c (i : Int) m))).story = (asked c (i : Int) d.1 (arrive c (i : Int) m)).story := act_story d _
  dsimp only
  refine run_starts fit.most4 (tk5 _ _ hm) (gtup_keep (fun b ys z => tk5 _ _ z) gt) gok dp (o05 _ _ hl nl) (hdd.keep tk5) hil h100 h5 k5 (by rw [st5]; omega) (fun H6 wv6 sv6 v10 v12 h6 o6 => ?_)
  exact k H6 A4 _ _ _ _ _ _ _ _ _ _ _ _ _ (h6.more (by omega)) g04 (OutA.trans g04 o05 o6)
end
end SwD
set_option Elab.async false
set_option linter.all false
set_option maxRecDepth 100000
set_option maxHeartbeats 4000000
namespace SwD
open PySem PySem.Spec PyProof.Rows L2 SwX StX Sw
local macro_rules | `(tactic| walk_at "lk") => `(tactic| first | exact lk_at | exact lk_no | ((refine' lk_by (by decide +kernel) ?wq); (case wq => walk_at "lk")))
local macro_rules | `(tactic| walk_at "pf") => `(tactic| first | exact pf_at | exact pf_nil | ((refine' pf_by (by decide +kernel) ?wq); (case wq => walk_at "pf")))
local macro_rules | `(tactic| walk_at "w1") => `(tactic| with_reducible first
  | refine w_seq ?_ | refine w_asg ?_ | refine w_name ?_ | refine w_ret ?_ | refine w_retN ?_ | refine w_drop ?_ | refine w_next ?_ | refine w_if ?_ | refine w_ifE ?_ | refine w_test ?_ | refine w_B ?_ | refine w_bl ?_
  | refine w_not ?_ | refine w_and ?_ | refine w_or ?_ | refine w_andV ?_ | refine w_orV ?_ | refine w_notV ?_ | refine w_isN ?_ | refine w_notN ?_ | refine w_yes ?_
  | refine w_c ?_ | refine w_op ?_ | refine w_un ?_ | refine w_i0 ?_ | refine w_neg ?_ | refine w_nil ?_ | refine w_cons ?_ | refine w_cb ?_ | refine w_call ?_ | refine w_tup ?_ | refine w_lst ?_
  | refine w_fld ?_ | refine w_sfld ?_ | refine w_match ?_ | refine w_case ?_ | refine w_mcons ?_ | refine w_mnil ?_ | refine w_mcap ?_ | refine w_many ?_ | refine w_myes ?_
  | refine w_sub ?_ | refine w_bm ?_ | refine w_sl ?_ | refine w_nopart ?_ | refine w_part ?_ | refine w_int ?_ | refine w_ift ?_ | refine w_iff ?_ | refine w_ifn ?_ | refine w_dget2 ?_ | refine w_star ?_ | refine w_dput ?_ | refine w_dnewK ?_ | refine w_meth ?_ | refine w_oneOf ?_ | refine w_make ?_ | refine w_lc ?_ | refine w_for ?_ | refine w_ilist ?_ | refine w_irng1 ?_ | refine w_irng2 ?_ | refine w_irng3 ?_)
local macro_rules | `(tactic| walk_at "w2") => `(tactic| first
  | ((with_reducible refine' w_var ?wh ?_); (case wh => rfl))
  | ((with_reducible refine' w_eq ?wh ?_); (case wh => rfl))
  | ((with_reducible refine' w_ne ?wh ?_); (case wh => rfl))
  | ((with_reducible refine' w_mno ?wh ?_); (case wh => decide +kernel))
  | ((with_reducible refine' w_mhit ?wh ?wl ?_); (case wh => assumption); (case wl => rfl))
  | ((with_reducible refine' w_mmiss ?wh ?wl ?_); (case wh => assumption); (case wl => simp))
  | ((with_reducible refine' w_fldA ?wh ?wc ?wn ?wl ?_); (case wh => first | assumption | exact upd_same); (case wc => assumption); (case wn => assumption); (case wl => walk_at "lk"))
  | ((with_reducible refine' w_ixl ?wh ?we ?_); (case wh => exact SqL.of (by first | assumption | exact upd_same)); (case we => rfl))
  | ((with_reducible refine' w_ixt ?wh ?we ?_); (case wh => assumption); (case we => rfl))
  | ((with_reducible refine' w_ifT ?wh ?_); (case wh => (with_reducible exact Eq.refl _)))
  | ((with_reducible refine' w_ifF ?wh ?_); (case wh => decide +kernel))
  | ((with_reducible refine' w_isiY ?wh ?wk ?_); (case wh => first | exact .int _ | exact .str _ | exact .lst (by assumption) | exact .tup (by assumption)); (case wk => decide +kernel))
  | ((with_reducible refine' w_isiN ?wh ?wk ?_); (case wh => first | exact .int _ | exact .str _ | exact .lst (by assumption) | exact .tup (by assumption)); (case wk => decide +kernel))
  | ((with_reducible refine' w_ifF ?wh ?_); (case wh => (intro z; cases z; done)))
  | ((with_reducible refine' w_setl ?wh ?we ?wl ?_); (case wh => first | assumption | exact upd_same); (case we => rfl); (case wl => rfl))
  | ((with_reducible refine' w_methA ?wh ?wl ?_); (case wh => first | assumption | exact upd_same); (case wl => walk_at "lk"))
  | ((with_reducible refine' w_sfldB ?wc ?wn ?wz ?wl ?_); (case wc => assumption); (case wn => assumption); (case wz => simp); (case wl => walk_at "pf"))
  | ((with_reducible refine' w_sfldA ?wh ?wc ?wn ?wz ?wl ?_); (case wh => assumption); (case wc => assumption); (case wn => assumption); (case wz => simp); (case wl => walk_at "pf")))
local macro_rules | `(tactic| walk_at "w") => `(tactic| repeat (first | walk_at "w1" | walk_at "w2" | (dsimp only [List.set, setAll, List.append, List.cons_append, List.nil_append])))
local macro_rules | `(tactic| walk_at "w1") => `(tactic| with_reducible first | refine w_rev ?_ | refine w_enum ?_ | refine w_itup' ?_ | refine w_bm0 ?_ | refine w_gcons ?_ | refine w_gnil ?_ | refine w_tm1' ?_ | refine w_tru ?_)
local macro_rules | `(tactic| walk_at "w1") => `(tactic| with_reducible first | refine w_dget ?_ | refine w_din ?_ | refine w_dpop ?_ | refine w_ddel ?_ | refine w_iitems ?_ | refine w_dnotin ?_ | refine w_chain ?_)
local macro_rules | `(tactic| walk_at "w2") => `(tactic| first
  | ((with_reducible refine' w_gfldB ?wv ?wc ?wn ?wz ?wl ?_); (case wv => rfl); (case wc => assumption); (case wn => assumption); (case wz => simp); (case wl => walk_at "pf"))
  | ((with_reducible refine' w_gfldA ?wv ?wh ?wc ?wn ?wz ?wl ?_); (case wv => rfl); (case wh => assumption); (case wc => assumption); (case wn => assumption); (case wz => simp); (case wl => walk_at "pf")))
local macro_rules | `(tactic| walk_at "w1") => `(tactic| with_reducible first | refine w_ienumT ?_ | refine w_kget ?_ | refine w_allT ?_)
local macro_rules | `(tactic| walk_at "s1") => `(tactic| first
  | exact sd_lies | exact sd_used | exact sd_waits | exact sd_way | exact sd_story | exact sd_cells | exact sd_answers | exact sd_clock)
local macro_rules | `(tactic| walk_at "s2") => `(tactic| first
  | (with_reducible refine w_dget ?_) | (with_reducible refine w_din ?_) | (with_reducible refine w_dpop ?_) | (with_reducible refine w_ikeys ?_)
  | ((refine' w_stG ?wh ?we ?_); (case wh => assumption); (case we => walk_at "s1")))
local macro_rules | `(tactic| walk_at "s") => `(tactic| repeat (first | walk_at "w1" | walk_at "w2" | walk_at "s2" | (dsimp only [List.set, setAll, List.append, List.cons_append, List.nil_append])))

section
variable {K : PySem.W.Frag}
/-- the law's own run: all it makes is new -/
def spLawRun (K : PySem.W.Frag) : Sp := fun vs H Q _ => ∃ (a g l : Addr) (c : Cfg) (G : Sw.G) (row : List Deed) (xs : List V), vs = [.ref a, .ref g, .ref l] ∧ SetAt H a c ∧ Cfg.fit c ∧ GTup H G g ∧ G.ok ∧ G.depth ≤ 3 ∧ H l = some (.lst xs) ∧ Deeds H row xs ∧ rowOk c row ∧ row.length ≤ 100 ∧
  ∀ H' A ck U L W wv sv tm, Same H H' → LS H' A ck U L W wv sv tm (ran c G row) (14 * row.length) → (∀ b, InA A b → H b = none) → Q (.ref A.p) H'
def t_law_run (K : PySem.W.Frag) (sp_law_laid sp_law_asked sp_law_guessed : Sp) : TS := tSeq (tAsg (tVar 0) (gTup K 4 (gCons (gName 3) (gCons (gName 4) (gCons (gName 5) (gCons (gName 6) (gNil)))))))
  (tSeq (tAsg (tDisp ((tC (.str "cells"), tCB (rListOf K) (tCons (tVar 3) (tNil))) :: (tC (.str "used"), tDNewK) :: (tC (.str "waits"), tLst (tNil)) :: (tC (.str "way"), tLst (tNil)) :: (tC (.str "lies"), tDNewK) :: (tC (.str "story"), tLst (tNil)) :: (tC (.str "answers"), tLst (tNil)) :: (tC (.str "clock"), tC (.int 0)) :: [])) (gName 7))
  (tSeq (tFor (iRng1 (tCons (tCB (rLenQ K) (tCons (tVar 2) (tNil))) (tNil))) (gName 8) (tSeq (tAsg (tOp (rIxT K) (tOp (rIxL K) (tVar 2) (tVar 8)) (tC (.int 1))) (gName 9))
  (tSeq (tFor (iList K (tLc (iList K (tDGet (tVar 7) (tC (.str "way")))) (gName 13) (tTest (tOp (rLtI) (tOp (rAddI) (tOp (rIxT K) (tVar 13) (tC (.int 1))) (tVar 5)) (tVar 8))) (tVar 13) [13])) (gTup K 2 (gCons (gName 10) (gCons (gName 11) (gNil)))) (tSeq (tDrop (tCall sp_law_laid [] E0 (tCons (tVar 7) (tCons (tVar 4) (tCons (tVar 8) (tCons (tVar 10) (tCons (tC (.str "come")) (tNil))))))))
  (tDrop (tBM K "list" rAppend (tDGet (tVar 7) (tC (.str "waits"))) (tCons (tVar 10) (tNil))))))
  (tSeq (sDPut (tVar 7) (tC (.str "way")) (tLc (iList K (tDGet (tVar 7) (tC (.str "way")))) (gName 13) (tTest (tOp (rGeI) (tOp (rAddI) (tOp (rIxT K) (tVar 13) (tC (.int 1))) (tVar 5)) (tVar 8))) (tVar 13) [13]))
  (tSeq (tDrop (tCall sp_law_asked [] E0 (tCons (tVar 7) (tCons (tVar 4) (tCons (tVar 8) (tCons (tVar 9) (tNil)))))))
  (tSeq (tIfS (tTest (tOp (rEq) (tOp (rIxT K) (tOp (rIxL K) (tVar 2) (tVar 8)) (tC (.int 0))) (tC (.str "read")))) (tDrop (tBM K "list" rAppend (tDGet (tVar 7) (tC (.str "answers"))) (tCons (tDGet (tDGet (tVar 7) (tC (.str "lies"))) (tVar 9)) (tNil)))) (tSeq (sDPut (tDGet (tVar 7) (tC (.str "lies"))) (tVar 9) (tOp (rIxT K) (tOp (rIxL K) (tVar 2) (tVar 8)) (tC (.int 2))))
  (tAsg (tOp (rIxT K) (tOp (rIxL K) (tVar 2) (tVar 8)) (tC (.int 2))) (gSub (tDGet (tVar 7) (tC (.str "cells"))) (tVar 9) rSetL))))
  (tFor (iList K (tCall sp_law_guessed [] E0 (tCons (tVar 1) (tCons (tLc (iList K (tSl (rSlL K) (tVar 2) (tNoPart) (tPart (tOp (rAddI) (tVar 8) (tC (.int 1)))))) (gName 14) (tYes) (tOp (rIxT K) (tVar 14) (tC (.int 1))) [14]) (tNil))))) (gName 10) (tSeq (tAsg (tOrV (tDIn (tVar 10) (tDGet (tVar 7) (tC (.str "lies")))) (tOp (rIn K false) (tVar 10) (tLc (iList K (tDGet (tVar 7) (tC (.str "way")))) (gName 13) (tYes) (tOp (rIxT K) (tVar 13) (tC (.int 0))) [13]))) (gName 12))
  (tIfS (tAnd (tTest (tChain (rLeI) (rLtI) (tC (.int 0)) (tVar 10) (tCB (rLenQ K) (tCons (tVar 3) (tNil))))) (tAnd (tNot (tB (tVar 12))) (tTest (tOp (rLtI) (tCB (rLenQ K) (tCons (tDGet (tVar 7) (tC (.str "way"))) (tNil))) (tVar 6))))) (tSeq (tDrop (tBM K "list" rAppend (tDGet (tVar 7) (tC (.str "way"))) (tCons (tTup (tCons (tVar 10) (tCons (tVar 8) (tNil)))) (tNil))))
  (tDrop (tBM K "list" rAppend (tDGet (tVar 7) (tC (.str "story"))) (tCons (tTup (tCons (tVar 8) (tCons (tC (.str "start")) (tCons (tVar 10) (tNil))))) (tNil))))) (tNext))))))))))
  (tRet (tVar 7))))
theorem pu_law_run {vs : List V} {H : Hp} {Q : VK} {E : XK} (h : spLawRun K vs H Q E) : t_law_run K (spLaid K) (spAsked K) (spLawGuessed K 4) (B Q) (start ["_law_setting_here", "_law_guesser_here", "_law_row", "_law_memory", "_law_room", "_law_late", "_law_most", "_law_s", "_law_turn", "_law_place", "_law_one", "_law_begin", "_law_there", "_law_pair", "_law_deed"] vs) H := by
  obtain ⟨a, g, l, c, G, row, xs, rfl, ⟨mm, ha, hm⟩, fit, gt, gok, dp, hl, hdd, hr, h100, k⟩ := h
  have hlen := hdd.len
  unfold t_law_run
  walk_at "w"
  refine w_gtup (SqT.of ha) rfl ?_
  walk_at "w"
  intro p hp
  have e0 : Same H (upd H p (.dK [])) := same_upd hp
  have h0 : upd H p (.dK []) p = some (.dK []) := upd_same
  generalize upd H p (.dK []) = H0 at e0 h0 ⊢
  unfold tPairs
  walk_at "w"
  refine w_listofT (SqT.of (e0 _ _ hm)) (w_new fun a1 H1 ha1 e1 h1 => ?_)
  unfold tPairs
  walk_at "w"
  refine w_new fun a2 H2 ha2 e2 h2 => ?_
  unfold tPairs
  walk_at "w"
  refine ⟨by decide, w_new fun a3 H3 ha3 e3 h3 => ?_⟩
  unfold tPairs
  walk_at "w"
  refine ⟨by decide, w_new fun a4 H4 ha4 e4 h4 => ?_⟩
  unfold tPairs
  walk_at "w"
  refine w_new fun a5 H5 ha5 e5 h5 => ?_
  unfold tPairs
  walk_at "w"
  refine ⟨by decide, w_new fun a6 H6 ha6 e6 h6 => ?_⟩
  unfold tPairs
  walk_at "w"
  refine ⟨by decide, w_new fun a7 H7 ha7 e7 h7 => ?_⟩
  unfold tPairs
  walk_at "w"
  unfold tPairs
  have e67 := e6.trans e7
  have e57 := e5.trans e67
  have e47 := e4.trans e57
  have e37 := e3.trans e47
  have e27 := e2.trans e37
  have e17 := e1.trans e27
  have e07 : Same H H7 := e0.trans e17
  have ne : ∀ {x y : Addr} {Hx : Hp} {o : HO}, Hx x = some o → Hx y = none → x ≠ y := fun {x y Hx o} hx hy z => by rw [z, hy] at hx; cases hx
  refine ⟨e17 _ _ h0, sd ⟨p, a1, a2, a3, a4, a5, a6, a7⟩ 0, rfl, (by show 8 ≤ 15; decide), ?_⟩
  rw [show mergeK ([] : List (Key × V)) (sd ⟨p, a1, a2, a3, a4, a5, a6, a7⟩ 0) = sd ⟨p, a1, a2, a3, a4, a5, a6, a7⟩ 0 from rfl]
  have np : ∀ {x : Addr} {Hx : Hp} {o : HO}, Hx x = some o → Hx p = none → x ≠ p := fun hx hy => ne hx hy
  have p0 : H7 p = some (.dK []) := e17 _ _ h0
  have n1 : p ≠ a1 := ne h0 ha1
  have n2 : p ≠ a2 := ne (e1 _ _ h0) ha2
  have n3 : p ≠ a3 := ne (e2 _ _ (e1 _ _ h0)) ha3
  have n4 : p ≠ a4 := ne (e3 _ _ (e2 _ _ (e1 _ _ h0))) ha4
  have n5 : p ≠ a5 := ne (e4 _ _ (e3 _ _ (e2 _ _ (e1 _ _ h0)))) ha5
  have n6 : p ≠ a6 := ne (e5 _ _ (e4 _ _ (e3 _ _ (e2 _ _ (e1 _ _ h0))))) ha6
  have n7 : p ≠ a7 := ne (e6 _ _ (e5 _ _ (e4 _ _ (e3 _ _ (e2 _ _ (e1 _ _ h0)))))) ha7
  have fr : ∀ b, InA ⟨p, a1, a2, a3, a4, a5, a6, a7⟩ b → H b = none := by
    rintro b (rfl | rfl | rfl | rfl | rfl | rfl | rfl | rfl)
    · exact hp
    · exact e0.free ha1
    · exact e0.free (e1.free ha2)
    · exact e0.free (e1.free (e2.free ha3))
    · exact e0.free (e1.free (e2.free (e3.free ha4)))
    · exact e0.free (e1.free (e2.free (e3.free (e4.free ha5))))
    · exact e0.free (e1.free (e2.free (e3.free (e4.free (e5.free ha6)))))
    · exact e0.free (e1.free (e2.free (e3.free (e4.free (e5.free (e6.free ha7))))))
  have hLS : LS (upd H7 p (.dK (sd ⟨p, a1, a2, a3, a4, a5, a6, a7⟩ 0))) ⟨p, a1, a2, a3, a4, a5, a6, a7⟩ 0 [] [] [] [] [] (fun _ => 0) (fresh c) 0 := by
    refine ⟨upd_same, ?_, ?_, ?_, ?_, ?_, ?_, ?_, ⟨n2, n5, ne (e4 _ _ (e3 _ _ h2)) ha5, ne (e2 _ _ h1) ha3, ne (e3 _ _ (e2 _ _ h1)) ha4, ne (e5 _ _ (e4 _ _ (e3 _ _ (e2 _ _ h1)))) ha6, ne (e6 _ _ (e5 _ _ (e4 _ _ (e3 _ _ (e2 _ _ h1))))) ha7, ne h3 ha4, ne (e5 _ _ (e4 _ _ h3)) ha6, ne (e6 _ _ (e5 _ _ (e4 _ _ h3))) ha7, ne (e5 _ _ h4) ha6, ne (e6 _ _ (e5 _ _ h4)) ha7, ne h6 ha7⟩, (fun e he => nomatch he), List.Pairwise.nil, .nil, (fun q => ⟨(fun z => nomatch z), fun ⟨_, z, _⟩ => nomatch z⟩), List.nodup_nil, .nil, .nil, by decide, by decide, by decide⟩
    · show upd H7 p _ a1 = _
      rw [upd_ne n1.symm]; exact e27 _ _ h1
    · show upd H7 p _ a2 = _
      rw [upd_ne n2.symm]; exact e37 _ _ h2
    · show upd H7 p _ a5 = _
      rw [upd_ne n5.symm]; exact e67 _ _ h5
    · show upd H7 p _ a3 = _
      rw [upd_ne n3.symm]; exact e47 _ _ h3
    · show upd H7 p _ a4 = _
      rw [upd_ne n4.symm]; exact e57 _ _ h4
    · show upd H7 p _ a6 = _
      rw [upd_ne n6.symm]; exact e7 _ _ h6
    · show upd H7 p _ a7 = _
      rw [upd_ne n7.symm]; exact h7
  have e8 : Same H (upd H7 p (.dK (sd ⟨p, a1, a2, a3, a4, a5, a6, a7⟩ 0))) := fun b o hb => by
    rw [upd_ne (fun z => by rw [z, hp] at hb; cases hb)]
    exact e07 _ _ hb
  generalize hA : (⟨p, a1, a2, a3, a4, a5, a6, a7⟩ : Ads) = A at hLS e8 fr ⊢
  have pA : p = A.p := by rw [← hA]
  rw [pA] at hLS e8 ⊢
  generalize upd H7 A.p (.dK (sd A 0)) = H8 at hLS e8 ⊢
  walk_at "w"
  refine w_len (.inl (SqL.of (e8 _ _ hl))) ?_
  rw [← hlen]
  walk_at "w"
  refine w_forr1 (fun i σ H' => ∃ A ck U L W wv sv tm v8 v9 v10 v11 v12 v13 v14, σ = [some (.ref a), some (.ref g), some (.ref l), some (.ref mm), some (.int c.room), some (.int c.late), some (.int c.most), some (.ref A.p), v8, v9, v10, v11, v12, v13, v14] ∧ LS H' A ck U L W wv sv tm (runTo c G row i) (14 * i) ∧ Same H H' ∧ ∀ b, InA A b → H b = none) (by omega)
    ⟨A, _, _, _, _, _, _, _, _, _, _, _, _, _, _, rfl, hLS, e8, fr⟩ (fun i σ H' hi p => ?_) (fun σ H' p => ?_)
  · obtain ⟨A, ck, U, L, W, wv, sv, tm, v8, v9, v10, v11, v12, v13, v14, rfl, h, e, fr⟩ := p
    have hil : i < row.length := by omega
    obtain ⟨d, hd⟩ : ∃ d, row[i]? = some d := ⟨_, List.getElem?_eq_getElem hil⟩
    have km := runTo_ok fit.ok hr i (by omega) (g := G)
    have sl := ran_len fit.ok fit.most4 hr i (by omega) (g := G)
    have al := ans_len fit.ok hr (g := G) (i := i) (by omega)
    have nl : ¬ InA A l := fun z => by have := fr l z; rw [hl] at this; cases this
    refine w_name ?_
    refine run_turn fit (e _ _ hm) (gtup_same e gt) gok dp (e _ _ hl) nl (hdd.keep (tk_same e)) hd (hr d (List.mem_of_getElem? hd)) h100 h km (by omega) (by omega) (by omega) (fun H2 A2 ck2 U2 L2 W2 wv2 sv2 tm2 w9 w10 w11 w12 w13 w14 h2 g2 o2 => ?_)
    have ed : row.getD i (0, none) = d := by
      rw [List.getD_eq_getElem?_getD, hd]
      rfl
    have er : runTo c G row (i + 1) = turn c (saysAt G row i) (i : Int) d (runTo c G row i) := by
      show turn c (saysAt G row i) (i : Int) (row.getD i (0, none)) (runTo c G row i) = _
      rw [ed]
    rw [← er] at h2
    refine ⟨A2, _, _, _, _, _, _, _, _, _, _, _, _, _, _, rfl, h2, fun b o hb => o2 b o (e b o hb) (fun z => by have := fr b z; rw [hb] at this; cases this), fun b z => ?_⟩
    rcases g2.inA z with z | z
    · exact fr b z
    · exact e.free z
  · obtain ⟨A, ck, U, L, W, wv, sv, tm, v8, v9, v10, v11, v12, v13, v14, rfl, h, e, fr⟩ := p
    walk_at "w"
    have h : LS H' A ck U L W wv sv tm (ran c G row) (14 * row.length) := h
    exact k H' A ck U L W wv sv tm e h fr
end
end SwD
set_option Elab.async false
set_option linter.all false
set_option maxRecDepth 100000
set_option maxHeartbeats 4000000
namespace SwD
open PySem PySem.Spec PyProof.Rows L2 SwX StX Sw
/-! ### events and deeds as data -/
section
variable {K : PySem.W.Frag} {H : Hp}
def evD (e : Ev) : Dat := .tup [.int e.1, .str (wdStr e.2.1), .int e.2.2]
theorem ev_dats : ∀ {st : List Ev} {sv : List V}, All2 (EvAt H) st sv → DAll H (st.map evD) sv
  | _, _, .nil => .nil
  | _, _, .cons ⟨a, e, h⟩ t => by
    subst e
    exact .cons (.tup h (.cons (.int _) (.cons (.str _) (.cons (.int _) .nil)))) (ev_dats t)
theorem wd_ok (w : Wd) : PyData.strOk (wdStr w) = true := by cases w <;> decide +kernel
theorem evs_fit {st : List Ev} {n : Nat} (h : st.length ≤ 100000) : fits 100000 (n + 2) (.lst (st.map evD)) := by
  refine ⟨by rw [List.length_map]; exact h, fun x hx => ?_⟩
  obtain ⟨e, _, rfl⟩ := List.mem_map.mp hx
  refine ⟨by show 3 ≤ 100000; decide, fun y hy => ?_⟩
  simp only [List.mem_cons, List.not_mem_nil, or_false] at hy
  rcases hy with rfl | rfl | rfl
  · exact fits_int
  · exact fits_str (wd_ok _)
  · exact fits_int
def deedD (d : Deed) : PyData := match d.2 with
  | none => .tuple [.str "read", .int d.1]
  | some n => .tuple [.str "write", .int d.1, .int n]
theorem dp_deeds : ∀ {ds : List Deed} {xs : List V}, Deeds H ds xs → DpAll K H xs (ds.map deedD)
  | _, _, .nil => .nil
  | _, _, .cons (d := d) h t => by
    rw [List.map_cons]
    refine .cons ?_ (dp_deeds t)
    unfold DeedAt at h
    unfold deedD
    cases e : d.2 with
    | none =>
      rw [e] at h
      obtain ⟨a, rfl, h⟩ := h
      exact .tup (.of h) (.cons (.str _) (.cons (.int _) .nil))
    | some n =>
      rw [e] at h
      obtain ⟨a, rfl, h⟩ := h
      exact .tup (.of h) (.cons (.str _) (.cons (.int _) (.cons (.int _) .nil)))
theorem deed_lay (d : Deed) : PyData.canLay0 (deedD d) = true ∧ (deedD d).depth ≤ 2 := by
  unfold deedD
  cases d.2 with
  | none => exact ⟨by simp [PyData.canLay0, PyData.canLayAll0, show PyData.strOk ("read" : Str) = true by decide +kernel], by simp [PyData.depth, PyData.depthAll]⟩
  | some n => exact ⟨by simp [PyData.canLay0, PyData.canLayAll0, show PyData.strOk ("write" : Str) = true by decide +kernel], by simp [PyData.depth, PyData.depthAll]⟩
theorem deeds_shaped (ds : List Deed) : SeqAt.shaped (.list (ds.map deedD)) = true := by
  have h1 : ∀ ds : List Deed, PyData.canLayAll0 (ds.map deedD) = true := by
    intro ds
    induction ds with
    | nil => rfl
    | cons d r ih =>
      show (PyData.canLay0 (deedD d) && PyData.canLayAll0 (r.map deedD)) = true
      rw [ih, (deed_lay d).1]
      rfl
  have h2 : ∀ ds : List Deed, PyData.depthAll (ds.map deedD) ≤ 2 := by
    intro ds
    induction ds with
    | nil => decide
    | cons d r ih =>
      show max (deedD d).depth (PyData.depthAll (r.map deedD)) ≤ 2
      have := (deed_lay d).2
      omega
  unfold SeqAt.shaped
  rw [Bool.and_eq_true]
  refine ⟨h1 ds, decide_eq_true ?_⟩
  show PyData.depthAll (ds.map deedD) + 1 ≤ 64
  have := h2 ds
  omega
end
end SwD
set_option Elab.async false
set_option linter.all false
set_option maxRecDepth 100000
/-! sum(t), t a tuple of ints -/
namespace SwX
open PySem PySem.Spec PyProof.Rows L2 StX
def rSumT (K : PySem.W.Frag) : RCall := fun vs H Q => ∃ (a : Addr) (ns : List Int), vs = [V.ref a] ∧ SqT K H a (ns.map V.int) ∧ Q (.int ns.sum) H
theorem cr_sumT {X : Cx} (hc : X.calm = true) : CallR X (.builtin "sum") (rSumT X.K) := by
  intro pins s σ H vs us Q I r ⟨a, ns, ev, ht, q⟩
  subst ev
  obtain ⟨its, rv, hT, _⟩ := I.tuple ht
  rw [Vals.ref1 r]
  have hi : IntsAre its ns := rv.ints
  obtain ⟨ys, ey⟩ := hi.allInts.items
  have hs : numsOf (intItems ys).toList = ns := by
    rw [← ey]
    exact hi.numsOf
  rw [ey] at hT
  refine PySem.W.ktm_sumG (I.ok.hd hc) hT fun h' tk t' hk => ?_
  have e : preSum (PySem.numAt ys) ys.size = ns.sum := by
    rw [nums_intItems] at hs
    rw [preSum_eq, List.take_of_length_le (by simp), hs]
  exact ⟨.int ns.sum, H, I.kept hk, ⟨t', by rw [e]⟩, q⟩
theorem w_sumT {K : PySem.W.Frag} {H : Hp} {Q : VK} {a : Addr} {ns : List Int} (h : SqT K H a (ns.map V.int)) (k : Q (.int ns.sum) H) : rSumT K [.ref a] H Q := ⟨a, ns, rfl, h, k⟩
end SwX
set_option Elab.async false
set_option linter.all false
set_option maxRecDepth 100000
set_option maxHeartbeats 4000000
namespace SwD
open PySem PySem.Spec PyProof.Rows L2 SwX StX Sw
local macro_rules | `(tactic| walk_at "lk") => `(tactic| first | exact lk_at | exact lk_no | ((refine' lk_by (by decide +kernel) ?wq); (case wq => walk_at "lk")))
local macro_rules | `(tactic| walk_at "pf") => `(tactic| first | exact pf_at | exact pf_nil | ((refine' pf_by (by decide +kernel) ?wq); (case wq => walk_at "pf")))
local macro_rules | `(tactic| walk_at "w1") => `(tactic| with_reducible first
  | refine w_seq ?_ | refine w_asg ?_ | refine w_name ?_ | refine w_ret ?_ | refine w_retN ?_ | refine w_drop ?_ | refine w_next ?_ | refine w_if ?_ | refine w_ifE ?_ | refine w_test ?_ | refine w_B ?_ | refine w_bl ?_
  | refine w_not ?_ | refine w_and ?_ | refine w_or ?_ | refine w_andV ?_ | refine w_orV ?_ | refine w_notV ?_ | refine w_isN ?_ | refine w_notN ?_ | refine w_yes ?_
  | refine w_c ?_ | refine w_op ?_ | refine w_un ?_ | refine w_i0 ?_ | refine w_neg ?_ | refine w_nil ?_ | refine w_cons ?_ | refine w_cb ?_ | refine w_call ?_ | refine w_tup ?_ | refine w_lst ?_
  | refine w_fld ?_ | refine w_sfld ?_ | refine w_match ?_ | refine w_case ?_ | refine w_mcons ?_ | refine w_mnil ?_ | refine w_mcap ?_ | refine w_many ?_ | refine w_myes ?_
  | refine w_sub ?_ | refine w_bm ?_ | refine w_sl ?_ | refine w_nopart ?_ | refine w_part ?_ | refine w_int ?_ | refine w_ift ?_ | refine w_iff ?_ | refine w_ifn ?_ | refine w_dget2 ?_ | refine w_star ?_ | refine w_dput ?_ | refine w_dnewK ?_ | refine w_meth ?_ | refine w_oneOf ?_ | refine w_make ?_ | refine w_lc ?_ | refine w_for ?_ | refine w_ilist ?_ | refine w_irng1 ?_ | refine w_irng2 ?_ | refine w_irng3 ?_)
local macro_rules | `(tactic| walk_at "w2") => `(tactic| first
  | ((with_reducible refine' w_var ?wh ?_); (case wh => rfl))
  | ((with_reducible refine' w_eq ?wh ?_); (case wh => rfl))
  | ((with_reducible refine' w_ne ?wh ?_); (case wh => rfl))
  | ((with_reducible refine' w_mno ?wh ?_); (case wh => decide +kernel))
  | ((with_reducible refine' w_mhit ?wh ?wl ?_); (case wh => assumption); (case wl => rfl))
  | ((with_reducible refine' w_mmiss ?wh ?wl ?_); (case wh => assumption); (case wl => simp))
  | ((with_reducible refine' w_fldA ?wh ?wc ?wn ?wl ?_); (case wh => first | assumption | exact upd_same); (case wc => assumption); (case wn => assumption); (case wl => walk_at "lk"))
  | ((with_reducible refine' w_ixl ?wh ?we ?_); (case wh => exact SqL.of (by first | assumption | exact upd_same)); (case we => rfl))
  | ((with_reducible refine' w_ixt ?wh ?we ?_); (case wh => assumption); (case we => rfl))
  | ((with_reducible refine' w_ifT ?wh ?_); (case wh => (with_reducible exact Eq.refl _)))
  | ((with_reducible refine' w_ifF ?wh ?_); (case wh => decide +kernel))
  | ((with_reducible refine' w_isiY ?wh ?wk ?_); (case wh => first | exact .int _ | exact .str _ | exact .lst (by assumption) | exact .tup (by assumption)); (case wk => decide +kernel))
  | ((with_reducible refine' w_isiN ?wh ?wk ?_); (case wh => first | exact .int _ | exact .str _ | exact .lst (by assumption) | exact .tup (by assumption)); (case wk => decide +kernel))
  | ((with_reducible refine' w_ifF ?wh ?_); (case wh => (intro z; cases z; done)))
  | ((with_reducible refine' w_setl ?wh ?we ?wl ?_); (case wh => first | assumption | exact upd_same); (case we => rfl); (case wl => rfl))
  | ((with_reducible refine' w_methA ?wh ?wl ?_); (case wh => first | assumption | exact upd_same); (case wl => walk_at "lk"))
  | ((with_reducible refine' w_sfldB ?wc ?wn ?wz ?wl ?_); (case wc => assumption); (case wn => assumption); (case wz => simp); (case wl => walk_at "pf"))
  | ((with_reducible refine' w_sfldA ?wh ?wc ?wn ?wz ?wl ?_); (case wh => assumption); (case wc => assumption); (case wn => assumption); (case wz => simp); (case wl => walk_at "pf")))
local macro_rules | `(tactic| walk_at "w") => `(tactic| repeat (first | walk_at "w1" | walk_at "w2" | (dsimp only [List.set, setAll, List.append, List.cons_append, List.nil_append])))
local macro_rules | `(tactic| walk_at "w1") => `(tactic| with_reducible first | refine w_rev ?_ | refine w_enum ?_ | refine w_itup' ?_ | refine w_bm0 ?_ | refine w_gcons ?_ | refine w_gnil ?_ | refine w_tm1' ?_ | refine w_tru ?_)
local macro_rules | `(tactic| walk_at "w1") => `(tactic| with_reducible first | refine w_dget ?_ | refine w_din ?_ | refine w_dpop ?_ | refine w_ddel ?_ | refine w_iitems ?_ | refine w_dnotin ?_ | refine w_chain ?_)
local macro_rules | `(tactic| walk_at "w2") => `(tactic| first
  | ((with_reducible refine' w_gfldB ?wv ?wc ?wn ?wz ?wl ?_); (case wv => rfl); (case wc => assumption); (case wn => assumption); (case wz => simp); (case wl => walk_at "pf"))
  | ((with_reducible refine' w_gfldA ?wv ?wh ?wc ?wn ?wz ?wl ?_); (case wv => rfl); (case wh => assumption); (case wc => assumption); (case wn => assumption); (case wz => simp); (case wl => walk_at "pf")))
local macro_rules | `(tactic| walk_at "w1") => `(tactic| with_reducible first | refine w_ienumT ?_ | refine w_kget ?_ | refine w_allT ?_)
local macro_rules | `(tactic| walk_at "s1") => `(tactic| first
  | exact sd_lies | exact sd_used | exact sd_waits | exact sd_way | exact sd_story | exact sd_cells | exact sd_answers | exact sd_clock)
local macro_rules | `(tactic| walk_at "s2") => `(tactic| first
  | (with_reducible refine w_dget ?_) | (with_reducible refine w_din ?_) | (with_reducible refine w_dpop ?_) | (with_reducible refine w_ikeys ?_)
  | ((refine' w_stG ?wh ?we ?_); (case wh => assumption); (case we => walk_at "s1")))
local macro_rules | `(tactic| walk_at "s") => `(tactic| repeat (first | walk_at "w1" | walk_at "w2" | walk_at "s2" | (dsimp only [List.set, setAll, List.append, List.cons_append, List.nil_append])))

/-! ### the law's counts; memory alone -/
section
variable {K : PySem.W.Frag}
def spLawPlain (K : PySem.W.Frag) : Sp := fun vs H Q _ => ∃ (mm l : Addr) (ms : List Int) (row : List Deed) (xs : List V), vs = [.ref mm, .ref l] ∧ SqT K H mm (ms.map V.int) ∧ SqL K H l xs ∧ Deeds H row xs ∧ (∀ d, d ∈ row → 0 ≤ d.1 ∧ d.1 < (ms.length : Int)) ∧ row.length ≤ 1000 ∧
  ∀ H' q fa mt, Same H H' → H fa = none → H' q = some (.tup [.ref fa, .ref mt]) → H' fa = some (.lst ((Sw.plain ms row).1.map V.int)) → H' mt = some (.tup ((Sw.plain ms row).2.map V.int)) → Q (.ref q) H'
def t_law_plain (K : PySem.W.Frag) : TS := tSeq (tAsg (tCB (rListOf K) (tCons (tVar 0) (tNil))) (gName 2))
  (tSeq (tAsg (tLst (tNil)) (gName 3))
  (tSeq (tFor (iList K (tVar 1)) (gName 4) (tIfS (tTest (tOp (rEq) (tOp (rIxT K) (tVar 4) (tC (.int 0))) (tC (.str "read")))) (tDrop (tBM K "list" rAppend (tVar 3) (tCons (tOp (rIxL K) (tVar 2) (tOp (rIxT K) (tVar 4) (tC (.int 1)))) (tNil)))) (tAsg (tOp (rIxT K) (tVar 4) (tC (.int 2))) (gSub (tVar 2) (tOp (rIxT K) (tVar 4) (tC (.int 1))) rSetL))))
  (tRet (tTup (tCons (tVar 3) (tCons (tCB (rTupleOf K) (tCons (tVar 2) (tNil))) (tNil)))))))
theorem plain_more {ms : List Int} {row : List Deed} {i : Nat} {d : Deed} (h : row[i]? = some d) : Sw.plain ms (row.take (i + 1)) = plainStep d (Sw.plain ms (row.take i)) := by
  unfold Sw.plain
  rw [take_more' h, List.foldl_append]
  rfl
theorem step_lens (d : Deed) (x : List Int × List Int) : (plainStep d x).2.length = x.2.length ∧ (plainStep d x).1.length ≤ x.1.length + 1 := by
  unfold plainStep
  cases d.2 with
  | none => exact ⟨rfl, by show (x.1 ++ [_]).length ≤ _; rw [List.length_append]; exact Nat.le_refl _⟩
  | some n => exact ⟨by show (x.2.set _ _).length = _; rw [List.length_set], Nat.le_succ _⟩
theorem plain_lens (ms : List Int) : ∀ row : List Deed, (Sw.plain ms row).2.length = ms.length ∧ (Sw.plain ms row).1.length ≤ row.length := by
  have key : ∀ (row : List Deed) (x : List Int × List Int), (row.foldl (fun x d => plainStep d x) x).2.length = x.2.length ∧ (row.foldl (fun x d => plainStep d x) x).1.length ≤ x.1.length + row.length := by
    intro row
    induction row with
    | nil => exact fun x => ⟨rfl, Nat.le_refl _⟩
    | cons d r ih =>
      intro x
      obtain ⟨h1, h2⟩ := ih (plainStep d x)
      obtain ⟨g1, g2⟩ := step_lens d x
      rw [List.foldl_cons, List.length_cons]
      exact ⟨h1.trans g1, by omega⟩
  intro row
  have := key row ([], ms)
  exact ⟨this.1, by have h := this.2; simp only [List.length_nil, Nat.zero_add] at h; exact h⟩
theorem pu_law_plain {vs : List V} {H : Hp} {Q : VK} {E : XK} (h : spLawPlain K vs H Q E) : t_law_plain K (B Q) (start ["_law_memory", "_law_row", "_law_cells", "_law_found", "_law_deed"] vs) H := by
  obtain ⟨mm, l, ms, row, xs, rfl, hm, hl, hdd, hr, h1000, k⟩ := h
  have hlen := hdd.len
  unfold t_law_plain
  walk_at "w"
  refine w_listofT hm (w_new fun cl H1 hcl e1 h1 => ?_)
  walk_at "w"
  refine ⟨by decide, w_new fun fa H2 hfa e2 h2 => ?_⟩
  have nf : cl ≠ fa := fun z => by rw [z, hfa] at h1; cases h1
  have fc : H cl = none := hcl
  have ff : H fa = none := e1.free hfa
  walk_at "w"
  refine w_forl (fun i σ H' => ∃ v4, σ = [some (.ref mm), some (.ref l), some (.ref cl), some (.ref fa), v4] ∧ H' cl = some (.lst ((Sw.plain ms (row.take i)).2.map V.int)) ∧ H' fa = some (.lst ((Sw.plain ms (row.take i)).1.map V.int)) ∧ Same H H')
    ((e1.trans e2).seq hl) ⟨_, rfl, e2 _ _ h1, h2, e1.trans e2⟩ (fun i σ H' _ p => ?_) (fun i x σ H' hx p => ?_) (fun σ H' p => ?_)
  · obtain ⟨_, _, _, _, s⟩ := p
    exact s.seq hl
  · obtain ⟨v4, rfl, hc, hf, s⟩ := p
    obtain ⟨d, hd⟩ : ∃ d, row[i]? = some d := ⟨_, List.getElem?_eq_getElem (by have := (List.getElem?_eq_some_iff.mp hx).1; omega)⟩
    obtain ⟨x', hx', dd⟩ := hdd.at hd
    rw [hx] at hx'
    cases hx'
    have dd' := deed_keep (tk_same s) dd
    have hdr := hr d (List.mem_of_getElem? hd)
    obtain ⟨pl1, pl2⟩ := plain_lens ms (row.take i)
    rw [List.length_take] at pl2
    rw [plain_more hd]
    unfold DeedAt at dd'
    unfold plainStep
    cases e : d.2 with
    | none =>
      rw [e] at dd'
      obtain ⟨q, rfl, hq⟩ := dd'
      walk_at "w"
      refine w_ixt (SqT.of hq) rfl ?_
      walk_at "w"
      refine ⟨.inl ⟨rfl, _, SqL.of hf⟩, ?_⟩
      walk_at "w"
      refine w_ixt (SqT.of hq) rfl ?_
      refine w_ixl (SqL.of hc) (at_getD hdr.1 (by omega)) ?_
      walk_at "w"
      refine w_app hf (small_lt (by rw [List.length_map]; omega)) ?_
      refine ⟨_, rfl, ?_, ?_, fun b o hb => ?_⟩
      · rw [upd_ne nf]; exact hc
      · rw [upd_same, List.map_append]; rfl
      · rw [upd_ne (fun z => by rw [z, ff] at hb; cases hb)]
        exact s _ _ hb
    | some n =>
      rw [e] at dd'
      obtain ⟨q, rfl, hq⟩ := dd'
      walk_at "w"
      refine w_ixt (SqT.of hq) rfl ?_
      walk_at "w"
      refine w_ixt (SqT.of hq) rfl ?_
      walk_at "w"
      refine w_ixt (SqT.of hq) rfl ?_
      refine w_setl (xs := (Sw.plain ms (row.take i)).2.map V.int) (ys := ((Sw.plain ms (row.take i)).2.set d.1.toNat n).map V.int) hc (by rw [List.length_map]; exact atN hdr.1 (by omega)) (by rw [List.map_set]) ?_
      refine ⟨_, rfl, upd_same, ?_, fun b o hb => ?_⟩
      · rw [upd_ne nf.symm]; exact hf
      · rw [upd_ne (fun z => by rw [z, fc] at hb; cases hb)]
        exact s _ _ hb
  · obtain ⟨v4, rfl, hc, hf, s⟩ := p
    rw [← hlen, List.take_length] at hc hf
    walk_at "w"
    refine w_tupleof (SqL.of hc) (w_new fun mt H3 hmt e3 h3 => ?_)
    walk_at "w"
    refine ⟨small_le (by simp), w_new fun q H4 hq e4 h4 => ?_⟩
    exact k H4 q fa mt (s.trans (e3.trans e4)) ff h4 (e4 _ _ (e3 _ _ hf)) (e4 _ _ h3)
end
end SwD
set_option Elab.async false
set_option linter.all false
set_option maxRecDepth 100000
set_option maxHeartbeats 4000000
namespace SwD
open PySem PySem.Spec PyProof.Rows L2 SwX StX Sw
local macro_rules | `(tactic| walk_at "lk") => `(tactic| first | exact lk_at | exact lk_no | ((refine' lk_by (by decide +kernel) ?wq); (case wq => walk_at "lk")))
local macro_rules | `(tactic| walk_at "pf") => `(tactic| first | exact pf_at | exact pf_nil | ((refine' pf_by (by decide +kernel) ?wq); (case wq => walk_at "pf")))
local macro_rules | `(tactic| walk_at "w1") => `(tactic| with_reducible first
  | refine w_seq ?_ | refine w_asg ?_ | refine w_name ?_ | refine w_ret ?_ | refine w_retN ?_ | refine w_drop ?_ | refine w_next ?_ | refine w_if ?_ | refine w_ifE ?_ | refine w_test ?_ | refine w_B ?_ | refine w_bl ?_
  | refine w_not ?_ | refine w_and ?_ | refine w_or ?_ | refine w_andV ?_ | refine w_orV ?_ | refine w_notV ?_ | refine w_isN ?_ | refine w_notN ?_ | refine w_yes ?_
  | refine w_c ?_ | refine w_op ?_ | refine w_un ?_ | refine w_i0 ?_ | refine w_neg ?_ | refine w_nil ?_ | refine w_cons ?_ | refine w_cb ?_ | refine w_call ?_ | refine w_tup ?_ | refine w_lst ?_
  | refine w_fld ?_ | refine w_sfld ?_ | refine w_match ?_ | refine w_case ?_ | refine w_mcons ?_ | refine w_mnil ?_ | refine w_mcap ?_ | refine w_many ?_ | refine w_myes ?_
  | refine w_sub ?_ | refine w_bm ?_ | refine w_sl ?_ | refine w_nopart ?_ | refine w_part ?_ | refine w_int ?_ | refine w_ift ?_ | refine w_iff ?_ | refine w_ifn ?_ | refine w_dget2 ?_ | refine w_star ?_ | refine w_dput ?_ | refine w_dnewK ?_ | refine w_meth ?_ | refine w_oneOf ?_ | refine w_make ?_ | refine w_lc ?_ | refine w_for ?_ | refine w_ilist ?_ | refine w_irng1 ?_ | refine w_irng2 ?_ | refine w_irng3 ?_)
local macro_rules | `(tactic| walk_at "w2") => `(tactic| first
  | ((with_reducible refine' w_var ?wh ?_); (case wh => rfl))
  | ((with_reducible refine' w_eq ?wh ?_); (case wh => rfl))
  | ((with_reducible refine' w_ne ?wh ?_); (case wh => rfl))
  | ((with_reducible refine' w_mno ?wh ?_); (case wh => decide +kernel))
  | ((with_reducible refine' w_mhit ?wh ?wl ?_); (case wh => assumption); (case wl => rfl))
  | ((with_reducible refine' w_mmiss ?wh ?wl ?_); (case wh => assumption); (case wl => simp))
  | ((with_reducible refine' w_fldA ?wh ?wc ?wn ?wl ?_); (case wh => first | assumption | exact upd_same); (case wc => assumption); (case wn => assumption); (case wl => walk_at "lk"))
  | ((with_reducible refine' w_ixl ?wh ?we ?_); (case wh => exact SqL.of (by first | assumption | exact upd_same)); (case we => rfl))
  | ((with_reducible refine' w_ixt ?wh ?we ?_); (case wh => assumption); (case we => rfl))
  | ((with_reducible refine' w_ifT ?wh ?_); (case wh => (with_reducible exact Eq.refl _)))
  | ((with_reducible refine' w_ifF ?wh ?_); (case wh => decide +kernel))
  | ((with_reducible refine' w_isiY ?wh ?wk ?_); (case wh => first | exact .int _ | exact .str _ | exact .lst (by assumption) | exact .tup (by assumption)); (case wk => decide +kernel))
  | ((with_reducible refine' w_isiN ?wh ?wk ?_); (case wh => first | exact .int _ | exact .str _ | exact .lst (by assumption) | exact .tup (by assumption)); (case wk => decide +kernel))
  | ((with_reducible refine' w_ifF ?wh ?_); (case wh => (intro z; cases z; done)))
  | ((with_reducible refine' w_setl ?wh ?we ?wl ?_); (case wh => first | assumption | exact upd_same); (case we => rfl); (case wl => rfl))
  | ((with_reducible refine' w_methA ?wh ?wl ?_); (case wh => first | assumption | exact upd_same); (case wl => walk_at "lk"))
  | ((with_reducible refine' w_sfldB ?wc ?wn ?wz ?wl ?_); (case wc => assumption); (case wn => assumption); (case wz => simp); (case wl => walk_at "pf"))
  | ((with_reducible refine' w_sfldA ?wh ?wc ?wn ?wz ?wl ?_); (case wh => assumption); (case wc => assumption); (case wn => assumption); (case wz => simp); (case wl => walk_at "pf")))
local macro_rules | `(tactic| walk_at "w") => `(tactic| repeat (first | walk_at "w1" | walk_at "w2" | (dsimp only [List.set, setAll, List.append, List.cons_append, List.nil_append])))
local macro_rules | `(tactic| walk_at "w1") => `(tactic| with_reducible first | refine w_rev ?_ | refine w_enum ?_ | refine w_itup' ?_ | refine w_bm0 ?_ | refine w_gcons ?_ | refine w_gnil ?_ | refine w_tm1' ?_ | refine w_tru ?_)
local macro_rules | `(tactic| walk_at "w1") => `(tactic| with_reducible first | refine w_dget ?_ | refine w_din ?_ | refine w_dpop ?_ | refine w_ddel ?_ | refine w_iitems ?_ | refine w_dnotin ?_ | refine w_chain ?_)
local macro_rules | `(tactic| walk_at "w2") => `(tactic| first
  | ((with_reducible refine' w_gfldB ?wv ?wc ?wn ?wz ?wl ?_); (case wv => rfl); (case wc => assumption); (case wn => assumption); (case wz => simp); (case wl => walk_at "pf"))
  | ((with_reducible refine' w_gfldA ?wv ?wh ?wc ?wn ?wz ?wl ?_); (case wv => rfl); (case wh => assumption); (case wc => assumption); (case wn => assumption); (case wz => simp); (case wl => walk_at "pf")))
local macro_rules | `(tactic| walk_at "w1") => `(tactic| with_reducible first | refine w_ienumT ?_ | refine w_kget ?_ | refine w_allT ?_)
local macro_rules | `(tactic| walk_at "s1") => `(tactic| first
  | exact sd_lies | exact sd_used | exact sd_waits | exact sd_way | exact sd_story | exact sd_cells | exact sd_answers | exact sd_clock)
local macro_rules | `(tactic| walk_at "s2") => `(tactic| first
  | (with_reducible refine w_dget ?_) | (with_reducible refine w_din ?_) | (with_reducible refine w_dpop ?_) | (with_reducible refine w_ikeys ?_)
  | ((refine' w_stG ?wh ?we ?_); (case wh => assumption); (case we => walk_at "s1")))
local macro_rules | `(tactic| walk_at "s") => `(tactic| repeat (first | walk_at "w1" | walk_at "w2" | walk_at "s2" | (dsimp only [List.set, setAll, List.append, List.cons_append, List.nil_append])))

section
variable {K : PySem.W.Frag}
/-- a comprehension over a list, any target -/
theorem w_lclG {σ : L2.St} {H : Hp} {Q : VK} {te : TE} {vs : List Nat} {a : Addr} {src : List V} {g : TG} (gv : V → V) (hx : SqL K H a src) (hz : src.length < sizeLine)
    (hg : ∀ x, x ∈ src → ∀ H', Same H H' → ∃ σ2, wipe σ2 vs = wipe σ vs ∧ (∀ P : L2.St → Hp → Prop, P σ2 H' → g x (wipe σ vs) H' P) ∧ ∀ R : VK, R (gv x) H' → te σ2 H' R)
    (k : ∀ p H', H p = none → Same H H' → H' p = some (.lst (src.map gv)) → Q (.ref p) H') : ∃ a', V.ref a = .ref a' ∧ (∃ xs, SqL K H a' xs) ∧ lcK (Itl K a') g tYes te vs σ H Q :=
  ⟨a, rfl, ⟨src, hx⟩, fun Dl hD => lc_it (walk_list (xs := src)) (fun i H' => Same H H' ∧ H' Dl = some (.lst ((src.take i).map gv))) ⟨same_upd hD, upd_same⟩ (fun i H' _ p => p.1.seq hx)
    (fun i x H1 H' hi p y => by
      obtain ⟨s, h2⟩ := p
      obtain ⟨rfl, hy⟩ := y
      obtain ⟨σ2, w1, w2, w3⟩ := hg x (List.mem_of_getElem? hy) H' s
      refine w2 _ ⟨w1, w_yes ?_⟩
      rw [if_pos rfl]
      refine w3 _ ⟨_, h2, by rw [List.length_map, List.length_take]; omega, fun b o hb => ?_, ?_⟩
      · rw [upd_ne (fun z => by rw [z, hD] at hb; cases hb)]
        exact s _ _ hb
      · rw [upd_same, take_more' hy, List.map_append]
        rfl)
    (fun H' p => k Dl H' hD p.1 (by rw [← List.take_length (l := src)]; exact p.2))⟩
def spLawCounts : Sp := fun vs H Q _ => ∃ (A : Ads) (ck : Int) (U L : List (Key × V)) (W : List Int) (wv sv : List V) (tm : Int → Int) (m : Mc) (B : Nat), vs = [.ref A.p] ∧ LS H A ck U L W wv sv tm m B ∧ m.story.length ≤ 50000 ∧ m.shelf.length ≤ 1000 ∧ m.way.length ≤ 1000 ∧
  ∀ H' q, Same H H' → H' q = some (.tup (countsV m)) → Q (.ref q) H'
def t_law_counts (K : PySem.W.Frag) : TS := tSeq (tAsg (tLc (iList K (tDGet (tVar 0) (tC (.str "story")))) (gTup K 3 (gCons (gName 4) (gCons (gName 5) (gCons (gName 6) (gNil))))) (tYes) (tVar 5) [4, 5, 6]) (gName 1))
  (tSeq (tAsg (tLc (iList K (tLst (tCons (tC (.str "hit")) (tCons (tC (.str "first")) (tCons (tC (.str "late")) (tCons (tC (.str "miss")) (tCons (tC (.str "start")) (tCons (tC (.str "waste")) (tNil))))))))) (gName 5) (tYes) (tBM K "list" (rCntS K) (tVar 1) (tCons (tVar 5) (tNil))) [5]) (gName 2))
  (tSeq (tAsg (tOp (rAddI) (tCB (rLenQ K) (tCons (tDGet (tVar 0) (tC (.str "waits"))) (tNil))) (tCB (rLenQ K) (tCons (tDGet (tVar 0) (tC (.str "way"))) (tNil)))) (gName 3))
  (tRet (tTup (tCons (tOp (rAddI) (tOp (rIxL K) (tVar 2) (tC (.int 0))) (tOp (rIxL K) (tVar 2) (tC (.int 1)))) (tCons (tOp (rIxL K) (tVar 2) (tC (.int 2))) (tCons (tOp (rIxL K) (tVar 2) (tC (.int 3))) (tCons (tOp (rIxL K) (tVar 2) (tC (.int 4))) (tCons (tOp (rAddI) (tOp (rIxL K) (tVar 2) (tC (.int 1))) (tOp (rIxL K) (tVar 2) (tC (.int 2)))) (tCons (tOp (rIxL K) (tVar 2) (tC (.int 5))) (tCons (tVar 3) (tNil))))))))))))
def cntV (ws : List Str) : V → V
  | .str w => .int (ws.count w : Nat)
  | _ => .non
theorem pu_law_counts {vs : List V} {H : Hp} {Q : VK} {E : XK} (h : spLawCounts vs H Q E) : t_law_counts K (B Q) (start ["_law_s", "_law_words", "_law_many", "_law_idle", "_law_turn", "_law_word", "_law_place"] vs) H := by
  obtain ⟨A, ck, U, L, W, wv, sv, tm, m, Bd, rfl, h, hst, hsh, hwl, k⟩ := h
  have hsv := h.evs.len
  have hwy := h.ways.len
  have hW := wok_len h.uniq ⟨h.wnd, h.waits⟩
  have hWl := h.wlen
  unfold t_law_counts
  walk_at "s"
  refine w_lclG (wordOf H) (SqL.of h.hstory) (small_lt (by omega)) (fun x hx H' s => ?_) (fun l1 H1 hl1 e1 h1 => ?_)
  · obtain ⟨e, _, he⟩ := h.evs.mem hx
    have ew := wordOf_at he
    obtain ⟨b, rfl, hb⟩ := he
    rw [ew]
    refine ⟨[some (.ref A.p), none, none, none, some (.int e.1), some (.str (wdStr e.2.1)), some (.int e.2.2)], rfl, fun P hP => w_gtup (SqT.of (s _ _ hb)) rfl ?_, fun R hR => ?_⟩
    · walk_at "w"
      exact hP
    · walk_at "w"
      exact hR
  rw [words_of_evs h.evs] at h1
  have h1s := h.same e1
  walk_at "w"
  refine ⟨small_le (by simp), w_new fun l2 H2 hl2 e2 h2 => ?_⟩
  have h12 := e2 _ _ h1
  refine w_lcl (fun _ => true) (cntV (m.story.map fun e => wdStr e.2.1)) (SqL.of h2) (small_lt (by simp)) (fun _ => rfl) (fun y hy H' s R rr => ?_) (fun y hy _ H' s R rr => ?_) (fun l3 H3 hl3 e3 h3 => ?_)
  · exact rr _ (Same.refl _)
  · obtain ⟨w, rfl⟩ : ∃ w : Str, y = .str w := by
      simp only [List.mem_cons, List.not_mem_nil, or_false] at hy
      rcases hy with rfl | rfl | rfl | rfl | rfl | rfl <;> exact ⟨_, rfl⟩
    walk_at "w"
    refine ⟨.inl ⟨rfl, _, SqL.of (s _ _ h12)⟩, ?_⟩
    walk_at "w"
    refine w_cntS (SqL.of (s _ _ h12)) ?_
    exact rr _ (Same.refl _)
  rw [added_all] at h3
  have hh := (h1s.same e2).same e3
  have h3 : H3 l3 = some (.lst [.int (((m.story.map fun e => wdStr e.2.1).count ("hit" : Str)) : Nat), .int (((m.story.map fun e => wdStr e.2.1).count ("first" : Str)) : Nat), .int (((m.story.map fun e => wdStr e.2.1).count ("late" : Str)) : Nat), .int (((m.story.map fun e => wdStr e.2.1).count ("miss" : Str)) : Nat), .int (((m.story.map fun e => wdStr e.2.1).count ("start" : Str)) : Nat), .int (((m.story.map fun e => wdStr e.2.1).count ("waste" : Str)) : Nat)]) := h3
  walk_at "s"
  refine w_len (.inl (SqL.of hh.hwaits)) ?_
  walk_at "s"
  refine w_len (.inl (SqL.of hh.hway)) ?_
  walk_at "w"
  refine ⟨small_le (by simp), w_new fun q H4 hq e4 h4 => ?_⟩
  refine k H4 q (e1.trans (e2.trans (e3.trans e4))) ?_
  rw [h4]
  have cs : ∀ w : Wd, ((m.story.map fun e => wdStr e.2.1).count (wdStr w)) = Sw.cnt w m.story := fun w => cnt_words w m.story
  rw [show ("first" : Str) = wdStr .first from rfl, show ("late" : Str) = wdStr .late from rfl, show ("hit" : Str) = wdStr .hit from rfl, show ("miss" : Str) = wdStr .miss from rfl, show ("start" : Str) = wdStr .start from rfl, show ("waste" : Str) = wdStr .waste from rfl, cs, cs, cs, cs, cs, cs, List.length_map, hW, ← hwy]
  rfl
end
end SwD
set_option Elab.async false
set_option linter.all false
set_option maxRecDepth 100000
set_option maxHeartbeats 4000000
namespace SwD
open PySem PySem.Spec PyProof.Rows L2 SwX StX Sw
local macro_rules | `(tactic| walk_at "lk") => `(tactic| first | exact lk_at | exact lk_no | ((refine' lk_by (by decide +kernel) ?wq); (case wq => walk_at "lk")))
local macro_rules | `(tactic| walk_at "pf") => `(tactic| first | exact pf_at | exact pf_nil | ((refine' pf_by (by decide +kernel) ?wq); (case wq => walk_at "pf")))
local macro_rules | `(tactic| walk_at "w1") => `(tactic| with_reducible first
  | refine w_seq ?_ | refine w_asg ?_ | refine w_name ?_ | refine w_ret ?_ | refine w_retN ?_ | refine w_drop ?_ | refine w_next ?_ | refine w_if ?_ | refine w_ifE ?_ | refine w_test ?_ | refine w_B ?_ | refine w_bl ?_
  | refine w_not ?_ | refine w_and ?_ | refine w_or ?_ | refine w_andV ?_ | refine w_orV ?_ | refine w_notV ?_ | refine w_isN ?_ | refine w_notN ?_ | refine w_yes ?_
  | refine w_c ?_ | refine w_op ?_ | refine w_un ?_ | refine w_i0 ?_ | refine w_neg ?_ | refine w_nil ?_ | refine w_cons ?_ | refine w_cb ?_ | refine w_call ?_ | refine w_tup ?_ | refine w_lst ?_
  | refine w_fld ?_ | refine w_sfld ?_ | refine w_match ?_ | refine w_case ?_ | refine w_mcons ?_ | refine w_mnil ?_ | refine w_mcap ?_ | refine w_many ?_ | refine w_myes ?_
  | refine w_sub ?_ | refine w_bm ?_ | refine w_sl ?_ | refine w_nopart ?_ | refine w_part ?_ | refine w_int ?_ | refine w_ift ?_ | refine w_iff ?_ | refine w_ifn ?_ | refine w_dget2 ?_ | refine w_star ?_ | refine w_dput ?_ | refine w_dnewK ?_ | refine w_meth ?_ | refine w_oneOf ?_ | refine w_make ?_ | refine w_lc ?_ | refine w_for ?_ | refine w_ilist ?_ | refine w_irng1 ?_ | refine w_irng2 ?_ | refine w_irng3 ?_)
local macro_rules | `(tactic| walk_at "w2") => `(tactic| first
  | ((with_reducible refine' w_var ?wh ?_); (case wh => rfl))
  | ((with_reducible refine' w_eq ?wh ?_); (case wh => rfl))
  | ((with_reducible refine' w_ne ?wh ?_); (case wh => rfl))
  | ((with_reducible refine' w_mno ?wh ?_); (case wh => decide +kernel))
  | ((with_reducible refine' w_mhit ?wh ?wl ?_); (case wh => assumption); (case wl => rfl))
  | ((with_reducible refine' w_mmiss ?wh ?wl ?_); (case wh => assumption); (case wl => simp))
  | ((with_reducible refine' w_fldA ?wh ?wc ?wn ?wl ?_); (case wh => first | assumption | exact upd_same); (case wc => assumption); (case wn => assumption); (case wl => walk_at "lk"))
  | ((with_reducible refine' w_ixl ?wh ?we ?_); (case wh => exact SqL.of (by first | assumption | exact upd_same)); (case we => rfl))
  | ((with_reducible refine' w_ixt ?wh ?we ?_); (case wh => assumption); (case we => rfl))
  | ((with_reducible refine' w_ifT ?wh ?_); (case wh => (with_reducible exact Eq.refl _)))
  | ((with_reducible refine' w_ifF ?wh ?_); (case wh => decide +kernel))
  | ((with_reducible refine' w_isiY ?wh ?wk ?_); (case wh => first | exact .int _ | exact .str _ | exact .lst (by assumption) | exact .tup (by assumption)); (case wk => decide +kernel))
  | ((with_reducible refine' w_isiN ?wh ?wk ?_); (case wh => first | exact .int _ | exact .str _ | exact .lst (by assumption) | exact .tup (by assumption)); (case wk => decide +kernel))
  | ((with_reducible refine' w_ifF ?wh ?_); (case wh => (intro z; cases z; done)))
  | ((with_reducible refine' w_setl ?wh ?we ?wl ?_); (case wh => first | assumption | exact upd_same); (case we => rfl); (case wl => rfl))
  | ((with_reducible refine' w_methA ?wh ?wl ?_); (case wh => first | assumption | exact upd_same); (case wl => walk_at "lk"))
  | ((with_reducible refine' w_sfldB ?wc ?wn ?wz ?wl ?_); (case wc => assumption); (case wn => assumption); (case wz => simp); (case wl => walk_at "pf"))
  | ((with_reducible refine' w_sfldA ?wh ?wc ?wn ?wz ?wl ?_); (case wh => assumption); (case wc => assumption); (case wn => assumption); (case wz => simp); (case wl => walk_at "pf")))
local macro_rules | `(tactic| walk_at "w") => `(tactic| repeat (first | walk_at "w1" | walk_at "w2" | (dsimp only [List.set, setAll, List.append, List.cons_append, List.nil_append])))
local macro_rules | `(tactic| walk_at "w1") => `(tactic| with_reducible first | refine w_rev ?_ | refine w_enum ?_ | refine w_itup' ?_ | refine w_bm0 ?_ | refine w_gcons ?_ | refine w_gnil ?_ | refine w_tm1' ?_ | refine w_tru ?_)
local macro_rules | `(tactic| walk_at "w1") => `(tactic| with_reducible first | refine w_dget ?_ | refine w_din ?_ | refine w_dpop ?_ | refine w_ddel ?_ | refine w_iitems ?_ | refine w_dnotin ?_ | refine w_chain ?_)
local macro_rules | `(tactic| walk_at "w2") => `(tactic| first
  | ((with_reducible refine' w_gfldB ?wv ?wc ?wn ?wz ?wl ?_); (case wv => rfl); (case wc => assumption); (case wn => assumption); (case wz => simp); (case wl => walk_at "pf"))
  | ((with_reducible refine' w_gfldA ?wv ?wh ?wc ?wn ?wz ?wl ?_); (case wv => rfl); (case wh => assumption); (case wc => assumption); (case wn => assumption); (case wz => simp); (case wl => walk_at "pf")))
local macro_rules | `(tactic| walk_at "w1") => `(tactic| with_reducible first | refine w_ienumT ?_ | refine w_kget ?_ | refine w_allT ?_)
local macro_rules | `(tactic| walk_at "s1") => `(tactic| first
  | exact sd_lies | exact sd_used | exact sd_waits | exact sd_way | exact sd_story | exact sd_cells | exact sd_answers | exact sd_clock)
local macro_rules | `(tactic| walk_at "s2") => `(tactic| first
  | (with_reducible refine w_dget ?_) | (with_reducible refine w_din ?_) | (with_reducible refine w_dpop ?_) | (with_reducible refine w_ikeys ?_)
  | ((refine' w_stG ?wh ?we ?_); (case wh => assumption); (case we => walk_at "s1")))
local macro_rules | `(tactic| walk_at "s") => `(tactic| repeat (first | walk_at "w1" | walk_at "w2" | walk_at "s2" | (dsimp only [List.set, setAll, List.append, List.cons_append, List.nil_append])))

/-! ### the law -/
section
variable {K : PySem.W.Frag} {P : Addr}
theorem w_slT {H : Hp} {Q : VK} {a : Addr} {xs : List V} {lo hi : Option Int} (h : SqT K H a xs) (n : ¬ (HT.sIx xs.length 0 lo = 0 ∧ HT.sIx xs.length xs.length hi = xs.length)) (k : New Q H (.tup (cutV xs lo hi))) : rSlT K (.ref a) lo hi H Q := ⟨a, xs, rfl, h, n, k⟩
theorem w_catT {H : Hp} {Q : VK} {a b : Addr} {xs ys : List V} (h : SqT K H a xs) (h' : SqT K H b ys) (n : xs ≠ []) (n' : ys ≠ []) (z : xs.length + ys.length ≤ sizeLine) (k : New Q H (.tup (xs ++ ys))) : rCatT K (.ref a) (.ref b) H Q := ⟨a, b, xs, ys, rfl, rfl, h, h', n, z, fun e => absurd e n', fun _ => k⟩
def spLaw (K : PySem.W.Frag) (P : Addr) : Sp := fun vs H Q _ => ∃ (a : Addr) (ns : List Int), vs = [.ref a] ∧ Scr K H a (ns.map V.int) ∧ GxR.TabG H P ∧ ∀ H', Q (.bl true) H'
def t_law (K : PySem.W.Frag) (sp_run sp_law_run sp_law_counts sp_law_plain sp_law_alike sp_law_setting sp_law_taken sp_law_guesser sp_law_deeds : Sp) : TS := tSeq (tAsg (tLst (tCons (tVar 0) (tCons (tC (.int 0)) (tCons (tC (.int 0)) (tNil))))) (gName 1))
  (tSeq (tFor (iRng1 (tCons (tC (.int 3)) (tNil))) (gName 2) (tSeq (tAsg (tCall sp_law_setting [] E0 (tCons (tVar 1) (tCons (tOp (rIxL K) (tLst (tCons (tC (.int 6)) (tCons (tC (.int 12)) (tCons (tC (.int 32)) (tNil))))) (tCall sp_law_taken [] E0 (tCons (tVar 1) (tCons (tC (.int 3)) (tNil))))) (tNil)))) (gName 3))
  (tSeq (tAsg (tOp (rCatT K) (tTup (tCons (tOp (rIxT K) (tVar 3) (tC (.int 0))) (tNil))) (tSl (rSlT K) (tCall sp_law_setting [] E0 (tCons (tVar 1) (tCons (tC (.int 1)) (tNil)))) (tPart (tC (.int 1))) (tNoPart))) (gName 4))
  (tSeq (tAsg (tCall sp_law_deeds [] E0 (tCons (tVar 1) (tCons (tCB (rLenQ K) (tCons (tOp (rIxT K) (tVar 3) (tC (.int 0))) (tNil))) (tCons (tOp (rIxL K) (tLst (tCons (tC (.int 40)) (tCons (tC (.int 100)) (tNil)))) (tOp (rDivI) (tCall sp_law_taken [] E0 (tCons (tVar 1) (tCons (tC (.int 4)) (tNil)))) (tC (.int 3)))) (tNil))))) (gName 5))
  (tSeq (tAsg (tCall sp_law_plain [] E0 (tCons (tOp (rIxT K) (tVar 3) (tC (.int 0))) (tCons (tVar 5) (tNil)))) (gTup K 2 (gCons (gName 6) (gCons (gName 7) (gNil)))))
  (tFor (iList K (tLst (tCons (tVar 3) (tCons (tVar 4) (tNil))))) (gName 8) (tSeq (tAsg (tCall sp_law_guesser [] E0 (tCons (tVar 1) (tCons (tC (.int 3)) (tNil)))) (gName 9))
  (tSeq (tAsg (tCall sp_law_counts [] E0 (tCons (tCall sp_law_run [] E0 (tCons (tVar 8) (tCons (tVar 9) (tCons (tVar 5) (tNil))))) (tNil))) (gName 10))
  (tFor (iRng1 (tCons (tC (.int 2)) (tNil))) (gName 11) (tSeq (tAsg (tCall sp_run [] E0 (tCons (tVar 8) (tCons (tVar 9) (tCons (tCB (rListOf K) (tCons (tVar 5) (tNil))) (tNil))))) (gName 12))
  (tSeq (tIfS (tNot (tB (tCall sp_law_alike [] E0 (tCons (tVar 12) (tCons (tTup (tCons (tVar 6) (tCons (tVar 7) (tCons (tVar 10) (tNil))))) (tNil)))))) (tRet (tC (.bl false))) (tNext))
  (tSeq (tIfS (tOr (tTest (tOp (rNe) (tOp (rIxT K) (tOp (rIxT K) (tVar 12) (tC (.int 2))) (tC (.int 3))) (tCB (rSumT K) (tCons (tSl (rSlT K) (tOp (rIxT K) (tVar 12) (tC (.int 2))) (tPart (tC (.int 4))) (tNoPart)) (tNil))))) (tTest (tOp (rNe) (tCB (rSumT K) (tCons (tSl (rSlT K) (tOp (rIxT K) (tVar 12) (tC (.int 2))) (tNoPart) (tPart (tC (.int 3)))) (tNil))) (tCB (rLenQ K) (tCons (tVar 5) (tNil)))))) (tRet (tC (.bl false))) (tNext))
  (tDrop (tBM K "list" rAppend (tOp (rIxT K) (tVar 12) (tC (.int 0))) (tCons (tC (.int 7)) (tNil))))))))))))))))
  (tRet (tC (.bl true))))
def countsI (m : Mc) : List Int := [(Sw.cnt .hit m.story : Int) + (Sw.cnt .first m.story : Int), (Sw.cnt .late m.story : Int), (Sw.cnt .miss m.story : Int), (Sw.cnt .start m.story : Int), (Sw.cnt .first m.story : Int) + (Sw.cnt .late m.story : Int), (Sw.cnt .waste m.story : Int), (waitsN m.shelf : Int) + (m.way.length : Int)]
theorem countsI_eq (m : Mc) : countsV m = (countsI m).map V.int := rfl
theorem d_ints {H : Hp} : ∀ ls : List Int, DAll H (ls.map Dat.int) (ls.map V.int)
  | [] => .nil
  | x :: r => .cons (.int x) (d_ints r)
theorem ints_fit {n k : Nat} (ls : List Int) (h : ls.length ≤ 100000) : ∀ x, x ∈ ls.map Dat.int → fits 100000 k x := fun x hx => by
  obtain ⟨i, _, rfl⟩ := List.mem_map.mp hx
  exact fits_int
def runD (an ce co : List Int) : Dat := .tup [.lst (an.map Dat.int), .tup (ce.map Dat.int), .tup (co.map Dat.int)]
theorem run_fit {an ce co : List Int} (h1 : an.length ≤ 100000) (h2 : ce.length ≤ 100000) (h3 : co.length ≤ 100000) : fits 100000 3 (runD an ce co) := by
  refine ⟨by show 3 ≤ 100000; decide, fun x hx => ?_⟩
  simp only [List.mem_cons, List.not_mem_nil, or_false] at hx
  rcases hx with rfl | rfl | rfl
  · exact ⟨by rw [List.length_map]; exact h1, ints_fit (n := 0) an h1⟩
  · exact ⟨by rw [List.length_map]; exact h2, ints_fit (n := 0) ce h2⟩
  · exact ⟨by rw [List.length_map]; exact h3, ints_fit (n := 0) co h3⟩
theorem pu_law {vs : List V} {H : Hp} {Q : VK} {E : XK} (h : spLaw K P vs H Q E) : t_law K (spRun K P) (spLawRun K) spLawCounts (spLawPlain K) (spLawAlike 4) (spLawSetting K) (spTaken K) (spLawGuesser K 4) (spLawDeeds K) (B Q) (start ["_law_script", "_law_row", "_law_turn", "_law_setting_here", "_law_other", "_law_deeds_here", "_law_answers", "_law_memory", "_law_one", "_law_guesser_here", "_law_counts_here", "_law_again", "_law_found"] vs) H := by
  obtain ⟨a, ns, rfl, hs, tab, k⟩ := h
  unfold t_law
  walk_at "w"
  refine ⟨small_le (by simp), w_new fun r H1 hr e1 h1 => ?_⟩
  have row1 : RowAt K H1 r := ⟨a, 0, 0, ns, h1, by decide, by decide, by decide, scr_keep (fun o u z => e1 _ _ z) hs⟩
  have tab1 := tab_same tab e1
  walk_at "w"
  refine w_forr1 (fun i σ H' => ∃ v2 v3 v4 v5 v6 v7 v8 v9 v10 v11 v12, σ = [some (.ref a), some (.ref r), v2, v3, v4, v5, v6, v7, v8, v9, v10, v11, v12] ∧ RowAt K H' r ∧ GxR.TabG H' P) (by decide)
    ⟨_, _, _, _, _, _, _, _, _, _, _, rfl, row1, tab1⟩ (fun i σ H0 hi p => ?_) (fun σ H0 p => ?_)
  · obtain ⟨v2, v3, v4, v5, v6, v7, v8, v9, v10, v11, v12, rfl, row0, tab0⟩ := p
    walk_at "w"
    refine ⟨small_le (by simp), w_new fun t1 H1 ht1 e1 h1 => ?_⟩
    have row1 := row_same e1 row0
    have n1 := row_new row0 ht1
    walk_at "w"
    refine ⟨r, 3, rfl, by decide, row1, fun H2 x x0 x1 row2 o2 => ?_⟩
    have tab2 := tab_row (tab_same tab0 e1) row1 o2
    obtain ⟨ms, hms, ms1, ms2⟩ : ∃ mx : Int, atI [V.int 6, V.int 12, V.int 32] x = some (.int mx) ∧ 1 ≤ mx ∧ mx ≤ 32 := by
      obtain rfl | rfl | rfl : x = 0 ∨ x = 1 ∨ x = 2 := by omega
      · exact ⟨6, rfl, by decide, by decide⟩
      · exact ⟨12, rfl, by decide, by decide⟩
      · exact ⟨32, rfl, by decide, by decide⟩
    refine w_ixl (SqL.of (o2 _ _ h1 n1)) hms ?_
    walk_at "w"
    refine ⟨r, ms, rfl, ms1, ms2, row2, fun H3 st c fit l8 sa row3 o3 => ?_⟩
    have tab3 := tab_row tab2 row2 o3
    obtain ⟨mm, hq, hm⟩ := id sa
    have l1 := fit.ok.some_
    have l32 := fit.mem32
    walk_at "w"
    refine w_ixt (SqT.of hq) rfl ?_
    walk_at "w"
    refine ⟨small_le (by simp), w_new fun m1 H4 hm1 e4 h4 => ?_⟩
    have row4 := row_same e4 row3
    have tab4 := tab_same tab3 e4
    walk_at "w"
    refine ⟨r, 1, rfl, by decide, by decide, row4, fun H5 q5 c5 fit5 _ sa5 row5 o5 => ?_⟩
    have tab5 := tab_row tab4 row4 o5
    obtain ⟨m5, hq5, _⟩ := sa5
    walk_at "w"
    refine w_slT (SqT.of hq5) (fun z => absurd z.1 (by show ¬ (1 : Nat) = 0; decide)) ?_
    refine w_new fun q6 H6 hq6 e6 h6 => ?_
    have h6 : H6 q6 = some (.tup [.int c5.room, .int c5.late, .int c5.most]) := h6
    have tk36 : TKeep H3 H6 := fun b ys z => e6 _ _ (row_tup row4 o5 (e4 _ _ z))
    have tk46 : TKeep H4 H6 := fun b ys z => e6 _ _ (row_tup row4 o5 z)
    refine w_catT (SqT.of (tk46 _ _ h4)) (SqT.of h6) (by simp) (by simp) (small_le (by simp)) (w_new fun ot H7 hot e7 h7 => ?_)
    have h7 : H7 ot = some (.tup [.ref mm, .int c5.room, .int c5.late, .int c5.most]) := h7
    have tk37 : TKeep H3 H7 := fun b ys z => e7 _ _ (tk36 b ys z)
    have hq7 := tk37 _ _ hq
    have hm7 := tk37 _ _ hm
    have row7 := row_same e7 (row_same e6 row5)
    have tab7 := tab_same (tab_same tab5 e6) e7
    have fito : Cfg.fit ⟨c.mem, c5.room, c5.late, c5.most⟩ := ⟨⟨l1, fit5.ok.room1, fit5.ok.late0, fit5.ok.most1⟩, l32, fit.nums, fit5.room8, fit5.late4, fit5.most4⟩
    walk_at "w"
    refine w_ixt (SqT.of hq7) rfl ?_
    walk_at "w"
    refine w_len (.inr (SqT.of hm7)) ?_
    rw [List.length_map]
    walk_at "w"
    refine ⟨small_le (by simp), w_new fun t8 H8 ht8 e8 h8 => ?_⟩
    have row8 := row_same e8 row7
    have n8 := row_new row7 ht8
    walk_at "w"
    refine ⟨r, 4, rfl, by decide, row8, fun H9 y y0 y1 row9 o9 => ?_⟩
    have tab9 := tab_row (tab_same tab7 e8) row8 o9
    walk_at "w"
    refine w_i (show CDiv y 3 from ⟨by decide, by decide⟩) ?_
    obtain ⟨mx, hmx, mx0, mx1⟩ : ∃ mx : Int, atI [V.int 40, V.int 100] (y / 3) = some (.int mx) ∧ 0 ≤ mx ∧ mx ≤ 100 := by
      obtain rfl | rfl | rfl | rfl : y = 0 ∨ y = 1 ∨ y = 2 ∨ y = 3 := by omega
      · exact ⟨40, rfl, by decide, by decide⟩
      · exact ⟨40, rfl, by decide, by decide⟩
      · exact ⟨40, rfl, by decide, by decide⟩
      · exact ⟨100, rfl, by decide, by decide⟩
    refine w_ixl (SqL.of (o9 _ _ h8 n8)) hmx ?_
    walk_at "w"
    refine ⟨r, _, mx, rfl, by omega, by omega, mx0, by omega, row9, fun H10 l ds xs hl hds fl hlx dd row10 o10 => ?_⟩
    have rok : ∀ d, d ∈ ds → 0 ≤ d.1 ∧ d.1 < (c.mem.length : Int) := fun y hy => (hds y hy).1
    have num : rowNum ds := fun y hy => (hds y hy).2
    have nl := row_new row9 fl
    have tab10 := tab_row tab9 row9 o10
    have tk710 : TKeep H7 H10 := fun b ys z => row_tup row9 o10 (row_tup row8 o9 (e8 _ _ z))
    have hq10 := tk710 _ _ hq7
    have hm10 := tk710 _ _ hm7
    have ho10 := tk710 _ _ h7
    walk_at "w"
    refine w_ixt (SqT.of hq10) rfl ?_
    walk_at "w"
    refine ⟨mm, l, c.mem, ds, xs, rfl, SqT.of hm10, SqL.of hlx, dd, rok, by omega, fun H11 pq fa mt e11 ffa hpq hfa hmt => ?_⟩
    refine w_gtup (SqT.of hpq) rfl ?_
    walk_at "w"
    refine ⟨small_le (by simp), w_new fun l2 H12 hl2 e12 h12 => ?_⟩
    have e1012 := e11.trans e12
    have row12 := row_same e1012 row10
    have tab12 := tab_same tab10 e1012
    obtain ⟨pl1, pl2⟩ := plain_lens c.mem ds
    have two : ∀ (x : V), x ∈ [V.ref st, V.ref ot] → ∃ (q : Addr) (c' : Cfg), x = .ref q ∧ c'.mem = c.mem ∧ Cfg.fit c' ∧ SetAt H12 q c' := fun x hx => by
      rcases List.mem_cons.mp hx with rfl | hx
      · exact ⟨st, c, rfl, rfl, fit, mm, e1012 _ _ hq10, e1012 _ _ hm10⟩
      · rw [List.mem_singleton.mp hx]
        exact ⟨ot, ⟨c.mem, c5.room, c5.late, c5.most⟩, rfl, rfl, fito, mm, e1012 _ _ ho10, e1012 _ _ hm10⟩
    have n12 := row_new (row_same e11 row10) hl2
    walk_at "w"
    refine w_forl (fun j σ H' => ∃ w8 w9 w10 w11 w12, σ = [some (.ref a), some (.ref r), some (.int (i : Int)), some (.ref st), some (.ref ot), some (.ref l), some (.ref fa), some (.ref mt), w8, w9, w10, w11, w12] ∧ RowAt K H' r ∧ GxR.TabG H' P ∧ Out (fun b => b = r ∨ b = P) H12 H')
      (SqL.of h12) ⟨_, _, _, _, _, rfl, row12, tab12, .refl⟩ (fun j σ H' _ p => ?_) (fun j x σ H' hx p => ?_) (fun σ H' p => ?_)
    · obtain ⟨_, _, _, _, _, _, _, _, o'⟩ := p
      refine SqL.of (o' _ _ h12 ?_)
      rintro (z | z)
      · exact n12 z
      · exact tab_ne tab12 h12 (fun _ w => nomatch w) z
    · obtain ⟨w8, w9, w10, w11, w12, rfl, row', tab', o'⟩ := p
      have tk' : TKeep H12 H' := fun b ys hb => o' b _ hb (by
        rintro (z | z)
        · obtain ⟨zs, hz⟩ := row_lst row12
          rw [z, hz] at hb
          cases hb
        · exact tab_ne tab12 hb (fun _ w => nomatch w) z)
      have lk' : ∀ b ys, b ≠ r → H12 b = some (.lst ys) → H' b = some (.lst ys) := fun b ys nb hb => o' b _ hb (by
        rintro (z | z)
        · exact nb z
        · exact tab_ne tab12 hb (fun _ w => nomatch w) z)
      obtain ⟨q, c', rfl, em, fit', sa'⟩ := two x (List.mem_of_getElem? hx)
      have rok' : rowOk c' ds := fun d hd => by rw [em]; exact rok d hd
      have hl' := lk' _ _ nl (e1012 _ _ hlx)
      have nfa : fa ≠ r := row_new row10 ffa
      have hfa' := lk' _ _ nfa (e12 _ _ hfa)
      have hmt' := tk' _ _ (e12 _ _ hmt)
      have dd' : Deeds H' ds xs := (dd.keep (tk_same e1012)).keep tk'
      walk_at "w"
      refine ⟨r, 3, rfl, by decide, by decide, by decide, row', fun H13 gg G gok gdp gt row13 o13 => ?_⟩
      have tab13 := tab_row tab' row' o13
      have tk13 : TKeep H' H13 := fun b ys z => row_tup row' o13 z
      have hl13 := o13 _ _ hl' nl
      have hfa13 := o13 _ _ hfa' nfa
      have hmt13 := tk13 _ _ hmt'
      have dd13 := dd'.keep tk13
      have sa13 := set_keep tk13 (set_keep tk' sa')
      have kr := runTo_ok fit'.ok rok' ds.length (Nat.le_refl _) (g := G)
      have sl := ran_len fit'.ok fit'.most4 rok' ds.length (Nat.le_refl _) (g := G)
      obtain ⟨bl, as⟩ := ran_both fit'.ok (g := G) rok' ds.length (Nat.le_refl _)
      have pn := (ran_plain fit'.ok (g := G) rok' ds.length (Nat.le_refl _)).2
      rw [List.take_length, em] at pn
      have kroom := kr.room
      have kmost := kr.most
      have fr8 := fit'.room8
      have fm4 := fit'.most4
      walk_at "w"
      refine ⟨q, gg, l, c', G, ds, xs, rfl, sa13, fit', gt, gok, by omega, hl13, dd13, rok', by omega, fun H14 A ck U L W wv sv tm e14 hLS fr14 => ?_⟩
      change LS H14 A ck U L W wv sv tm (runTo c' G ds ds.length) _ at hLS
      have eran : ran c' G ds = runTo c' G ds ds.length := rfl
      generalize runTo c' G ds ds.length = m at hLS eran kr sl bl as pn kroom kmost
      walk_at "w"
      refine ⟨A, ck, U, L, W, wv, sv, tm, m, _, rfl, hLS, by omega, by omega, by omega, fun H15 kq e15 hkq => ?_⟩
      have e1315 := e14.trans e15
      have row15 := row_same e1315 row13
      have tab15 := tab_same tab13 e1315
      walk_at "w"
      refine w_forr1 (fun jj σ H' => ∃ w11 w12, σ = [some (.ref a), some (.ref r), some (.int (i : Int)), some (.ref st), some (.ref ot), some (.ref l), some (.ref fa), some (.ref mt), some (.ref q), some (.ref gg), some (.ref kq), w11, w12] ∧ RowAt K H' r ∧ Tb P H15 H') (by decide)
        ⟨_, _, rfl, row15, .refl tab15⟩ (fun jj σ H16 hjj p => ?_) (fun σ H16 p => ?_)
      · obtain ⟨w11, w12, rfl, row16, tb16⟩ := p
        have hl16 := tb16.lst (e1315 _ _ hl13)
        walk_at "w"
        refine w_listof (SqL.of hl16) (w_new fun ld H17 hld e17 h17 => ?_)
        have tb17 := tb16.trans (tb_same tb16.2.1 e17)
        have tk17 : TKeep H13 H17 := fun b ys z => tb17.tup (e1315 _ _ z)
        have gi : GoodIn K H17 q gg ld c' G ds := ⟨set_keep tk17 sa13, fit', gtup_keep (fun b ys z => tk17 _ _ z) gt, gok, by omega, ⟨xs, SqL.of h17, dd13.keep tk17⟩, rok', num, by omega⟩
        walk_at "w"
        refine ⟨q, gg, ld, c', G, ds, rfl, gi, tb17.2.1, fun H18 p b e18 hp hb ra => ?_⟩
        rw [eran] at ra
        obtain ⟨tt, kk, r1, r2, r3, r4⟩ := ra
        have tb18 := tb17.trans e18
        have row18 : RowAt K H18 r := row_tb (row_same e17 row16) e18
        walk_at "w"
        refine ⟨small_le (by simp), w_new fun dq H19 hdq e19 h19 => ?_⟩
        have tb19 := tb18.trans (tb_same tb18.2.1 e19)
        have pn1 : m.answers = (Sw.plain c.mem ds).1 := congrArg Prod.fst pn
        have pn2 : m.cells = (Sw.plain c.mem ds).2 := congrArg Prod.snd pn
        rw [pn1] at r2
        rw [pn2] at r3
        rw [countsI_eq] at r4 hkq
        have clen : (countsI m).length ≤ 100000 := by show 7 ≤ 100000; decide
        walk_at "w"
        refine ⟨runD (Sw.plain c.mem ds).1 (Sw.plain c.mem ds).2 (countsI m), _, _, rfl, .tup (e19 _ _ r1) (.cons (.lst (e19 _ _ r2) (d_ints _)) (.cons (.tup (e19 _ _ r3) (d_ints _)) (.cons (.tup (e19 _ _ r4) (d_ints _)) .nil))),
          .tup h19 (.cons (.lst (tb19.lst (e1315 _ _ hfa13)) (d_ints _)) (.cons (.tup (tb19.tup (e1315 _ _ hmt13)) (d_ints _)) (.cons (.tup (tb19.tup hkq) (d_ints _)) .nil))), run_fit (by omega) (by omega) clen, fun H20 e20 => ?_⟩
        have e1820 := e19.trans e20
        have tb20 := tb18.trans (tb_same tb18.2.1 e1820)
        have r1' := e1820 _ _ r1
        have r2' := e1820 _ _ r2
        have r4' := e1820 _ _ r4
        unfold bal at bl
        unfold asks at as
        walk_at "w"
        refine w_ixt (SqT.of r1') rfl ?_
        walk_at "w"
        refine w_ixt (SqT.of r4') rfl ?_
        walk_at "w"
        refine w_ixt (SqT.of r1') rfl ?_
        walk_at "w"
        refine w_slT (SqT.of r4') (fun z => absurd z.1 (by show ¬ (4 : Nat) = 0; decide)) (w_new fun s21 H21 hs21 e21 h21 => ?_)
        have h21 : H21 s21 = some (.tup ([(Sw.cnt .first m.story : Int) + (Sw.cnt .late m.story : Int), (Sw.cnt .waste m.story : Int), (waitsN m.shelf : Int) + (m.way.length : Int)].map V.int)) := h21
        walk_at "w"
        refine w_sumT (SqT.of h21) ?_
        walk_at "w"
        have q1 : V.int (Sw.cnt .start m.story : Int) = V.int ([(Sw.cnt .first m.story : Int) + (Sw.cnt .late m.story : Int), (Sw.cnt .waste m.story : Int), (waitsN m.shelf : Int) + (m.way.length : Int)] : List Int).sum := congrArg V.int (by
          simp only [List.sum_cons, List.sum_nil]
          omega)
        rw [decide_eq_true q1]
        have tb21 := tb20.trans (tb_same tb20.2.1 e21)
        walk_at "w"
        refine w_ixt (SqT.of (e21 _ _ r1')) rfl ?_
        walk_at "w"
        refine w_slT (SqT.of (e21 _ _ r4')) (fun z => absurd z.2 (by show ¬ (3 : Nat) = 7; decide)) (w_new fun s22 H22 hs22 e22 h22 => ?_)
        have h22 : H22 s22 = some (.tup ([(Sw.cnt .hit m.story : Int) + (Sw.cnt .first m.story : Int), (Sw.cnt .late m.story : Int), (Sw.cnt .miss m.story : Int)].map V.int)) := h22
        walk_at "w"
        refine w_sumT (SqT.of h22) ?_
        have tb22 := tb21.trans (tb_same tb21.2.1 e22)
        have hl22 : H22 l = some (.lst xs) := e22 _ _ (e21 _ _ (e1820 _ _ (e18.lst (e17 _ _ hl16))))
        walk_at "w"
        refine w_len (.inl (SqL.of hl22)) ?_
        walk_at "w"
        have hlen := dd.len
        have q2 : V.int ([(Sw.cnt .hit m.story : Int) + (Sw.cnt .first m.story : Int), (Sw.cnt .late m.story : Int), (Sw.cnt .miss m.story : Int)] : List Int).sum = V.int (xs.length : Int) := congrArg V.int (by
          simp only [List.sum_cons, List.sum_nil]
          omega)
        rw [decide_eq_true q2]
        have e1822 := e1820.trans (e21.trans e22)
        walk_at "w"
        refine w_ixt (SqT.of (e1822 _ _ r1)) rfl ?_
        have h22b := e1822 _ _ r2
        walk_at "w"
        refine ⟨.inl ⟨rfl, _, SqL.of h22b⟩, ?_⟩
        walk_at "w"
        refine w_app h22b (small_lt (by rw [List.length_map]; omega)) ?_
        have fb : H15 b = none := tb17.free hb
        have nbr : b ≠ r := fun z => by
          obtain ⟨ys, hy⟩ := row_lst (row_same e17 row16)
          rw [z, hy] at hb
          cases hb
        refine ⟨_, _, rfl, row_put (row_same e1822 row18) h22b nbr, tb22.1, ?_, fun c o hc nc => ?_⟩
        · obtain ⟨ps, hps, tr⟩ := tb22.2.1
          exact ⟨ps, by rw [upd_ne (fun z => by rw [z, h22b] at hps; cases hps)]; exact hps, tr⟩
        · rw [upd_ne (fun z => by rw [z, fb] at hc; cases hc)]
          exact tb22.2.2 c o hc nc
      · obtain ⟨w11, w12, rfl, row16, tb16⟩ := p
        refine ⟨_, _, _, _, _, rfl, row16, tb16.2.1, fun b o hb nb => ?_⟩
        have nr : b ≠ r := fun z => nb (.inl z)
        have nP : ¬ Is P b := fun z => nb (.inr z)
        exact tb16.2.2 b o (e1315 _ _ (o13 _ _ (o' b o hb nb) nr)) nP
    · obtain ⟨w8, w9, w10, w11, w12, rfl, row', tab', o'⟩ := p
      exact ⟨_, _, _, _, _, _, _, _, _, _, _, rfl, row', tab'⟩
  · walk_at "w"
    exact k _
end
end SwD
set_option Elab.async false
set_option linter.all false
set_option maxRecDepth 100000
set_option maxHeartbeats 1000000
/-! the script may be taken as frozen -/
namespace SwX
open PySem PySem.Spec PyProof.Rows L2 StX
section
variable {P : Program} {w : World} {H : Hp} {h : Heap} {a : Addr} {o : Obj} {xs : List V}
theorem not_at {b : Addr} {u : HO} (ha : H a = some (.lst xs)) (hb : H b = some u) (n : ∀ ys, u ≠ .lst ys) : b ≠ a := fun z => by
  rw [z, ha] at hb
  exact n xs (Option.some.inj hb).symm
theorem obj_frz (ha : H a = some (.lst xs)) : ∀ (u : HO) (b : Addr), ObjOk P w H h b u → ObjOk P w (upd H a (.frz o (.lst xs))) h b u
  | .lst _, _, k => k
  | .tup _, _, k => k
  | .dK _, _, k => k
  | .dT kvs, b, ⟨k1, k2, ys, k3, k4⟩ => ⟨k1, k2, ys, Paired.mapP k3 fun p q ⟨h1, h2, h3⟩ => ⟨h1, (upd_ne (not_at ha h2 fun _ z => nomatch z)).trans h2, h3⟩, k4⟩
  | .set _ _, _, k => k
  | .ins C dx fs, b, ⟨k1, k2⟩ => ⟨(upd_ne (not_at ha k1 fun _ z => nomatch z)).trans k1, k2⟩
  | .own _, _, k => k
  | .xd _, _, k => k
  | .rng _ _, _, k => k
  | .frz ob u, b, ⟨k1, k2⟩ => ⟨k1, obj_frz ha u b k2⟩
  | .tbl _, _, k => k
  | .met _ _, _, k => k
  | .ext _, _, k => k
end
/-- a promise over a frozen script is one over any -/
def thawed (K : PySem.W.Frag) (sp : Sp) : Sp := fun vs H Q E => ∃ (a : Addr) (xs : List V), vs = [.ref a] ∧ SqL K H a xs ∧ ∀ H2 : Hp, (∀ b, b ≠ a → H2 b = H b) → SwD.Scr K H2 a xs → sp [.ref a] H2 Q E
theorem frz_ok {P : Program} {w : World} {K : PySem.W.Frag} {mg : Str → Option Value} {base : Heap} {k : Nat} {f : Addr} {fd : FuncData} {x : Str} {sp : Sp} (F : FnOk P w K mg base CX0 k f fd [x] sp) : FnOk P w K mg base CX0 k f fd [x] (thawed K sp) := by
  refine ⟨fun vs H Q E hh => by obtain ⟨a, xs, rfl, _⟩ := hh; rfl, fun A outer s H args us vs Q E hr he hb hv hs => ?_⟩
  obtain ⟨a, xs, rfl, hq, hs⟩ := hs
  rcases hq with (ha | ⟨o, ha⟩) | hK
  · obtain ⟨z1, its, n, rv, ho⟩ := he.hok a _ ha
    generalize hoe : ({ cls := .type "list", data := .seq its.toArray n } : Obj) = o at ho
    have nb : ∀ b, H b = none → b ≠ a := fun b hb z => by rw [z, ha] at hb; cases hb
    have e2 : Env0 P w K mg base A outer s (upd H a (.frz o (.lst xs))) := by
      refine ⟨he.frames, he.mod, fun b u e => ⟨(he.bs b u e).1, ?_⟩, he.bsz, he.funs, fun b hb => ?_, fun b u e => ?_, he.bare⟩
      · have := (he.bs b u e).2
        rw [upd_ne (nb b this)]
        exact this
      · have := he.frf b hb
        rw [upd_ne (nb b this)]
        exact this
      · by_cases hba : b = a
        · subst hba
          rw [upd_same] at e
          cases e
          exact ⟨ho, obj_frz ha _ _ (he.hok b _ ha)⟩
        · rw [upd_ne hba] at e
          exact obj_frz ha u b (he.hok b u e)
    refine codeAny_mono (F.run A outer s _ args us _ Q E hr e2 hb hv (hs _ (fun b hb => upd_ne hb) (.inl ⟨o, upd_same⟩))) fun r s' hres => ?_
    cases r with
    | error e => exact hres
    | ok fl =>
      cases fl with
      | ret u =>
        obtain ⟨v, H', os, bare, un, hok, rv', q⟩ := hres
        refine ⟨v, H', os, bare, ⟨fun b ob q n => un.keep b ob q (by rw [upd_ne (nb b n)]; exact n), fun b ob q n => un.slot b ob q (by rw [upd_ne (nb b n)]; exact n), fun b ob q n => un.free b ob q (by rw [upd_ne (nb b n)]; exact n), un.there, fun b ys q => un.tups b ys ?_, fun b ob u q => un.frzs b ob u ?_, fun b ps q => un.tbls b ps ?_⟩, hok, rv', q⟩
        · rw [upd_ne (not_at ha q fun _ z => nomatch z)]
          exact q
        · rw [upd_ne (not_at ha q fun _ z => nomatch z)]
          exact q
        · rw [upd_ne (not_at ha q fun _ z => nomatch z)]
          exact q
      | next => exact hres
      | brk => exact hres
      | cont => exact hres
  · exact F.run A outer s H args us _ Q E hr he hb hv (hs H (fun _ _ => rfl) (.inl ⟨o, ha⟩))
  · exact F.run A outer s H args us _ Q E hr he hb hv (hs H (fun _ _ => rfl) (.inr hK))
end SwX
set_option Elab.async false
set_option linter.all false
set_option maxRecDepth 100000
set_option maxHeartbeats 4000000
namespace SwD
open PySem PySem.Spec PyProof.Rows L2 SwX StX Sw
/-! ### the text by places -/
def topS (i : Nat) : Stmt := PySem.Challenge.pw_stridewell_k05_whole_never_another_answe.main.body.getD i (.Pass ⟨0, 0, 0, 0⟩)
abbrev s_is_number : Stmt := topS 11
theorem sc_is_number : FnScope ["number"] ["number"] (defScope s_is_number) := ⟨rfl, rfl, rfl, by decide +kernel, rfl, by decide +kernel, by decide +kernel⟩
abbrev s_is_memory : Stmt := topS 12
theorem sc_is_memory : FnScope ["numbers", "number"] ["numbers"] (defScope s_is_memory) := ⟨rfl, rfl, rfl, by decide +kernel, rfl, by decide +kernel, by decide +kernel⟩
abbrev s_is_part : Stmt := topS 13
theorem sc_is_part : FnScope ["word", "part", "low", "high"] ["word", "part"] (defScope s_is_part) := ⟨rfl, rfl, rfl, by decide +kernel, rfl, by decide +kernel, by decide +kernel⟩
abbrev s_check_setting : Stmt := topS 14
theorem sc_check_setting : FnScope ["setting", "at", "word"] ["setting"] (defScope s_check_setting) := ⟨rfl, rfl, rfl, by decide +kernel, rfl, by decide +kernel, by decide +kernel⟩
abbrev s_is_deed : Stmt := topS 15
theorem sc_is_deed : FnScope ["deed", "places", "place", "number"] ["deed", "places"] (defScope s_is_deed) := ⟨rfl, rfl, rfl, by decide +kernel, rfl, by decide +kernel, by decide +kernel⟩
abbrev s_check_row : Stmt := topS 16
theorem sc_check_row : FnScope ["setting", "row", "places", "number", "deed"] ["setting", "row"] (defScope s_check_row) := ⟨rfl, rfl, rfl, by decide +kernel, rfl, by decide +kernel, by decide +kernel⟩
abbrev s_Silent_guess : Stmt := inClass (topS 19) 0
theorem sc_Silent_guess : FnScope ["self", "place"] ["self", "place"] (defScope s_Silent_guess) := ⟨rfl, rfl, rfl, by decide +kernel, rfl, by decide +kernel, by decide +kernel⟩
abbrev s_Neighbours_init : Stmt := inClass (topS 20) 0
theorem sc_Neighbours_init : FnScope ["self", "many"] ["self", "many"] (defScope s_Neighbours_init) := ⟨rfl, rfl, rfl, by decide +kernel, rfl, by decide +kernel, by decide +kernel⟩
abbrev s_Neighbours_guess : Stmt := inClass (topS 20) 1
theorem sc_Neighbours_guess : FnScope ["self", "place", "step"] ["self", "place"] (defScope s_Neighbours_guess) := ⟨rfl, rfl, rfl, by decide +kernel, rfl, by decide +kernel, by decide +kernel⟩
abbrev s_Strides_init : Stmt := inClass (topS 21) 0
theorem sc_Strides_init : FnScope ["self", "times"] ["self", "times"] (defScope s_Strides_init) := ⟨rfl, rfl, rfl, by decide +kernel, rfl, by decide +kernel, by decide +kernel⟩
abbrev s_Strides_guess : Stmt := inClass (topS 21) 1
theorem sc_Strides_guess : FnScope ["self", "place"] ["self", "place"] (defScope s_Strides_guess) := ⟨rfl, rfl, rfl, by decide +kernel, rfl, by decide +kernel, by decide +kernel⟩
abbrev s_Strides_count_stride : Stmt := inClass (topS 21) 2
theorem sc_Strides_count_stride : FnScope ["self", "stride"] ["self", "stride"] (defScope s_Strides_count_stride) := ⟨rfl, rfl, rfl, by decide +kernel, rfl, by decide +kernel, by decide +kernel⟩
abbrev s_Pairs_init : Stmt := inClass (topS 22) 0
theorem sc_Pairs_init : FnScope ["self", "many"] ["self", "many"] (defScope s_Pairs_init) := ⟨rfl, rfl, rfl, by decide +kernel, rfl, by decide +kernel, by decide +kernel⟩
abbrev s_Pairs_guess : Stmt := inClass (topS 22) 1
theorem sc_Pairs_guess : FnScope ["self", "place"] ["self", "place"] (defScope s_Pairs_guess) := ⟨rfl, rfl, rfl, by decide +kernel, rfl, by decide +kernel, by decide +kernel⟩
abbrev s_Pairs_put_behind : Stmt := inClass (topS 22) 2
theorem sc_Pairs_put_behind : FnScope ["self", "earlier", "place", "others", "other"] ["self", "earlier", "place"] (defScope s_Pairs_put_behind) := ⟨rfl, rfl, rfl, by decide +kernel, rfl, by decide +kernel, by decide +kernel⟩
abbrev s_Both_init : Stmt := inClass (topS 23) 0
theorem sc_Both_init : FnScope ["self", "one", "other"] ["self", "one", "other"] (defScope s_Both_init) := ⟨rfl, rfl, rfl, by decide +kernel, rfl, by decide +kernel, by decide +kernel⟩
abbrev s_Both_guess : Stmt := inClass (topS 23) 1
theorem sc_Both_guess : FnScope ["self", "place", "first", "second", "guessed"] ["self", "place"] (defScope s_Both_guess) := ⟨rfl, rfl, rfl, by decide +kernel, rfl, by decide +kernel, by decide +kernel⟩
abbrev s_is_guesser : Stmt := topS 24
theorem sc_is_guesser : FnScope ["guesser", "boths", "many", "times", "one", "other"] ["guesser", "boths"] (defScope s_is_guesser) := ⟨rfl, rfl, rfl, by decide +kernel, rfl, by decide +kernel, by decide +kernel⟩
abbrev s_check_guesser : Stmt := topS 25
theorem sc_check_guesser : FnScope ["guesser"] ["guesser"] (defScope s_check_guesser) := ⟨rfl, rfl, rfl, by decide +kernel, rfl, by decide +kernel, by decide +kernel⟩
abbrev s_begun : Stmt := topS 26
theorem sc_begun : FnScope ["guesser", "many", "times", "one", "other"] ["guesser"] (defScope s_begun) := ⟨rfl, rfl, rfl, by decide +kernel, rfl, by decide +kernel, by decide +kernel⟩
abbrev s_Play_init : Stmt := inClass (topS 28) 0
theorem sc_Play_init : FnScope ["self", "setting", "guesser", "memory"] ["self", "setting", "guesser"] (defScope s_Play_init) := ⟨rfl, rfl, rfl, by decide +kernel, rfl, by decide +kernel, by decide +kernel⟩
abbrev s_Play_take_turn : Stmt := inClass (topS 28) 1
theorem sc_Play_take_turn : FnScope ["self", "turn", "deed", "place"] ["self", "turn", "deed"] (defScope s_Play_take_turn) := ⟨rfl, rfl, rfl, by decide +kernel, rfl, by decide +kernel, by decide +kernel⟩
abbrev s_Play_tell : Stmt := inClass (topS 28) 2
theorem sc_Play_tell : FnScope ["self", "word", "place"] ["self", "word", "place"] (defScope s_Play_tell) := ⟨rfl, rfl, rfl, by decide +kernel, rfl, by decide +kernel, by decide +kernel⟩
abbrev s_Play_lay_what_comes : Stmt := inClass (topS 28) 3
theorem sc_Play_lay_what_comes : FnScope ["self", "coming", "place", "since"] ["self"] (defScope s_Play_lay_what_comes) := ⟨rfl, rfl, rfl, by decide +kernel, rfl, by decide +kernel, by decide +kernel⟩
abbrev s_Play_ask : Stmt := inClass (topS 28) 4
theorem sc_Play_ask : FnScope ["self", "place"] ["self", "place"] (defScope s_Play_ask) := ⟨rfl, rfl, rfl, by decide +kernel, rfl, by decide +kernel, by decide +kernel⟩
abbrev s_Play_ask_on_shelf : Stmt := inClass (topS 28) 5
theorem sc_Play_ask_on_shelf : FnScope ["self", "place", "number"] ["self", "place"] (defScope s_Play_ask_on_shelf) := ⟨rfl, rfl, rfl, by decide +kernel, rfl, by decide +kernel, by decide +kernel⟩
abbrev s_Play_lay : Stmt := inClass (topS 28) 6
theorem sc_Play_lay : FnScope ["self", "place", "word"] ["self", "place", "word"] (defScope s_Play_lay) := ⟨rfl, rfl, rfl, by decide +kernel, rfl, by decide +kernel, by decide +kernel⟩
abbrev s_Play_let_oldest_leave : Stmt := inClass (topS 28) 7
theorem sc_Play_let_oldest_leave : FnScope ["self", "oldest"] ["self"] (defScope s_Play_let_oldest_leave) := ⟨rfl, rfl, rfl, by decide +kernel, rfl, by decide +kernel, by decide +kernel⟩
abbrev s_Play_read_or_write : Stmt := inClass (topS 28) 8
theorem sc_Play_read_or_write : FnScope ["self", "deed", "place", "number"] ["self", "deed"] (defScope s_Play_read_or_write) := ⟨rfl, rfl, rfl, by decide +kernel, rfl, by decide +kernel, by decide +kernel⟩
abbrev s_Play_start_guessed : Stmt := inClass (topS 28) 9
theorem sc_Play_start_guessed : FnScope ["self", "place", "guessed"] ["self", "place"] (defScope s_Play_start_guessed) := ⟨rfl, rfl, rfl, by decide +kernel, rfl, by decide +kernel, by decide +kernel⟩
abbrev s_Play_may_start : Stmt := inClass (topS 28) 10
theorem sc_Play_may_start : FnScope ["self", "place"] ["self", "place"] (defScope s_Play_may_start) := ⟨rfl, rfl, rfl, by decide +kernel, rfl, by decide +kernel, by decide +kernel⟩
abbrev s_played : Stmt := topS 29
theorem sc_played : FnScope ["setting", "guesser", "row", "play", "turn", "deed"] ["setting", "guesser", "row"] (defScope s_played) := ⟨rfl, rfl, rfl, by decide +kernel, rfl, by decide +kernel, by decide +kernel⟩
abbrev s_counts_of : Stmt := topS 30
theorem sc_counts_of : FnScope ["play", "words", "firsts", "lates", "idle", "event"] ["play"] (defScope s_counts_of) := ⟨rfl, rfl, rfl, by decide +kernel, rfl, by decide +kernel, by decide +kernel⟩
abbrev s_checked_play : Stmt := topS 32
theorem sc_checked_play : FnScope ["setting", "guesser", "row"] ["setting", "guesser", "row"] (defScope s_checked_play) := ⟨rfl, rfl, rfl, by decide +kernel, rfl, by decide +kernel, by decide +kernel⟩
abbrev s_run : Stmt := topS 33
theorem sc_run : FnScope ["setting", "guesser", "row", "play"] ["setting", "guesser", "row"] (defScope s_run) := ⟨rfl, rfl, rfl, by decide +kernel, rfl, by decide +kernel, by decide +kernel⟩
abbrev s_law_taken : Stmt := topS 35
theorem sc_law_taken : FnScope ["_law_row", "_law_many", "_law_cell"] ["_law_row", "_law_many"] (defScope s_law_taken) := ⟨rfl, rfl, rfl, by decide +kernel, rfl, by decide +kernel, by decide +kernel⟩
abbrev s_law_alike : Stmt := topS 36
theorem sc_law_alike : FnScope ["_law_found", "_law_due", "_law_k"] ["_law_found", "_law_due"] (defScope s_law_alike) := ⟨rfl, rfl, rfl, by decide +kernel, rfl, by decide +kernel, by decide +kernel⟩
abbrev s_law_guesser : Stmt := topS 37
theorem sc_law_guesser : FnScope ["_law_row", "_law_within", "_law_way", "_law_one", "_law_sorts"] ["_law_row", "_law_within"] (defScope s_law_guesser) := ⟨rfl, rfl, rfl, by decide +kernel, rfl, by decide +kernel, by decide +kernel⟩
abbrev s_law_setting : Stmt := topS 38
theorem sc_law_setting : FnScope ["_law_row", "_law_most", "_law_memory", "_law_room", "_law_k"] ["_law_row", "_law_most"] (defScope s_law_setting) := ⟨rfl, rfl, rfl, by decide +kernel, rfl, by decide +kernel, by decide +kernel⟩
abbrev s_law_places : Stmt := topS 39
theorem sc_law_places : FnScope ["_law_row", "_law_places_here", "_law_most", "_law_found", "_law_here", "_law_far", "_law_k", "_law_way"] ["_law_row", "_law_places_here", "_law_most"] (defScope s_law_places) := ⟨rfl, rfl, rfl, by decide +kernel, rfl, by decide +kernel, by decide +kernel⟩
abbrev s_law_deeds : Stmt := topS 40
theorem sc_law_deeds : FnScope ["_law_row", "_law_places_here", "_law_most", "_law_found", "_law_place"] ["_law_row", "_law_places_here", "_law_most"] (defScope s_law_deeds) := ⟨rfl, rfl, rfl, by decide +kernel, rfl, by decide +kernel, by decide +kernel⟩
abbrev s_law_guessed : Stmt := topS 41
theorem sc_law_guessed : FnScope ["_law_guesser_here", "_law_places_here", "_law_here", "_law_one", "_law_strides", "_law_some", "_law_found", "_law_k", "_law_place"] ["_law_guesser_here", "_law_places_here"] (defScope s_law_guessed) := ⟨rfl, rfl, rfl, by decide +kernel, rfl, by decide +kernel, by decide +kernel⟩
abbrev s_law_run : Stmt := topS 42
theorem sc_law_run : FnScope ["_law_setting_here", "_law_guesser_here", "_law_row", "_law_memory", "_law_room", "_law_late", "_law_most", "_law_s", "_law_turn", "_law_place", "_law_one", "_law_begin", "_law_there", "_law_pair", "_law_deed"] ["_law_setting_here", "_law_guesser_here", "_law_row"] (defScope s_law_run) := ⟨rfl, rfl, rfl, by decide +kernel, rfl, by decide +kernel, by decide +kernel⟩
abbrev s_law_laid : Stmt := topS 43
theorem sc_law_laid : FnScope ["_law_s", "_law_room", "_law_turn", "_law_place", "_law_word", "_law_old", "_law_one", "_law_other"] ["_law_s", "_law_room", "_law_turn", "_law_place", "_law_word"] (defScope s_law_laid) := ⟨rfl, rfl, rfl, by decide +kernel, rfl, by decide +kernel, by decide +kernel⟩
abbrev s_law_asked : Stmt := topS 44
theorem sc_law_asked : FnScope ["_law_s", "_law_room", "_law_turn", "_law_place", "_law_rest", "_law_word", "_law_one", "_law_pair"] ["_law_s", "_law_room", "_law_turn", "_law_place"] (defScope s_law_asked) := ⟨rfl, rfl, rfl, by decide +kernel, rfl, by decide +kernel, by decide +kernel⟩
abbrev s_law_counts : Stmt := topS 45
theorem sc_law_counts : FnScope ["_law_s", "_law_words", "_law_many", "_law_idle", "_law_turn", "_law_word", "_law_place"] ["_law_s"] (defScope s_law_counts) := ⟨rfl, rfl, rfl, by decide +kernel, rfl, by decide +kernel, by decide +kernel⟩
abbrev s_law_plain : Stmt := topS 46
theorem sc_law_plain : FnScope ["_law_memory", "_law_row", "_law_cells", "_law_found", "_law_deed"] ["_law_memory", "_law_row"] (defScope s_law_plain) := ⟨rfl, rfl, rfl, by decide +kernel, rfl, by decide +kernel, by decide +kernel⟩
abbrev s_law : Stmt := topS 47
theorem sc_law : FnScope ["_law_script", "_law_row", "_law_turn", "_law_setting_here", "_law_other", "_law_deeds_here", "_law_answers", "_law_memory", "_law_one", "_law_guesser_here", "_law_counts_here", "_law_again", "_law_found"] ["_law_script"] (defScope s_law) := ⟨rfl, rfl, rfl, by decide +kernel, rfl, by decide +kernel, by decide +kernel⟩
structure Top (K : PySem.W.Frag) (mg : Str → Option Value) where
  c_Silent : Addr
  cl_Silent : Cls K c_Silent
  g_Silent : mg "Silent" = some (.ref c_Silent)
  mk_Silent : MkN K c_Silent
  c_Neighbours : Addr
  cl_Neighbours : Cls K c_Neighbours
  g_Neighbours : mg "Neighbours" = some (.ref c_Neighbours)
  n_Neighbours_many : NoAttr K c_Neighbours "many"
  c_Strides : Addr
  cl_Strides : Cls K c_Strides
  g_Strides : mg "Strides" = some (.ref c_Strides)
  n_Strides_times : NoAttr K c_Strides "times"
  n_Strides_last : NoAttr K c_Strides "last"
  n_Strides_stride : NoAttr K c_Strides "stride"
  n_Strides_same : NoAttr K c_Strides "same"
  c_Pairs : Addr
  cl_Pairs : Cls K c_Pairs
  g_Pairs : mg "Pairs" = some (.ref c_Pairs)
  n_Pairs_many : NoAttr K c_Pairs "many"
  n_Pairs_last : NoAttr K c_Pairs "last"
  n_Pairs_followers : NoAttr K c_Pairs "followers"
  c_Both : Addr
  cl_Both : Cls K c_Both
  g_Both : mg "Both" = some (.ref c_Both)
  n_Both_one : NoAttr K c_Both "one"
  n_Both_other : NoAttr K c_Both "other"
  c_Play : Addr
  cl_Play : Cls K c_Play
  g_Play : mg "Play" = some (.ref c_Play)
  n_Play_memory : NoAttr K c_Play "memory"
  n_Play_watcher : NoAttr K c_Play "watcher"
  n_Play_shelf : NoAttr K c_Play "shelf"
  n_Play_unasked : NoAttr K c_Play "unasked"
  n_Play_way : NoAttr K c_Play "way"
  n_Play_turn : NoAttr K c_Play "turn"
  n_Play_events : NoAttr K c_Play "events"
  n_Play_answers : NoAttr K c_Play "answers"
  n_Play_room : NoAttr K c_Play "room"
  n_Play_late : NoAttr K c_Play "late"
  n_Play_most : NoAttr K c_Play "most"
  f_is_number : Addr
  fd_is_number : FuncData
  F_is_number : Fun K "is_number" "is_number" s_is_number f_is_number fd_is_number
  g_is_number : mg "is_number" = some (.ref f_is_number)
  f_is_memory : Addr
  fd_is_memory : FuncData
  F_is_memory : Fun K "is_memory" "is_memory" s_is_memory f_is_memory fd_is_memory
  g_is_memory : mg "is_memory" = some (.ref f_is_memory)
  f_is_part : Addr
  fd_is_part : FuncData
  F_is_part : Fun K "is_part" "is_part" s_is_part f_is_part fd_is_part
  g_is_part : mg "is_part" = some (.ref f_is_part)
  f_check_setting : Addr
  fd_check_setting : FuncData
  F_check_setting : Fun K "check_setting" "check_setting" s_check_setting f_check_setting fd_check_setting
  g_check_setting : mg "check_setting" = some (.ref f_check_setting)
  f_is_deed : Addr
  fd_is_deed : FuncData
  F_is_deed : Fun K "is_deed" "is_deed" s_is_deed f_is_deed fd_is_deed
  g_is_deed : mg "is_deed" = some (.ref f_is_deed)
  f_check_row : Addr
  fd_check_row : FuncData
  F_check_row : Fun K "check_row" "check_row" s_check_row f_check_row fd_check_row
  g_check_row : mg "check_row" = some (.ref f_check_row)
  f_Silent_guess : Addr
  fd_Silent_guess : FuncData
  F_Silent_guess : Fun K "guess" "Silent.guess" s_Silent_guess f_Silent_guess fd_Silent_guess
  m_Silent_guess : Meth K c_Silent "guess" f_Silent_guess
  f_Neighbours_init : Addr
  fd_Neighbours_init : FuncData
  F_Neighbours_init : Fun K "__init__" "Neighbours.__init__" s_Neighbours_init f_Neighbours_init fd_Neighbours_init
  mk_Neighbours : Mk K c_Neighbours f_Neighbours_init
  f_Neighbours_guess : Addr
  fd_Neighbours_guess : FuncData
  F_Neighbours_guess : Fun K "guess" "Neighbours.guess" s_Neighbours_guess f_Neighbours_guess fd_Neighbours_guess
  m_Neighbours_guess : Meth K c_Neighbours "guess" f_Neighbours_guess
  f_Strides_init : Addr
  fd_Strides_init : FuncData
  F_Strides_init : Fun K "__init__" "Strides.__init__" s_Strides_init f_Strides_init fd_Strides_init
  mk_Strides : Mk K c_Strides f_Strides_init
  f_Strides_guess : Addr
  fd_Strides_guess : FuncData
  F_Strides_guess : Fun K "guess" "Strides.guess" s_Strides_guess f_Strides_guess fd_Strides_guess
  m_Strides_guess : Meth K c_Strides "guess" f_Strides_guess
  f_Strides_count_stride : Addr
  fd_Strides_count_stride : FuncData
  F_Strides_count_stride : Fun K "count_stride" "Strides.count_stride" s_Strides_count_stride f_Strides_count_stride fd_Strides_count_stride
  m_Strides_count_stride : Meth K c_Strides "count_stride" f_Strides_count_stride
  f_Pairs_init : Addr
  fd_Pairs_init : FuncData
  F_Pairs_init : Fun K "__init__" "Pairs.__init__" s_Pairs_init f_Pairs_init fd_Pairs_init
  mk_Pairs : Mk K c_Pairs f_Pairs_init
  f_Pairs_guess : Addr
  fd_Pairs_guess : FuncData
  F_Pairs_guess : Fun K "guess" "Pairs.guess" s_Pairs_guess f_Pairs_guess fd_Pairs_guess
  m_Pairs_guess : Meth K c_Pairs "guess" f_Pairs_guess
  f_Pairs_put_behind : Addr
  fd_Pairs_put_behind : FuncData
  F_Pairs_put_behind : Fun K "put_behind" "Pairs.put_behind" s_Pairs_put_behind f_Pairs_put_behind fd_Pairs_put_behind
  m_Pairs_put_behind : Meth K c_Pairs "put_behind" f_Pairs_put_behind
  f_Both_init : Addr
  fd_Both_init : FuncData
  F_Both_init : Fun K "__init__" "Both.__init__" s_Both_init f_Both_init fd_Both_init
  mk_Both : Mk K c_Both f_Both_init
  f_Both_guess : Addr
  fd_Both_guess : FuncData
  F_Both_guess : Fun K "guess" "Both.guess" s_Both_guess f_Both_guess fd_Both_guess
  m_Both_guess : Meth K c_Both "guess" f_Both_guess
  f_is_guesser : Addr
  fd_is_guesser : FuncData
  F_is_guesser : Fun K "is_guesser" "is_guesser" s_is_guesser f_is_guesser fd_is_guesser
  g_is_guesser : mg "is_guesser" = some (.ref f_is_guesser)
  f_check_guesser : Addr
  fd_check_guesser : FuncData
  F_check_guesser : Fun K "check_guesser" "check_guesser" s_check_guesser f_check_guesser fd_check_guesser
  g_check_guesser : mg "check_guesser" = some (.ref f_check_guesser)
  f_begun : Addr
  fd_begun : FuncData
  F_begun : Fun K "begun" "begun" s_begun f_begun fd_begun
  g_begun : mg "begun" = some (.ref f_begun)
  f_Play_init : Addr
  fd_Play_init : FuncData
  F_Play_init : Fun K "__init__" "Play.__init__" s_Play_init f_Play_init fd_Play_init
  mk_Play : Mk K c_Play f_Play_init
  f_Play_take_turn : Addr
  fd_Play_take_turn : FuncData
  F_Play_take_turn : Fun K "take_turn" "Play.take_turn" s_Play_take_turn f_Play_take_turn fd_Play_take_turn
  m_Play_take_turn : Meth K c_Play "take_turn" f_Play_take_turn
  f_Play_tell : Addr
  fd_Play_tell : FuncData
  F_Play_tell : Fun K "tell" "Play.tell" s_Play_tell f_Play_tell fd_Play_tell
  m_Play_tell : Meth K c_Play "tell" f_Play_tell
  f_Play_lay_what_comes : Addr
  fd_Play_lay_what_comes : FuncData
  F_Play_lay_what_comes : Fun K "lay_what_comes" "Play.lay_what_comes" s_Play_lay_what_comes f_Play_lay_what_comes fd_Play_lay_what_comes
  m_Play_lay_what_comes : Meth K c_Play "lay_what_comes" f_Play_lay_what_comes
  f_Play_ask : Addr
  fd_Play_ask : FuncData
  F_Play_ask : Fun K "ask" "Play.ask" s_Play_ask f_Play_ask fd_Play_ask
  m_Play_ask : Meth K c_Play "ask" f_Play_ask
  f_Play_ask_on_shelf : Addr
  fd_Play_ask_on_shelf : FuncData
  F_Play_ask_on_shelf : Fun K "ask_on_shelf" "Play.ask_on_shelf" s_Play_ask_on_shelf f_Play_ask_on_shelf fd_Play_ask_on_shelf
  m_Play_ask_on_shelf : Meth K c_Play "ask_on_shelf" f_Play_ask_on_shelf
  f_Play_lay : Addr
  fd_Play_lay : FuncData
  F_Play_lay : Fun K "lay" "Play.lay" s_Play_lay f_Play_lay fd_Play_lay
  m_Play_lay : Meth K c_Play "lay" f_Play_lay
  f_Play_let_oldest_leave : Addr
  fd_Play_let_oldest_leave : FuncData
  F_Play_let_oldest_leave : Fun K "let_oldest_leave" "Play.let_oldest_leave" s_Play_let_oldest_leave f_Play_let_oldest_leave fd_Play_let_oldest_leave
  m_Play_let_oldest_leave : Meth K c_Play "let_oldest_leave" f_Play_let_oldest_leave
  f_Play_read_or_write : Addr
  fd_Play_read_or_write : FuncData
  F_Play_read_or_write : Fun K "read_or_write" "Play.read_or_write" s_Play_read_or_write f_Play_read_or_write fd_Play_read_or_write
  m_Play_read_or_write : Meth K c_Play "read_or_write" f_Play_read_or_write
  f_Play_start_guessed : Addr
  fd_Play_start_guessed : FuncData
  F_Play_start_guessed : Fun K "start_guessed" "Play.start_guessed" s_Play_start_guessed f_Play_start_guessed fd_Play_start_guessed
  m_Play_start_guessed : Meth K c_Play "start_guessed" f_Play_start_guessed
  f_Play_may_start : Addr
  fd_Play_may_start : FuncData
  F_Play_may_start : Fun K "may_start" "Play.may_start" s_Play_may_start f_Play_may_start fd_Play_may_start
  m_Play_may_start : Meth K c_Play "may_start" f_Play_may_start
  f_played : Addr
  fd_played : FuncData
  F_played : Fun K "played" "played" s_played f_played fd_played
  g_played : mg "played" = some (.ref f_played)
  f_counts_of : Addr
  fd_counts_of : FuncData
  F_counts_of : Fun K "counts_of" "counts_of" s_counts_of f_counts_of fd_counts_of
  g_counts_of : mg "counts_of" = some (.ref f_counts_of)
  f_checked_play : Addr
  fd_checked_play : FuncData
  F_checked_play : Fun K "checked_play" "checked_play" s_checked_play f_checked_play fd_checked_play
  g_checked_play : mg "checked_play" = some (.ref f_checked_play)
  f_run : Addr
  fd_run : FuncData
  F_run : Fun K "run" "run" s_run f_run fd_run
  g_run : mg "run" = some (.ref f_run)
  f_law_taken : Addr
  fd_law_taken : FuncData
  F_law_taken : Fun K "_law_taken" "_law_taken" s_law_taken f_law_taken fd_law_taken
  g_law_taken : mg "_law_taken" = some (.ref f_law_taken)
  f_law_alike : Addr
  fd_law_alike : FuncData
  F_law_alike : Fun K "_law_alike" "_law_alike" s_law_alike f_law_alike fd_law_alike
  g_law_alike : mg "_law_alike" = some (.ref f_law_alike)
  f_law_guesser : Addr
  fd_law_guesser : FuncData
  F_law_guesser : Fun K "_law_guesser" "_law_guesser" s_law_guesser f_law_guesser fd_law_guesser
  g_law_guesser : mg "_law_guesser" = some (.ref f_law_guesser)
  f_law_setting : Addr
  fd_law_setting : FuncData
  F_law_setting : Fun K "_law_setting" "_law_setting" s_law_setting f_law_setting fd_law_setting
  g_law_setting : mg "_law_setting" = some (.ref f_law_setting)
  f_law_places : Addr
  fd_law_places : FuncData
  F_law_places : Fun K "_law_places" "_law_places" s_law_places f_law_places fd_law_places
  g_law_places : mg "_law_places" = some (.ref f_law_places)
  f_law_deeds : Addr
  fd_law_deeds : FuncData
  F_law_deeds : Fun K "_law_deeds" "_law_deeds" s_law_deeds f_law_deeds fd_law_deeds
  g_law_deeds : mg "_law_deeds" = some (.ref f_law_deeds)
  f_law_guessed : Addr
  fd_law_guessed : FuncData
  F_law_guessed : Fun K "_law_guessed" "_law_guessed" s_law_guessed f_law_guessed fd_law_guessed
  g_law_guessed : mg "_law_guessed" = some (.ref f_law_guessed)
  f_law_run : Addr
  fd_law_run : FuncData
  F_law_run : Fun K "_law_run" "_law_run" s_law_run f_law_run fd_law_run
  g_law_run : mg "_law_run" = some (.ref f_law_run)
  f_law_laid : Addr
  fd_law_laid : FuncData
  F_law_laid : Fun K "_law_laid" "_law_laid" s_law_laid f_law_laid fd_law_laid
  g_law_laid : mg "_law_laid" = some (.ref f_law_laid)
  f_law_asked : Addr
  fd_law_asked : FuncData
  F_law_asked : Fun K "_law_asked" "_law_asked" s_law_asked f_law_asked fd_law_asked
  g_law_asked : mg "_law_asked" = some (.ref f_law_asked)
  f_law_counts : Addr
  fd_law_counts : FuncData
  F_law_counts : Fun K "_law_counts" "_law_counts" s_law_counts f_law_counts fd_law_counts
  g_law_counts : mg "_law_counts" = some (.ref f_law_counts)
  f_law_plain : Addr
  fd_law_plain : FuncData
  F_law_plain : Fun K "_law_plain" "_law_plain" s_law_plain f_law_plain fd_law_plain
  g_law_plain : mg "_law_plain" = some (.ref f_law_plain)
  f_law : Addr
  fd_law : FuncData
  F_law : Fun K "law" "law" s_law f_law fd_law
  g_law : mg "law" = some (.ref f_law)
  c_PARTS : Addr
  k_PARTS : mg "PARTS" = some (.ref c_PARTS)
  s_PARTS : ∀ H, SqT K H c_PARTS [.str "memory", .str "room", .str "late", .str "most"]
  c_BOUNDS : Addr
  k_BOUNDS : mg "BOUNDS" = some (.ref c_BOUNDS)
  es_BOUNDS : Array DictEntry
  ne_BOUNDS : Nat
  pw : Params
  D_BOUNDS : ∀ w : World, w.params = pw → KDict K w c_BOUNDS es_BOUNDS ne_BOUNDS
  p_BOUNDS_room : Addr
  i_BOUNDS_room : PySem.W.nsIn K c_BOUNDS "room" = some (some (.ref p_BOUNDS_room))
  s_BOUNDS_room : ∀ H, SqT K H p_BOUNDS_room [.int 1, .int 8]
  p_BOUNDS_late : Addr
  i_BOUNDS_late : PySem.W.nsIn K c_BOUNDS "late" = some (some (.ref p_BOUNDS_late))
  s_BOUNDS_late : ∀ H, SqT K H p_BOUNDS_late [.int 0, .int 4]
  p_BOUNDS_most : Addr
  i_BOUNDS_most : PySem.W.nsIn K c_BOUNDS "most" = some (some (.ref p_BOUNDS_most))
  s_BOUNDS_most : ∀ H, SqT K H p_BOUNDS_most [.int 1, .int 4]
  t_MOST_PLACES : Tok
  k_MOST_PLACES : mg "MOST_PLACES" = some (.int 32 t_MOST_PLACES)
  t_MOST_DEEDS : Tok
  k_MOST_DEEDS : mg "MOST_DEEDS" = some (.int 100 t_MOST_DEEDS)
  t_HIGHEST : Tok
  k_HIGHEST : mg "HIGHEST" = some (.int 99 t_HIGHEST)
  t_MOST_BOTHS : Tok
  k_MOST_BOTHS : mg "MOST_BOTHS" = some (.int 3 t_MOST_BOTHS)
  cc_is_memory : Addr
  tb_is_memory : Addr
  C_is_memory : FunC K "is_memory" "is_memory" s_is_memory f_is_memory cc_is_memory fd_is_memory
  np_is_memory : K.lookup tb_is_memory = none
  cp_is_memory : ∃ (e : Value) (dd : Option Addr) (vs : Array Value) (sl : Array (Option Value)), K.lookup cc_is_memory = some ⟨e, dd, .fields vs, sl⟩ ∧ vs[11]? = some (.ref tb_is_memory)
  z_all : mg "all" = none
  z_bool : mg "bool" = none
  z_enumerate : mg "enumerate" = none
  z_int : mg "int" = none
  z_isinstance : mg "isinstance" = none
  z_len : mg "len" = none
  z_list : mg "list" = none
  z_max : mg "max" = none
  z_min : mg "min" = none
  z_range : mg "range" = none
  z_str : mg "str" = none
  z_sum : mg "sum" = none
  z_tuple : mg "tuple" = none
theorem b_is_number {K : PySem.W.Frag} {mg : Str → Option Value} (T : Top K mg) : Binds K T.fd_is_number ["number"] [] := T.F_is_number.binds (ps := ["number"]) fun _ _ _ _ _ _ us hl => match us, hl with | [_], _ => rfl
theorem b_is_memory {K : PySem.W.Frag} {mg : Str → Option Value} (T : Top K mg) : Binds K T.fd_is_memory ["numbers"] [] := T.F_is_memory.binds (ps := ["numbers"]) fun _ _ _ _ _ _ us hl => match us, hl with | [_], _ => rfl
theorem b_is_part {K : PySem.W.Frag} {mg : Str → Option Value} (T : Top K mg) : Binds K T.fd_is_part ["word", "part"] [] := T.F_is_part.binds (ps := ["word", "part"]) fun _ _ _ _ _ _ us hl => match us, hl with | [_, _], _ => rfl
theorem b_check_setting {K : PySem.W.Frag} {mg : Str → Option Value} (T : Top K mg) : Binds K T.fd_check_setting ["setting"] [] := T.F_check_setting.binds (ps := ["setting"]) fun _ _ _ _ _ _ us hl => match us, hl with | [_], _ => rfl
theorem b_is_deed {K : PySem.W.Frag} {mg : Str → Option Value} (T : Top K mg) : Binds K T.fd_is_deed ["deed", "places"] [] := T.F_is_deed.binds (ps := ["deed", "places"]) fun _ _ _ _ _ _ us hl => match us, hl with | [_, _], _ => rfl
theorem b_check_row {K : PySem.W.Frag} {mg : Str → Option Value} (T : Top K mg) : Binds K T.fd_check_row ["setting", "row"] [] := T.F_check_row.binds (ps := ["setting", "row"]) fun _ _ _ _ _ _ us hl => match us, hl with | [_, _], _ => rfl
theorem b_Silent_guess {K : PySem.W.Frag} {mg : Str → Option Value} (T : Top K mg) : Binds K T.fd_Silent_guess ["self", "place"] [] := T.F_Silent_guess.binds (ps := ["self", "place"]) fun _ _ _ _ _ _ us hl => match us, hl with | [_, _], _ => rfl
theorem b_Neighbours_init {K : PySem.W.Frag} {mg : Str → Option Value} (T : Top K mg) : Binds K T.fd_Neighbours_init ["self", "many"] [] := T.F_Neighbours_init.binds (ps := ["self", "many"]) fun _ _ _ _ _ _ us hl => match us, hl with | [_, _], _ => rfl
theorem b_Neighbours_guess {K : PySem.W.Frag} {mg : Str → Option Value} (T : Top K mg) : Binds K T.fd_Neighbours_guess ["self", "place"] [] := T.F_Neighbours_guess.binds (ps := ["self", "place"]) fun _ _ _ _ _ _ us hl => match us, hl with | [_, _], _ => rfl
theorem b_Strides_init {K : PySem.W.Frag} {mg : Str → Option Value} (T : Top K mg) : Binds K T.fd_Strides_init ["self", "times"] [] := T.F_Strides_init.binds (ps := ["self", "times"]) fun _ _ _ _ _ _ us hl => match us, hl with | [_, _], _ => rfl
theorem b_Strides_guess {K : PySem.W.Frag} {mg : Str → Option Value} (T : Top K mg) : Binds K T.fd_Strides_guess ["self", "place"] [] := T.F_Strides_guess.binds (ps := ["self", "place"]) fun _ _ _ _ _ _ us hl => match us, hl with | [_, _], _ => rfl
theorem b_Strides_count_stride {K : PySem.W.Frag} {mg : Str → Option Value} (T : Top K mg) : Binds K T.fd_Strides_count_stride ["self", "stride"] [] := T.F_Strides_count_stride.binds (ps := ["self", "stride"]) fun _ _ _ _ _ _ us hl => match us, hl with | [_, _], _ => rfl
theorem b_Pairs_init {K : PySem.W.Frag} {mg : Str → Option Value} (T : Top K mg) : Binds K T.fd_Pairs_init ["self", "many"] [] := T.F_Pairs_init.binds (ps := ["self", "many"]) fun _ _ _ _ _ _ us hl => match us, hl with | [_, _], _ => rfl
theorem b_Pairs_guess {K : PySem.W.Frag} {mg : Str → Option Value} (T : Top K mg) : Binds K T.fd_Pairs_guess ["self", "place"] [] := T.F_Pairs_guess.binds (ps := ["self", "place"]) fun _ _ _ _ _ _ us hl => match us, hl with | [_, _], _ => rfl
theorem b_Pairs_put_behind {K : PySem.W.Frag} {mg : Str → Option Value} (T : Top K mg) : Binds K T.fd_Pairs_put_behind ["self", "earlier", "place"] [] := T.F_Pairs_put_behind.binds (ps := ["self", "earlier", "place"]) fun _ _ _ _ _ _ us hl => match us, hl with | [_, _, _], _ => rfl
theorem b_Both_init {K : PySem.W.Frag} {mg : Str → Option Value} (T : Top K mg) : Binds K T.fd_Both_init ["self", "one", "other"] [] := T.F_Both_init.binds (ps := ["self", "one", "other"]) fun _ _ _ _ _ _ us hl => match us, hl with | [_, _, _], _ => rfl
theorem b_Both_guess {K : PySem.W.Frag} {mg : Str → Option Value} (T : Top K mg) : Binds K T.fd_Both_guess ["self", "place"] [] := T.F_Both_guess.binds (ps := ["self", "place"]) fun _ _ _ _ _ _ us hl => match us, hl with | [_, _], _ => rfl
theorem b_is_guesser {K : PySem.W.Frag} {mg : Str → Option Value} (T : Top K mg) : Binds K T.fd_is_guesser ["guesser", "boths"] [] := T.F_is_guesser.binds (ps := ["guesser", "boths"]) fun _ _ _ _ _ _ us hl => match us, hl with | [_, _], _ => rfl
theorem b_check_guesser {K : PySem.W.Frag} {mg : Str → Option Value} (T : Top K mg) : Binds K T.fd_check_guesser ["guesser"] [] := T.F_check_guesser.binds (ps := ["guesser"]) fun _ _ _ _ _ _ us hl => match us, hl with | [_], _ => rfl
theorem b_begun {K : PySem.W.Frag} {mg : Str → Option Value} (T : Top K mg) : Binds K T.fd_begun ["guesser"] [] := T.F_begun.binds (ps := ["guesser"]) fun _ _ _ _ _ _ us hl => match us, hl with | [_], _ => rfl
theorem b_Play_init {K : PySem.W.Frag} {mg : Str → Option Value} (T : Top K mg) : Binds K T.fd_Play_init ["self", "setting", "guesser"] [] := T.F_Play_init.binds (ps := ["self", "setting", "guesser"]) fun _ _ _ _ _ _ us hl => match us, hl with | [_, _, _], _ => rfl
theorem b_Play_take_turn {K : PySem.W.Frag} {mg : Str → Option Value} (T : Top K mg) : Binds K T.fd_Play_take_turn ["self", "turn", "deed"] [] := T.F_Play_take_turn.binds (ps := ["self", "turn", "deed"]) fun _ _ _ _ _ _ us hl => match us, hl with | [_, _, _], _ => rfl
theorem b_Play_tell {K : PySem.W.Frag} {mg : Str → Option Value} (T : Top K mg) : Binds K T.fd_Play_tell ["self", "word", "place"] [] := T.F_Play_tell.binds (ps := ["self", "word", "place"]) fun _ _ _ _ _ _ us hl => match us, hl with | [_, _, _], _ => rfl
theorem b_Play_lay_what_comes {K : PySem.W.Frag} {mg : Str → Option Value} (T : Top K mg) : Binds K T.fd_Play_lay_what_comes ["self"] [] := T.F_Play_lay_what_comes.binds (ps := ["self"]) fun _ _ _ _ _ _ us hl => match us, hl with | [_], _ => rfl
theorem b_Play_ask {K : PySem.W.Frag} {mg : Str → Option Value} (T : Top K mg) : Binds K T.fd_Play_ask ["self", "place"] [] := T.F_Play_ask.binds (ps := ["self", "place"]) fun _ _ _ _ _ _ us hl => match us, hl with | [_, _], _ => rfl
theorem b_Play_ask_on_shelf {K : PySem.W.Frag} {mg : Str → Option Value} (T : Top K mg) : Binds K T.fd_Play_ask_on_shelf ["self", "place"] [] := T.F_Play_ask_on_shelf.binds (ps := ["self", "place"]) fun _ _ _ _ _ _ us hl => match us, hl with | [_, _], _ => rfl
theorem b_Play_lay {K : PySem.W.Frag} {mg : Str → Option Value} (T : Top K mg) : Binds K T.fd_Play_lay ["self", "place", "word"] [] := T.F_Play_lay.binds (ps := ["self", "place", "word"]) fun _ _ _ _ _ _ us hl => match us, hl with | [_, _, _], _ => rfl
theorem b_Play_let_oldest_leave {K : PySem.W.Frag} {mg : Str → Option Value} (T : Top K mg) : Binds K T.fd_Play_let_oldest_leave ["self"] [] := T.F_Play_let_oldest_leave.binds (ps := ["self"]) fun _ _ _ _ _ _ us hl => match us, hl with | [_], _ => rfl
theorem b_Play_read_or_write {K : PySem.W.Frag} {mg : Str → Option Value} (T : Top K mg) : Binds K T.fd_Play_read_or_write ["self", "deed"] [] := T.F_Play_read_or_write.binds (ps := ["self", "deed"]) fun _ _ _ _ _ _ us hl => match us, hl with | [_, _], _ => rfl
theorem b_Play_start_guessed {K : PySem.W.Frag} {mg : Str → Option Value} (T : Top K mg) : Binds K T.fd_Play_start_guessed ["self", "place"] [] := T.F_Play_start_guessed.binds (ps := ["self", "place"]) fun _ _ _ _ _ _ us hl => match us, hl with | [_, _], _ => rfl
theorem b_Play_may_start {K : PySem.W.Frag} {mg : Str → Option Value} (T : Top K mg) : Binds K T.fd_Play_may_start ["self", "place"] [] := T.F_Play_may_start.binds (ps := ["self", "place"]) fun _ _ _ _ _ _ us hl => match us, hl with | [_, _], _ => rfl
theorem b_played {K : PySem.W.Frag} {mg : Str → Option Value} (T : Top K mg) : Binds K T.fd_played ["setting", "guesser", "row"] [] := T.F_played.binds (ps := ["setting", "guesser", "row"]) fun _ _ _ _ _ _ us hl => match us, hl with | [_, _, _], _ => rfl
theorem b_counts_of {K : PySem.W.Frag} {mg : Str → Option Value} (T : Top K mg) : Binds K T.fd_counts_of ["play"] [] := T.F_counts_of.binds (ps := ["play"]) fun _ _ _ _ _ _ us hl => match us, hl with | [_], _ => rfl
theorem b_checked_play {K : PySem.W.Frag} {mg : Str → Option Value} (T : Top K mg) : Binds K T.fd_checked_play ["setting", "guesser", "row"] [] := T.F_checked_play.binds (ps := ["setting", "guesser", "row"]) fun _ _ _ _ _ _ us hl => match us, hl with | [_, _, _], _ => rfl
theorem b_run {K : PySem.W.Frag} {mg : Str → Option Value} (T : Top K mg) : Binds K T.fd_run ["setting", "guesser", "row"] [] := T.F_run.binds (ps := ["setting", "guesser", "row"]) fun _ _ _ _ _ _ us hl => match us, hl with | [_, _, _], _ => rfl
theorem b_law_taken {K : PySem.W.Frag} {mg : Str → Option Value} (T : Top K mg) : Binds K T.fd_law_taken ["_law_row", "_law_many"] [] := T.F_law_taken.binds (ps := ["_law_row", "_law_many"]) fun _ _ _ _ _ _ us hl => match us, hl with | [_, _], _ => rfl
theorem b_law_alike {K : PySem.W.Frag} {mg : Str → Option Value} (T : Top K mg) : Binds K T.fd_law_alike ["_law_found", "_law_due"] [] := T.F_law_alike.binds (ps := ["_law_found", "_law_due"]) fun _ _ _ _ _ _ us hl => match us, hl with | [_, _], _ => rfl
theorem b_law_guesser {K : PySem.W.Frag} {mg : Str → Option Value} (T : Top K mg) : Binds K T.fd_law_guesser ["_law_row", "_law_within"] [] := T.F_law_guesser.binds (ps := ["_law_row", "_law_within"]) fun _ _ _ _ _ _ us hl => match us, hl with | [_, _], _ => rfl
theorem b_law_setting {K : PySem.W.Frag} {mg : Str → Option Value} (T : Top K mg) : Binds K T.fd_law_setting ["_law_row", "_law_most"] [] := T.F_law_setting.binds (ps := ["_law_row", "_law_most"]) fun _ _ _ _ _ _ us hl => match us, hl with | [_, _], _ => rfl
theorem b_law_places {K : PySem.W.Frag} {mg : Str → Option Value} (T : Top K mg) : Binds K T.fd_law_places ["_law_row", "_law_places_here", "_law_most"] [] := T.F_law_places.binds (ps := ["_law_row", "_law_places_here", "_law_most"]) fun _ _ _ _ _ _ us hl => match us, hl with | [_, _, _], _ => rfl
theorem b_law_deeds {K : PySem.W.Frag} {mg : Str → Option Value} (T : Top K mg) : Binds K T.fd_law_deeds ["_law_row", "_law_places_here", "_law_most"] [] := T.F_law_deeds.binds (ps := ["_law_row", "_law_places_here", "_law_most"]) fun _ _ _ _ _ _ us hl => match us, hl with | [_, _, _], _ => rfl
theorem b_law_guessed {K : PySem.W.Frag} {mg : Str → Option Value} (T : Top K mg) : Binds K T.fd_law_guessed ["_law_guesser_here", "_law_places_here"] [] := T.F_law_guessed.binds (ps := ["_law_guesser_here", "_law_places_here"]) fun _ _ _ _ _ _ us hl => match us, hl with | [_, _], _ => rfl
theorem b_law_run {K : PySem.W.Frag} {mg : Str → Option Value} (T : Top K mg) : Binds K T.fd_law_run ["_law_setting_here", "_law_guesser_here", "_law_row"] [] := T.F_law_run.binds (ps := ["_law_setting_here", "_law_guesser_here", "_law_row"]) fun _ _ _ _ _ _ us hl => match us, hl with | [_, _, _], _ => rfl
theorem b_law_laid {K : PySem.W.Frag} {mg : Str → Option Value} (T : Top K mg) : Binds K T.fd_law_laid ["_law_s", "_law_room", "_law_turn", "_law_place", "_law_word"] [] := T.F_law_laid.binds (ps := ["_law_s", "_law_room", "_law_turn", "_law_place", "_law_word"]) fun _ _ _ _ _ _ us hl => match us, hl with | [_, _, _, _, _], _ => rfl
theorem b_law_asked {K : PySem.W.Frag} {mg : Str → Option Value} (T : Top K mg) : Binds K T.fd_law_asked ["_law_s", "_law_room", "_law_turn", "_law_place"] [] := T.F_law_asked.binds (ps := ["_law_s", "_law_room", "_law_turn", "_law_place"]) fun _ _ _ _ _ _ us hl => match us, hl with | [_, _, _, _], _ => rfl
theorem b_law_counts {K : PySem.W.Frag} {mg : Str → Option Value} (T : Top K mg) : Binds K T.fd_law_counts ["_law_s"] [] := T.F_law_counts.binds (ps := ["_law_s"]) fun _ _ _ _ _ _ us hl => match us, hl with | [_], _ => rfl
theorem b_law_plain {K : PySem.W.Frag} {mg : Str → Option Value} (T : Top K mg) : Binds K T.fd_law_plain ["_law_memory", "_law_row"] [] := T.F_law_plain.binds (ps := ["_law_memory", "_law_row"]) fun _ _ _ _ _ _ us hl => match us, hl with | [_, _], _ => rfl
theorem b_law {K : PySem.W.Frag} {mg : Str → Option Value} (T : Top K mg) : Binds K T.fd_law ["_law_script"] [] := T.F_law.binds (ps := ["_law_script"]) fun _ _ _ _ _ _ us hl => match us, hl with | [_], _ => rfl
/-- nothing can be asked of it -/
theorem none_ok {P : Program} {w : World} {K : PySem.W.Frag} {mg : Str → Option Value} {base : Heap} {f : Addr} {fd : FuncData} {ps : List Str} {sp : Sp} {k : Nat} (no : ∀ vs H Q E, ¬ sp vs H Q E) : FnOk P w K mg base CX0 k f fd ps sp :=
  ⟨fun vs H Q E h => absurd h (no vs H Q E), fun A outer s H args us vs Q E _ _ _ _ h => absurd h (no vs H Q E)⟩

section
variable {P : Program} {w : World} {K : PySem.W.Frag} {mg : Str → Option Value} {base : Heap}
theorem ok_law_taken (T : Top K mg) : FnOk P w K mg base CX0 1 T.f_law_taken T.fd_law_taken ["_law_row", "_law_many"] (spTaken K) := by
  refine T.F_law_taken.ok sc_law_taken (fun vs H Q E h => by obtain ⟨r, m, rfl, _⟩ := h; rfl) (fun cdv A outer s H vs Q E hr h => ⟨t_law_taken K, PSs.nox ?_, pu_law_taken h⟩)
  have hu := hu_of hr; exact pss_cons (ps_asg (pe_op op_add (pe_ix ix_list (pv 0) (pe_int) (fun _ _ => rfl)) (pe_int)) (pg_sub (pv 0) (pe_int) set_list))   (pss_cons (ps_if (pt_cmpR op_gt (pe_ix ix_list (pv 0) (pe_int) (fun _ _ => rfl)) (pe_callB call_len_seq (by rfl) T.z_len PySem.boot_len (pa_cons (pe_ix ix_list (pv 0) (pe_int) (fun _ _ => rfl)) (pa_nil))) (nomark _)) (pss_cons (ps_asg (pe_op op_mod (pe_op op_add (pe_op op_mul (pe_ix ix_list (pv 0) (pe_int) (fun _ _ => rfl)) (pe_int)) (pe_int)) (pe_int)) (pg_sub (pv 0) (pe_int) set_list))   (pss_one (ps_ret (pe_op op_mod (pe_op op_fdiv (pe_ix ix_list (pv 0) (pe_int) (fun _ _ => rfl)) (pe_int)) (pv 1))))) (pss_nil))   (pss_cons (ps_set (i := 2) sc_law_taken.nd rfl (.inl rfl) (pe_ix ix_list (pe_ix ix_list (pv 0) (pe_int) (fun _ _ => rfl)) (pe_op op_sub (pe_ix ix_list (pv 0) (pe_int) (fun _ _ => rfl)) (pe_int)) (fun _ _ => rfl)))   (pss_cons (ps_asg (pe_op op_mod (pe_op op_add (pe_op op_add (pe_op op_mul (pe_ix ix_list (pv 0) (pe_int) (fun _ _ => rfl)) (pe_int)) (pv 2)) (pe_int)) (pe_int)) (pg_sub (pv 0) (pe_int) set_list))   (pss_one (ps_ret (pe_op op_mod (pv 2) (pv 1)))))))

theorem ok_law_guesser (T : Top K mg) : ∀ n, FnOk P w K mg base CX0 (n + 1) T.f_law_guesser T.fd_law_guesser ["_law_row", "_law_within"] (spLawGuesser K n)
  | 0 => none_ok (fun vs H Q E h => by obtain ⟨r, d, _, _, _, hn, _⟩ := h; omega)
  | n + 1 => by
    have G_law_guesser := ok_law_guesser T n
    have G_law_taken := ok_law_taken (P := P) (w := w) (base := base) T
    refine T.F_law_guesser.ok sc_law_guesser (fun vs H Q E h => by obtain ⟨r, d, rfl, _⟩ := h; rfl) (fun cdv A outer s H vs Q E hr h => ⟨t_law_guesser K (spTaken K) (spLawGuesser K n), PSs.nox ?_, pu_law_guesser h⟩)
    have hu := hu_of hr; exact pss_cons (ps_set (i := 2) sc_law_guesser.nd rfl (.inl rfl) (pe_call G_law_taken (hr.mono (by omega)) rfl (T.g_law_taken) (T.F_law_taken.kp) (b_law_taken T) .nil pass0 (pa_cons (pv 0) (pa_cons (pe_ix ix_list (pe_lst (pa_cons (pe_int) (pa_cons (pe_int) (pa_nil)))) (pe_callTy call_int1 (by rfl) T.z_int (by decide +kernel) (pa_cons (pe_cmpR op_gt (pv 1) (pe_int) (nomark _)) (pa_nil))) (fun _ _ => rfl)) (pa_nil)))))   (pss_cons (ps_if (pt_cmpR op_gt (pv 2) (pe_int) (nomark _)) (pss_cons (ps_set (i := 3) sc_law_guesser.nd rfl (.inl rfl) (pe_call G_law_guesser (hr.mono (by omega)) rfl (T.g_law_guesser) (T.F_law_guesser.kp) (b_law_guesser T) .nil pass0 (pa_cons (pv 0) (pa_cons (pe_op op_sub (pv 1) (pe_int)) (pa_nil)))))   (pss_one (ps_ret (pe_tup (pa_cons (pe_str) (pa_cons (pv 3) (pa_cons (pe_call G_law_guesser (hr.mono (by omega)) rfl (T.g_law_guesser) (T.F_law_guesser.kp) (b_law_guesser T) .nil pass0 (pa_cons (pv 0) (pa_cons (pe_op op_sub (pv 1) (pe_int)) (pa_nil)))) (pa_nil)))))))) (pss_nil))   (pss_cons (ps_set (i := 4) sc_law_guesser.nd rfl (.inl rfl) (pe_lst (pa_cons (pe_tup (pa_cons (pe_str) (pa_nil))) (pa_cons (pe_tup (pa_cons (pe_str) (pa_cons (pe_op op_add (pe_int) (pe_call G_law_taken (hr.mono (by omega)) rfl (T.g_law_taken) (T.F_law_taken.kp) (b_law_taken T) .nil pass0 (pa_cons (pv 0) (pa_cons (pe_int) (pa_nil))))) (pa_nil)))) (pa_cons (pe_tup (pa_cons (pe_str) (pa_cons (pe_op op_add (pe_int) (pe_call G_law_taken (hr.mono (by omega)) rfl (T.g_law_taken) (T.F_law_taken.kp) (b_law_taken T) .nil pass0 (pa_cons (pv 0) (pa_cons (pe_int) (pa_nil))))) (pa_nil)))) (pa_nil))))))   (pss_cons (ps_set (i := 4) sc_law_guesser.nd rfl (.inl rfl) (pe_op op_cat (pv 4) (pe_lst (pa_cons (pe_tup (pa_cons (pe_str) (pa_cons (pe_op op_add (pe_int) (pe_call G_law_taken (hr.mono (by omega)) rfl (T.g_law_taken) (T.F_law_taken.kp) (b_law_taken T) .nil pass0 (pa_cons (pv 0) (pa_cons (pe_int) (pa_nil))))) (pa_nil)))) (pa_cons (pe_tup (pa_cons (pe_str) (pa_cons (pe_int) (pa_nil)))) (pa_cons (pe_tup (pa_cons (pe_str) (pa_cons (pe_int) (pa_nil)))) (pa_nil)))))))   (pss_one (ps_ret (pe_ix ix_list (pv 4) (pv 2) (fun _ _ => rfl)))))))

theorem ok_law_places (T : Top K mg) : FnOk P w K mg base CX0 2 T.f_law_places T.fd_law_places ["_law_row", "_law_places_here", "_law_most"] (spLawPlaces K) := by
  have G_law_taken := ok_law_taken (P := P) (w := w) (base := base) T
  refine T.F_law_places.ok sc_law_places (fun vs H Q E h => by obtain ⟨r, p, m, rfl, _⟩ := h; rfl) (fun cdv A outer s H vs Q E hr h => ⟨t_law_places K (spTaken K), PSs.nox ?_, pu_law_places h⟩)
  have hu := hu_of hr; exact pss_cons (ps_set (i := 3) sc_law_places.nd rfl (.inl rfl) (pe_lst (pa_nil)))   (pss_cons (ps_set (i := 4) sc_law_places.nd rfl (.inl rfl) (pe_call G_law_taken (hr.mono (by omega)) rfl (T.g_law_taken) (T.F_law_taken.kp) (b_law_taken T) .nil pass0 (pa_cons (pv 0) (pa_cons (pv 1) (pa_nil)))))   (pss_cons (ps_set (i := 5) sc_law_places.nd rfl (.inl rfl) (pe_op op_sub (pe_call G_law_taken (hr.mono (by omega)) rfl (T.g_law_taken) (T.F_law_taken.kp) (b_law_taken T) .nil pass0 (pa_cons (pv 0) (pa_cons (pe_int) (pa_nil)))) (pe_int)))   (pss_cons (ps_for PassesOwn.never rfl (pi_range1 (by rfl) T.z_range (pa_cons (pe_call G_law_taken (hr.mono (by omega)) rfl (T.g_law_taken) (T.F_law_taken.kp) (b_law_taken T) .nil pass0 (pa_cons (pv 0) (pa_cons (pe_op op_add (pv 2) (pe_int)) (pa_nil)))) (pa_nil))) (pg_name (i := 6) sc_law_places.nd rfl (.inl rfl)) (pss_cons (ps_set (i := 7) sc_law_places.nd rfl (.inl rfl) (pe_call G_law_taken (hr.mono (by omega)) rfl (T.g_law_taken) (T.F_law_taken.kp) (b_law_taken T) .nil pass0 (pa_cons (pv 0) (pa_cons (pe_int) (pa_nil)))))   (pss_cons (ps_if (pt_cmpR op_eq (pv 7) (pe_int) (nomark _)) (pss_one (ps_set (i := 4) sc_law_places.nd rfl (.inl rfl) (pe_call G_law_taken (hr.mono (by omega)) rfl (T.g_law_taken) (T.F_law_taken.kp) (b_law_taken T) .nil pass0 (pa_cons (pv 0) (pa_cons (pv 1) (pa_nil)))))) (pss_nil))   (pss_cons (ps_if (pt_cmpR op_eq (pv 7) (pe_int) (nomark _)) (pss_one (ps_set (i := 5) sc_law_places.nd rfl (.inl rfl) (pe_op op_sub (pe_call G_law_taken (hr.mono (by omega)) rfl (T.g_law_taken) (T.F_law_taken.kp) (b_law_taken T) .nil pass0 (pa_cons (pv 0) (pa_cons (pe_int) (pa_nil)))) (pe_int)))) (pss_nil))   (pss_cons (ps_if (PW.pt (pw_and (pt_cmpR op_eq (pv 7) (pe_int) (nomark _)) (pw_and1 (pt_cmpR (op_neD hr.units) (pv 3) (pe_lst (pa_nil)) (nomark _))))) (pss_one (ps_set (i := 4) sc_law_places.nd rfl (.inl rfl) (pe_ix ix_list (pv 3) (pe_call G_law_taken (hr.mono (by omega)) rfl (T.g_law_taken) (T.F_law_taken.kp) (b_law_taken T) .nil pass0 (pa_cons (pv 0) (pa_cons (pe_callB call_len_seq (by rfl) T.z_len PySem.boot_len (pa_cons (pv 3) (pa_nil))) (pa_nil)))) (fun _ _ => rfl)))) (pss_nil))   (pss_cons (ps_expr (pe_bm PySem.F.plainAttrs_list PySem.F.slot_list_append PySem.F.type_list_append mt_append (pv 3) (pa_cons (pv 4) (pa_nil))))   (pss_one (ps_set (i := 4) sc_law_places.nd rfl (.inl rfl) (pe_op op_mod (pe_op op_add (pv 4) (pv 5)) (pv 1))))))))))   (pss_one (ps_ret (pv 3))))))

theorem ok_law_setting (T : Top K mg) : FnOk P w K mg base CX0 2 T.f_law_setting T.fd_law_setting ["_law_row", "_law_most"] (spLawSetting K) := by
  have G_law_taken := ok_law_taken (P := P) (w := w) (base := base) T
  refine T.F_law_setting.ok sc_law_setting (fun vs H Q E h => by obtain ⟨r, m, rfl, _⟩ := h; rfl) (fun cdv A outer s H vs Q E hr h => ⟨t_law_setting K (spTaken K), PSs.nox ?_, pu_law_setting h⟩)
  have hu := hu_of hr; exact pss_cons (ps_set (i := 2) sc_law_setting.nd rfl (.inl rfl) (pe_callTy call_tuple_of (by rfl) T.z_tuple (by decide +kernel) (pa_cons (pe_lc (own := [("_law_k", 4)]) (g := gName 4) (tt := tYes) (by rfl) sc_law_setting.nd (pi_range1 (by rfl) T.z_range (pa_cons (pe_op op_add (pe_int) (pe_call G_law_taken (hr.mono (by omega)) rfl (T.g_law_taken) (T.F_law_taken.kp) (b_law_taken T) .nil pass0 (pa_cons (pv 0) (pa_cons (pv 1) (pa_nil))))) (pa_nil))) (blkOk_by (own := [("_law_k", 4)]) (N := ["_law_row", "_law_most", "_law_memory", "_law_room", "_law_k"]) (sc := defScope s_law_setting) (by decide +kernel)) (fun _ _ _ _ _ => pg_name (i := 4) sc_law_setting.nd rfl (.inl rfl)) (fun _ _ _ _ _ => pts_nil) (fun _ _ _ _ _ => pe_call G_law_taken (hr.mono (by omega)) rfl (T.g_law_taken) (T.F_law_taken.kp) (b_law_taken T) .nil pass0 (pa_cons (pv 0) (pa_cons (pe_int) (pa_nil))))) (pa_nil))))   (pss_cons (ps_set (i := 3) sc_law_setting.nd rfl (.inl rfl) (pe_op op_add (pe_int) (pe_call G_law_taken (hr.mono (by omega)) rfl (T.g_law_taken) (T.F_law_taken.kp) (b_law_taken T) .nil pass0 (pa_cons (pv 0) (pa_cons (pe_ix ix_list (pe_lst (pa_cons (pe_int) (pa_cons (pe_int) (pa_nil)))) (pe_call G_law_taken (hr.mono (by omega)) rfl (T.g_law_taken) (T.F_law_taken.kp) (b_law_taken T) .nil pass0 (pa_cons (pv 0) (pa_cons (pe_int) (pa_nil)))) (fun _ _ => rfl)) (pa_nil))))))   (pss_one (ps_ret (pe_tup (pa_cons (pv 2) (pa_cons (pv 3) (pa_cons (pe_ix ix_list (pe_lst (pa_cons (pe_int) (pa_cons (pe_int) (pa_cons (pe_call G_law_taken (hr.mono (by omega)) rfl (T.g_law_taken) (T.F_law_taken.kp) (b_law_taken T) .nil pass0 (pa_cons (pv 0) (pa_cons (pe_int) (pa_nil)))) (pa_nil))))) (pe_call G_law_taken (hr.mono (by omega)) rfl (T.g_law_taken) (T.F_law_taken.kp) (b_law_taken T) .nil pass0 (pa_cons (pv 0) (pa_cons (pe_int) (pa_nil)))) (fun _ _ => rfl)) (pa_cons (pe_op op_add (pe_int) (pe_call G_law_taken (hr.mono (by omega)) rfl (T.g_law_taken) (T.F_law_taken.kp) (b_law_taken T) .nil pass0 (pa_cons (pv 0) (pa_cons (pe_int) (pa_nil))))) (pa_nil)))))))))

theorem ok_law_deeds (T : Top K mg) : FnOk P w K mg base CX0 3 T.f_law_deeds T.fd_law_deeds ["_law_row", "_law_places_here", "_law_most"] (spLawDeeds K) := by
  have G_law_taken := ok_law_taken (P := P) (w := w) (base := base) T
  have G_law_places := ok_law_places (P := P) (w := w) (base := base) T
  refine T.F_law_deeds.ok sc_law_deeds (fun vs H Q E h => by obtain ⟨r, p, m, rfl, _⟩ := h; rfl) (fun cdv A outer s H vs Q E hr h => ⟨t_law_deeds K (spLawPlaces K) (spTaken K), PSs.nox ?_, pu_law_deeds h⟩)
  have hu := hu_of hr; exact pss_cons (ps_set (i := 3) sc_law_deeds.nd rfl (.inl rfl) (pe_lst (pa_nil)))   (pss_cons (ps_for PassesOwn.never rfl (pi_list (pe_call G_law_places (hr.mono (by omega)) rfl (T.g_law_places) (T.F_law_places.kp) (b_law_places T) .nil pass0 (pa_cons (pv 0) (pa_cons (pv 1) (pa_cons (pv 2) (pa_nil)))))) (pg_name (i := 4) sc_law_deeds.nd rfl (.inl rfl)) (pss_one (ps_if (pt_cmpR op_eq (pe_call G_law_taken (hr.mono (by omega)) rfl (T.g_law_taken) (T.F_law_taken.kp) (b_law_taken T) .nil pass0 (pa_cons (pv 0) (pa_cons (pe_int) (pa_nil)))) (pe_int) (nomark _)) (pss_one (ps_expr (pe_bm PySem.F.plainAttrs_list PySem.F.slot_list_append PySem.F.type_list_append mt_append (pv 3) (pa_cons (pe_tup (pa_cons (pe_str) (pa_cons (pv 4) (pa_cons (pe_call G_law_taken (hr.mono (by omega)) rfl (T.g_law_taken) (T.F_law_taken.kp) (b_law_taken T) .nil pass0 (pa_cons (pv 0) (pa_cons (pe_int) (pa_nil)))) (pa_nil))))) (pa_nil))))) (pss_one (ps_expr (pe_bm PySem.F.plainAttrs_list PySem.F.slot_list_append PySem.F.type_list_append mt_append (pv 3) (pa_cons (pe_tup (pa_cons (pe_str) (pa_cons (pv 4) (pa_nil)))) (pa_nil))))))))   (pss_one (ps_ret (pv 3))))

theorem ok_law_alike (T : Top K mg) : ∀ n, FnOk P w K mg base CX0 n T.f_law_alike T.fd_law_alike ["_law_found", "_law_due"] (spLawAlike n)
  | 0 => none_ok (fun vs H Q E h => h)
  | n + 1 => by
    have G_law_alike := ok_law_alike T n
    refine T.F_law_alike.ok sc_law_alike (fun vs H Q E h => by obtain ⟨d, x, y, rfl, _⟩ := h; rfl) (fun cdv A outer s H vs Q E hr h => ⟨t_law_alike K (spLawAlike n), PSs.nox ?_, pu_law_alike h⟩)
    have hu := hu_of hr; exact pss_cons (ps_if (PW.pt (pw_or (pt_val (pe_callB call_isi (by rfl) T.z_isinstance (by decide +kernel) (pa_cons (pv 1) (pa_cons (pe_bltn (v := .ty "tuple") (by rfl) T.z_tuple (by decide +kernel) rfl) (pa_nil))))) (pw_or1 (pt_val (pe_callB call_isi (by rfl) T.z_isinstance (by decide +kernel) (pa_cons (pv 1) (pa_cons (pe_bltn (v := .ty "list") (by rfl) T.z_list (by decide +kernel) rfl) (pa_nil)))))))) (pss_cons (ps_if (PW.pt (pw_or (pt_cmpR op_ne (pe_callB call_isi (by rfl) T.z_isinstance (by decide +kernel) (pa_cons (pv 0) (pa_cons (pe_bltn (v := .ty "tuple") (by rfl) T.z_tuple (by decide +kernel) rfl) (pa_nil)))) (pe_callB call_isi (by rfl) T.z_isinstance (by decide +kernel) (pa_cons (pv 1) (pa_cons (pe_bltn (v := .ty "tuple") (by rfl) T.z_tuple (by decide +kernel) rfl) (pa_nil)))) (nomark _)) (pw_or1 (pt_not (pt_val (pe_callB call_isiT (by rfl) T.z_isinstance (by decide +kernel) (pa_cons (pv 0) (pa_cons (pe_tup (pa_cons (pe_bltn (v := .ty "tuple") (by rfl) T.z_tuple (by decide +kernel) rfl) (pa_cons (pe_bltn (v := .ty "list") (by rfl) T.z_list (by decide +kernel) rfl) (pa_nil)))) (pa_nil))))))))) (pss_one (ps_ret (pe_bl))) (pss_nil))   (pss_cons (ps_if (pt_cmpR op_ne (pe_callB call_len_seq (by rfl) T.z_len PySem.boot_len (pa_cons (pv 0) (pa_nil))) (pe_callB call_len_seq (by rfl) T.z_len PySem.boot_len (pa_cons (pv 1) (pa_nil))) (nomark _)) (pss_one (ps_ret (pe_bl))) (pss_nil))   (pss_one (ps_ret (pe_cmpR (op_eqD hr.units) (pe_lc (own := [("_law_k", 2)]) (g := gName 2) (tt := tNot (tB (tCall _ [] E0 (tCons (tOp (rIx K) (tVar 0) (tVar 2)) (tCons (tOp (rIx K) (tVar 1) (tVar 2)) (tNil)))))) (by rfl) sc_law_alike.nd (pi_range1 (by rfl) T.z_range (pa_cons (pe_callB call_len_seq (by rfl) T.z_len PySem.boot_len (pa_cons (pv 1) (pa_nil))) (pa_nil))) (blkOk_by (own := [("_law_k", 2)]) (N := ["_law_found", "_law_due", "_law_k"]) (sc := defScope s_law_alike) (by decide +kernel)) (fun _ _ _ _ _ => pg_name (i := 2) sc_law_alike.nd rfl (.inl rfl)) (fun _ _ _ _ _ => pts_one (pt_not (pt_val (pe_call G_law_alike (hr.mono (by omega)) rfl (T.g_law_alike) (T.F_law_alike.kp) (b_law_alike T) .nil pass0 (pa_cons (pe_ix ix_seq (pv 0) (pv 2) (fun _ _ => rfl)) (pa_cons (pe_ix ix_seq (pv 1) (pv 2) (fun _ _ => rfl)) (pa_nil))))))) (fun _ _ _ _ _ => pv 2)) (pe_lst (pa_nil)) (nomark _)))))) (pss_nil))   (pss_cons (ps_if (PW.pt (pw_or (pt_cmp (pc_isN (pv 1)) rfl) (pw_or1 (pt_cmp (pc_isN (pv 0)) rfl)))) (pss_one (ps_ret (pe_and (pe_cmp (pc_isN (pv 1)) rfl) (pe_one (pe_cmp (pc_isN (pv 0)) rfl))))) (pss_nil))   (pss_cons (ps_if (PW.pt (pw_or (pt_val (pe_callB call_isi (by rfl) T.z_isinstance (by decide +kernel) (pa_cons (pv 1) (pa_cons (pe_bltn (v := .ty "bool") (by rfl) T.z_bool (by decide +kernel) rfl) (pa_nil))))) (pw_or1 (pt_val (pe_callB call_isi (by rfl) T.z_isinstance (by decide +kernel) (pa_cons (pv 0) (pa_cons (pe_bltn (v := .ty "bool") (by rfl) T.z_bool (by decide +kernel) rfl) (pa_nil)))))))) (pss_one (ps_ret (pe_and (pe_callB call_isi (by rfl) T.z_isinstance (by decide +kernel) (pa_cons (pv 1) (pa_cons (pe_bltn (v := .ty "bool") (by rfl) T.z_bool (by decide +kernel) rfl) (pa_nil)))) (pe_and (pe_callB call_isi (by rfl) T.z_isinstance (by decide +kernel) (pa_cons (pv 0) (pa_cons (pe_bltn (v := .ty "bool") (by rfl) T.z_bool (by decide +kernel) rfl) (pa_nil)))) (pe_one (pe_cmpR (op_eqD hr.units) (pv 0) (pv 1) (nomark _))))))) (pss_nil))   (pss_cons (ps_if (pt_val (pe_callB call_isi (by rfl) T.z_isinstance (by decide +kernel) (pa_cons (pv 1) (pa_cons (pe_bltn (v := .ty "str") (by rfl) T.z_str (by decide +kernel) rfl) (pa_nil))))) (pss_one (ps_ret (pe_and (pe_callB call_isi (by rfl) T.z_isinstance (by decide +kernel) (pa_cons (pv 0) (pa_cons (pe_bltn (v := .ty "str") (by rfl) T.z_str (by decide +kernel) rfl) (pa_nil)))) (pe_one (pe_cmpR (op_eqD hr.units) (pv 0) (pv 1) (nomark _)))))) (pss_nil))   (pss_one (ps_ret (pe_and (pe_callB call_isi (by rfl) T.z_isinstance (by decide +kernel) (pa_cons (pv 0) (pa_cons (pe_bltn (v := .ty "int") (by rfl) T.z_int (by decide +kernel) rfl) (pa_nil)))) (pe_one (pe_cmpR (op_eqD hr.units) (pv 0) (pv 1) (nomark _)))))))))

theorem ok_law_guessed (T : Top K mg) : ∀ n, n ≤ 10 → FnOk P w K mg base CX0 n T.f_law_guessed T.fd_law_guessed ["_law_guesser_here", "_law_places_here"] (spLawGuessed K n)
  | 0, _ => none_ok (fun vs H Q E h => by obtain ⟨a, l, g, ls, _, _, _, hn, _⟩ := h; omega)
  | n + 1, h10 => by
    have G_law_guessed := ok_law_guessed T n (by omega)
    refine T.F_law_guessed.ok sc_law_guessed (fun vs H Q E h => by obtain ⟨a, l, g, ls, rfl, _⟩ := h; rfl) (fun cdv A outer s H vs Q E hr h => ⟨t_law_guessed K (spLawGuessed K n), PSs.nox ?_, pu_law_guessed (by omega) h⟩)
    have hu := hu_of hr; exact pss_cons (ps_set (i := 2) sc_law_guessed.nd rfl (.inl rfl) (pe_ix ix_list (pv 1) (pe_un un_neg (pe_int)) (fun _ _ => rfl)))   (pss_cons (ps_if (pt_cmpR op_eq (pe_ix ix_tup (pv 0) (pe_int) (fun _ _ => rfl)) (pe_str) (nomark _)) (pss_cons (ps_set (i := 3) sc_law_guessed.nd rfl (.inr rfl) (pe_call G_law_guessed (hr.mono (by omega)) rfl (T.g_law_guessed) (T.F_law_guessed.kp) (b_law_guessed T) .nil pass0 (pa_cons (pe_ix ix_tup (pv 0) (pe_int) (fun _ _ => rfl)) (pa_cons (pv 1) (pa_nil)))))   (pss_one (ps_ret (pe_op op_cat (pv 3) (pe_lc (own := [("_law_place", 8)]) (g := gName 8) (tt := tTest (tOp (rIn K true) (tVar 8) (tVar 3))) (by rfl) sc_law_guessed.nd (pi_list (pe_call G_law_guessed (hr.mono (by omega)) rfl (T.g_law_guessed) (T.F_law_guessed.kp) (b_law_guessed T) .nil pass0 (pa_cons (pe_ix ix_tup (pv 0) (pe_int) (fun _ _ => rfl)) (pa_cons (pv 1) (pa_nil))))) (blkOk_by (own := [("_law_place", 8)]) (N := ["_law_guesser_here", "_law_places_here", "_law_here", "_law_one", "_law_strides", "_law_some", "_law_found", "_law_k", "_law_place"]) (sc := defScope s_law_guessed) (by decide +kernel)) (fun _ _ _ _ _ => pg_name (i := 8) sc_law_guessed.nd rfl (.inl rfl)) (fun _ _ _ _ _ => pts_one (pt_cmpR op_notIn_seq (pv 8) (pv 3) (by rfl))) (fun _ _ _ _ _ => pv 8)))))) (pss_nil))   (pss_cons (ps_if (pt_cmpR op_eq (pe_ix ix_tup (pv 0) (pe_int) (fun _ _ => rfl)) (pe_str) (nomark _)) (pss_one (ps_ret (pe_slice sl_list (pe_lst (pa_cons (pe_op op_add (pv 2) (pe_int)) (pa_cons (pe_op op_add (pv 2) (pe_int)) (pa_cons (pe_op op_add (pv 2) (pe_int)) (pa_nil))))) (po_none) (po_some (pe_ix ix_tup (pv 0) (pe_int) (fun _ _ => rfl)))))) (pss_nil))   (pss_cons (ps_if (pt_cmpR op_eq (pe_ix ix_tup (pv 0) (pe_int) (fun _ _ => rfl)) (pe_str) (nomark _)) (pss_cons (ps_setLc (i := 4) (own := [("_law_k", 7)]) (g := gName 7) (tt := tYes) (by rfl) sc_law_guessed.nd rfl rfl (sw_true rfl rfl rfl (by decide +kernel)) (pi_range2 (by rfl) T.z_range (pa_cons (pe_int) (pa_cons (pe_callB call_len_seq (by rfl) T.z_len PySem.boot_len (pa_cons (pv 1) (pa_nil))) (pa_nil)))) (blkOk_by (own := [("_law_k", 7)]) (N := ["_law_guesser_here", "_law_places_here", "_law_here", "_law_one", "_law_strides", "_law_some", "_law_found", "_law_k", "_law_place"]) (sc := defScope s_law_guessed) (by decide +kernel)) (fun _ _ _ _ _ => pg_name (i := 7) sc_law_guessed.nd rfl (.inl rfl)) (fun _ _ _ _ _ => pts_nil) (fun _ _ _ _ _ => pe_op op_sub (pe_ix ix_list (pv 1) (pv 7) (fun _ _ => rfl)) (pe_ix ix_list (pv 1) (pe_op op_sub (pv 7) (pe_int)) (fun _ _ => rfl))))   (pss_cons (ps_set (i := 5) sc_law_guessed.nd rfl (.inl rfl) (pe_slice sl_list (pv 4) (po_some (pe_callB (call_max2 rfl) (by rfl) T.z_max (by decide +kernel) (pa_cons (pe_int) (pa_cons (pe_op op_sub (pe_callB call_len_seq (by rfl) T.z_len PySem.boot_len (pa_cons (pv 4) (pa_nil))) (pe_ix ix_tup (pv 0) (pe_int) (fun _ _ => rfl))) (pa_nil))))) (po_none)))   (pss_cons (ps_if (PW.pt (pw_or (pt_cmpR op_lt (pe_callB call_len_seq (by rfl) T.z_len PySem.boot_len (pa_cons (pv 5) (pa_nil))) (pe_ix ix_tup (pv 0) (pe_int) (fun _ _ => rfl)) (nomark _)) (pw_or (pt_cmpR (op_neD hr.units) (pv 5) (pe_op op_rep (pe_lst (pa_cons (pe_ix ix_list (pv 5) (pe_int) (fun _ _ => rfl)) (pa_nil))) (pe_callB call_len_seq (by rfl) T.z_len PySem.boot_len (pa_cons (pv 5) (pa_nil)))) (nomark _)) (pw_or1 (pt_cmpR op_eq (pe_ix ix_list (pv 5) (pe_int) (fun _ _ => rfl)) (pe_int) (nomark _)))))) (pss_one (ps_ret (pe_lst (pa_nil)))) (pss_nil))   (pss_one (ps_ret (pe_lst (pa_cons (pe_op op_add (pv 2) (pe_ix ix_list (pv 5) (pe_int) (fun _ _ => rfl))) (pa_nil)))))))) (pss_nil))   (pss_cons (ps_if (pt_cmpR op_eq (pe_ix ix_tup (pv 0) (pe_int) (fun _ _ => rfl)) (pe_str) (nomark _)) (pss_one (ps_ret (pe_lst (pa_nil)))) (pss_nil))   (pss_cons (ps_set (i := 6) sc_law_guessed.nd rfl (.inl rfl) (pe_lst (pa_nil)))   (pss_cons (ps_for PassesOwn.never rfl (pi_range3 (by rfl) T.z_range (pa_cons (pe_op op_sub (pe_callB call_len_seq (by rfl) T.z_len PySem.boot_len (pa_cons (pv 1) (pa_nil))) (pe_int)) (pa_cons (pe_int) (pa_cons (pe_un un_neg (pe_int)) (pa_nil))))) (pg_name (i := 7) sc_law_guessed.nd rfl (.inl rfl)) (pss_one (ps_if (PW.pt (pw_and (pt_cmpR op_eq (pe_ix ix_list (pv 1) (pe_op op_sub (pv 7) (pe_int)) (fun _ _ => rfl)) (pv 2) (nomark _)) (pw_and1 (pt_cmpR op_notIn_seq (pe_ix ix_list (pv 1) (pv 7) (fun _ _ => rfl)) (pv 6) (by rfl))))) (pss_one (ps_expr (pe_bm PySem.F.plainAttrs_list PySem.F.slot_list_append PySem.F.type_list_append mt_append (pv 6) (pa_cons (pe_ix ix_list (pv 1) (pv 7) (fun _ _ => rfl)) (pa_nil))))) (pss_nil))))   (pss_one (ps_ret (pe_slice sl_list (pv 6) (po_none) (po_some (pe_ix ix_tup (pv 0) (pe_int) (fun _ _ => rfl))))))))))))

theorem ok_law_laid (T : Top K mg) : FnOk P w K mg base CX0 1 T.f_law_laid T.fd_law_laid ["_law_s", "_law_room", "_law_turn", "_law_place", "_law_word"] (spLaid K) := by
  refine T.F_law_laid.ok sc_law_laid (fun vs H Q E h => by obtain ⟨A, ck, U, L, W, wv, sv, tm, m, Bd, room, t, q, w, rfl, _⟩ := h; rfl) (fun cdv A outer s H vs Q E hr h => ⟨t_law_laid K, PSs.nox ?_, pu_law_laid h⟩)
  have hu := hu_of hr; exact pss_cons (ps_if (pt_cmpR op_eq (pe_callB call_lenD (by rfl) T.z_len PySem.boot_len (pa_cons (pe_dget hu (pv 0) (pe_str) (fun _ _ => rfl)) (pa_nil))) (pv 1) (nomark _)) (pss_cons (ps_set (i := 5) sc_law_laid.nd rfl (.inr rfl) (pe_ix ix_list (pe_lock (pe_lc (own := [("_law_one", 6)]) (g := gName 6) (tt := tTest (tOp (rEq) (tDGet (tDGet (tVar 0) (tC (.str "used"))) (tVar 6)) (tCB (rMin K) (tCons (tLc (iKeys (tDGet (tVar 0) (tC (.str "lies")))) (gName 7) (tYes) (tDGet (tDGet (tVar 0) (tC (.str "used"))) (tVar 7)) [7]) (tNil))))) (by rfl) sc_law_laid.nd (pi_keys (pe_dget hu (pv 0) (pe_str) (fun _ _ => rfl))) (blkOk_by (own := [("_law_one", 6)]) (N := ["_law_s", "_law_room", "_law_turn", "_law_place", "_law_word", "_law_old", "_law_one", "_law_other"]) (sc := defScope s_law_laid) (by decide +kernel)) (fun _ _ _ _ _ => pg_name (i := 6) sc_law_laid.nd rfl (.inl rfl)) (fun _ _ _ _ _ => pts_one (pt_cmpR op_eq (pe_dget hu (pe_dget hu (pv 0) (pe_str) (fun _ _ => rfl)) (pv 6) (fun _ _ => rfl)) (pe_callB (cr_min rfl) (by rfl) T.z_min (by decide +kernel) (pa_cons (pe_lc (own := [("_law_other", 7)]) (g := gName 7) (tt := tYes) (by rfl) sc_law_laid.nd (pi_keys (pe_dget hu (pv 0) (pe_str) (fun _ _ => rfl))) (blkOk_by (own := [("_law_other", 7)]) (N := ["_law_s", "_law_room", "_law_turn", "_law_place", "_law_word", "_law_old", "_law_one", "_law_other"]) (sc := _) (by rfl)) (fun _ _ _ _ _ => pg_name (i := 7) sc_law_laid.nd rfl (.inl rfl)) (fun _ _ _ _ _ => pts_nil) (fun _ _ _ _ _ => pe_dget hu (pe_dget hu (pv 0) (pe_str) (fun _ _ => rfl)) (pv 7) (fun _ _ => rfl))) (pa_nil))) (nomark _))) (fun _ _ _ _ _ => pv 6))) (pe_int) (fun _ _ => rfl)))   (pss_cons (ps_expr (pe_bm PySem.F.plainAttrs_list PySem.F.slot_list_append PySem.F.type_list_append mt_append (pe_dget hu (pv 0) (pe_str) (fun _ _ => rfl)) (pa_cons (pe_tup (pa_cons (pv 2) (pa_cons (pe_ifExp (pt_cmpR op_in_seq (pv 5) (pe_dget hu (pv 0) (pe_str) (fun _ _ => rfl)) (by rfl)) (pe_str) (pe_str)) (pa_cons (pv 5) (pa_nil))))) (pa_nil))))   (pss_cons (ps_dput hu (pv 0) (pe_str) (pe_lc (own := [("_law_one", 6)]) (g := gName 6) (tt := tTest (tOp (rNe) (tVar 6) (tVar 5))) (by rfl) sc_law_laid.nd (pi_list (pe_dget hu (pv 0) (pe_str) (fun _ _ => rfl))) (blkOk_by (own := [("_law_one", 6)]) (N := ["_law_s", "_law_room", "_law_turn", "_law_place", "_law_word", "_law_old", "_law_one", "_law_other"]) (sc := defScope s_law_laid) (by decide +kernel)) (fun _ _ _ _ _ => pg_name (i := 6) sc_law_laid.nd rfl (.inl rfl)) (fun _ _ _ _ _ => pts_one (pt_cmpR op_ne (pv 6) (pv 5) (nomark _))) (fun _ _ _ _ _ => pv 6)) rfl)   (pss_one (ps_expr (pe_dpop1 (pe_dget hu (pv 0) (pe_str) (fun _ _ => rfl)) (pv 5) ⟨rfl, rfl, rfl, rfl⟩)))))) (pss_nil))   (pss_cons (ps_dput hu (pv 0) (pe_str) (pe_op op_add (pe_dget hu (pv 0) (pe_str) (fun _ _ => rfl)) (pe_int)) rfl)   (pss_cons (ps_dput hu (pe_dget hu (pv 0) (pe_str) (fun _ _ => rfl)) (pv 3) (pe_dget hu (pv 0) (pe_str) (fun _ _ => rfl)) rfl)   (pss_cons (ps_dput hu (pe_dget hu (pv 0) (pe_str) (fun _ _ => rfl)) (pv 3) (pe_ix ix_list (pe_dget hu (pv 0) (pe_str) (fun _ _ => rfl)) (pv 3) (fun _ _ => rfl)) rfl)   (pss_one (ps_expr (pe_bm PySem.F.plainAttrs_list PySem.F.slot_list_append PySem.F.type_list_append mt_append (pe_dget hu (pv 0) (pe_str) (fun _ _ => rfl)) (pa_cons (pe_tup (pa_cons (pv 2) (pa_cons (pv 4) (pa_cons (pv 3) (pa_nil))))) (pa_nil))))))))
theorem ok_law_asked (T : Top K mg) : FnOk P w K mg base CX0 2 T.f_law_asked T.fd_law_asked ["_law_s", "_law_room", "_law_turn", "_law_place"] (spAsked K) := by
  have G_law_laid := ok_law_laid (P := P) (w := w) (base := base) T
  refine T.F_law_asked.ok sc_law_asked (fun vs H Q E h => by obtain ⟨A, ck, U, L, W, wv, sv, tm, m, Bd, room, t, q, rfl, _⟩ := h; rfl) (fun cdv A outer s H vs Q E hr h => ⟨t_law_asked K (spLaid K), PSs.nox ?_, pu_law_asked h⟩)
  have hu := hu_of hr; exact pss_cons (ps_if (pt_cmp (pc_din hu (pv 3) (pe_dget hu (pv 0) (pe_str) (fun _ _ => rfl)))) (pss_cons (ps_dput hu (pv 0) (pe_str) (pe_op op_add (pe_dget hu (pv 0) (pe_str) (fun _ _ => rfl)) (pe_int)) rfl)   (pss_cons (ps_dput hu (pe_dget hu (pv 0) (pe_str) (fun _ _ => rfl)) (pv 3) (pe_dget hu (pv 0) (pe_str) (fun _ _ => rfl)) rfl)   (pss_cons (ps_expr (pe_bm PySem.F.plainAttrs_list PySem.F.slot_list_append PySem.F.type_list_append mt_append (pe_dget hu (pv 0) (pe_str) (fun _ _ => rfl)) (pa_cons (pe_tup (pa_cons (pv 2) (pa_cons (pe_ifExp (pt_cmpR op_in_seq (pv 3) (pe_dget hu (pv 0) (pe_str) (fun _ _ => rfl)) (by rfl)) (pe_str) (pe_str)) (pa_cons (pv 3) (pa_nil))))) (pa_nil))))   (pss_cons (ps_dput hu (pv 0) (pe_str) (pe_lc (own := [("_law_one", 6)]) (g := gName 6) (tt := tTest (tOp (rNe) (tVar 6) (tVar 3))) (by rfl) sc_law_asked.nd (pi_list (pe_dget hu (pv 0) (pe_str) (fun _ _ => rfl))) (blkOk_by (own := [("_law_one", 6)]) (N := ["_law_s", "_law_room", "_law_turn", "_law_place", "_law_rest", "_law_word", "_law_one", "_law_pair"]) (sc := defScope s_law_asked) (by decide +kernel)) (fun _ _ _ _ _ => pg_name (i := 6) sc_law_asked.nd rfl (.inl rfl)) (fun _ _ _ _ _ => pts_one (pt_cmpR op_ne (pv 6) (pv 3) (nomark _))) (fun _ _ _ _ _ => pv 6)) rfl)   (pss_one (ps_retN)))))) (pss_nil))   (pss_cons (ps_setLc (i := 4) (own := [("_law_pair", 7)]) (g := gName 7) (tt := tTest (tOp (rNe) (tOp (rIxT K) (tVar 7) (tC (.int 0))) (tVar 3))) (by rfl) sc_law_asked.nd rfl rfl (sw_true rfl rfl rfl (by decide +kernel)) (pi_list (pe_dget hu (pv 0) (pe_str) (fun _ _ => rfl))) (blkOk_by (own := [("_law_pair", 7)]) (N := ["_law_s", "_law_room", "_law_turn", "_law_place", "_law_rest", "_law_word", "_law_one", "_law_pair"]) (sc := defScope s_law_asked) (by decide +kernel)) (fun _ _ _ _ _ => pg_name (i := 7) sc_law_asked.nd rfl (.inl rfl)) (fun _ _ _ _ _ => pts_one (pt_cmpR op_ne (pe_ix ix_tup (pv 7) (pe_int) (fun _ _ => rfl)) (pv 3) (nomark _))) (fun _ _ _ _ _ => pv 7))   (pss_cons (ps_set (i := 5) sc_law_asked.nd rfl (.inl rfl) (pe_ifExp (pt_cmpR op_eq (pe_callB call_len_seq (by rfl) T.z_len PySem.boot_len (pa_cons (pv 4) (pa_nil))) (pe_callB call_len_seq (by rfl) T.z_len PySem.boot_len (pa_cons (pe_dget hu (pv 0) (pe_str) (fun _ _ => rfl)) (pa_nil))) (nomark _)) (pe_str) (pe_str)))   (pss_cons (ps_dput hu (pv 0) (pe_str) (pv 4) rfl)   (pss_one (ps_expr (pe_call G_law_laid (hr.mono (by omega)) rfl (T.g_law_laid) (T.F_law_laid.kp) (b_law_laid T) .nil pass0 (pa_cons (pv 0) (pa_cons (pv 1) (pa_cons (pv 2) (pa_cons (pv 3) (pa_cons (pv 5) (pa_nil))))))))))))

theorem ok_law_run (T : Top K mg) : FnOk P w K mg base CX0 6 T.f_law_run T.fd_law_run ["_law_setting_here", "_law_guesser_here", "_law_row"] (spLawRun K) := by
  have G_law_laid := ok_law_laid (P := P) (w := w) (base := base) T
  have G_law_asked := ok_law_asked (P := P) (w := w) (base := base) T
  have G_law_guessed := ok_law_guessed (P := P) (w := w) (base := base) T 4 (by omega)
  refine T.F_law_run.ok sc_law_run (fun vs H Q E h => by obtain ⟨a, g, l, c, G, row, xs, rfl, _⟩ := h; rfl) (fun cdv A outer s H vs Q E hr h => ⟨t_law_run K (spLaid K) (spAsked K) (spLawGuessed K 4), PSs.nox ?_, pu_law_run h⟩)
  have hu := hu_of hr; exact pss_cons (ps_asg (pv 0) (pg_tup (by rfl) (pgs_cons (pg_name (i := 3) sc_law_run.nd rfl (.inl rfl)) (pgs_cons (pg_name (i := 4) sc_law_run.nd rfl (.inl rfl)) (pgs_cons (pg_name (i := 5) sc_law_run.nd rfl (.inr rfl)) (pgs_cons (pg_name (i := 6) sc_law_run.nd rfl (.inl rfl)) (pgs_nil)))))))   (pss_cons (ps_set (i := 7) sc_law_run.nd rfl (.inl rfl) (pe_disp (pps_cons (pe_str) (pe_callTy call_list_of (by rfl) T.z_list (by decide +kernel) (pa_cons (pv 3) (pa_nil))) (pps_cons (pe_str) (pe_dnewK) (pps_cons (pe_str) (pe_lst (pa_nil)) (pps_cons (pe_str) (pe_lst (pa_nil)) (pps_cons (pe_str) (pe_dnewK) (pps_cons (pe_str) (pe_lst (pa_nil)) (pps_cons (pe_str) (pe_lst (pa_nil)) (pps_cons (pe_str) (pe_int) (pps_nil))))))))) (by rfl) (by rfl) (fun z => by cases z) (by decide)))   (pss_cons (ps_for PassesOwn.never rfl (pi_range1 (by rfl) T.z_range (pa_cons (pe_callB call_len_seq (by rfl) T.z_len PySem.boot_len (pa_cons (pv 2) (pa_nil))) (pa_nil))) (pg_name (i := 8) sc_law_run.nd rfl (.inr rfl)) (pss_cons (ps_set (i := 9) sc_law_run.nd rfl (.inl rfl) (pe_ix ix_tup (pe_ix ix_list (pv 2) (pv 8) (fun _ _ => rfl)) (pe_int) (fun _ _ => rfl)))   (pss_cons (ps_for PassesOwn.never rfl (pi_list (pe_lc (own := [("_law_pair", 13)]) (g := gName 13) (tt := tTest (tOp (rLtI) (tOp (rAddI) (tOp (rIxT K) (tVar 13) (tC (.int 1))) (tVar 5)) (tVar 8))) (by rfl) sc_law_run.nd (pi_list (pe_dget hu (pv 7) (pe_str) (fun _ _ => rfl))) (blkOk_by (own := [("_law_pair", 13)]) (N := ["_law_setting_here", "_law_guesser_here", "_law_row", "_law_memory", "_law_room", "_law_late", "_law_most", "_law_s", "_law_turn", "_law_place", "_law_one", "_law_begin", "_law_there", "_law_pair", "_law_deed"]) (sc := defScope s_law_run) (by decide +kernel)) (fun _ _ _ _ _ => pg_name (i := 13) sc_law_run.nd rfl (.inl rfl)) (fun _ _ _ _ _ => pts_one (pt_cmpR op_lt (pe_op op_add (pe_ix ix_tup (pv 13) (pe_int) (fun _ _ => rfl)) (pv 5)) (pv 8) (nomark _))) (fun _ _ _ _ _ => pv 13))) (pg_tup (by rfl) (pgs_cons (pg_name (i := 10) sc_law_run.nd rfl (.inl rfl)) (pgs_cons (pg_name (i := 11) sc_law_run.nd rfl (.inl rfl)) (pgs_nil)))) (pss_cons (ps_expr (pe_call G_law_laid (hr.mono (by omega)) rfl (T.g_law_laid) (T.F_law_laid.kp) (b_law_laid T) .nil pass0 (pa_cons (pv 7) (pa_cons (pv 4) (pa_cons (pv 8) (pa_cons (pv 10) (pa_cons (pe_str) (pa_nil))))))))   (pss_one (ps_expr (pe_bm PySem.F.plainAttrs_list PySem.F.slot_list_append PySem.F.type_list_append mt_append (pe_dget hu (pv 7) (pe_str) (fun _ _ => rfl)) (pa_cons (pv 10) (pa_nil)))))))   (pss_cons (ps_dput hu (pv 7) (pe_str) (pe_lc (own := [("_law_pair", 13)]) (g := gName 13) (tt := tTest (tOp (rGeI) (tOp (rAddI) (tOp (rIxT K) (tVar 13) (tC (.int 1))) (tVar 5)) (tVar 8))) (by rfl) sc_law_run.nd (pi_list (pe_dget hu (pv 7) (pe_str) (fun _ _ => rfl))) (blkOk_by (own := [("_law_pair", 13)]) (N := ["_law_setting_here", "_law_guesser_here", "_law_row", "_law_memory", "_law_room", "_law_late", "_law_most", "_law_s", "_law_turn", "_law_place", "_law_one", "_law_begin", "_law_there", "_law_pair", "_law_deed"]) (sc := defScope s_law_run) (by decide +kernel)) (fun _ _ _ _ _ => pg_name (i := 13) sc_law_run.nd rfl (.inl rfl)) (fun _ _ _ _ _ => pts_one (pt_cmpR op_ge (pe_op op_add (pe_ix ix_tup (pv 13) (pe_int) (fun _ _ => rfl)) (pv 5)) (pv 8) (nomark _))) (fun _ _ _ _ _ => pv 13)) rfl)   (pss_cons (ps_expr (pe_call G_law_asked (hr.mono (by omega)) rfl (T.g_law_asked) (T.F_law_asked.kp) (b_law_asked T) .nil pass0 (pa_cons (pv 7) (pa_cons (pv 4) (pa_cons (pv 8) (pa_cons (pv 9) (pa_nil)))))))   (pss_cons (ps_if (pt_cmpR op_eq (pe_ix ix_tup (pe_ix ix_list (pv 2) (pv 8) (fun _ _ => rfl)) (pe_int) (fun _ _ => rfl)) (pe_str) (nomark _)) (pss_one (ps_expr (pe_bm PySem.F.plainAttrs_list PySem.F.slot_list_append PySem.F.type_list_append mt_append (pe_dget hu (pv 7) (pe_str) (fun _ _ => rfl)) (pa_cons (pe_dget hu (pe_dget hu (pv 7) (pe_str) (fun _ _ => rfl)) (pv 9) (fun _ _ => rfl)) (pa_nil))))) (pss_cons (ps_dput hu (pe_dget hu (pv 7) (pe_str) (fun _ _ => rfl)) (pv 9) (pe_ix ix_tup (pe_ix ix_list (pv 2) (pv 8) (fun _ _ => rfl)) (pe_int) (fun _ _ => rfl)) rfl)   (pss_one (ps_asg (pe_ix ix_tup (pe_ix ix_list (pv 2) (pv 8) (fun _ _ => rfl)) (pe_int) (fun _ _ => rfl)) (pg_sub (pe_dget hu (pv 7) (pe_str) (fun _ _ => rfl)) (pv 9) set_list)))))   (pss_one (ps_for PassesOwn.never rfl (pi_list (pe_call G_law_guessed (hr.mono (by omega)) rfl (T.g_law_guessed) (T.F_law_guessed.kp) (b_law_guessed T) .nil pass0 (pa_cons (pv 1) (pa_cons (pe_lc (own := [("_law_deed", 14)]) (g := gName 14) (tt := tYes) (by rfl) sc_law_run.nd (pi_list (pe_slice sl_list (pv 2) (po_none) (po_some (pe_op op_add (pv 8) (pe_int))))) (blkOk_by (own := [("_law_deed", 14)]) (N := ["_law_setting_here", "_law_guesser_here", "_law_row", "_law_memory", "_law_room", "_law_late", "_law_most", "_law_s", "_law_turn", "_law_place", "_law_one", "_law_begin", "_law_there", "_law_pair", "_law_deed"]) (sc := defScope s_law_run) (by decide +kernel)) (fun _ _ _ _ _ => pg_name (i := 14) sc_law_run.nd rfl (.inl rfl)) (fun _ _ _ _ _ => pts_nil) (fun _ _ _ _ _ => pe_ix ix_tup (pv 14) (pe_int) (fun _ _ => rfl))) (pa_nil))))) (pg_name (i := 10) sc_law_run.nd rfl (.inl rfl)) (pss_cons (ps_set (i := 12) sc_law_run.nd rfl (.inl rfl) (pe_or (pe_cmp (pc_din hu (pv 10) (pe_dget hu (pv 7) (pe_str) (fun _ _ => rfl)))) (pe_one (pe_cmpR op_in_seq (pv 10) (pe_lc (own := [("_law_pair", 13)]) (g := gName 13) (tt := tYes) (by rfl) sc_law_run.nd (pi_list (pe_dget hu (pv 7) (pe_str) (fun _ _ => rfl))) (blkOk_by (own := [("_law_pair", 13)]) (N := ["_law_setting_here", "_law_guesser_here", "_law_row", "_law_memory", "_law_room", "_law_late", "_law_most", "_law_s", "_law_turn", "_law_place", "_law_one", "_law_begin", "_law_there", "_law_pair", "_law_deed"]) (sc := defScope s_law_run) (by decide +kernel)) (fun _ _ _ _ _ => pg_name (i := 13) sc_law_run.nd rfl (.inl rfl)) (fun _ _ _ _ _ => pts_nil) (fun _ _ _ _ _ => pe_ix ix_tup (pv 13) (pe_int) (fun _ _ => rfl))) (by rfl)))))   (pss_one (ps_if (PW.pt (pw_and (pt_chain op_le op_lt (pe_int) (pv 10) (pe_callB call_len_seq (by rfl) T.z_len PySem.boot_len (pa_cons (pv 3) (pa_nil)))) (pw_and (pt_not (pt_val (pv 12))) (pw_and1 (pt_cmpR op_lt (pe_callB call_len_seq (by rfl) T.z_len PySem.boot_len (pa_cons (pe_dget hu (pv 7) (pe_str) (fun _ _ => rfl)) (pa_nil))) (pv 6) (nomark _)))))) (pss_cons (ps_expr (pe_bm PySem.F.plainAttrs_list PySem.F.slot_list_append PySem.F.type_list_append mt_append (pe_dget hu (pv 7) (pe_str) (fun _ _ => rfl)) (pa_cons (pe_tup (pa_cons (pv 10) (pa_cons (pv 8) (pa_nil)))) (pa_nil))))   (pss_one (ps_expr (pe_bm PySem.F.plainAttrs_list PySem.F.slot_list_append PySem.F.type_list_append mt_append (pe_dget hu (pv 7) (pe_str) (fun _ _ => rfl)) (pa_cons (pe_tup (pa_cons (pv 8) (pa_cons (pe_str) (pa_cons (pv 10) (pa_nil))))) (pa_nil)))))) (pss_nil))))))))))))   (pss_one (ps_ret (pv 7)))))

theorem ok_law_counts (T : Top K mg) : FnOk P w K mg base CX0 1 T.f_law_counts T.fd_law_counts ["_law_s"] spLawCounts := by
  refine T.F_law_counts.ok sc_law_counts (fun vs H Q E h => by obtain ⟨A, ck, U, L, W, wv, sv, tm, m, B, rfl, _⟩ := h; rfl) (fun cdv A outer s H vs Q E hr h => ⟨t_law_counts K, PSs.nox ?_, pu_law_counts h⟩)
  have hu := hu_of hr; exact pss_cons (ps_set (i := 1) sc_law_counts.nd rfl (.inr rfl) (pe_lc (own := [("_law_turn", 4), ("_law_word", 5), ("_law_place", 6)]) (g := gTup K 3 (gCons (gName 4) (gCons (gName 5) (gCons (gName 6) (gNil))))) (tt := tYes) (by rfl) sc_law_counts.nd (pi_list (pe_dget hu (pv 0) (pe_str) (fun _ _ => rfl))) (blkOk_by (own := [("_law_turn", 4), ("_law_word", 5), ("_law_place", 6)]) (N := ["_law_s", "_law_words", "_law_many", "_law_idle", "_law_turn", "_law_word", "_law_place"]) (sc := defScope s_law_counts) (by decide +kernel)) (fun _ _ _ _ _ => pg_tup (by rfl) (pgs_cons (pg_name (i := 4) sc_law_counts.nd rfl (.inl rfl)) (pgs_cons (pg_name (i := 5) sc_law_counts.nd rfl (.inl rfl)) (pgs_cons (pg_name (i := 6) sc_law_counts.nd rfl (.inl rfl)) (pgs_nil))))) (fun _ _ _ _ _ => pts_nil) (fun _ _ _ _ _ => pv 5)))   (pss_cons (ps_setLc (i := 2) (own := [("_law_word", 5)]) (g := gName 5) (tt := tYes) (by rfl) sc_law_counts.nd rfl rfl (sw_true rfl rfl rfl (by decide +kernel)) (pi_list (pe_lst (pa_cons (pe_str) (pa_cons (pe_str) (pa_cons (pe_str) (pa_cons (pe_str) (pa_cons (pe_str) (pa_cons (pe_str) (pa_nil))))))))) (blkOk_by (own := [("_law_word", 5)]) (N := ["_law_s", "_law_words", "_law_many", "_law_idle", "_law_turn", "_law_word", "_law_place"]) (sc := defScope s_law_counts) (by decide +kernel)) (fun _ _ _ _ _ => pg_name (i := 5) sc_law_counts.nd rfl (.inl rfl)) (fun _ _ _ _ _ => pts_nil) (fun _ _ _ _ _ => pe_bm PySem.F.plainAttrs_list PySem.F.slot_list_count PySem.F.type_list_count mt_lcountS (pv 1) (pa_cons (pv 5) (pa_nil))))   (pss_cons (ps_set (i := 3) sc_law_counts.nd rfl (.inl rfl) (pe_op op_add (pe_callB call_len_seq (by rfl) T.z_len PySem.boot_len (pa_cons (pe_dget hu (pv 0) (pe_str) (fun _ _ => rfl)) (pa_nil))) (pe_callB call_len_seq (by rfl) T.z_len PySem.boot_len (pa_cons (pe_dget hu (pv 0) (pe_str) (fun _ _ => rfl)) (pa_nil)))))   (pss_one (ps_ret (pe_tup (pa_cons (pe_op op_add (pe_ix ix_list (pv 2) (pe_int) (fun _ _ => rfl)) (pe_ix ix_list (pv 2) (pe_int) (fun _ _ => rfl))) (pa_cons (pe_ix ix_list (pv 2) (pe_int) (fun _ _ => rfl)) (pa_cons (pe_ix ix_list (pv 2) (pe_int) (fun _ _ => rfl)) (pa_cons (pe_ix ix_list (pv 2) (pe_int) (fun _ _ => rfl)) (pa_cons (pe_op op_add (pe_ix ix_list (pv 2) (pe_int) (fun _ _ => rfl)) (pe_ix ix_list (pv 2) (pe_int) (fun _ _ => rfl))) (pa_cons (pe_ix ix_list (pv 2) (pe_int) (fun _ _ => rfl)) (pa_cons (pv 3) (pa_nil)))))))))))))

theorem ok_law_plain (T : Top K mg) : FnOk P w K mg base CX0 1 T.f_law_plain T.fd_law_plain ["_law_memory", "_law_row"] (spLawPlain K) := by
  refine T.F_law_plain.ok sc_law_plain (fun vs H Q E h => by obtain ⟨mm, l, ms, row, xs, rfl, _⟩ := h; rfl) (fun cdv A outer s H vs Q E hr h => ⟨t_law_plain K, PSs.nox ?_, pu_law_plain h⟩)
  have hu := hu_of hr; exact pss_cons (ps_set (i := 2) sc_law_plain.nd rfl (.inl rfl) (pe_callTy call_list_of (by rfl) T.z_list (by decide +kernel) (pa_cons (pv 0) (pa_nil))))   (pss_cons (ps_set (i := 3) sc_law_plain.nd rfl (.inl rfl) (pe_lst (pa_nil)))   (pss_cons (ps_for PassesOwn.never rfl (pi_list (pv 1)) (pg_name (i := 4) sc_law_plain.nd rfl (.inl rfl)) (pss_one (ps_if (pt_cmpR op_eq (pe_ix ix_tup (pv 4) (pe_int) (fun _ _ => rfl)) (pe_str) (nomark _)) (pss_one (ps_expr (pe_bm PySem.F.plainAttrs_list PySem.F.slot_list_append PySem.F.type_list_append mt_append (pv 3) (pa_cons (pe_ix ix_list (pv 2) (pe_ix ix_tup (pv 4) (pe_int) (fun _ _ => rfl)) (fun _ _ => rfl)) (pa_nil))))) (pss_one (ps_asg (pe_ix ix_tup (pv 4) (pe_int) (fun _ _ => rfl)) (pg_sub (pv 2) (pe_ix ix_tup (pv 4) (pe_int) (fun _ _ => rfl)) set_list))))))   (pss_one (ps_ret (pe_tup (pa_cons (pv 3) (pa_cons (pe_callTy call_tuple_of (by rfl) T.z_tuple (by decide +kernel) (pa_cons (pv 2) (pa_nil))) (pa_nil))))))))

end
/-! ### the guessers' defs keep their promises -/
def ca {K : PySem.W.Frag} {mg : Str → Option Value} (T : Top K mg) : CA := ⟨T.c_Silent, T.c_Neighbours, T.c_Strides, T.c_Pairs, T.c_Both⟩
theorem gf {K : PySem.W.Frag} {mg : Str → Option Value} (T : Top K mg) : GF K (ca T) :=
  ⟨T.cl_Neighbours, T.cl_Strides, T.cl_Pairs, T.cl_Both, T.n_Neighbours_many, T.n_Strides_times, T.n_Strides_last, T.n_Strides_stride, T.n_Strides_same, T.n_Pairs_many, T.n_Pairs_last, T.n_Pairs_followers, T.n_Both_one, T.n_Both_other⟩
section
variable {P : Program} {w : World} {K : PySem.W.Frag} {mg : Str → Option Value} {base : Heap}
structure OfK (P : Program) (w : World) (K : PySem.W.Frag) (mg : Str → Option Value) (base : Heap) (k : Nat) (m : Str) (sp : Sp) (C : Addr) : Prop where
  ex : ∃ (f : Addr) (fd : FuncData) (ps : List Str), Cls K C ∧ Meth K C m f ∧ FnOk P w K mg base CX0 k f fd ps sp ∧ Binds K fd ps []
theorem OfK.of {X : Cx} {k : Nat} {m : Str} {sp : Sp} {C : Addr} (h : OfK X.prog X.w X.K X.mg X.base k m sp C) (hr : Room k X.A) : Of X CX0 E0 m sp C := by
  obtain ⟨f, fd, ps, c, hm, F, hb⟩ := h.ex
  exact ⟨f, fd, k, ps, c, hm, F, hr, hb, pass0⟩
theorem ln_made {C : Addr} {args : List V} {fs : List (Str × V)} {vs : List V} {H : Hp} {Q : VK} {E : XK} (h : spMade C args fs vs H Q E) : vs.length = args.length + 1 := by
  obtain ⟨p, dx, rfl, _⟩ := h
  rfl
theorem ln_guess {c : CA} {n : Nat} {i : Lab} {vs : List V} {H : Hp} {Q : VK} {E : XK} (h : spGuessL c n i vs H Q E) : vs.length = 2 := by
  obtain ⟨p, x, s, M, N, _, rfl, _⟩ := h
  rfl
theorem ok_Neighbours_init (T : Top K mg) : FnOk P w K mg base CX0 1 T.f_Neighbours_init T.fd_Neighbours_init ["self", "many"] (spNI (ca T)) := by
  refine T.F_Neighbours_init.ok sc_Neighbours_init (fun vs H Q E h => by obtain ⟨m, h⟩ := h; exact ln_made h) (fun cdv A outer s H vs Q E hr h => ⟨t_Neighbours_init K, PSs.nox ?_, by obtain ⟨m, h⟩ := h; exact pu_Neighbours_init (gf T) h⟩)
  have hu := hu_of hr; exact pss_one (ps_fld (pv 0) (pv 1) rfl)
theorem ok_Strides_init (T : Top K mg) : FnOk P w K mg base CX0 1 T.f_Strides_init T.fd_Strides_init ["self", "times"] (spSI (ca T)) := by
  refine T.F_Strides_init.ok sc_Strides_init (fun vs H Q E h => by obtain ⟨m, h⟩ := h; exact ln_made h) (fun cdv A outer s H vs Q E hr h => ⟨t_Strides_init K, PSs.nox ?_, by obtain ⟨m, h⟩ := h; exact pu_Strides_init (gf T) h⟩)
  have hu := hu_of hr; exact pss_cons (ps_fld (pv 0) (pv 1) rfl)   (pss_cons (ps_fld (pv 0) (pe_non) rfl)   (pss_cons (ps_fld (pv 0) (pe_int) rfl)   (pss_one (ps_fld (pv 0) (pe_int) rfl))))
theorem ok_Pairs_init (T : Top K mg) : FnOk P w K mg base CX0 1 T.f_Pairs_init T.fd_Pairs_init ["self", "many"] (spPairsInit (ca T)) := by
  refine T.F_Pairs_init.ok sc_Pairs_init (fun vs H Q E h => by obtain ⟨p, dx, m, rfl, _⟩ := h; rfl) (fun cdv A outer s H vs Q E hr h => ⟨t_Pairs_init K, PSs.nox ?_, pu_Pairs_init (gf T) h⟩)
  have hu := hu_of hr; exact pss_cons (ps_fld (pv 0) (pv 1) rfl)   (pss_cons (ps_fld (pv 0) (pe_non) rfl)   (pss_one (ps_fld (pv 0) (pe_dnewK) rfl)))
theorem ok_Both_init (T : Top K mg) : FnOk P w K mg base CX0 1 T.f_Both_init T.fd_Both_init ["self", "one", "other"] (spBI (ca T)) := by
  refine T.F_Both_init.ok sc_Both_init (fun vs H Q E h => by obtain ⟨x, y, h⟩ := h; exact ln_made h) (fun cdv A outer s H vs Q E hr h => ⟨t_Both_init K, PSs.nox ?_, by obtain ⟨x, y, h⟩ := h; exact pu_Both_init (gf T) h⟩)
  have hu := hu_of hr; exact pss_cons (ps_fld (pv 0) (pv 1) rfl)   (pss_one (ps_fld (pv 0) (pv 2) rfl))
theorem ok_Silent_guess (T : Top K mg) (n : Nat) : FnOk P w K mg base CX0 1 T.f_Silent_guess T.fd_Silent_guess ["self", "place"] (spGuessL (ca T) n .silent) := by
  refine T.F_Silent_guess.ok sc_Silent_guess (fun vs H Q E h => ln_guess h) (fun cdv A outer s H vs Q E hr h => ⟨t_Silent_guess, PSs.nox ?_, ?_⟩)
  · have hu := hu_of hr; exact pss_one (ps_ret (pe_lst (pa_nil)))
  · obtain ⟨p, x, st, M, N, el, rfl, ga, dom, _, _, _, k⟩ := h
    cases st with
    | silent =>
      obtain ⟨dx, hp, mp⟩ := ga
      exact pu_Silent_guess (c := ca T) (E := E) (n := n) ⟨x, p, dx, M, N, rfl, hp, mp, dom, k⟩
    | _ => cases el
theorem ok_Neighbours_guess (T : Top K mg) (n : Nat) : FnOk P w K mg base CX0 1 T.f_Neighbours_guess T.fd_Neighbours_guess ["self", "place"] (spGuessL (ca T) n .neigh) := by
  refine T.F_Neighbours_guess.ok sc_Neighbours_guess (fun vs H Q E h => ln_guess h) (fun cdv A outer s H vs Q E hr h => ⟨t_Neighbours_guess K, PSs.nox ?_, ?_⟩)
  · have hu := hu_of hr; exact pss_one (ps_ret (pe_lc (own := [("step", 2)]) (g := gName 2) (tt := tYes) (by rfl) sc_Neighbours_guess.nd (pi_range2 (by rfl) T.z_range (pa_cons (pe_int) (pa_cons (pe_op op_add (pe_fld (pv 0) rfl) (pe_int)) (pa_nil)))) (blkOk_by (own := [("step", 2)]) (N := ["self", "place", "step"]) (sc := defScope s_Neighbours_guess) (by decide +kernel)) (fun _ _ _ _ _ => pg_name (i := 2) sc_Neighbours_guess.nd rfl (.inl rfl)) (fun _ _ _ _ _ => pts_nil) (fun _ _ _ _ _ => pe_op op_add (pv 1) (pv 2))))
  · obtain ⟨p, x, st, M, N, el, rfl, ga, dom, _, hg, _, k⟩ := h
    cases st with
    | neigh m =>
      obtain ⟨dx, hp, mp⟩ := ga
      exact pu_Neighbours_guess (gf T) (E := E) ⟨x, m, p, dx, M, N, rfl, hp, mp, dom, hg.1, hg.2, k⟩
    | _ => cases el
theorem ok_Strides_count_stride (T : Top K mg) : FnOk P w K mg base CX0 1 T.f_Strides_count_stride T.fd_Strides_count_stride ["self", "stride"] (spCount (ca T)) := by
  refine T.F_Strides_count_stride.ok sc_Strides_count_stride (fun vs H Q E h => by obtain ⟨p, dx, d, t, l, s, k, rfl, _⟩ := h; rfl) (fun cdv A outer s H vs Q E hr h => ⟨t_Strides_count_stride K, PSs.nox ?_, pu_Strides_count_stride (gf T) h⟩)
  have hu := hu_of hr; exact pss_cons (ps_fld (pv 0) (pe_ifExp (pt_cmpR op_eq (pv 1) (pe_fld (pv 0) rfl) (nomark _)) (pe_op op_add (pe_fld (pv 0) rfl) (pe_int)) (pe_int)) rfl)   (pss_one (ps_fld (pv 0) (pv 1) rfl))
theorem ok_Strides_guess (T : Top K mg) (n : Nat) : FnOk P w K mg base CX0 2 T.f_Strides_guess T.fd_Strides_guess ["self", "place"] (spGuessL (ca T) n .strid) := by
  have G_Strides_count_stride := ok_Strides_count_stride (P := P) (w := w) (base := base) T
  refine T.F_Strides_guess.ok sc_Strides_guess (fun vs H Q E h => ln_guess h) (fun cdv A outer s H vs Q E hr h => ⟨t_Strides_guess K T.c_Strides (spCount (ca T)), PSs.nox ?_, ?_⟩)
  · have hu := hu_of hr; exact pss_cons (ps_if (pt_cmp (pc_notN (pe_fld (pv 0) rfl)) rfl) (pss_one (ps_expr (pe_meth (pv 0) T.cl_Strides T.m_Strides_count_stride G_Strides_count_stride (hr.mono (by omega)) (b_Strides_count_stride T) .nil pass0 (pa_cons (pe_op op_sub (pv 1) (pe_fld (pv 0) rfl)) (pa_nil))))) (pss_nil))   (pss_cons (ps_fld (pv 0) (pv 1) rfl)   (pss_cons (ps_if (PW.pt (pw_or (pt_cmpR op_eq (pe_fld (pv 0) rfl) (pe_int) (nomark _)) (pw_or1 (pt_cmpR op_lt (pe_fld (pv 0) rfl) (pe_fld (pv 0) rfl) (nomark _))))) (pss_one (ps_ret (pe_lst (pa_nil)))) (pss_nil))   (pss_one (ps_ret (pe_lst (pa_cons (pe_op op_add (pv 1) (pe_fld (pv 0) rfl)) (pa_nil)))))))
  · obtain ⟨p, x, st, M, N, el, rfl, ga, dom, _, _, _, k⟩ := h
    cases st with
    | strid t l sd sm =>
      obtain ⟨dx, hp, mp⟩ := ga
      exact pu_Strides_guess (gf T) (E := E) ⟨x, t, sd, sm, l, p, dx, M, N, rfl, hp, mp, dom, k⟩
    | _ => cases el
theorem ok_Pairs_put_behind (T : Top K mg) : FnOk P w K mg base CX0 1 T.f_Pairs_put_behind T.fd_Pairs_put_behind ["self", "earlier", "place"] (spPut (ca T)) := by
  refine T.F_Pairs_put_behind.ok sc_Pairs_put_behind (fun vs H Q E h => by obtain ⟨p, dx, d, q, x, m, l, kvs, f, M, rfl, _⟩ := h; rfl) (fun cdv A outer s H vs Q E hr h => ⟨t_Pairs_put_behind K, PSs.nox ?_, pu_Pairs_put_behind (gf T) h⟩)
  have hu := hu_of hr; exact pss_cons (ps_setLc (i := 3) (own := [("other", 4)]) (g := gName 4) (tt := tTest (tOp (rNe) (tVar 4) (tVar 2))) (by rfl) sc_Pairs_put_behind.nd rfl rfl (sw_true rfl rfl rfl (by decide +kernel)) (pi_list (pe_dget2 hu (pe_fld (pv 0) rfl) (pv 1) (pe_lst (pa_nil)) ⟨rfl, rfl, rfl, rfl⟩)) (blkOk_by (own := [("other", 4)]) (N := ["self", "earlier", "place", "others", "other"]) (sc := defScope s_Pairs_put_behind) (by decide +kernel)) (fun _ _ _ _ _ => pg_name (i := 4) sc_Pairs_put_behind.nd rfl (.inl rfl)) (fun _ _ _ _ _ => pts_one (pt_cmpR op_ne (pv 4) (pv 2) (nomark _))) (fun _ _ _ _ _ => pv 4))   (pss_one (ps_dput hu (pe_fld (pv 0) rfl) (pv 1) (pe_slice sl_list (pe_lst (pa_cons (pv 2) (pa_star (pv 3) (pa_nil)))) (po_none) (po_some (pe_fld (pv 0) rfl))) rfl))
theorem ok_Pairs_guess (T : Top K mg) (n : Nat) : FnOk P w K mg base CX0 2 T.f_Pairs_guess T.fd_Pairs_guess ["self", "place"] (spGuessL (ca T) n .pairs) := by
  have G_Pairs_put_behind := ok_Pairs_put_behind (P := P) (w := w) (base := base) T
  refine T.F_Pairs_guess.ok sc_Pairs_guess (fun vs H Q E h => ln_guess h) (fun cdv A outer s H vs Q E hr h => ⟨t_Pairs_guess K T.c_Pairs (spPut (ca T)), PSs.nox ?_, ?_⟩)
  · have hu := hu_of hr; exact pss_cons (ps_if (pt_cmp (pc_notN (pe_fld (pv 0) rfl)) rfl) (pss_one (ps_expr (pe_meth (pv 0) T.cl_Pairs T.m_Pairs_put_behind G_Pairs_put_behind (hr.mono (by omega)) (b_Pairs_put_behind T) .nil pass0 (pa_cons (pe_fld (pv 0) rfl) (pa_cons (pv 1) (pa_nil)))))) (pss_nil))   (pss_cons (ps_fld (pv 0) (pv 1) rfl)   (pss_one (ps_ret (pe_callTy call_list_of (by rfl) T.z_list (by decide +kernel) (pa_cons (pe_dget2 hu (pe_fld (pv 0) rfl) (pv 1) (pe_lst (pa_nil)) ⟨rfl, rfl, rfl, rfl⟩) (pa_nil))))))
  · obtain ⟨p, x, st, M, N, el, rfl, ga, dom, _, hg, hN, k⟩ := h
    cases st with
    | pairs m l f => exact pu_Pairs_guess (gf T) (E := E) ⟨x, m, l, f, p, M, N, rfl, ga, dom, hg, hN, k⟩
    | _ => cases el
theorem ok_Both_guess (T : Top K mg) (n : Nat) (hn : n ≤ 10) (OF_guess : ∀ i, OfK P w K mg base (2 + n) "guess" (spGuessL (ca T) n i) ((ca T).at i)) : FnOk P w K mg base CX0 (2 + n + 1) T.f_Both_guess T.fd_Both_guess ["self", "place"] (spGuessL (ca T) (n + 1) .both) := by
  refine T.F_Both_guess.ok sc_Both_guess (fun vs H Q E h => ln_guess h) (fun cdv A outer s H vs Q E hr h => ⟨t_Both_guess K (ca T).at (spGuessL (ca T) n), PSs.nox ?_, pu_Both_guess (gf T) hn h⟩)
  have hu := hu_of hr; exact pss_cons (ps_set (i := 2) sc_Both_guess.nd rfl (.inr rfl) (pe_methOf (fun i => OfK.of (OF_guess i) (hr.mono (by omega))) (pe_fld (pv 0) rfl) (pa_cons (pv 1) (pa_nil))))   (pss_cons (ps_set (i := 3) sc_Both_guess.nd rfl (.inl rfl) (pe_methOf (fun i => OfK.of (OF_guess i) (hr.mono (by omega))) (pe_fld (pv 0) rfl) (pa_cons (pv 1) (pa_nil))))   (pss_one (ps_ret (pe_op op_cat (pv 2) (pe_lc (own := [("guessed", 4)]) (g := gName 4) (tt := tTest (tOp (rIn K true) (tVar 4) (tVar 2))) (by rfl) sc_Both_guess.nd (pi_list (pv 3)) (blkOk_by (own := [("guessed", 4)]) (N := ["self", "place", "first", "second", "guessed"]) (sc := defScope s_Both_guess) (by decide +kernel)) (fun _ _ _ _ _ => pg_name (i := 4) sc_Both_guess.nd rfl (.inl rfl)) (fun _ _ _ _ _ => pts_one (pt_cmpR op_notIn_seq (pv 4) (pv 2) (by rfl))) (fun _ _ _ _ _ => pv 4))))))
theorem of_guess (T : Top K mg) : ∀ n, n ≤ 10 → ∀ i, OfK P w K mg base (2 + n) "guess" (spGuessL (ca T) n i) ((ca T).at i)
  | n, _, .silent => ⟨_, _, _, T.cl_Silent, T.m_Silent_guess, (ok_Silent_guess T n).mono (by omega), b_Silent_guess T⟩
  | n, _, .neigh => ⟨_, _, _, T.cl_Neighbours, T.m_Neighbours_guess, (ok_Neighbours_guess T n).mono (by omega), b_Neighbours_guess T⟩
  | n, _, .strid => ⟨_, _, _, T.cl_Strides, T.m_Strides_guess, (ok_Strides_guess T n).mono (by omega), b_Strides_guess T⟩
  | n, _, .pairs => ⟨_, _, _, T.cl_Pairs, T.m_Pairs_guess, (ok_Pairs_guess T n).mono (by omega), b_Pairs_guess T⟩
  | 0, _, .both => ⟨_, _, _, T.cl_Both, T.m_Both_guess, none_ok (fun vs H Q E h => by
      obtain ⟨p, x, s, M, N, el, _, _, _, hd, _⟩ := h
      cases s with
      | both a b =>
        have hd : max (deep a) (deep b) + 1 ≤ 0 := hd
        omega
      | _ => cases el), b_Both_guess T⟩
  | n + 1, hn, .both => ⟨_, _, _, T.cl_Both, T.m_Both_guess, ok_Both_guess T n (by omega) (of_guess T n (by omega)), b_Both_guess T⟩
theorem ok_is_guesser (T : Top K mg) : ∀ n, FnOk P w K mg base CX0 n T.f_is_guesser T.fd_is_guesser ["guesser", "boths"] (spIsG n)
  | 0 => none_ok (fun vs H Q E h => by obtain ⟨a, d, g, _, _, _, _, hn, _⟩ := h; omega)
  | n + 1 => by
    have G_is_guesser := ok_is_guesser T n
    refine T.F_is_guesser.ok sc_is_guesser (fun vs H Q E h => by obtain ⟨a, d, g, rfl, _⟩ := h; rfl) (fun cdv A outer s H vs Q E hr h => ⟨t_is_guesser K (spIsG n), PSs.nox ?_, pu_is_guesser h⟩)
    have hu := hu_of hr; exact pss_cons (ps_if (pt_not (pt_val (pe_callB call_isi (by rfl) T.z_isinstance (by decide +kernel) (pa_cons (pv 0) (pa_cons (pe_bltn (v := .ty "tuple") (by rfl) T.z_tuple (by decide +kernel) rfl) (pa_nil)))))) (pss_one (ps_ret (pe_bl))) (pss_nil))   (pss_one (ps_match (pv 0) (pcs_cons sc_is_guesser.nd (pm_seq (by rfl) (pms_cons (pm_val (pe_str)) (pms_nil))) (.nil) (pss_one (ps_ret (pe_bl)))     (pcs_cons sc_is_guesser.nd (pm_seq (by rfl) (pms_cons (pm_val (pe_str)) (pms_cons (pm_cap) (pms_nil)))) (.cons ⟨rfl, (.inl rfl), .inr rfl⟩ (.nil)) (pss_one (ps_ret (pe_cmpR op_in_seq (pv 2) (pe_tup (pa_cons (pe_int) (pa_cons (pe_int) (pa_cons (pe_int) (pa_nil))))) (by rfl))))     (pcs_cons sc_is_guesser.nd (pm_seq (by rfl) (pms_cons (pm_val (pe_str)) (pms_cons (pm_cap) (pms_nil)))) (.cons ⟨rfl, (.inl rfl), .inr rfl⟩ (.nil)) (pss_one (ps_ret (pe_cmpR op_in_seq (pv 3) (pe_tup (pa_cons (pe_int) (pa_cons (pe_int) (pa_cons (pe_int) (pa_nil))))) (by rfl))))     (pcs_cons sc_is_guesser.nd (pm_seq (by rfl) (pms_cons (pm_val (pe_str)) (pms_cons (pm_cap) (pms_nil)))) (.cons ⟨rfl, (.inl rfl), .inr rfl⟩ (.nil)) (pss_one (ps_ret (pe_cmpR op_in_seq (pv 2) (pe_tup (pa_cons (pe_int) (pa_cons (pe_int) (pa_nil)))) (by rfl))))     (pcs_cons sc_is_guesser.nd (pm_seq (by rfl) (pms_cons (pm_val (pe_str)) (pms_cons (pm_cap) (pms_cons (pm_cap) (pms_nil))))) (.cons ⟨rfl, (.inl rfl), .inr rfl⟩ (.cons ⟨rfl, (.inl rfl), .inr rfl⟩ (.nil))) (pss_one (ps_ret (pe_and (pe_cmpR op_lt (pv 1) (pe_glob rfl T.k_MOST_BOTHS ⟨_, rfl⟩) (nomark _)) (pe_and (pe_call G_is_guesser (hr.mono (by omega)) rfl (T.g_is_guesser) (T.F_is_guesser.kp) (b_is_guesser T) .nil pass0 (pa_cons (pv 4) (pa_cons (pe_op op_add (pv 1) (pe_int)) (pa_nil)))) (pe_one (pe_call G_is_guesser (hr.mono (by omega)) rfl (T.g_is_guesser) (T.F_is_guesser.kp) (b_is_guesser T) .nil pass0 (pa_cons (pv 5) (pa_cons (pe_op op_add (pv 1) (pe_int)) (pa_nil)))))))))     (pcs_cons sc_is_guesser.nd (pm_any) (.nil) (pss_one (ps_ret (pe_bl)))     (pcs_nil)))))))))
theorem ok_check_guesser (T : Top K mg) : FnOk P w K mg base CX0 5 T.f_check_guesser T.fd_check_guesser ["guesser"] spCheck := by
  have G_is_guesser := ok_is_guesser (P := P) (w := w) (base := base) T 4
  refine T.F_check_guesser.ok sc_check_guesser (fun vs H Q E h => by obtain ⟨a, g, rfl, _⟩ := h; rfl) (fun cdv A outer s H vs Q E hr h => ⟨t_check_guesser K (spIsG 4), PSs.nox ?_, pu_check_guesser h⟩)
  have hu := hu_of hr; exact pss_one (ps_if (pt_not (pt_val (pe_call G_is_guesser (hr.mono (by omega)) rfl (T.g_is_guesser) (T.F_is_guesser.kp) (b_is_guesser T) .nil pass0 (pa_cons (pv 0) (pa_cons (pe_int) (pa_nil)))))) (pss_one (ps_never)) (pss_nil))
theorem ok_begun (T : Top K mg) : ∀ n, FnOk P w K mg base CX0 (n + 2) T.f_begun T.fd_begun ["guesser"] (spBegun (ca T) n)
  | 0 => none_ok (fun vs H Q E h => by obtain ⟨a, g, _, _, hn, _⟩ := h; omega)
  | n + 1 => by
    have G_begun := ok_begun T n
    have G_Neighbours_init := ok_Neighbours_init (P := P) (w := w) (base := base) T
    have G_Strides_init := ok_Strides_init (P := P) (w := w) (base := base) T
    have G_Pairs_init := ok_Pairs_init (P := P) (w := w) (base := base) T
    have G_Both_init := ok_Both_init (P := P) (w := w) (base := base) T
    refine T.F_begun.ok sc_begun (fun vs H Q E h => by obtain ⟨a, g, rfl, _⟩ := h; rfl) (fun cdv A outer s H vs Q E hr h => ⟨t_begun K T.c_Neighbours T.c_Strides T.c_Pairs T.c_Both T.c_Silent (spNI (ca T)) (spSI (ca T)) (spPairsInit (ca T)) (spBI (ca T)) (spBegun (ca T) n), PSs.nox ?_, pu_begun h⟩)
    have hu := hu_of hr; exact pss_one (ps_match (pv 0) (pcs_cons sc_begun.nd (pm_seq (by rfl) (pms_cons (pm_val (pe_str)) (pms_cons (pm_cap) (pms_nil)))) (.cons ⟨rfl, (.inl rfl), .inr rfl⟩ (.nil)) (pss_one (ps_ret (pe_make T.mk_Neighbours G_Neighbours_init (hr.mono (by omega)) rfl T.g_Neighbours (b_Neighbours_init T) .nil pass0 (pa_cons (pv 1) (pa_nil)))))     (pcs_cons sc_begun.nd (pm_seq (by rfl) (pms_cons (pm_val (pe_str)) (pms_cons (pm_cap) (pms_nil)))) (.cons ⟨rfl, (.inl rfl), .inr rfl⟩ (.nil)) (pss_one (ps_ret (pe_make T.mk_Strides G_Strides_init (hr.mono (by omega)) rfl T.g_Strides (b_Strides_init T) .nil pass0 (pa_cons (pv 2) (pa_nil)))))     (pcs_cons sc_begun.nd (pm_seq (by rfl) (pms_cons (pm_val (pe_str)) (pms_cons (pm_cap) (pms_nil)))) (.cons ⟨rfl, (.inl rfl), .inr rfl⟩ (.nil)) (pss_one (ps_ret (pe_make T.mk_Pairs G_Pairs_init (hr.mono (by omega)) rfl T.g_Pairs (b_Pairs_init T) .nil pass0 (pa_cons (pv 1) (pa_nil)))))     (pcs_cons sc_begun.nd (pm_seq (by rfl) (pms_cons (pm_val (pe_str)) (pms_cons (pm_cap) (pms_cons (pm_cap) (pms_nil))))) (.cons ⟨rfl, (.inl rfl), .inr rfl⟩ (.cons ⟨rfl, (.inl rfl), .inr rfl⟩ (.nil))) (pss_one (ps_ret (pe_make T.mk_Both G_Both_init (hr.mono (by omega)) rfl T.g_Both (b_Both_init T) .nil pass0 (pa_cons (pe_call G_begun (hr.mono (by omega)) rfl (T.g_begun) (T.F_begun.kp) (b_begun T) .nil pass0 (pa_cons (pv 3) (pa_nil))) (pa_cons (pe_call G_begun (hr.mono (by omega)) rfl (T.g_begun) (T.F_begun.kp) (b_begun T) .nil pass0 (pa_cons (pv 4) (pa_nil))) (pa_nil))))))     (pcs_cons sc_begun.nd (pm_any) (.nil) (pss_one (ps_ret (pe_makeN T.mk_Silent rfl T.g_Silent)))     (pcs_nil)))))))
end

/-! ### the play's defs keep their promises -/
theorem pf_of {K : PySem.W.Frag} {mg : Str → Option Value} (T : Top K mg) : PF K T.c_Play :=
  ⟨T.cl_Play, T.n_Play_room, T.n_Play_late, T.n_Play_most, T.n_Play_memory, T.n_Play_watcher, T.n_Play_shelf, T.n_Play_unasked, T.n_Play_way, T.n_Play_turn, T.n_Play_events, T.n_Play_answers⟩
section
variable {P : Program} {w : World} {K : PySem.W.Frag} {mg : Str → Option Value} {base : Heap}
theorem ok_Play_tell (T : Top K mg) : FnOk P w K mg base CX0 1 T.f_Play_tell T.fd_Play_tell ["self", "word", "place"] (spTell T.c_Play) := by
  refine T.F_Play_tell.ok sc_Play_tell (fun vs H Q E h => by obtain ⟨A, c, t, m, W, sv, w, q, rfl, _⟩ := h; rfl) (fun cdv A outer s H vs Q E hr h => ⟨t_Play_tell K, PSs.nox ?_, pu_Play_tell (pf_of T) h⟩)
  have hu := hu_of hr; exact pss_one (ps_expr (pe_bm PySem.F.plainAttrs_list PySem.F.slot_list_append PySem.F.type_list_append mt_append (pe_fld (pv 0) rfl) (pa_cons (pe_tup (pa_cons (pe_fld (pv 0) rfl) (pa_cons (pv 1) (pa_cons (pv 2) (pa_nil))))) (pa_nil))))
theorem ok_Play_let_oldest_leave (T : Top K mg) : FnOk P w K mg base CX0 2 T.f_Play_let_oldest_leave T.fd_Play_let_oldest_leave ["self"] (spOldest T.c_Play) := by
  have G_Play_tell := ok_Play_tell (P := P) (w := w) (base := base) T
  refine T.F_Play_let_oldest_leave.ok sc_Play_let_oldest_leave (fun vs H Q E h => by obtain ⟨A, c, t, m, W, sv, e0, rest, rfl, _⟩ := h; rfl) (fun cdv A outer s H vs Q E hr h => ⟨t_Play_let_oldest_leave K T.c_Play (spTell T.c_Play), PSs.nox ?_, pu_Play_let_oldest_leave (pf_of T) h⟩)
  have hu := hu_of hr; exact pss_cons (ps_set (i := 1) sc_Play_let_oldest_leave.nd rfl (.inl rfl) (pe_ix ix_list (pe_callTy (call_list_dK rfl) (by rfl) T.z_list (by decide +kernel) (pa_cons (pe_fld (pv 0) rfl) (pa_nil))) (pe_int) (fun _ _ => rfl)))   (pss_cons (ps_ddel (pe_fld (pv 0) rfl) (pv 1))   (pss_one (ps_if (pt_cmp (pc_din hu (pv 1) (pe_fld (pv 0) rfl))) (pss_cons (ps_ddel (pe_fld (pv 0) rfl) (pv 1))   (pss_one (ps_expr (pe_meth (pv 0) T.cl_Play T.m_Play_tell G_Play_tell (hr.mono (by omega)) (b_Play_tell T) .nil pass0 (pa_cons (pe_str) (pa_cons (pv 1) (pa_nil))))))) (pss_one (ps_expr (pe_meth (pv 0) T.cl_Play T.m_Play_tell G_Play_tell (hr.mono (by omega)) (b_Play_tell T) .nil pass0 (pa_cons (pe_str) (pa_cons (pv 1) (pa_nil)))))))))
theorem ok_Play_lay (T : Top K mg) : FnOk P w K mg base CX0 3 T.f_Play_lay T.fd_Play_lay ["self", "place", "word"] (spLayP T.c_Play) := by
  have G_Play_tell := ok_Play_tell (P := P) (w := w) (base := base) T
  have G_Play_let_oldest_leave := ok_Play_let_oldest_leave (P := P) (w := w) (base := base) T
  refine T.F_Play_lay.ok sc_Play_lay (fun vs H Q E h => by obtain ⟨A, c, t, m, q, w, rfl, _⟩ := h; rfl) (fun cdv A outer s H vs Q E hr h => ⟨t_Play_lay K T.c_Play (spOldest T.c_Play) (spTell T.c_Play), PSs.nox ?_, pu_Play_lay (pf_of T) h⟩)
  have hu := hu_of hr; exact pss_cons (ps_if (pt_cmpR op_eq (pe_callB call_lenD (by rfl) T.z_len PySem.boot_len (pa_cons (pe_fld (pv 0) rfl) (pa_nil))) (pe_fld (pv 0) rfl) (nomark _)) (pss_one (ps_expr (pe_meth0 (pv 0) T.cl_Play T.m_Play_let_oldest_leave G_Play_let_oldest_leave (hr.mono (by omega)) (b_Play_let_oldest_leave T) .nil pass0))) (pss_nil))   (pss_cons (ps_dput hu (pe_fld (pv 0) rfl) (pv 1) (pe_ix ix_list (pe_fld (pv 0) rfl) (pv 1) (fun _ _ => rfl)) rfl)   (pss_one (ps_expr (pe_meth (pv 0) T.cl_Play T.m_Play_tell G_Play_tell (hr.mono (by omega)) (b_Play_tell T) .nil pass0 (pa_cons (pv 2) (pa_cons (pv 1) (pa_nil)))))))
theorem ok_Play_ask_on_shelf (T : Top K mg) : FnOk P w K mg base CX0 2 T.f_Play_ask_on_shelf T.fd_Play_ask_on_shelf ["self", "place"] (spAskOn T.c_Play) := by
  have G_Play_tell := ok_Play_tell (P := P) (w := w) (base := base) T
  refine T.F_Play_ask_on_shelf.ok sc_Play_ask_on_shelf (fun vs H Q E h => by obtain ⟨A, c, t, m, e0, rfl, _⟩ := h; rfl) (fun cdv A outer s H vs Q E hr h => ⟨t_Play_ask_on_shelf K T.c_Play (spTell T.c_Play), PSs.nox ?_, pu_Play_ask_on_shelf (pf_of T) h⟩)
  have hu := hu_of hr; exact pss_cons (ps_if (pt_cmp (pc_din hu (pv 1) (pe_fld (pv 0) rfl))) (pss_cons (ps_ddel (pe_fld (pv 0) rfl) (pv 1))   (pss_one (ps_expr (pe_meth (pv 0) T.cl_Play T.m_Play_tell G_Play_tell (hr.mono (by omega)) (b_Play_tell T) .nil pass0 (pa_cons (pe_str) (pa_cons (pv 1) (pa_nil))))))) (pss_one (ps_expr (pe_meth (pv 0) T.cl_Play T.m_Play_tell G_Play_tell (hr.mono (by omega)) (b_Play_tell T) .nil pass0 (pa_cons (pe_str) (pa_cons (pv 1) (pa_nil)))))))   (pss_cons (ps_set (i := 2) sc_Play_ask_on_shelf.nd rfl (.inl rfl) (pe_dpop1 (pe_fld (pv 0) rfl) (pv 1) ⟨rfl, rfl, rfl, rfl⟩))   (pss_one (ps_dput hu (pe_fld (pv 0) rfl) (pv 1) (pv 2) rfl)))
theorem ok_Play_ask (T : Top K mg) : FnOk P w K mg base CX0 4 T.f_Play_ask T.fd_Play_ask ["self", "place"] (spAskP T.c_Play) := by
  have G_Play_lay := ok_Play_lay (P := P) (w := w) (base := base) T
  have G_Play_ask_on_shelf := ok_Play_ask_on_shelf (P := P) (w := w) (base := base) T
  refine T.F_Play_ask.ok sc_Play_ask (fun vs H Q E h => by obtain ⟨A, c, t, m, p, rfl, _⟩ := h; rfl) (fun cdv A outer s H vs Q E hr h => ⟨t_Play_ask K T.c_Play (spAskOn T.c_Play) (spLayP T.c_Play), PSs.nox ?_, pu_Play_ask (pf_of T) h⟩)
  have hu := hu_of hr; exact pss_one (ps_if (pt_cmp (pc_din hu (pv 1) (pe_fld (pv 0) rfl))) (pss_one (ps_expr (pe_meth (pv 0) T.cl_Play T.m_Play_ask_on_shelf G_Play_ask_on_shelf (hr.mono (by omega)) (b_Play_ask_on_shelf T) .nil pass0 (pa_cons (pv 1) (pa_nil))))) (pss_one (ps_if (pt_cmp (pc_din hu (pv 1) (pe_fld (pv 0) rfl))) (pss_cons (ps_ddel (pe_fld (pv 0) rfl) (pv 1))   (pss_one (ps_expr (pe_meth (pv 0) T.cl_Play T.m_Play_lay G_Play_lay (hr.mono (by omega)) (b_Play_lay T) .nil pass0 (pa_cons (pv 1) (pa_cons (pe_str) (pa_nil))))))) (pss_one (ps_expr (pe_meth (pv 0) T.cl_Play T.m_Play_lay G_Play_lay (hr.mono (by omega)) (b_Play_lay T) .nil pass0 (pa_cons (pv 1) (pa_cons (pe_str) (pa_nil)))))))))
theorem ok_Play_read_or_write (T : Top K mg) : FnOk P w K mg base CX0 1 T.f_Play_read_or_write T.fd_Play_read_or_write ["self", "deed"] (spAct T.c_Play) := by
  refine T.F_Play_read_or_write.ok sc_Play_read_or_write (fun vs H Q E h => by obtain ⟨A, c, t, m, d, v, rfl, _⟩ := h; rfl) (fun cdv A outer s H vs Q E hr h => ⟨t_Play_read_or_write K, PSs.nox ?_, pu_Play_read_or_write (pf_of T) h⟩)
  have hu := hu_of hr; exact pss_one (ps_match (pv 1) (pcs_cons sc_Play_read_or_write.nd (pm_seq (by rfl) (pms_cons (pm_val (pe_str)) (pms_cons (pm_cap) (pms_cons (pm_cap) (pms_nil))))) (.cons ⟨rfl, (.inl rfl), .inr rfl⟩ (.cons ⟨rfl, (.inl rfl), .inr rfl⟩ (.nil))) (pss_cons (ps_dput hu (pe_fld (pv 0) rfl) (pv 2) (pv 3) rfl)   (pss_one (ps_asg (pv 3) (pg_sub (pe_fld (pv 0) rfl) (pv 2) set_list))))     (pcs_cons sc_Play_read_or_write.nd (pm_seq (by rfl) (pms_cons (pm_val (pe_str)) (pms_cons (pm_cap) (pms_nil)))) (.cons ⟨rfl, (.inl rfl), .inr rfl⟩ (.nil)) (pss_one (ps_expr (pe_bm PySem.F.plainAttrs_list PySem.F.slot_list_append PySem.F.type_list_append mt_append (pe_fld (pv 0) rfl) (pa_cons (pe_dget hu (pe_fld (pv 0) rfl) (pv 2) (fun _ _ => rfl)) (pa_nil)))))     (pcs_nil))))
theorem ok_Play_may_start (T : Top K mg) : FnOk P w K mg base CX0 1 T.f_Play_may_start T.fd_Play_may_start ["self", "place"] (spMay T.c_Play) := by
  refine T.F_Play_may_start.ok sc_Play_may_start (fun vs H Q E h => by obtain ⟨A, c, t, m, q, rfl, _⟩ := h; rfl) (fun cdv A outer s H vs Q E hr h => ⟨t_Play_may_start K, PSs.nox ?_, pu_Play_may_start (pf_of T) h⟩)
  have hu := hu_of hr; exact pss_cons (ps_if (pt_not (pt_chain op_le op_lt (pe_int) (pv 1) (pe_callB call_len_seq (by rfl) T.z_len PySem.boot_len (pa_cons (pe_fld (pv 0) rfl) (pa_nil))))) (pss_one (ps_ret (pe_bl))) (pss_nil))   (pss_one (ps_ret (pe_and (pe_cmp (pc_dnotin hu (pv 1) (pe_fld (pv 0) rfl))) (pe_and (pe_cmp (pc_dnotin hu (pv 1) (pe_fld (pv 0) rfl))) (pe_one (pe_cmpR op_lt (pe_callB call_lenD (by rfl) T.z_len PySem.boot_len (pa_cons (pe_fld (pv 0) rfl) (pa_nil))) (pe_fld (pv 0) rfl) (nomark _)))))))
theorem ok_Play_lay_what_comes (T : Top K mg) : FnOk P w K mg base CX0 4 T.f_Play_lay_what_comes T.fd_Play_lay_what_comes ["self"] (spComes T.c_Play) := by
  have G_Play_lay := ok_Play_lay (P := P) (w := w) (base := base) T
  refine T.F_Play_lay_what_comes.ok sc_Play_lay_what_comes (fun vs H Q E h => by obtain ⟨A, c, t, m, rfl, _⟩ := h; rfl) (fun cdv A outer s H vs Q E hr h => ⟨t_Play_lay_what_comes K T.c_Play (spLayP T.c_Play), PSs.nox ?_, pu_Play_lay_what_comes (pf_of T) h⟩)
  have hu := hu_of hr; exact pss_cons (ps_lock (ps_setLc (i := 1) (own := [("place", 2), ("since", 3)]) (g := gTup K 2 (gCons (gName 2) (gCons (gName 3) (gNil)))) (tt := tTest (tOp (rEq) (tOp (rSubI) (tFld K (tVar 0) "turn") (tVar 3)) (tOp (rAddI) (tFld K (tVar 0) "late") (tC (.int 1))))) (by rfl) sc_Play_lay_what_comes.nd rfl rfl (sw_true rfl rfl rfl (by decide +kernel)) (pi_items (pe_fld (pv 0) rfl)) (blkOk_by (own := [("place", 2), ("since", 3)]) (N := ["self", "coming", "place", "since"]) (sc := defScope s_Play_lay_what_comes) (by decide +kernel)) (fun _ _ _ _ _ => pg_tup (by rfl) (pgs_cons (pg_name (i := 2) sc_Play_lay_what_comes.nd rfl (.inl rfl)) (pgs_cons (pg_name (i := 3) sc_Play_lay_what_comes.nd rfl (.inl rfl)) (pgs_nil)))) (fun _ _ _ _ _ => pts_one (pt_cmpR op_eq (pe_op op_sub (pe_fld (pv 0) rfl) (pv 3)) (pe_op op_add (pe_fld (pv 0) rfl) (pe_int)) (nomark _))) (fun _ _ _ _ _ => pv 2)))   (pss_one (ps_for PassesOwn.never rfl (pi_list (pv 1)) (pg_name (i := 2) sc_Play_lay_what_comes.nd rfl (.inl rfl)) (pss_cons (ps_ddel (pe_fld (pv 0) rfl) (pv 2))   (pss_cons (ps_expr (pe_meth (pv 0) T.cl_Play T.m_Play_lay G_Play_lay (hr.mono (by omega)) (b_Play_lay T) .nil pass0 (pa_cons (pv 2) (pa_cons (pe_str) (pa_nil)))))   (pss_one (ps_dput hu (pe_fld (pv 0) rfl) (pv 2) (pe_bl) rfl))))))
theorem ofT {n : Nat} {m : Str} {sp : Sp} {C : Addr} (h : OfK P w K mg base n m sp C) : OfK P w K mg base n m (tupSp sp) C := by
  obtain ⟨f, fd, ps, c, hm, F, hb⟩ := h.ex
  exact ⟨f, fd, ps, c, hm, tup_ok F, hb⟩
theorem ok_Play_start_guessed (T : Top K mg) : FnOk P w K mg base CX0 6 T.f_Play_start_guessed T.fd_Play_start_guessed ["self", "place"] (spStartG T.c_Play (ca T)) := by
  have OF_guess := fun i => ofT (of_guess (P := P) (w := w) (base := base) T 3 (by omega) i)
  have G_Play_may_start := ok_Play_may_start (P := P) (w := w) (base := base) T
  have G_Play_tell := ok_Play_tell (P := P) (w := w) (base := base) T
  refine T.F_Play_start_guessed.ok sc_Play_start_guessed (fun vs H Q E h => by obtain ⟨A, c, t, m, p, s, M, N, rfl, _⟩ := h; rfl) (fun cdv A outer s H vs Q E hr h => ⟨t_Play_start_guessed K T.c_Play (ca T).at (fun i => tupSp (spGuessL (ca T) 3 i)) (spMay T.c_Play) (spTell T.c_Play), PSs.nox ?_, pu_Play_start_guessed (pf_of T) h⟩)
  have hu := hu_of hr; exact pss_one (ps_for PassesOwn.never rfl (pi_list (pe_methOf (fun i => OfK.of (OF_guess i) (hr.mono (by omega))) (pe_fld (pv 0) rfl) (pa_cons (pv 1) (pa_nil)))) (pg_name (i := 2) sc_Play_start_guessed.nd rfl (.inl rfl)) (pss_one (ps_if (pt_val (pe_meth (pv 0) T.cl_Play T.m_Play_may_start G_Play_may_start (hr.mono (by omega)) (b_Play_may_start T) .nil pass0 (pa_cons (pv 2) (pa_nil)))) (pss_cons (ps_dput hu (pe_fld (pv 0) rfl) (pv 2) (pe_fld (pv 0) rfl) rfl)   (pss_one (ps_expr (pe_meth (pv 0) T.cl_Play T.m_Play_tell G_Play_tell (hr.mono (by omega)) (b_Play_tell T) .nil pass0 (pa_cons (pe_str) (pa_cons (pv 2) (pa_nil))))))) (pss_nil))))
theorem ok_Play_take_turn (T : Top K mg) : FnOk P w K mg base CX0 7 T.f_Play_take_turn T.fd_Play_take_turn ["self", "turn", "deed"] (spTakeTurn T.c_Play (ca T)) := by
  have G_Play_lay_what_comes := ok_Play_lay_what_comes (P := P) (w := w) (base := base) T
  have G_Play_ask := ok_Play_ask (P := P) (w := w) (base := base) T
  have G_Play_read_or_write := ok_Play_read_or_write (P := P) (w := w) (base := base) T
  have G_Play_start_guessed := ok_Play_start_guessed (P := P) (w := w) (base := base) T
  refine T.F_Play_take_turn.ok sc_Play_take_turn (fun vs H Q E h => by obtain ⟨A, c, t0, t, m, d, v, s, M, N, rfl, _⟩ := h; rfl) (fun cdv A outer s H vs Q E hr h => ⟨t_Play_take_turn K T.c_Play (spComes T.c_Play) (spAskP T.c_Play) (spAct T.c_Play) (spStartG T.c_Play (ca T)), PSs.nox ?_, pu_Play_take_turn (pf_of T) h⟩)
  have hu := hu_of hr; exact pss_cons (ps_fld (pv 0) (pv 1) rfl)   (pss_cons (ps_set (i := 3) sc_Play_take_turn.nd rfl (.inl rfl) (pe_ix ix_tup (pv 2) (pe_int) (fun _ _ => rfl)))   (pss_cons (ps_expr (pe_meth0 (pv 0) T.cl_Play T.m_Play_lay_what_comes G_Play_lay_what_comes (hr.mono (by omega)) (b_Play_lay_what_comes T) .nil pass0))   (pss_cons (ps_expr (pe_meth (pv 0) T.cl_Play T.m_Play_ask G_Play_ask (hr.mono (by omega)) (b_Play_ask T) .nil pass0 (pa_cons (pv 3) (pa_nil))))   (pss_cons (ps_expr (pe_meth (pv 0) T.cl_Play T.m_Play_read_or_write G_Play_read_or_write (hr.mono (by omega)) (b_Play_read_or_write T) .nil pass0 (pa_cons (pv 2) (pa_nil))))   (pss_one (ps_expr (pe_meth (pv 0) T.cl_Play T.m_Play_start_guessed G_Play_start_guessed (hr.mono (by omega)) (b_Play_start_guessed T) .nil pass0 (pa_cons (pv 3) (pa_nil)))))))))
theorem ok_Play_init (T : Top K mg) : FnOk P w K mg base CX0 7 T.f_Play_init T.fd_Play_init ["self", "setting", "guesser"] (spPlayInit T.c_Play (ca T)) := by
  have G_begun := ok_begun (P := P) (w := w) (base := base) T 4
  refine T.F_Play_init.ok sc_Play_init (fun vs H Q E h => by obtain ⟨p, dx, a, g, c, G, rfl, _⟩ := h; rfl) (fun cdv A outer s H vs Q E hr h => ⟨t_Play_init K (spBegun (ca T) 4), PSs.nox ?_, pu_Play_init (pf_of T) h⟩)
  have hu := hu_of hr; exact pss_cons (ps_asg (pv 1) (pg_tup (by rfl) (pgs_cons (pg_name (i := 3) sc_Play_init.nd rfl (.inl rfl)) (pgs_cons (pg_fld (pv 0)) (pgs_cons (pg_fld (pv 0)) (pgs_cons (pg_fld (pv 0)) (pgs_nil)))))))   (pss_cons (ps_fld (pv 0) (pe_callTy call_list_of (by rfl) T.z_list (by decide +kernel) (pa_cons (pv 3) (pa_nil))) rfl)   (pss_cons (ps_fld (pv 0) (pe_call G_begun (hr.mono (by omega)) rfl (T.g_begun) (T.F_begun.kp) (b_begun T) .nil pass0 (pa_cons (pv 2) (pa_nil))) rfl)   (pss_cons (ps_fld (pv 0) (pe_dnewK) rfl)   (pss_cons (ps_fld (pv 0) (pe_dnewK) rfl)   (pss_cons (ps_fld (pv 0) (pe_dnewK) rfl)   (pss_cons (ps_fld (pv 0) (pe_int) rfl)   (pss_cons (ps_fld (pv 0) (pe_lst (pa_nil)) rfl)   (pss_one (ps_fld (pv 0) (pe_lst (pa_nil)) rfl)))))))))
theorem ok_played (T : Top K mg) : FnOk P w K mg base CX0 9 T.f_played T.fd_played ["setting", "guesser", "row"] (spPlayed K T.c_Play) := by
  have G_Play_init := ok_Play_init (P := P) (w := w) (base := base) T
  have G_Play_take_turn := ok_Play_take_turn (P := P) (w := w) (base := base) T
  refine T.F_played.ok sc_played (fun vs H Q E h => by obtain ⟨a, g, l, c, G, row, xs, rfl, _⟩ := h; rfl) (fun cdv A outer s H vs Q E hr h => ⟨t_played K T.c_Play (spPlayInit T.c_Play (ca T)) (spTakeTurn T.c_Play (ca T)), PSs.nox ?_, pu_played (pf_of T) h⟩)
  have hu := hu_of hr; exact pss_cons (ps_set (i := 3) sc_played.nd rfl (.inl rfl) (pe_make T.mk_Play G_Play_init (hr.mono (by omega)) rfl T.g_Play (b_Play_init T) .nil pass0 (pa_cons (pv 0) (pa_cons (pv 1) (pa_nil)))))   (pss_cons (ps_for PassesOwn.never rfl (pi_enum (by rfl) T.z_enumerate (pa_cons (pv 2) (pa_nil))) (pg_tup (by rfl) (pgs_cons (pg_name (i := 4) sc_played.nd rfl (.inl rfl)) (pgs_cons (pg_name (i := 5) sc_played.nd rfl (.inl rfl)) (pgs_nil)))) (pss_one (ps_expr (pe_meth (pv 3) T.cl_Play T.m_Play_take_turn G_Play_take_turn (hr.mono (by omega)) (b_Play_take_turn T) .nil pass0 (pa_cons (pv 4) (pa_cons (pv 5) (pa_nil)))))))   (pss_one (ps_ret (pv 3))))
end

section
variable {P : Program} {w : World} {K : PySem.W.Frag} {mg : Str → Option Value} {base : Heap}
theorem ok_counts_of (T : Top K mg) : FnOk P w K mg base CX0 1 T.f_counts_of T.fd_counts_of ["play"] (spCounts T.c_Play) := by
  refine T.F_counts_of.ok sc_counts_of (fun vs H Q E h => by obtain ⟨A, c, t, m, rfl, _⟩ := h; rfl) (fun cdv A outer s H vs Q E hr h => ⟨t_counts_of K, PSs.nox ?_, pu_counts_of (pf_of T) h⟩)
  have hu := hu_of hr; exact pss_cons (ps_setLc (i := 1) (own := [("event", 5)]) (g := gName 5) (tt := tYes) (by rfl) sc_counts_of.nd rfl rfl (sw_true rfl rfl rfl (by decide +kernel)) (pi_list (pe_fld (pv 0) rfl)) (blkOk_by (own := [("event", 5)]) (N := ["play", "words", "firsts", "lates", "idle", "event"]) (sc := defScope s_counts_of) (by decide +kernel)) (fun _ _ _ _ _ => pg_name (i := 5) sc_counts_of.nd rfl (.inl rfl)) (fun _ _ _ _ _ => pts_nil) (fun _ _ _ _ _ => pe_ix ix_tup (pv 5) (pe_int) (fun _ _ => rfl)))   (pss_cons (ps_set (i := 2) sc_counts_of.nd rfl (.inl rfl) (pe_bm PySem.F.plainAttrs_list PySem.F.slot_list_count PySem.F.type_list_count mt_lcountS (pv 1) (pa_cons (pe_str) (pa_nil))))   (pss_cons (ps_set (i := 3) sc_counts_of.nd rfl (.inl rfl) (pe_bm PySem.F.plainAttrs_list PySem.F.slot_list_count PySem.F.type_list_count mt_lcountS (pv 1) (pa_cons (pe_str) (pa_nil))))   (pss_cons (ps_set (i := 4) sc_counts_of.nd rfl (.inl rfl) (pe_op op_add (pe_callB call_lenD (by rfl) T.z_len PySem.boot_len (pa_cons (pe_fld (pv 0) rfl) (pa_nil))) (pe_callB call_lenD (by rfl) T.z_len PySem.boot_len (pa_cons (pe_fld (pv 0) rfl) (pa_nil)))))   (pss_one (ps_ret (pe_tup (pa_cons (pe_op op_add (pe_bm PySem.F.plainAttrs_list PySem.F.slot_list_count PySem.F.type_list_count mt_lcountS (pv 1) (pa_cons (pe_str) (pa_nil))) (pv 2)) (pa_cons (pv 3) (pa_cons (pe_bm PySem.F.plainAttrs_list PySem.F.slot_list_count PySem.F.type_list_count mt_lcountS (pv 1) (pa_cons (pe_str) (pa_nil))) (pa_cons (pe_bm PySem.F.plainAttrs_list PySem.F.slot_list_count PySem.F.type_list_count mt_lcountS (pv 1) (pa_cons (pe_str) (pa_nil))) (pa_cons (pe_op op_add (pv 2) (pv 3)) (pa_cons (pe_bm PySem.F.plainAttrs_list PySem.F.slot_list_count PySem.F.type_list_count mt_lcountS (pv 1) (pa_cons (pe_str) (pa_nil))) (pa_cons (pv 4) (pa_nil))))))))))))))
end

/-! ### what is handed in is looked at -/
theorem genS_by {env : Env} {sc : Scope} {x : Str} (h1 : sc.kind = .function) (h2 : sc.isCoroutine = false) (h3 : (sc.names.all fun y => y.2 != .cell && y.2 != .free) = true) (h4 : sc.names.lookup (".0" : Str) = some NameKind.local) (h5 : sc.names.lookup x = some .local) : GxR.GenS env sc x := by
  have key : ∀ y ∈ sc.names, y.2 ≠ .cell ∧ y.2 ≠ .free := fun y hy => by
    have := List.all_eq_true.mp h3 y hy
    rw [Bool.and_eq_true, bne_iff_ne, bne_iff_ne] at this
    exact this
  exact ⟨h1, h2, fun y hy => (key y hy).1, h4, h5, fun y hy e => absurd e (key y hy).2⟩
theorem bf_of {K : PySem.W.Frag} {mg : Str → Option Value} (T : Top K mg) : BoundsF K T.c_BOUNDS := ⟨fun z lo hi h => by
  simp only [List.mem_cons, Prod.mk.injEq, List.not_mem_nil, or_false] at h
  rcases h with ⟨rfl, rfl, rfl⟩ | ⟨rfl, rfl, rfl⟩ | ⟨rfl, rfl, rfl⟩
  · exact ⟨_, T.i_BOUNDS_room, T.s_BOUNDS_room⟩
  · exact ⟨_, T.i_BOUNDS_late, T.s_BOUNDS_late⟩
  · exact ⟨_, T.i_BOUNDS_most, T.s_BOUNDS_most⟩⟩
section
variable {P : Program} {w : World} {K : PySem.W.Frag} {mg : Str → Option Value} {base : Heap}
theorem ok_is_number (T : Top K mg) : FnOk P w K mg base CX0 1 T.f_is_number T.fd_is_number ["number"] spIsNum := by
  refine T.F_is_number.ok sc_is_number (fun vs H Q E h => by obtain ⟨n, rfl, _⟩ := h; rfl) (fun cdv A outer s H vs Q E hr h => ⟨t_is_number, PSs.nox ?_, pu_is_number h⟩)
  have hu := hu_of hr; exact pss_one (ps_ret (pe_chain op_le op_le (pe_int) (pv 0) (pe_glob rfl T.k_HIGHEST ⟨_, rfl⟩)))
theorem num_body (T : Top K mg) {X : Cx} (hm : X.mg = mg) (ok : X.Ok) (ce : Env) (B : Around) (Er : Value → Shared → Prop) (c : Int) (t : Tok) (s : Shared) (m : Str → Option Value) (es : ce.scope = defScope s_is_number) (eg : ce.globals = mainGlobals) (hb : ∀ b o, X.base.get? b = some o → s.heap.get? b = some o) (hn : s.heap.Ns ce.locals m) (hx : m "number" = some (.int c t)) :
    wpAny (model X.prog X.w) B (execs (defBody s_is_number) ce) (fun fl s' => fl = .ret (.bool (numB c)) ∧ Keeps s s') Er s := by
  obtain ⟨sc, loc, gl, cl, cells, bu, co, nm⟩ := ce
  cases es
  refine wpAny_execs_cons (wpAny_Return_some (wpAny_mono (chain_eval (g := "HIGHEST") (mg := X.mg) (hi := 99) (tg := T.t_HIGHEST) rfl rfl hn hx rfl (by rw [eg]; exact ok.mod.glob.keeps hb) (by rw [hm]; exact T.k_HIGHEST) rfl rfl) (fun y s' r => ?_) fun _ _ e => e))
  obtain ⟨rfl, k⟩ := r
  exact ⟨rfl, k⟩
theorem ok_is_memory (T : Top K mg) (TB : GxR.TabB base mg T.cc_is_memory T.tb_is_memory) : FnOk P w K mg base CX0 3 T.f_is_memory T.fd_is_memory ["numbers"] (spIsMem K T.tb_is_memory) := by
  obtain ⟨oc, od, kV, doc, pm, an, cdv, ct, osl, efd, lk, hcd⟩ := T.F_is_number.ex
  refine T.C_is_memory.ok sc_is_memory (fun vs H Q E h => by obtain ⟨a, ms, rfl, _⟩ := h; rfl) (fun A outer s H vs Q E hr h => ⟨t_is_memory K T.tb_is_memory numB, PSs.nox ?_, pu_is_memory h⟩)
  have hD : (A.deeper (envOfC "is_memory" (defScope s_is_memory) s.heap.objs.size T.f_is_memory (.ref T.cc_is_memory))).depth + 1 < recursionLimit := by have := hr.dp; omega
  have hu := hu_of hr; exact pss_one (ps_ret (pe_and (pe_chain op_le op_le (pe_int) (pe_callB call_len_seq (by rfl) T.z_len PySem.boot_len (pa_cons (pv 0) (pa_nil))) (pe_glob rfl T.k_MOST_PLACES ⟨_, rfl⟩)) (pe_one (pe_allT hr (by rfl) T.z_all TB rfl (genS_by rfl rfl (by decide +kernel) rfl rfl) (pv 0) (fun ok => elt_call (par := "number") ok rfl rfl rfl T.g_is_number rfl rfl (efd ▸ lk) hcd T.F_is_number.kp hD (fun _ _ => .of_eq rfl) rfl rfl rfl rfl (num_body T rfl ok)) (fun _ => rfl)))))
theorem ok_is_part (T : Top K mg) (hW : w.params = T.pw) (TB : GxR.TabB base mg T.cc_is_memory T.tb_is_memory) : FnOk P w K mg base CX0 4 T.f_is_part T.fd_is_part ["word", "part"] (spIsPart K T.tb_is_memory) := by
  have G_is_memory := ok_is_memory (P := P) (w := w) T TB
  refine T.F_is_part.ok sc_is_part (fun vs H Q E h => by obtain ⟨_, ⟨a, ms, rfl, _⟩ | ⟨z, lo, hi, x, rfl, _⟩⟩ := h <;> rfl) (fun cdv A outer s H vs Q E hr h => ⟨t_is_part K T.c_BOUNDS (spIsMem K T.tb_is_memory), PSs.nox ?_, pu_is_part (bf_of T) h⟩)
  have hu := hu_of hr; exact pss_cons (ps_if (pt_cmpR op_eq (pv 0) (pe_str) (nomark _)) (pss_one (ps_ret (pe_call G_is_memory (hr.mono (by omega)) rfl (T.g_is_memory) (T.F_is_memory.kp) (b_is_memory T) .nil pass0 (pa_cons (pv 1) (pa_nil))))) (pss_nil))   (pss_cons (ps_asg (pe_kget rfl T.k_BOUNDS (T.D_BOUNDS _ hW) (pv 0) (fun _ _ => rfl)) (pg_tup (by rfl) (pgs_cons (pg_name (i := 2) sc_is_part.nd rfl (.inl rfl)) (pgs_cons (pg_name (i := 3) sc_is_part.nd rfl (.inl rfl)) (pgs_nil)))))   (pss_one (ps_ret (pe_chain op_le op_le (pv 2) (pv 1) (pv 3)))))
theorem ok_check_setting (T : Top K mg) (hW : w.params = T.pw) (TB : GxR.TabB base mg T.cc_is_memory T.tb_is_memory) : FnOk P w K mg base CX0 5 T.f_check_setting T.fd_check_setting ["setting"] (spCheckSet T.tb_is_memory) := by
  have G_is_part := ok_is_part (P := P) T hW TB
  refine T.F_check_setting.ok sc_check_setting (fun vs H Q E h => by obtain ⟨a, c, rfl, _⟩ := h; rfl) (fun cdv A outer s H vs Q E hr h => ⟨t_check_setting K T.c_PARTS (spIsPart K T.tb_is_memory), PSs.nox ?_, pu_check_setting T.s_PARTS h⟩)
  have hu := hu_of hr; exact pss_cons (ps_for PassesOwn.never rfl (pi_enumT (by rfl) T.z_enumerate (pa_cons (pe_glob rfl T.k_PARTS rfl) (pa_nil))) (pg_tup (by rfl) (pgs_cons (pg_name (i := 1) sc_check_setting.nd rfl (.inl rfl)) (pgs_cons (pg_name (i := 2) sc_check_setting.nd rfl (.inl rfl)) (pgs_nil)))) (pss_one (ps_if (PW.pt (pw_or (pt_cmpR op_ge (pv 1) (pe_callB call_len_seq (by rfl) T.z_len PySem.boot_len (pa_cons (pv 0) (pa_nil))) (nomark _)) (pw_or1 (pt_not (pt_val (pe_call G_is_part (hr.mono (by omega)) rfl (T.g_is_part) (T.F_is_part.kp) (b_is_part T) .nil pass0 (pa_cons (pv 2) (pa_cons (pe_ix ix_tup (pv 0) (pv 1) (fun _ _ => rfl)) (pa_nil))))))))) (pss_one (ps_never)) (pss_nil))))   (pss_one (ps_if (pt_cmpR op_gt (pe_callB call_len_seq (by rfl) T.z_len PySem.boot_len (pa_cons (pv 0) (pa_nil))) (pe_callB call_len_seq (by rfl) T.z_len PySem.boot_len (pa_cons (pe_glob rfl T.k_PARTS rfl) (pa_nil))) (nomark _)) (pss_one (ps_never)) (pss_nil)))
theorem ok_is_deed (T : Top K mg) : FnOk P w K mg base CX0 2 T.f_is_deed T.fd_is_deed ["deed", "places"] spIsDeed := by
  have G_is_number := ok_is_number (P := P) (w := w) (base := base) T
  refine T.F_is_deed.ok sc_is_deed (fun vs H Q E h => by obtain ⟨v, d, n, rfl, _⟩ := h; rfl) (fun cdv A outer s H vs Q E hr h => ⟨t_is_deed K spIsNum, PSs.nox ?_, pu_is_deed h⟩)
  have hu := hu_of hr; exact pss_one (ps_match (pv 0) (pcs_cons sc_is_deed.nd (pm_seq (by rfl) (pms_cons (pm_val (pe_str)) (pms_cons (pm_cap) (pms_nil)))) (.cons ⟨rfl, (.inl rfl), .inr rfl⟩ (.nil)) (pss_one (ps_ret (pe_chain op_le op_lt (pe_int) (pv 2) (pv 1))))     (pcs_cons sc_is_deed.nd (pm_seq (by rfl) (pms_cons (pm_val (pe_str)) (pms_cons (pm_cap) (pms_cons (pm_cap) (pms_nil))))) (.cons ⟨rfl, (.inl rfl), .inr rfl⟩ (.cons ⟨rfl, (.inl rfl), .inr rfl⟩ (.nil))) (pss_one (ps_ret (pe_and (pe_chain op_le op_lt (pe_int) (pv 2) (pv 1)) (pe_one (pe_call G_is_number (hr.mono (by omega)) rfl (T.g_is_number) (T.F_is_number.kp) (b_is_number T) .nil pass0 (pa_cons (pv 3) (pa_nil)))))))     (pcs_cons sc_is_deed.nd (pm_any) (.nil) (pss_one (ps_ret (pe_bl)))     (pcs_nil)))))
theorem ok_check_row (T : Top K mg) : FnOk P w K mg base CX0 3 T.f_check_row T.fd_check_row ["setting", "row"] (spCheckRow K) := by
  have G_is_deed := ok_is_deed (P := P) (w := w) (base := base) T
  refine T.F_check_row.ok sc_check_row (fun vs H Q E h => by obtain ⟨a, l, c, row, xs, rfl, _⟩ := h; rfl) (fun cdv A outer s H vs Q E hr h => ⟨t_check_row K spIsDeed, PSs.nox ?_, pu_check_row h⟩)
  have hu := hu_of hr; exact pss_cons (ps_set (i := 2) sc_check_row.nd rfl (.inl rfl) (pe_callB call_len_seq (by rfl) T.z_len PySem.boot_len (pa_cons (pe_ix ix_tup (pv 0) (pe_int) (fun _ _ => rfl)) (pa_nil))))   (pss_one (ps_for PassesOwn.never rfl (pi_enum (by rfl) T.z_enumerate (pa_cons (pv 1) (pa_nil))) (pg_tup (by rfl) (pgs_cons (pg_name (i := 3) sc_check_row.nd rfl (.inl rfl)) (pgs_cons (pg_name (i := 4) sc_check_row.nd rfl (.inl rfl)) (pgs_nil)))) (pss_one (ps_if (PW.pt (pw_or (pt_cmpR op_eq (pv 3) (pe_glob rfl T.k_MOST_DEEDS ⟨_, rfl⟩) (nomark _)) (pw_or1 (pt_not (pt_val (pe_call G_is_deed (hr.mono (by omega)) rfl (T.g_is_deed) (T.F_is_deed.kp) (b_is_deed T) .nil pass0 (pa_cons (pv 4) (pa_cons (pv 2) (pa_nil))))))))) (pss_one (ps_never)) (pss_nil)))))
theorem ok_checked_play (T : Top K mg) (hW : w.params = T.pw) (TB : GxR.TabB base mg T.cc_is_memory T.tb_is_memory) : FnOk P w K mg base CX0 10 T.f_checked_play T.fd_checked_play ["setting", "guesser", "row"] (spChecked K T.c_Play T.tb_is_memory) := by
  have G_check_setting := ok_check_setting (P := P) T hW TB
  have G_check_guesser := ok_check_guesser (P := P) (w := w) (base := base) T
  have G_check_row := ok_check_row (P := P) (w := w) (base := base) T
  have G_played := ok_played (P := P) (w := w) (base := base) T
  refine T.F_checked_play.ok sc_checked_play (fun vs H Q E h => by obtain ⟨a, g, l, c, G, row, rfl, _⟩ := h; rfl) (fun cdv A outer s H vs Q E hr h => ⟨t_checked_play (spCheckSet T.tb_is_memory) spCheck (spCheckRow K) (spPlayed K T.c_Play), PSs.nox ?_, pu_checked_play h⟩)
  have hu := hu_of hr; exact pss_cons (ps_expr (pe_call G_check_setting (hr.mono (by omega)) rfl (T.g_check_setting) (T.F_check_setting.kp) (b_check_setting T) .nil pass0 (pa_cons (pv 0) (pa_nil))))   (pss_cons (ps_expr (pe_call G_check_guesser (hr.mono (by omega)) rfl (T.g_check_guesser) (T.F_check_guesser.kp) (b_check_guesser T) .nil pass0 (pa_cons (pv 1) (pa_nil))))   (pss_cons (ps_expr (pe_call G_check_row (hr.mono (by omega)) rfl (T.g_check_row) (T.F_check_row.kp) (b_check_row T) .nil pass0 (pa_cons (pv 0) (pa_cons (pv 2) (pa_nil)))))   (pss_one (ps_ret (pe_call G_played (hr.mono (by omega)) rfl (T.g_played) (T.F_played.kp) (b_played T) .nil pass0 (pa_cons (pv 0) (pa_cons (pv 1) (pa_cons (pv 2) (pa_nil)))))))))
end

section
variable {P : Program} {w : World} {K : PySem.W.Frag} {mg : Str → Option Value} {base : Heap}
theorem ok_run (T : Top K mg) (hW : w.params = T.pw) (TB : GxR.TabB base mg T.cc_is_memory T.tb_is_memory) : FnOk P w K mg base CX0 11 T.f_run T.fd_run ["setting", "guesser", "row"] (spRun K T.tb_is_memory) := by
  have G_checked_play := ok_checked_play (P := P) T hW TB
  have G_counts_of := ok_counts_of (P := P) (w := w) (base := base) T
  refine T.F_run.ok sc_run (fun vs H Q E h => by obtain ⟨a, g, l, c, G, row, rfl, _⟩ := h; rfl) (fun cdv A outer s H vs Q E hr h => ⟨t_run K (spChecked K T.c_Play T.tb_is_memory) (spCounts T.c_Play), PSs.nox ?_, pu_run (pf_of T) h⟩)
  have hu := hu_of hr; exact pss_cons (ps_set (i := 3) sc_run.nd rfl (.inl rfl) (pe_call G_checked_play (hr.mono (by omega)) rfl (T.g_checked_play) (T.F_checked_play.kp) (b_checked_play T) .nil pass0 (pa_cons (pv 0) (pa_cons (pv 1) (pa_cons (pv 2) (pa_nil))))))   (pss_one (ps_ret (pe_tup (pa_cons (pe_fld (pv 3) rfl) (pa_cons (pe_callTy call_tuple_of (by rfl) T.z_tuple (by decide +kernel) (pa_cons (pe_fld (pv 3) rfl) (pa_nil))) (pa_cons (pe_call G_counts_of (hr.mono (by omega)) rfl (T.g_counts_of) (T.F_counts_of.kp) (b_counts_of T) .nil pass0 (pa_cons (pv 3) (pa_nil))) (pa_nil)))))))
end

theorem ok_law {P : Program} {w : World} {K : PySem.W.Frag} {mg : Str → Option Value} {base : Heap} (T : Top K mg) (hW : w.params = T.pw) (TB : GxR.TabB base mg T.cc_is_memory T.tb_is_memory) : FnOk P w K mg base CX0 15 T.f_law T.fd_law ["_law_script"] (spLaw K T.tb_is_memory) := by
  have G_law_setting := ok_law_setting (P := P) (w := w) (base := base) T
  have G_law_taken := ok_law_taken (P := P) (w := w) (base := base) T
  have G_law_deeds := ok_law_deeds (P := P) (w := w) (base := base) T
  have G_law_guesser := ok_law_guesser (P := P) (w := w) (base := base) T 4
  have G_law_alike := ok_law_alike (P := P) (w := w) (base := base) T 4
  have G_law_run := ok_law_run (P := P) (w := w) (base := base) T
  have G_law_counts := ok_law_counts (P := P) (w := w) (base := base) T
  have G_law_plain := ok_law_plain (P := P) (w := w) (base := base) T
  have G_run := ok_run (P := P) T hW TB
  refine T.F_law.ok sc_law (fun vs H Q E h => by obtain ⟨a, ns, rfl, _⟩ := h; rfl) (fun cdv A outer s H vs Q E hr h => ⟨t_law K (spRun K T.tb_is_memory) (spLawRun K) spLawCounts (spLawPlain K) (spLawAlike 4) (spLawSetting K) (spTaken K) (spLawGuesser K 4) (spLawDeeds K), PSs.nox ?_, pu_law h⟩)
  have hu := hu_of hr; exact pss_cons (ps_set (i := 1) sc_law.nd rfl (.inl rfl) (pe_lst (pa_cons (pv 0) (pa_cons (pe_int) (pa_cons (pe_int) (pa_nil))))))   (pss_cons (ps_for PassesOwn.never rfl (pi_range1 (by rfl) T.z_range (pa_cons (pe_int) (pa_nil))) (pg_name (i := 2) sc_law.nd rfl (.inl rfl)) (pss_cons (ps_set (i := 3) sc_law.nd rfl (.inl rfl) (pe_call G_law_setting (hr.mono (by omega)) rfl (T.g_law_setting) (T.F_law_setting.kp) (b_law_setting T) .nil pass0 (pa_cons (pv 1) (pa_cons (pe_ix ix_list (pe_lst (pa_cons (pe_int) (pa_cons (pe_int) (pa_cons (pe_int) (pa_nil))))) (pe_call G_law_taken (hr.mono (by omega)) rfl (T.g_law_taken) (T.F_law_taken.kp) (b_law_taken T) .nil pass0 (pa_cons (pv 1) (pa_cons (pe_int) (pa_nil)))) (fun _ _ => rfl)) (pa_nil)))))   (pss_cons (ps_set (i := 4) sc_law.nd rfl (.inl rfl) (pe_op op_catT (pe_tup (pa_cons (pe_ix ix_tup (pv 3) (pe_int) (fun _ _ => rfl)) (pa_nil))) (pe_slice sl_tup (pe_call G_law_setting (hr.mono (by omega)) rfl (T.g_law_setting) (T.F_law_setting.kp) (b_law_setting T) .nil pass0 (pa_cons (pv 1) (pa_cons (pe_int) (pa_nil)))) (po_some (pe_int)) (po_none))))   (pss_cons (ps_set (i := 5) sc_law.nd rfl (.inl rfl) (pe_call G_law_deeds (hr.mono (by omega)) rfl (T.g_law_deeds) (T.F_law_deeds.kp) (b_law_deeds T) .nil pass0 (pa_cons (pv 1) (pa_cons (pe_callB call_len_seq (by rfl) T.z_len PySem.boot_len (pa_cons (pe_ix ix_tup (pv 3) (pe_int) (fun _ _ => rfl)) (pa_nil))) (pa_cons (pe_ix ix_list (pe_lst (pa_cons (pe_int) (pa_cons (pe_int) (pa_nil)))) (pe_op op_fdiv (pe_call G_law_taken (hr.mono (by omega)) rfl (T.g_law_taken) (T.F_law_taken.kp) (b_law_taken T) .nil pass0 (pa_cons (pv 1) (pa_cons (pe_int) (pa_nil)))) (pe_int)) (fun _ _ => rfl)) (pa_nil))))))   (pss_cons (ps_asg (pe_call G_law_plain (hr.mono (by omega)) rfl (T.g_law_plain) (T.F_law_plain.kp) (b_law_plain T) .nil pass0 (pa_cons (pe_ix ix_tup (pv 3) (pe_int) (fun _ _ => rfl)) (pa_cons (pv 5) (pa_nil)))) (pg_tup (by rfl) (pgs_cons (pg_name (i := 6) sc_law.nd rfl (.inl rfl)) (pgs_cons (pg_name (i := 7) sc_law.nd rfl (.inl rfl)) (pgs_nil)))))   (pss_one (ps_for PassesOwn.never rfl (pi_list (pe_lst (pa_cons (pv 3) (pa_cons (pv 4) (pa_nil))))) (pg_name (i := 8) sc_law.nd rfl (.inl rfl)) (pss_cons (ps_set (i := 9) sc_law.nd rfl (.inl rfl) (pe_call G_law_guesser (hr.mono (by omega)) rfl (T.g_law_guesser) (T.F_law_guesser.kp) (b_law_guesser T) .nil pass0 (pa_cons (pv 1) (pa_cons (pe_int) (pa_nil)))))   (pss_cons (ps_set (i := 10) sc_law.nd rfl (.inl rfl) (pe_call G_law_counts (hr.mono (by omega)) rfl (T.g_law_counts) (T.F_law_counts.kp) (b_law_counts T) .nil pass0 (pa_cons (pe_call G_law_run (hr.mono (by omega)) rfl (T.g_law_run) (T.F_law_run.kp) (b_law_run T) .nil pass0 (pa_cons (pv 8) (pa_cons (pv 9) (pa_cons (pv 5) (pa_nil))))) (pa_nil))))   (pss_one (ps_for PassesOwn.never rfl (pi_range1 (by rfl) T.z_range (pa_cons (pe_int) (pa_nil))) (pg_name (i := 11) sc_law.nd rfl (.inl rfl)) (pss_cons (ps_set (i := 12) sc_law.nd rfl (.inl rfl) (pe_call G_run (hr.mono (by omega)) rfl (T.g_run) (T.F_run.kp) (b_run T) .nil pass0 (pa_cons (pv 8) (pa_cons (pv 9) (pa_cons (pe_callTy call_list_of (by rfl) T.z_list (by decide +kernel) (pa_cons (pv 5) (pa_nil))) (pa_nil))))))   (pss_cons (ps_if (pt_not (pt_val (pe_call G_law_alike (hr.mono (by omega)) rfl (T.g_law_alike) (T.F_law_alike.kp) (b_law_alike T) .nil pass0 (pa_cons (pv 12) (pa_cons (pe_tup (pa_cons (pv 6) (pa_cons (pv 7) (pa_cons (pv 10) (pa_nil))))) (pa_nil)))))) (pss_one (ps_ret (pe_bl))) (pss_nil))   (pss_cons (ps_if (PW.pt (pw_or (pt_cmpR op_ne (pe_ix ix_tup (pe_ix ix_tup (pv 12) (pe_int) (fun _ _ => rfl)) (pe_int) (fun _ _ => rfl)) (pe_callB (cr_sumT rfl) (by rfl) T.z_sum (by decide +kernel) (pa_cons (pe_slice sl_tup (pe_ix ix_tup (pv 12) (pe_int) (fun _ _ => rfl)) (po_some (pe_int)) (po_none)) (pa_nil))) (nomark _)) (pw_or1 (pt_cmpR op_ne (pe_callB (cr_sumT rfl) (by rfl) T.z_sum (by decide +kernel) (pa_cons (pe_slice sl_tup (pe_ix ix_tup (pv 12) (pe_int) (fun _ _ => rfl)) (po_none) (po_some (pe_int))) (pa_nil))) (pe_callB call_len_seq (by rfl) T.z_len PySem.boot_len (pa_cons (pv 5) (pa_nil))) (nomark _))))) (pss_one (ps_ret (pe_bl))) (pss_nil))   (pss_one (ps_expr (pe_bm PySem.F.plainAttrs_list PySem.F.slot_list_append PySem.F.type_list_append mt_append (pe_ix ix_tup (pv 12) (pe_int) (fun _ _ => rfl)) (pa_cons (pe_int) (pa_nil)))))))))))))))))))   (pss_one (ps_ret (pe_bl))))
/-! ### what the top has left -/
theorem mk_top {K : PySem.W.Frag} {h : Heap} {mg : Str → Option Value} (X : K.In h) (G : h.Ns mainGlobals mg) (wp : Params)
    {c_Silent c_Neighbours c_Strides c_Pairs c_Both c_Play : Addr}
    {f_is_number : Addr} {od_is_number an_is_number : Option Addr} {sl_is_number : Array (Option Value)} {oc_is_number kV_is_number dc_is_number pm_is_number cd_is_number ct_is_number : Value}
    {cc_is_memory : Addr}
    {f_is_memory : Addr} {od_is_memory an_is_memory : Option Addr} {sl_is_memory : Array (Option Value)} {oc_is_memory kV_is_memory dc_is_memory pm_is_memory ct_is_memory : Value}
    {f_is_part : Addr} {od_is_part an_is_part : Option Addr} {sl_is_part : Array (Option Value)} {oc_is_part kV_is_part dc_is_part pm_is_part cd_is_part ct_is_part : Value}
    {f_check_setting : Addr} {od_check_setting an_check_setting : Option Addr} {sl_check_setting : Array (Option Value)} {oc_check_setting kV_check_setting dc_check_setting pm_check_setting cd_check_setting ct_check_setting : Value}
    {f_is_deed : Addr} {od_is_deed an_is_deed : Option Addr} {sl_is_deed : Array (Option Value)} {oc_is_deed kV_is_deed dc_is_deed pm_is_deed cd_is_deed ct_is_deed : Value}
    {f_check_row : Addr} {od_check_row an_check_row : Option Addr} {sl_check_row : Array (Option Value)} {oc_check_row kV_check_row dc_check_row pm_check_row cd_check_row ct_check_row : Value}
    {f_Silent_guess : Addr} {od_Silent_guess an_Silent_guess : Option Addr} {sl_Silent_guess : Array (Option Value)} {oc_Silent_guess kV_Silent_guess dc_Silent_guess pm_Silent_guess cd_Silent_guess ct_Silent_guess : Value}
    {f_Neighbours_init : Addr} {od_Neighbours_init an_Neighbours_init : Option Addr} {sl_Neighbours_init : Array (Option Value)} {oc_Neighbours_init kV_Neighbours_init dc_Neighbours_init pm_Neighbours_init cd_Neighbours_init ct_Neighbours_init : Value}
    {f_Neighbours_guess : Addr} {od_Neighbours_guess an_Neighbours_guess : Option Addr} {sl_Neighbours_guess : Array (Option Value)} {oc_Neighbours_guess kV_Neighbours_guess dc_Neighbours_guess pm_Neighbours_guess cd_Neighbours_guess ct_Neighbours_guess : Value}
    {f_Strides_init : Addr} {od_Strides_init an_Strides_init : Option Addr} {sl_Strides_init : Array (Option Value)} {oc_Strides_init kV_Strides_init dc_Strides_init pm_Strides_init cd_Strides_init ct_Strides_init : Value}
    {f_Strides_guess : Addr} {od_Strides_guess an_Strides_guess : Option Addr} {sl_Strides_guess : Array (Option Value)} {oc_Strides_guess kV_Strides_guess dc_Strides_guess pm_Strides_guess cd_Strides_guess ct_Strides_guess : Value}
    {f_Strides_count_stride : Addr} {od_Strides_count_stride an_Strides_count_stride : Option Addr} {sl_Strides_count_stride : Array (Option Value)} {oc_Strides_count_stride kV_Strides_count_stride dc_Strides_count_stride pm_Strides_count_stride cd_Strides_count_stride ct_Strides_count_stride : Value}
    {f_Pairs_init : Addr} {od_Pairs_init an_Pairs_init : Option Addr} {sl_Pairs_init : Array (Option Value)} {oc_Pairs_init kV_Pairs_init dc_Pairs_init pm_Pairs_init cd_Pairs_init ct_Pairs_init : Value}
    {f_Pairs_guess : Addr} {od_Pairs_guess an_Pairs_guess : Option Addr} {sl_Pairs_guess : Array (Option Value)} {oc_Pairs_guess kV_Pairs_guess dc_Pairs_guess pm_Pairs_guess cd_Pairs_guess ct_Pairs_guess : Value}
    {f_Pairs_put_behind : Addr} {od_Pairs_put_behind an_Pairs_put_behind : Option Addr} {sl_Pairs_put_behind : Array (Option Value)} {oc_Pairs_put_behind kV_Pairs_put_behind dc_Pairs_put_behind pm_Pairs_put_behind cd_Pairs_put_behind ct_Pairs_put_behind : Value}
    {f_Both_init : Addr} {od_Both_init an_Both_init : Option Addr} {sl_Both_init : Array (Option Value)} {oc_Both_init kV_Both_init dc_Both_init pm_Both_init cd_Both_init ct_Both_init : Value}
    {f_Both_guess : Addr} {od_Both_guess an_Both_guess : Option Addr} {sl_Both_guess : Array (Option Value)} {oc_Both_guess kV_Both_guess dc_Both_guess pm_Both_guess cd_Both_guess ct_Both_guess : Value}
    {f_is_guesser : Addr} {od_is_guesser an_is_guesser : Option Addr} {sl_is_guesser : Array (Option Value)} {oc_is_guesser kV_is_guesser dc_is_guesser pm_is_guesser cd_is_guesser ct_is_guesser : Value}
    {f_check_guesser : Addr} {od_check_guesser an_check_guesser : Option Addr} {sl_check_guesser : Array (Option Value)} {oc_check_guesser kV_check_guesser dc_check_guesser pm_check_guesser cd_check_guesser ct_check_guesser : Value}
    {f_begun : Addr} {od_begun an_begun : Option Addr} {sl_begun : Array (Option Value)} {oc_begun kV_begun dc_begun pm_begun cd_begun ct_begun : Value}
    {f_Play_init : Addr} {od_Play_init an_Play_init : Option Addr} {sl_Play_init : Array (Option Value)} {oc_Play_init kV_Play_init dc_Play_init pm_Play_init cd_Play_init ct_Play_init : Value}
    {f_Play_take_turn : Addr} {od_Play_take_turn an_Play_take_turn : Option Addr} {sl_Play_take_turn : Array (Option Value)} {oc_Play_take_turn kV_Play_take_turn dc_Play_take_turn pm_Play_take_turn cd_Play_take_turn ct_Play_take_turn : Value}
    {f_Play_tell : Addr} {od_Play_tell an_Play_tell : Option Addr} {sl_Play_tell : Array (Option Value)} {oc_Play_tell kV_Play_tell dc_Play_tell pm_Play_tell cd_Play_tell ct_Play_tell : Value}
    {f_Play_lay_what_comes : Addr} {od_Play_lay_what_comes an_Play_lay_what_comes : Option Addr} {sl_Play_lay_what_comes : Array (Option Value)} {oc_Play_lay_what_comes kV_Play_lay_what_comes dc_Play_lay_what_comes pm_Play_lay_what_comes cd_Play_lay_what_comes ct_Play_lay_what_comes : Value}
    {f_Play_ask : Addr} {od_Play_ask an_Play_ask : Option Addr} {sl_Play_ask : Array (Option Value)} {oc_Play_ask kV_Play_ask dc_Play_ask pm_Play_ask cd_Play_ask ct_Play_ask : Value}
    {f_Play_ask_on_shelf : Addr} {od_Play_ask_on_shelf an_Play_ask_on_shelf : Option Addr} {sl_Play_ask_on_shelf : Array (Option Value)} {oc_Play_ask_on_shelf kV_Play_ask_on_shelf dc_Play_ask_on_shelf pm_Play_ask_on_shelf cd_Play_ask_on_shelf ct_Play_ask_on_shelf : Value}
    {f_Play_lay : Addr} {od_Play_lay an_Play_lay : Option Addr} {sl_Play_lay : Array (Option Value)} {oc_Play_lay kV_Play_lay dc_Play_lay pm_Play_lay cd_Play_lay ct_Play_lay : Value}
    {f_Play_let_oldest_leave : Addr} {od_Play_let_oldest_leave an_Play_let_oldest_leave : Option Addr} {sl_Play_let_oldest_leave : Array (Option Value)} {oc_Play_let_oldest_leave kV_Play_let_oldest_leave dc_Play_let_oldest_leave pm_Play_let_oldest_leave cd_Play_let_oldest_leave ct_Play_let_oldest_leave : Value}
    {f_Play_read_or_write : Addr} {od_Play_read_or_write an_Play_read_or_write : Option Addr} {sl_Play_read_or_write : Array (Option Value)} {oc_Play_read_or_write kV_Play_read_or_write dc_Play_read_or_write pm_Play_read_or_write cd_Play_read_or_write ct_Play_read_or_write : Value}
    {f_Play_start_guessed : Addr} {od_Play_start_guessed an_Play_start_guessed : Option Addr} {sl_Play_start_guessed : Array (Option Value)} {oc_Play_start_guessed kV_Play_start_guessed dc_Play_start_guessed pm_Play_start_guessed cd_Play_start_guessed ct_Play_start_guessed : Value}
    {f_Play_may_start : Addr} {od_Play_may_start an_Play_may_start : Option Addr} {sl_Play_may_start : Array (Option Value)} {oc_Play_may_start kV_Play_may_start dc_Play_may_start pm_Play_may_start cd_Play_may_start ct_Play_may_start : Value}
    {f_played : Addr} {od_played an_played : Option Addr} {sl_played : Array (Option Value)} {oc_played kV_played dc_played pm_played cd_played ct_played : Value}
    {f_counts_of : Addr} {od_counts_of an_counts_of : Option Addr} {sl_counts_of : Array (Option Value)} {oc_counts_of kV_counts_of dc_counts_of pm_counts_of cd_counts_of ct_counts_of : Value}
    {f_checked_play : Addr} {od_checked_play an_checked_play : Option Addr} {sl_checked_play : Array (Option Value)} {oc_checked_play kV_checked_play dc_checked_play pm_checked_play cd_checked_play ct_checked_play : Value}
    {f_run : Addr} {od_run an_run : Option Addr} {sl_run : Array (Option Value)} {oc_run kV_run dc_run pm_run cd_run ct_run : Value}
    {f_law_taken : Addr} {od_law_taken an_law_taken : Option Addr} {sl_law_taken : Array (Option Value)} {oc_law_taken kV_law_taken dc_law_taken pm_law_taken cd_law_taken ct_law_taken : Value}
    {f_law_alike : Addr} {od_law_alike an_law_alike : Option Addr} {sl_law_alike : Array (Option Value)} {oc_law_alike kV_law_alike dc_law_alike pm_law_alike cd_law_alike ct_law_alike : Value}
    {f_law_guesser : Addr} {od_law_guesser an_law_guesser : Option Addr} {sl_law_guesser : Array (Option Value)} {oc_law_guesser kV_law_guesser dc_law_guesser pm_law_guesser cd_law_guesser ct_law_guesser : Value}
    {f_law_setting : Addr} {od_law_setting an_law_setting : Option Addr} {sl_law_setting : Array (Option Value)} {oc_law_setting kV_law_setting dc_law_setting pm_law_setting cd_law_setting ct_law_setting : Value}
    {f_law_places : Addr} {od_law_places an_law_places : Option Addr} {sl_law_places : Array (Option Value)} {oc_law_places kV_law_places dc_law_places pm_law_places cd_law_places ct_law_places : Value}
    {f_law_deeds : Addr} {od_law_deeds an_law_deeds : Option Addr} {sl_law_deeds : Array (Option Value)} {oc_law_deeds kV_law_deeds dc_law_deeds pm_law_deeds cd_law_deeds ct_law_deeds : Value}
    {f_law_guessed : Addr} {od_law_guessed an_law_guessed : Option Addr} {sl_law_guessed : Array (Option Value)} {oc_law_guessed kV_law_guessed dc_law_guessed pm_law_guessed cd_law_guessed ct_law_guessed : Value}
    {f_law_run : Addr} {od_law_run an_law_run : Option Addr} {sl_law_run : Array (Option Value)} {oc_law_run kV_law_run dc_law_run pm_law_run cd_law_run ct_law_run : Value}
    {f_law_laid : Addr} {od_law_laid an_law_laid : Option Addr} {sl_law_laid : Array (Option Value)} {oc_law_laid kV_law_laid dc_law_laid pm_law_laid cd_law_laid ct_law_laid : Value}
    {f_law_asked : Addr} {od_law_asked an_law_asked : Option Addr} {sl_law_asked : Array (Option Value)} {oc_law_asked kV_law_asked dc_law_asked pm_law_asked cd_law_asked ct_law_asked : Value}
    {f_law_counts : Addr} {od_law_counts an_law_counts : Option Addr} {sl_law_counts : Array (Option Value)} {oc_law_counts kV_law_counts dc_law_counts pm_law_counts cd_law_counts ct_law_counts : Value}
    {f_law_plain : Addr} {od_law_plain an_law_plain : Option Addr} {sl_law_plain : Array (Option Value)} {oc_law_plain kV_law_plain dc_law_plain pm_law_plain cd_law_plain ct_law_plain : Value}
    {f_law : Addr} {od_law an_law : Option Addr} {sl_law : Array (Option Value)} {oc_law kV_law dc_law pm_law cd_law ct_law : Value}
    {c_PARTS : Addr} {tk_PARTS_0 tk_PARTS_1 tk_PARTS_2 tk_PARTS_3 : Tok} {ob_PARTS : Nat} {od_PARTS : Option Addr} {sl_PARTS : Array (Option Value)}
    {c_BOUNDS : Addr} {es_BOUNDS : Array DictEntry} {ne_BOUNDS : Nat}
    {p_BOUNDS_room : Addr} {tk_BOUNDS_room_0 tk_BOUNDS_room_1 : Tok} {ob_BOUNDS_room : Nat} {od_BOUNDS_room : Option Addr} {sl_BOUNDS_room : Array (Option Value)}
    {p_BOUNDS_late : Addr} {tk_BOUNDS_late_0 tk_BOUNDS_late_1 : Tok} {ob_BOUNDS_late : Nat} {od_BOUNDS_late : Option Addr} {sl_BOUNDS_late : Array (Option Value)}
    {p_BOUNDS_most : Addr} {tk_BOUNDS_most_0 tk_BOUNDS_most_1 : Tok} {ob_BOUNDS_most : Nat} {od_BOUNDS_most : Option Addr} {sl_BOUNDS_most : Array (Option Value)}
    {t_MOST_PLACES : Tok}
    {t_MOST_DEEDS : Tok}
    {t_HIGHEST : Tok}
    {t_MOST_BOTHS : Tok}
    {tb_is_memory : Addr} {ec_is_memory : Value} {ed_is_memory : Option Addr} {vc_is_memory : Array Value} {slc_is_memory : Array (Option Value)}
    (a_Silent : PySem.W.nsIn K mainGlobals "Silent" = some (some (.ref c_Silent)))
    (pg_Silent : PySem.W.plainGet K c_Silent Str.empty = true)
    (hd_Silent : PySem.W.hasDictIn K c_Silent = true)
    (po_Silent : PySem.W.plainOver K c_Silent = true)
    (sa_Silent : PySem.W.findIn K (.ref c_Silent) "__setattr__" = some (some (.builtin "object.__setattr__")))
    (mk_Silent : PySem.W.makesIn K c_Silent = true)
    (kc_Silent : PySem.W.keepIn K (.ref c_Silent) = true)
    (i_Silent : PySem.W.findIn K (.ref c_Silent) "__init__" = some (some (.builtin "object.__init__")))
    (a_Neighbours : PySem.W.nsIn K mainGlobals "Neighbours" = some (some (.ref c_Neighbours)))
    (pg_Neighbours : PySem.W.plainGet K c_Neighbours Str.empty = true)
    (hd_Neighbours : PySem.W.hasDictIn K c_Neighbours = true)
    (po_Neighbours : PySem.W.plainOver K c_Neighbours = true)
    (sa_Neighbours : PySem.W.findIn K (.ref c_Neighbours) "__setattr__" = some (some (.builtin "object.__setattr__")))
    (mk_Neighbours : PySem.W.makesIn K c_Neighbours = true)
    (kc_Neighbours : PySem.W.keepIn K (.ref c_Neighbours) = true)
    (n_Neighbours_many : PySem.W.findIn K (.ref c_Neighbours) "many" = some none)
    (a_Strides : PySem.W.nsIn K mainGlobals "Strides" = some (some (.ref c_Strides)))
    (pg_Strides : PySem.W.plainGet K c_Strides Str.empty = true)
    (hd_Strides : PySem.W.hasDictIn K c_Strides = true)
    (po_Strides : PySem.W.plainOver K c_Strides = true)
    (sa_Strides : PySem.W.findIn K (.ref c_Strides) "__setattr__" = some (some (.builtin "object.__setattr__")))
    (mk_Strides : PySem.W.makesIn K c_Strides = true)
    (kc_Strides : PySem.W.keepIn K (.ref c_Strides) = true)
    (n_Strides_times : PySem.W.findIn K (.ref c_Strides) "times" = some none)
    (n_Strides_last : PySem.W.findIn K (.ref c_Strides) "last" = some none)
    (n_Strides_stride : PySem.W.findIn K (.ref c_Strides) "stride" = some none)
    (n_Strides_same : PySem.W.findIn K (.ref c_Strides) "same" = some none)
    (a_Pairs : PySem.W.nsIn K mainGlobals "Pairs" = some (some (.ref c_Pairs)))
    (pg_Pairs : PySem.W.plainGet K c_Pairs Str.empty = true)
    (hd_Pairs : PySem.W.hasDictIn K c_Pairs = true)
    (po_Pairs : PySem.W.plainOver K c_Pairs = true)
    (sa_Pairs : PySem.W.findIn K (.ref c_Pairs) "__setattr__" = some (some (.builtin "object.__setattr__")))
    (mk_Pairs : PySem.W.makesIn K c_Pairs = true)
    (kc_Pairs : PySem.W.keepIn K (.ref c_Pairs) = true)
    (n_Pairs_many : PySem.W.findIn K (.ref c_Pairs) "many" = some none)
    (n_Pairs_last : PySem.W.findIn K (.ref c_Pairs) "last" = some none)
    (n_Pairs_followers : PySem.W.findIn K (.ref c_Pairs) "followers" = some none)
    (a_Both : PySem.W.nsIn K mainGlobals "Both" = some (some (.ref c_Both)))
    (pg_Both : PySem.W.plainGet K c_Both Str.empty = true)
    (hd_Both : PySem.W.hasDictIn K c_Both = true)
    (po_Both : PySem.W.plainOver K c_Both = true)
    (sa_Both : PySem.W.findIn K (.ref c_Both) "__setattr__" = some (some (.builtin "object.__setattr__")))
    (mk_Both : PySem.W.makesIn K c_Both = true)
    (kc_Both : PySem.W.keepIn K (.ref c_Both) = true)
    (n_Both_one : PySem.W.findIn K (.ref c_Both) "one" = some none)
    (n_Both_other : PySem.W.findIn K (.ref c_Both) "other" = some none)
    (a_Play : PySem.W.nsIn K mainGlobals "Play" = some (some (.ref c_Play)))
    (pg_Play : PySem.W.plainGet K c_Play Str.empty = true)
    (hd_Play : PySem.W.hasDictIn K c_Play = true)
    (po_Play : PySem.W.plainOver K c_Play = true)
    (sa_Play : PySem.W.findIn K (.ref c_Play) "__setattr__" = some (some (.builtin "object.__setattr__")))
    (mk_Play : PySem.W.makesIn K c_Play = true)
    (kc_Play : PySem.W.keepIn K (.ref c_Play) = true)
    (n_Play_memory : PySem.W.findIn K (.ref c_Play) "memory" = some none)
    (n_Play_watcher : PySem.W.findIn K (.ref c_Play) "watcher" = some none)
    (n_Play_shelf : PySem.W.findIn K (.ref c_Play) "shelf" = some none)
    (n_Play_unasked : PySem.W.findIn K (.ref c_Play) "unasked" = some none)
    (n_Play_way : PySem.W.findIn K (.ref c_Play) "way" = some none)
    (n_Play_turn : PySem.W.findIn K (.ref c_Play) "turn" = some none)
    (n_Play_events : PySem.W.findIn K (.ref c_Play) "events" = some none)
    (n_Play_answers : PySem.W.findIn K (.ref c_Play) "answers" = some none)
    (n_Play_room : PySem.W.findIn K (.ref c_Play) "room" = some none)
    (n_Play_late : PySem.W.findIn K (.ref c_Play) "late" = some none)
    (n_Play_most : PySem.W.findIn K (.ref c_Play) "most" = some none)
    (a_is_number : PySem.W.nsIn K mainGlobals "is_number" = some (some (.ref f_is_number)))
    (l_is_number : K.lookup f_is_number = some ⟨oc_is_number, od_is_number, .func (PySem.W.fnOf "is_number" "is_number" (defArgs s_is_number) (defBody s_is_number) (defScope s_is_number) .none kV_is_number dc_is_number pm_is_number an_is_number cd_is_number ct_is_number), sl_is_number⟩)
    (cdk_is_number : PySem.W.codeIn K cd_is_number "is_number" = true)
    (kp_is_number : PySem.W.keepIn K (.ref f_is_number) = true)
    (a_is_memory : PySem.W.nsIn K mainGlobals "is_memory" = some (some (.ref f_is_memory)))
    (l_is_memory : K.lookup f_is_memory = some ⟨oc_is_memory, od_is_memory, .func (PySem.W.fnOf "is_memory" "is_memory" (defArgs s_is_memory) (defBody s_is_memory) (defScope s_is_memory) .none kV_is_memory dc_is_memory pm_is_memory an_is_memory (.ref cc_is_memory) ct_is_memory), sl_is_memory⟩)
    (cdk_is_memory : PySem.W.codeIn K (.ref cc_is_memory) "is_memory" = true)
    (kp_is_memory : PySem.W.keepIn K (.ref f_is_memory) = true)
    (a_is_part : PySem.W.nsIn K mainGlobals "is_part" = some (some (.ref f_is_part)))
    (l_is_part : K.lookup f_is_part = some ⟨oc_is_part, od_is_part, .func (PySem.W.fnOf "is_part" "is_part" (defArgs s_is_part) (defBody s_is_part) (defScope s_is_part) .none kV_is_part dc_is_part pm_is_part an_is_part cd_is_part ct_is_part), sl_is_part⟩)
    (cdk_is_part : PySem.W.codeIn K cd_is_part "is_part" = true)
    (kp_is_part : PySem.W.keepIn K (.ref f_is_part) = true)
    (a_check_setting : PySem.W.nsIn K mainGlobals "check_setting" = some (some (.ref f_check_setting)))
    (l_check_setting : K.lookup f_check_setting = some ⟨oc_check_setting, od_check_setting, .func (PySem.W.fnOf "check_setting" "check_setting" (defArgs s_check_setting) (defBody s_check_setting) (defScope s_check_setting) .none kV_check_setting dc_check_setting pm_check_setting an_check_setting cd_check_setting ct_check_setting), sl_check_setting⟩)
    (cdk_check_setting : PySem.W.codeIn K cd_check_setting "check_setting" = true)
    (kp_check_setting : PySem.W.keepIn K (.ref f_check_setting) = true)
    (a_is_deed : PySem.W.nsIn K mainGlobals "is_deed" = some (some (.ref f_is_deed)))
    (l_is_deed : K.lookup f_is_deed = some ⟨oc_is_deed, od_is_deed, .func (PySem.W.fnOf "is_deed" "is_deed" (defArgs s_is_deed) (defBody s_is_deed) (defScope s_is_deed) .none kV_is_deed dc_is_deed pm_is_deed an_is_deed cd_is_deed ct_is_deed), sl_is_deed⟩)
    (cdk_is_deed : PySem.W.codeIn K cd_is_deed "is_deed" = true)
    (kp_is_deed : PySem.W.keepIn K (.ref f_is_deed) = true)
    (a_check_row : PySem.W.nsIn K mainGlobals "check_row" = some (some (.ref f_check_row)))
    (l_check_row : K.lookup f_check_row = some ⟨oc_check_row, od_check_row, .func (PySem.W.fnOf "check_row" "check_row" (defArgs s_check_row) (defBody s_check_row) (defScope s_check_row) .none kV_check_row dc_check_row pm_check_row an_check_row cd_check_row ct_check_row), sl_check_row⟩)
    (cdk_check_row : PySem.W.codeIn K cd_check_row "check_row" = true)
    (kp_check_row : PySem.W.keepIn K (.ref f_check_row) = true)
    (a_Silent_guess : PySem.W.findIn K (.ref c_Silent) "guess" = some (some (.ref f_Silent_guess)))
    (l_Silent_guess : K.lookup f_Silent_guess = some ⟨oc_Silent_guess, od_Silent_guess, .func (PySem.W.fnOf "guess" "Silent.guess" (defArgs s_Silent_guess) (defBody s_Silent_guess) (defScope s_Silent_guess) .none kV_Silent_guess dc_Silent_guess pm_Silent_guess an_Silent_guess cd_Silent_guess ct_Silent_guess), sl_Silent_guess⟩)
    (cdk_Silent_guess : PySem.W.codeIn K cd_Silent_guess "Silent.guess" = true)
    (kp_Silent_guess : PySem.W.keepIn K (.ref f_Silent_guess) = true)
    (if_Silent_guess : PySem.W.isFn K (.ref f_Silent_guess) = true)
    (a_Neighbours_init : PySem.W.findIn K (.ref c_Neighbours) "__init__" = some (some (.ref f_Neighbours_init)))
    (l_Neighbours_init : K.lookup f_Neighbours_init = some ⟨oc_Neighbours_init, od_Neighbours_init, .func (PySem.W.fnOf "__init__" "Neighbours.__init__" (defArgs s_Neighbours_init) (defBody s_Neighbours_init) (defScope s_Neighbours_init) .none kV_Neighbours_init dc_Neighbours_init pm_Neighbours_init an_Neighbours_init cd_Neighbours_init ct_Neighbours_init), sl_Neighbours_init⟩)
    (cdk_Neighbours_init : PySem.W.codeIn K cd_Neighbours_init "Neighbours.__init__" = true)
    (kp_Neighbours_init : PySem.W.keepIn K (.ref f_Neighbours_init) = true)
    (if_Neighbours_init : PySem.W.isFn K (.ref f_Neighbours_init) = true)
    (a_Neighbours_guess : PySem.W.findIn K (.ref c_Neighbours) "guess" = some (some (.ref f_Neighbours_guess)))
    (l_Neighbours_guess : K.lookup f_Neighbours_guess = some ⟨oc_Neighbours_guess, od_Neighbours_guess, .func (PySem.W.fnOf "guess" "Neighbours.guess" (defArgs s_Neighbours_guess) (defBody s_Neighbours_guess) (defScope s_Neighbours_guess) .none kV_Neighbours_guess dc_Neighbours_guess pm_Neighbours_guess an_Neighbours_guess cd_Neighbours_guess ct_Neighbours_guess), sl_Neighbours_guess⟩)
    (cdk_Neighbours_guess : PySem.W.codeIn K cd_Neighbours_guess "Neighbours.guess" = true)
    (kp_Neighbours_guess : PySem.W.keepIn K (.ref f_Neighbours_guess) = true)
    (if_Neighbours_guess : PySem.W.isFn K (.ref f_Neighbours_guess) = true)
    (a_Strides_init : PySem.W.findIn K (.ref c_Strides) "__init__" = some (some (.ref f_Strides_init)))
    (l_Strides_init : K.lookup f_Strides_init = some ⟨oc_Strides_init, od_Strides_init, .func (PySem.W.fnOf "__init__" "Strides.__init__" (defArgs s_Strides_init) (defBody s_Strides_init) (defScope s_Strides_init) .none kV_Strides_init dc_Strides_init pm_Strides_init an_Strides_init cd_Strides_init ct_Strides_init), sl_Strides_init⟩)
    (cdk_Strides_init : PySem.W.codeIn K cd_Strides_init "Strides.__init__" = true)
    (kp_Strides_init : PySem.W.keepIn K (.ref f_Strides_init) = true)
    (if_Strides_init : PySem.W.isFn K (.ref f_Strides_init) = true)
    (a_Strides_guess : PySem.W.findIn K (.ref c_Strides) "guess" = some (some (.ref f_Strides_guess)))
    (l_Strides_guess : K.lookup f_Strides_guess = some ⟨oc_Strides_guess, od_Strides_guess, .func (PySem.W.fnOf "guess" "Strides.guess" (defArgs s_Strides_guess) (defBody s_Strides_guess) (defScope s_Strides_guess) .none kV_Strides_guess dc_Strides_guess pm_Strides_guess an_Strides_guess cd_Strides_guess ct_Strides_guess), sl_Strides_guess⟩)
    (cdk_Strides_guess : PySem.W.codeIn K cd_Strides_guess "Strides.guess" = true)
    (kp_Strides_guess : PySem.W.keepIn K (.ref f_Strides_guess) = true)
    (if_Strides_guess : PySem.W.isFn K (.ref f_Strides_guess) = true)
    (a_Strides_count_stride : PySem.W.findIn K (.ref c_Strides) "count_stride" = some (some (.ref f_Strides_count_stride)))
    (l_Strides_count_stride : K.lookup f_Strides_count_stride = some ⟨oc_Strides_count_stride, od_Strides_count_stride, .func (PySem.W.fnOf "count_stride" "Strides.count_stride" (defArgs s_Strides_count_stride) (defBody s_Strides_count_stride) (defScope s_Strides_count_stride) .none kV_Strides_count_stride dc_Strides_count_stride pm_Strides_count_stride an_Strides_count_stride cd_Strides_count_stride ct_Strides_count_stride), sl_Strides_count_stride⟩)
    (cdk_Strides_count_stride : PySem.W.codeIn K cd_Strides_count_stride "Strides.count_stride" = true)
    (kp_Strides_count_stride : PySem.W.keepIn K (.ref f_Strides_count_stride) = true)
    (if_Strides_count_stride : PySem.W.isFn K (.ref f_Strides_count_stride) = true)
    (a_Pairs_init : PySem.W.findIn K (.ref c_Pairs) "__init__" = some (some (.ref f_Pairs_init)))
    (l_Pairs_init : K.lookup f_Pairs_init = some ⟨oc_Pairs_init, od_Pairs_init, .func (PySem.W.fnOf "__init__" "Pairs.__init__" (defArgs s_Pairs_init) (defBody s_Pairs_init) (defScope s_Pairs_init) .none kV_Pairs_init dc_Pairs_init pm_Pairs_init an_Pairs_init cd_Pairs_init ct_Pairs_init), sl_Pairs_init⟩)
    (cdk_Pairs_init : PySem.W.codeIn K cd_Pairs_init "Pairs.__init__" = true)
    (kp_Pairs_init : PySem.W.keepIn K (.ref f_Pairs_init) = true)
    (if_Pairs_init : PySem.W.isFn K (.ref f_Pairs_init) = true)
    (a_Pairs_guess : PySem.W.findIn K (.ref c_Pairs) "guess" = some (some (.ref f_Pairs_guess)))
    (l_Pairs_guess : K.lookup f_Pairs_guess = some ⟨oc_Pairs_guess, od_Pairs_guess, .func (PySem.W.fnOf "guess" "Pairs.guess" (defArgs s_Pairs_guess) (defBody s_Pairs_guess) (defScope s_Pairs_guess) .none kV_Pairs_guess dc_Pairs_guess pm_Pairs_guess an_Pairs_guess cd_Pairs_guess ct_Pairs_guess), sl_Pairs_guess⟩)
    (cdk_Pairs_guess : PySem.W.codeIn K cd_Pairs_guess "Pairs.guess" = true)
    (kp_Pairs_guess : PySem.W.keepIn K (.ref f_Pairs_guess) = true)
    (if_Pairs_guess : PySem.W.isFn K (.ref f_Pairs_guess) = true)
    (a_Pairs_put_behind : PySem.W.findIn K (.ref c_Pairs) "put_behind" = some (some (.ref f_Pairs_put_behind)))
    (l_Pairs_put_behind : K.lookup f_Pairs_put_behind = some ⟨oc_Pairs_put_behind, od_Pairs_put_behind, .func (PySem.W.fnOf "put_behind" "Pairs.put_behind" (defArgs s_Pairs_put_behind) (defBody s_Pairs_put_behind) (defScope s_Pairs_put_behind) .none kV_Pairs_put_behind dc_Pairs_put_behind pm_Pairs_put_behind an_Pairs_put_behind cd_Pairs_put_behind ct_Pairs_put_behind), sl_Pairs_put_behind⟩)
    (cdk_Pairs_put_behind : PySem.W.codeIn K cd_Pairs_put_behind "Pairs.put_behind" = true)
    (kp_Pairs_put_behind : PySem.W.keepIn K (.ref f_Pairs_put_behind) = true)
    (if_Pairs_put_behind : PySem.W.isFn K (.ref f_Pairs_put_behind) = true)
    (a_Both_init : PySem.W.findIn K (.ref c_Both) "__init__" = some (some (.ref f_Both_init)))
    (l_Both_init : K.lookup f_Both_init = some ⟨oc_Both_init, od_Both_init, .func (PySem.W.fnOf "__init__" "Both.__init__" (defArgs s_Both_init) (defBody s_Both_init) (defScope s_Both_init) .none kV_Both_init dc_Both_init pm_Both_init an_Both_init cd_Both_init ct_Both_init), sl_Both_init⟩)
    (cdk_Both_init : PySem.W.codeIn K cd_Both_init "Both.__init__" = true)
    (kp_Both_init : PySem.W.keepIn K (.ref f_Both_init) = true)
    (if_Both_init : PySem.W.isFn K (.ref f_Both_init) = true)
    (a_Both_guess : PySem.W.findIn K (.ref c_Both) "guess" = some (some (.ref f_Both_guess)))
    (l_Both_guess : K.lookup f_Both_guess = some ⟨oc_Both_guess, od_Both_guess, .func (PySem.W.fnOf "guess" "Both.guess" (defArgs s_Both_guess) (defBody s_Both_guess) (defScope s_Both_guess) .none kV_Both_guess dc_Both_guess pm_Both_guess an_Both_guess cd_Both_guess ct_Both_guess), sl_Both_guess⟩)
    (cdk_Both_guess : PySem.W.codeIn K cd_Both_guess "Both.guess" = true)
    (kp_Both_guess : PySem.W.keepIn K (.ref f_Both_guess) = true)
    (if_Both_guess : PySem.W.isFn K (.ref f_Both_guess) = true)
    (a_is_guesser : PySem.W.nsIn K mainGlobals "is_guesser" = some (some (.ref f_is_guesser)))
    (l_is_guesser : K.lookup f_is_guesser = some ⟨oc_is_guesser, od_is_guesser, .func (PySem.W.fnOf "is_guesser" "is_guesser" (defArgs s_is_guesser) (defBody s_is_guesser) (defScope s_is_guesser) .none kV_is_guesser dc_is_guesser pm_is_guesser an_is_guesser cd_is_guesser ct_is_guesser), sl_is_guesser⟩)
    (cdk_is_guesser : PySem.W.codeIn K cd_is_guesser "is_guesser" = true)
    (kp_is_guesser : PySem.W.keepIn K (.ref f_is_guesser) = true)
    (a_check_guesser : PySem.W.nsIn K mainGlobals "check_guesser" = some (some (.ref f_check_guesser)))
    (l_check_guesser : K.lookup f_check_guesser = some ⟨oc_check_guesser, od_check_guesser, .func (PySem.W.fnOf "check_guesser" "check_guesser" (defArgs s_check_guesser) (defBody s_check_guesser) (defScope s_check_guesser) .none kV_check_guesser dc_check_guesser pm_check_guesser an_check_guesser cd_check_guesser ct_check_guesser), sl_check_guesser⟩)
    (cdk_check_guesser : PySem.W.codeIn K cd_check_guesser "check_guesser" = true)
    (kp_check_guesser : PySem.W.keepIn K (.ref f_check_guesser) = true)
    (a_begun : PySem.W.nsIn K mainGlobals "begun" = some (some (.ref f_begun)))
    (l_begun : K.lookup f_begun = some ⟨oc_begun, od_begun, .func (PySem.W.fnOf "begun" "begun" (defArgs s_begun) (defBody s_begun) (defScope s_begun) .none kV_begun dc_begun pm_begun an_begun cd_begun ct_begun), sl_begun⟩)
    (cdk_begun : PySem.W.codeIn K cd_begun "begun" = true)
    (kp_begun : PySem.W.keepIn K (.ref f_begun) = true)
    (a_Play_init : PySem.W.findIn K (.ref c_Play) "__init__" = some (some (.ref f_Play_init)))
    (l_Play_init : K.lookup f_Play_init = some ⟨oc_Play_init, od_Play_init, .func (PySem.W.fnOf "__init__" "Play.__init__" (defArgs s_Play_init) (defBody s_Play_init) (defScope s_Play_init) .none kV_Play_init dc_Play_init pm_Play_init an_Play_init cd_Play_init ct_Play_init), sl_Play_init⟩)
    (cdk_Play_init : PySem.W.codeIn K cd_Play_init "Play.__init__" = true)
    (kp_Play_init : PySem.W.keepIn K (.ref f_Play_init) = true)
    (if_Play_init : PySem.W.isFn K (.ref f_Play_init) = true)
    (a_Play_take_turn : PySem.W.findIn K (.ref c_Play) "take_turn" = some (some (.ref f_Play_take_turn)))
    (l_Play_take_turn : K.lookup f_Play_take_turn = some ⟨oc_Play_take_turn, od_Play_take_turn, .func (PySem.W.fnOf "take_turn" "Play.take_turn" (defArgs s_Play_take_turn) (defBody s_Play_take_turn) (defScope s_Play_take_turn) .none kV_Play_take_turn dc_Play_take_turn pm_Play_take_turn an_Play_take_turn cd_Play_take_turn ct_Play_take_turn), sl_Play_take_turn⟩)
    (cdk_Play_take_turn : PySem.W.codeIn K cd_Play_take_turn "Play.take_turn" = true)
    (kp_Play_take_turn : PySem.W.keepIn K (.ref f_Play_take_turn) = true)
    (if_Play_take_turn : PySem.W.isFn K (.ref f_Play_take_turn) = true)
    (a_Play_tell : PySem.W.findIn K (.ref c_Play) "tell" = some (some (.ref f_Play_tell)))
    (l_Play_tell : K.lookup f_Play_tell = some ⟨oc_Play_tell, od_Play_tell, .func (PySem.W.fnOf "tell" "Play.tell" (defArgs s_Play_tell) (defBody s_Play_tell) (defScope s_Play_tell) .none kV_Play_tell dc_Play_tell pm_Play_tell an_Play_tell cd_Play_tell ct_Play_tell), sl_Play_tell⟩)
    (cdk_Play_tell : PySem.W.codeIn K cd_Play_tell "Play.tell" = true)
    (kp_Play_tell : PySem.W.keepIn K (.ref f_Play_tell) = true)
    (if_Play_tell : PySem.W.isFn K (.ref f_Play_tell) = true)
    (a_Play_lay_what_comes : PySem.W.findIn K (.ref c_Play) "lay_what_comes" = some (some (.ref f_Play_lay_what_comes)))
    (l_Play_lay_what_comes : K.lookup f_Play_lay_what_comes = some ⟨oc_Play_lay_what_comes, od_Play_lay_what_comes, .func (PySem.W.fnOf "lay_what_comes" "Play.lay_what_comes" (defArgs s_Play_lay_what_comes) (defBody s_Play_lay_what_comes) (defScope s_Play_lay_what_comes) .none kV_Play_lay_what_comes dc_Play_lay_what_comes pm_Play_lay_what_comes an_Play_lay_what_comes cd_Play_lay_what_comes ct_Play_lay_what_comes), sl_Play_lay_what_comes⟩)
    (cdk_Play_lay_what_comes : PySem.W.codeIn K cd_Play_lay_what_comes "Play.lay_what_comes" = true)
    (kp_Play_lay_what_comes : PySem.W.keepIn K (.ref f_Play_lay_what_comes) = true)
    (if_Play_lay_what_comes : PySem.W.isFn K (.ref f_Play_lay_what_comes) = true)
    (a_Play_ask : PySem.W.findIn K (.ref c_Play) "ask" = some (some (.ref f_Play_ask)))
    (l_Play_ask : K.lookup f_Play_ask = some ⟨oc_Play_ask, od_Play_ask, .func (PySem.W.fnOf "ask" "Play.ask" (defArgs s_Play_ask) (defBody s_Play_ask) (defScope s_Play_ask) .none kV_Play_ask dc_Play_ask pm_Play_ask an_Play_ask cd_Play_ask ct_Play_ask), sl_Play_ask⟩)
    (cdk_Play_ask : PySem.W.codeIn K cd_Play_ask "Play.ask" = true)
    (kp_Play_ask : PySem.W.keepIn K (.ref f_Play_ask) = true)
    (if_Play_ask : PySem.W.isFn K (.ref f_Play_ask) = true)
    (a_Play_ask_on_shelf : PySem.W.findIn K (.ref c_Play) "ask_on_shelf" = some (some (.ref f_Play_ask_on_shelf)))
    (l_Play_ask_on_shelf : K.lookup f_Play_ask_on_shelf = some ⟨oc_Play_ask_on_shelf, od_Play_ask_on_shelf, .func (PySem.W.fnOf "ask_on_shelf" "Play.ask_on_shelf" (defArgs s_Play_ask_on_shelf) (defBody s_Play_ask_on_shelf) (defScope s_Play_ask_on_shelf) .none kV_Play_ask_on_shelf dc_Play_ask_on_shelf pm_Play_ask_on_shelf an_Play_ask_on_shelf cd_Play_ask_on_shelf ct_Play_ask_on_shelf), sl_Play_ask_on_shelf⟩)
    (cdk_Play_ask_on_shelf : PySem.W.codeIn K cd_Play_ask_on_shelf "Play.ask_on_shelf" = true)
    (kp_Play_ask_on_shelf : PySem.W.keepIn K (.ref f_Play_ask_on_shelf) = true)
    (if_Play_ask_on_shelf : PySem.W.isFn K (.ref f_Play_ask_on_shelf) = true)
    (a_Play_lay : PySem.W.findIn K (.ref c_Play) "lay" = some (some (.ref f_Play_lay)))
    (l_Play_lay : K.lookup f_Play_lay = some ⟨oc_Play_lay, od_Play_lay, .func (PySem.W.fnOf "lay" "Play.lay" (defArgs s_Play_lay) (defBody s_Play_lay) (defScope s_Play_lay) .none kV_Play_lay dc_Play_lay pm_Play_lay an_Play_lay cd_Play_lay ct_Play_lay), sl_Play_lay⟩)
    (cdk_Play_lay : PySem.W.codeIn K cd_Play_lay "Play.lay" = true)
    (kp_Play_lay : PySem.W.keepIn K (.ref f_Play_lay) = true)
    (if_Play_lay : PySem.W.isFn K (.ref f_Play_lay) = true)
    (a_Play_let_oldest_leave : PySem.W.findIn K (.ref c_Play) "let_oldest_leave" = some (some (.ref f_Play_let_oldest_leave)))
    (l_Play_let_oldest_leave : K.lookup f_Play_let_oldest_leave = some ⟨oc_Play_let_oldest_leave, od_Play_let_oldest_leave, .func (PySem.W.fnOf "let_oldest_leave" "Play.let_oldest_leave" (defArgs s_Play_let_oldest_leave) (defBody s_Play_let_oldest_leave) (defScope s_Play_let_oldest_leave) .none kV_Play_let_oldest_leave dc_Play_let_oldest_leave pm_Play_let_oldest_leave an_Play_let_oldest_leave cd_Play_let_oldest_leave ct_Play_let_oldest_leave), sl_Play_let_oldest_leave⟩)
    (cdk_Play_let_oldest_leave : PySem.W.codeIn K cd_Play_let_oldest_leave "Play.let_oldest_leave" = true)
    (kp_Play_let_oldest_leave : PySem.W.keepIn K (.ref f_Play_let_oldest_leave) = true)
    (if_Play_let_oldest_leave : PySem.W.isFn K (.ref f_Play_let_oldest_leave) = true)
    (a_Play_read_or_write : PySem.W.findIn K (.ref c_Play) "read_or_write" = some (some (.ref f_Play_read_or_write)))
    (l_Play_read_or_write : K.lookup f_Play_read_or_write = some ⟨oc_Play_read_or_write, od_Play_read_or_write, .func (PySem.W.fnOf "read_or_write" "Play.read_or_write" (defArgs s_Play_read_or_write) (defBody s_Play_read_or_write) (defScope s_Play_read_or_write) .none kV_Play_read_or_write dc_Play_read_or_write pm_Play_read_or_write an_Play_read_or_write cd_Play_read_or_write ct_Play_read_or_write), sl_Play_read_or_write⟩)
    (cdk_Play_read_or_write : PySem.W.codeIn K cd_Play_read_or_write "Play.read_or_write" = true)
    (kp_Play_read_or_write : PySem.W.keepIn K (.ref f_Play_read_or_write) = true)
    (if_Play_read_or_write : PySem.W.isFn K (.ref f_Play_read_or_write) = true)
    (a_Play_start_guessed : PySem.W.findIn K (.ref c_Play) "start_guessed" = some (some (.ref f_Play_start_guessed)))
    (l_Play_start_guessed : K.lookup f_Play_start_guessed = some ⟨oc_Play_start_guessed, od_Play_start_guessed, .func (PySem.W.fnOf "start_guessed" "Play.start_guessed" (defArgs s_Play_start_guessed) (defBody s_Play_start_guessed) (defScope s_Play_start_guessed) .none kV_Play_start_guessed dc_Play_start_guessed pm_Play_start_guessed an_Play_start_guessed cd_Play_start_guessed ct_Play_start_guessed), sl_Play_start_guessed⟩)
    (cdk_Play_start_guessed : PySem.W.codeIn K cd_Play_start_guessed "Play.start_guessed" = true)
    (kp_Play_start_guessed : PySem.W.keepIn K (.ref f_Play_start_guessed) = true)
    (if_Play_start_guessed : PySem.W.isFn K (.ref f_Play_start_guessed) = true)
    (a_Play_may_start : PySem.W.findIn K (.ref c_Play) "may_start" = some (some (.ref f_Play_may_start)))
    (l_Play_may_start : K.lookup f_Play_may_start = some ⟨oc_Play_may_start, od_Play_may_start, .func (PySem.W.fnOf "may_start" "Play.may_start" (defArgs s_Play_may_start) (defBody s_Play_may_start) (defScope s_Play_may_start) .none kV_Play_may_start dc_Play_may_start pm_Play_may_start an_Play_may_start cd_Play_may_start ct_Play_may_start), sl_Play_may_start⟩)
    (cdk_Play_may_start : PySem.W.codeIn K cd_Play_may_start "Play.may_start" = true)
    (kp_Play_may_start : PySem.W.keepIn K (.ref f_Play_may_start) = true)
    (if_Play_may_start : PySem.W.isFn K (.ref f_Play_may_start) = true)
    (a_played : PySem.W.nsIn K mainGlobals "played" = some (some (.ref f_played)))
    (l_played : K.lookup f_played = some ⟨oc_played, od_played, .func (PySem.W.fnOf "played" "played" (defArgs s_played) (defBody s_played) (defScope s_played) .none kV_played dc_played pm_played an_played cd_played ct_played), sl_played⟩)
    (cdk_played : PySem.W.codeIn K cd_played "played" = true)
    (kp_played : PySem.W.keepIn K (.ref f_played) = true)
    (a_counts_of : PySem.W.nsIn K mainGlobals "counts_of" = some (some (.ref f_counts_of)))
    (l_counts_of : K.lookup f_counts_of = some ⟨oc_counts_of, od_counts_of, .func (PySem.W.fnOf "counts_of" "counts_of" (defArgs s_counts_of) (defBody s_counts_of) (defScope s_counts_of) .none kV_counts_of dc_counts_of pm_counts_of an_counts_of cd_counts_of ct_counts_of), sl_counts_of⟩)
    (cdk_counts_of : PySem.W.codeIn K cd_counts_of "counts_of" = true)
    (kp_counts_of : PySem.W.keepIn K (.ref f_counts_of) = true)
    (a_checked_play : PySem.W.nsIn K mainGlobals "checked_play" = some (some (.ref f_checked_play)))
    (l_checked_play : K.lookup f_checked_play = some ⟨oc_checked_play, od_checked_play, .func (PySem.W.fnOf "checked_play" "checked_play" (defArgs s_checked_play) (defBody s_checked_play) (defScope s_checked_play) .none kV_checked_play dc_checked_play pm_checked_play an_checked_play cd_checked_play ct_checked_play), sl_checked_play⟩)
    (cdk_checked_play : PySem.W.codeIn K cd_checked_play "checked_play" = true)
    (kp_checked_play : PySem.W.keepIn K (.ref f_checked_play) = true)
    (a_run : PySem.W.nsIn K mainGlobals "run" = some (some (.ref f_run)))
    (l_run : K.lookup f_run = some ⟨oc_run, od_run, .func (PySem.W.fnOf "run" "run" (defArgs s_run) (defBody s_run) (defScope s_run) .none kV_run dc_run pm_run an_run cd_run ct_run), sl_run⟩)
    (cdk_run : PySem.W.codeIn K cd_run "run" = true)
    (kp_run : PySem.W.keepIn K (.ref f_run) = true)
    (a_law_taken : PySem.W.nsIn K mainGlobals "_law_taken" = some (some (.ref f_law_taken)))
    (l_law_taken : K.lookup f_law_taken = some ⟨oc_law_taken, od_law_taken, .func (PySem.W.fnOf "_law_taken" "_law_taken" (defArgs s_law_taken) (defBody s_law_taken) (defScope s_law_taken) .none kV_law_taken dc_law_taken pm_law_taken an_law_taken cd_law_taken ct_law_taken), sl_law_taken⟩)
    (cdk_law_taken : PySem.W.codeIn K cd_law_taken "_law_taken" = true)
    (kp_law_taken : PySem.W.keepIn K (.ref f_law_taken) = true)
    (a_law_alike : PySem.W.nsIn K mainGlobals "_law_alike" = some (some (.ref f_law_alike)))
    (l_law_alike : K.lookup f_law_alike = some ⟨oc_law_alike, od_law_alike, .func (PySem.W.fnOf "_law_alike" "_law_alike" (defArgs s_law_alike) (defBody s_law_alike) (defScope s_law_alike) .none kV_law_alike dc_law_alike pm_law_alike an_law_alike cd_law_alike ct_law_alike), sl_law_alike⟩)
    (cdk_law_alike : PySem.W.codeIn K cd_law_alike "_law_alike" = true)
    (kp_law_alike : PySem.W.keepIn K (.ref f_law_alike) = true)
    (a_law_guesser : PySem.W.nsIn K mainGlobals "_law_guesser" = some (some (.ref f_law_guesser)))
    (l_law_guesser : K.lookup f_law_guesser = some ⟨oc_law_guesser, od_law_guesser, .func (PySem.W.fnOf "_law_guesser" "_law_guesser" (defArgs s_law_guesser) (defBody s_law_guesser) (defScope s_law_guesser) .none kV_law_guesser dc_law_guesser pm_law_guesser an_law_guesser cd_law_guesser ct_law_guesser), sl_law_guesser⟩)
    (cdk_law_guesser : PySem.W.codeIn K cd_law_guesser "_law_guesser" = true)
    (kp_law_guesser : PySem.W.keepIn K (.ref f_law_guesser) = true)
    (a_law_setting : PySem.W.nsIn K mainGlobals "_law_setting" = some (some (.ref f_law_setting)))
    (l_law_setting : K.lookup f_law_setting = some ⟨oc_law_setting, od_law_setting, .func (PySem.W.fnOf "_law_setting" "_law_setting" (defArgs s_law_setting) (defBody s_law_setting) (defScope s_law_setting) .none kV_law_setting dc_law_setting pm_law_setting an_law_setting cd_law_setting ct_law_setting), sl_law_setting⟩)
    (cdk_law_setting : PySem.W.codeIn K cd_law_setting "_law_setting" = true)
    (kp_law_setting : PySem.W.keepIn K (.ref f_law_setting) = true)
    (a_law_places : PySem.W.nsIn K mainGlobals "_law_places" = some (some (.ref f_law_places)))
    (l_law_places : K.lookup f_law_places = some ⟨oc_law_places, od_law_places, .func (PySem.W.fnOf "_law_places" "_law_places" (defArgs s_law_places) (defBody s_law_places) (defScope s_law_places) .none kV_law_places dc_law_places pm_law_places an_law_places cd_law_places ct_law_places), sl_law_places⟩)
    (cdk_law_places : PySem.W.codeIn K cd_law_places "_law_places" = true)
    (kp_law_places : PySem.W.keepIn K (.ref f_law_places) = true)
    (a_law_deeds : PySem.W.nsIn K mainGlobals "_law_deeds" = some (some (.ref f_law_deeds)))
    (l_law_deeds : K.lookup f_law_deeds = some ⟨oc_law_deeds, od_law_deeds, .func (PySem.W.fnOf "_law_deeds" "_law_deeds" (defArgs s_law_deeds) (defBody s_law_deeds) (defScope s_law_deeds) .none kV_law_deeds dc_law_deeds pm_law_deeds an_law_deeds cd_law_deeds ct_law_deeds), sl_law_deeds⟩)
    (cdk_law_deeds : PySem.W.codeIn K cd_law_deeds "_law_deeds" = true)
    (kp_law_deeds : PySem.W.keepIn K (.ref f_law_deeds) = true)
    (a_law_guessed : PySem.W.nsIn K mainGlobals "_law_guessed" = some (some (.ref f_law_guessed)))
    (l_law_guessed : K.lookup f_law_guessed = some ⟨oc_law_guessed, od_law_guessed, .func (PySem.W.fnOf "_law_guessed" "_law_guessed" (defArgs s_law_guessed) (defBody s_law_guessed) (defScope s_law_guessed) .none kV_law_guessed dc_law_guessed pm_law_guessed an_law_guessed cd_law_guessed ct_law_guessed), sl_law_guessed⟩)
    (cdk_law_guessed : PySem.W.codeIn K cd_law_guessed "_law_guessed" = true)
    (kp_law_guessed : PySem.W.keepIn K (.ref f_law_guessed) = true)
    (a_law_run : PySem.W.nsIn K mainGlobals "_law_run" = some (some (.ref f_law_run)))
    (l_law_run : K.lookup f_law_run = some ⟨oc_law_run, od_law_run, .func (PySem.W.fnOf "_law_run" "_law_run" (defArgs s_law_run) (defBody s_law_run) (defScope s_law_run) .none kV_law_run dc_law_run pm_law_run an_law_run cd_law_run ct_law_run), sl_law_run⟩)
    (cdk_law_run : PySem.W.codeIn K cd_law_run "_law_run" = true)
    (kp_law_run : PySem.W.keepIn K (.ref f_law_run) = true)
    (a_law_laid : PySem.W.nsIn K mainGlobals "_law_laid" = some (some (.ref f_law_laid)))
    (l_law_laid : K.lookup f_law_laid = some ⟨oc_law_laid, od_law_laid, .func (PySem.W.fnOf "_law_laid" "_law_laid" (defArgs s_law_laid) (defBody s_law_laid) (defScope s_law_laid) .none kV_law_laid dc_law_laid pm_law_laid an_law_laid cd_law_laid ct_law_laid), sl_law_laid⟩)
    (cdk_law_laid : PySem.W.codeIn K cd_law_laid "_law_laid" = true)
    (kp_law_laid : PySem.W.keepIn K (.ref f_law_laid) = true)
    (a_law_asked : PySem.W.nsIn K mainGlobals "_law_asked" = some (some (.ref f_law_asked)))
    (l_law_asked : K.lookup f_law_asked = some ⟨oc_law_asked, od_law_asked, .func (PySem.W.fnOf "_law_asked" "_law_asked" (defArgs s_law_asked) (defBody s_law_asked) (defScope s_law_asked) .none kV_law_asked dc_law_asked pm_law_asked an_law_asked cd_law_asked ct_law_asked), sl_law_asked⟩)
    (cdk_law_asked : PySem.W.codeIn K cd_law_asked "_law_asked" = true)
    (kp_law_asked : PySem.W.keepIn K (.ref f_law_asked) = true)
    (a_law_counts : PySem.W.nsIn K mainGlobals "_law_counts" = some (some (.ref f_law_counts)))
    (l_law_counts : K.lookup f_law_counts = some ⟨oc_law_counts, od_law_counts, .func (PySem.W.fnOf "_law_counts" "_law_counts" (defArgs s_law_counts) (defBody s_law_counts) (defScope s_law_counts) .none kV_law_counts dc_law_counts pm_law_counts an_law_counts cd_law_counts ct_law_counts), sl_law_counts⟩)
    (cdk_law_counts : PySem.W.codeIn K cd_law_counts "_law_counts" = true)
    (kp_law_counts : PySem.W.keepIn K (.ref f_law_counts) = true)
    (a_law_plain : PySem.W.nsIn K mainGlobals "_law_plain" = some (some (.ref f_law_plain)))
    (l_law_plain : K.lookup f_law_plain = some ⟨oc_law_plain, od_law_plain, .func (PySem.W.fnOf "_law_plain" "_law_plain" (defArgs s_law_plain) (defBody s_law_plain) (defScope s_law_plain) .none kV_law_plain dc_law_plain pm_law_plain an_law_plain cd_law_plain ct_law_plain), sl_law_plain⟩)
    (cdk_law_plain : PySem.W.codeIn K cd_law_plain "_law_plain" = true)
    (kp_law_plain : PySem.W.keepIn K (.ref f_law_plain) = true)
    (a_law : PySem.W.nsIn K mainGlobals "law" = some (some (.ref f_law)))
    (l_law : K.lookup f_law = some ⟨oc_law, od_law, .func (PySem.W.fnOf "law" "law" (defArgs s_law) (defBody s_law) (defScope s_law) .none kV_law dc_law pm_law an_law cd_law ct_law), sl_law⟩)
    (cdk_law : PySem.W.codeIn K cd_law "law" = true)
    (kp_law : PySem.W.keepIn K (.ref f_law) = true)
    (k_PARTS : PySem.W.nsIn K mainGlobals "PARTS" = some (some (.ref c_PARTS)))
    (l_PARTS : K.lookup c_PARTS = some ⟨.type "tuple", od_PARTS, .seq #[.str "memory" tk_PARTS_0, .str "room" tk_PARTS_1, .str "late" tk_PARTS_2, .str "most" tk_PARTS_3] ob_PARTS, sl_PARTS⟩)
    (k_BOUNDS : PySem.W.nsIn K mainGlobals "BOUNDS" = some (some (.ref c_BOUNDS)))
    (l_BOUNDS : K.lookup c_BOUNDS = some ⟨.type "dict", none, .dict es_BOUNDS ne_BOUNDS, #[]⟩)
    (lit_BOUNDS : PySem.W.KeysLit wp es_BOUNDS.toList)
    (low_BOUNDS : (c_BOUNDS == sysModules) = false)
    (i_BOUNDS_room : PySem.W.nsIn K c_BOUNDS "room" = some (some (.ref p_BOUNDS_room)))
    (l_BOUNDS_room : K.lookup p_BOUNDS_room = some ⟨.type "tuple", od_BOUNDS_room, .seq #[.int 1 tk_BOUNDS_room_0, .int 8 tk_BOUNDS_room_1] ob_BOUNDS_room, sl_BOUNDS_room⟩)
    (i_BOUNDS_late : PySem.W.nsIn K c_BOUNDS "late" = some (some (.ref p_BOUNDS_late)))
    (l_BOUNDS_late : K.lookup p_BOUNDS_late = some ⟨.type "tuple", od_BOUNDS_late, .seq #[.int 0 tk_BOUNDS_late_0, .int 4 tk_BOUNDS_late_1] ob_BOUNDS_late, sl_BOUNDS_late⟩)
    (i_BOUNDS_most : PySem.W.nsIn K c_BOUNDS "most" = some (some (.ref p_BOUNDS_most)))
    (l_BOUNDS_most : K.lookup p_BOUNDS_most = some ⟨.type "tuple", od_BOUNDS_most, .seq #[.int 1 tk_BOUNDS_most_0, .int 4 tk_BOUNDS_most_1] ob_BOUNDS_most, sl_BOUNDS_most⟩)
    (k_MOST_PLACES : PySem.W.nsIn K mainGlobals "MOST_PLACES" = some (some (.int 32 t_MOST_PLACES)))
    (k_MOST_DEEDS : PySem.W.nsIn K mainGlobals "MOST_DEEDS" = some (some (.int 100 t_MOST_DEEDS)))
    (k_HIGHEST : PySem.W.nsIn K mainGlobals "HIGHEST" = some (some (.int 99 t_HIGHEST)))
    (k_MOST_BOTHS : PySem.W.nsIn K mainGlobals "MOST_BOTHS" = some (some (.int 3 t_MOST_BOTHS)))
    (lc_is_memory : K.lookup cc_is_memory = some ⟨ec_is_memory, ed_is_memory, .fields vc_is_memory, slc_is_memory⟩)
    (vp_is_memory : vc_is_memory[11]? = some (.ref tb_is_memory))
    (np_is_memory : K.lookup tb_is_memory = none)
    (z_all : PySem.W.nsIn K mainGlobals "all" = some none)
    (z_bool : PySem.W.nsIn K mainGlobals "bool" = some none)
    (z_enumerate : PySem.W.nsIn K mainGlobals "enumerate" = some none)
    (z_int : PySem.W.nsIn K mainGlobals "int" = some none)
    (z_isinstance : PySem.W.nsIn K mainGlobals "isinstance" = some none)
    (z_len : PySem.W.nsIn K mainGlobals "len" = some none)
    (z_list : PySem.W.nsIn K mainGlobals "list" = some none)
    (z_max : PySem.W.nsIn K mainGlobals "max" = some none)
    (z_min : PySem.W.nsIn K mainGlobals "min" = some none)
    (z_range : PySem.W.nsIn K mainGlobals "range" = some none)
    (z_str : PySem.W.nsIn K mainGlobals "str" = some none)
    (z_sum : PySem.W.nsIn K mainGlobals "sum" = some none)
    (z_tuple : PySem.W.nsIn K mainGlobals "tuple" = some none) : ∃ T : Top K mg, T.pw = wp := ⟨{
    c_Silent := c_Silent
    cl_Silent := ⟨pg_Silent, hd_Silent, po_Silent, sa_Silent⟩
    g_Silent := PySem.W.mg_of X G a_Silent
    mk_Silent := ⟨mk_Silent, i_Silent, kc_Silent⟩
    c_Neighbours := c_Neighbours
    cl_Neighbours := ⟨pg_Neighbours, hd_Neighbours, po_Neighbours, sa_Neighbours⟩
    g_Neighbours := PySem.W.mg_of X G a_Neighbours
    n_Neighbours_many := n_Neighbours_many
    c_Strides := c_Strides
    cl_Strides := ⟨pg_Strides, hd_Strides, po_Strides, sa_Strides⟩
    g_Strides := PySem.W.mg_of X G a_Strides
    n_Strides_times := n_Strides_times
    n_Strides_last := n_Strides_last
    n_Strides_stride := n_Strides_stride
    n_Strides_same := n_Strides_same
    c_Pairs := c_Pairs
    cl_Pairs := ⟨pg_Pairs, hd_Pairs, po_Pairs, sa_Pairs⟩
    g_Pairs := PySem.W.mg_of X G a_Pairs
    n_Pairs_many := n_Pairs_many
    n_Pairs_last := n_Pairs_last
    n_Pairs_followers := n_Pairs_followers
    c_Both := c_Both
    cl_Both := ⟨pg_Both, hd_Both, po_Both, sa_Both⟩
    g_Both := PySem.W.mg_of X G a_Both
    n_Both_one := n_Both_one
    n_Both_other := n_Both_other
    c_Play := c_Play
    cl_Play := ⟨pg_Play, hd_Play, po_Play, sa_Play⟩
    g_Play := PySem.W.mg_of X G a_Play
    n_Play_memory := n_Play_memory
    n_Play_watcher := n_Play_watcher
    n_Play_shelf := n_Play_shelf
    n_Play_unasked := n_Play_unasked
    n_Play_way := n_Play_way
    n_Play_turn := n_Play_turn
    n_Play_events := n_Play_events
    n_Play_answers := n_Play_answers
    n_Play_room := n_Play_room
    n_Play_late := n_Play_late
    n_Play_most := n_Play_most
    f_is_number := f_is_number
    fd_is_number := PySem.W.fnOf "is_number" "is_number" (defArgs s_is_number) (defBody s_is_number) (defScope s_is_number) .none kV_is_number dc_is_number pm_is_number an_is_number cd_is_number ct_is_number
    F_is_number := fun_mk l_is_number cdk_is_number kp_is_number
    g_is_number := PySem.W.mg_of X G a_is_number
    f_is_memory := f_is_memory
    fd_is_memory := PySem.W.fnOf "is_memory" "is_memory" (defArgs s_is_memory) (defBody s_is_memory) (defScope s_is_memory) .none kV_is_memory dc_is_memory pm_is_memory an_is_memory (.ref cc_is_memory) ct_is_memory
    F_is_memory := fun_mk l_is_memory cdk_is_memory kp_is_memory
    g_is_memory := PySem.W.mg_of X G a_is_memory
    f_is_part := f_is_part
    fd_is_part := PySem.W.fnOf "is_part" "is_part" (defArgs s_is_part) (defBody s_is_part) (defScope s_is_part) .none kV_is_part dc_is_part pm_is_part an_is_part cd_is_part ct_is_part
    F_is_part := fun_mk l_is_part cdk_is_part kp_is_part
    g_is_part := PySem.W.mg_of X G a_is_part
    f_check_setting := f_check_setting
    fd_check_setting := PySem.W.fnOf "check_setting" "check_setting" (defArgs s_check_setting) (defBody s_check_setting) (defScope s_check_setting) .none kV_check_setting dc_check_setting pm_check_setting an_check_setting cd_check_setting ct_check_setting
    F_check_setting := fun_mk l_check_setting cdk_check_setting kp_check_setting
    g_check_setting := PySem.W.mg_of X G a_check_setting
    f_is_deed := f_is_deed
    fd_is_deed := PySem.W.fnOf "is_deed" "is_deed" (defArgs s_is_deed) (defBody s_is_deed) (defScope s_is_deed) .none kV_is_deed dc_is_deed pm_is_deed an_is_deed cd_is_deed ct_is_deed
    F_is_deed := fun_mk l_is_deed cdk_is_deed kp_is_deed
    g_is_deed := PySem.W.mg_of X G a_is_deed
    f_check_row := f_check_row
    fd_check_row := PySem.W.fnOf "check_row" "check_row" (defArgs s_check_row) (defBody s_check_row) (defScope s_check_row) .none kV_check_row dc_check_row pm_check_row an_check_row cd_check_row ct_check_row
    F_check_row := fun_mk l_check_row cdk_check_row kp_check_row
    g_check_row := PySem.W.mg_of X G a_check_row
    f_Silent_guess := f_Silent_guess
    fd_Silent_guess := PySem.W.fnOf "guess" "Silent.guess" (defArgs s_Silent_guess) (defBody s_Silent_guess) (defScope s_Silent_guess) .none kV_Silent_guess dc_Silent_guess pm_Silent_guess an_Silent_guess cd_Silent_guess ct_Silent_guess
    F_Silent_guess := fun_mk l_Silent_guess cdk_Silent_guess kp_Silent_guess
    m_Silent_guess := ⟨a_Silent_guess, if_Silent_guess, kp_Silent_guess⟩
    f_Neighbours_init := f_Neighbours_init
    fd_Neighbours_init := PySem.W.fnOf "__init__" "Neighbours.__init__" (defArgs s_Neighbours_init) (defBody s_Neighbours_init) (defScope s_Neighbours_init) .none kV_Neighbours_init dc_Neighbours_init pm_Neighbours_init an_Neighbours_init cd_Neighbours_init ct_Neighbours_init
    F_Neighbours_init := fun_mk l_Neighbours_init cdk_Neighbours_init kp_Neighbours_init
    mk_Neighbours := ⟨mk_Neighbours, a_Neighbours_init, if_Neighbours_init, kc_Neighbours⟩
    f_Neighbours_guess := f_Neighbours_guess
    fd_Neighbours_guess := PySem.W.fnOf "guess" "Neighbours.guess" (defArgs s_Neighbours_guess) (defBody s_Neighbours_guess) (defScope s_Neighbours_guess) .none kV_Neighbours_guess dc_Neighbours_guess pm_Neighbours_guess an_Neighbours_guess cd_Neighbours_guess ct_Neighbours_guess
    F_Neighbours_guess := fun_mk l_Neighbours_guess cdk_Neighbours_guess kp_Neighbours_guess
    m_Neighbours_guess := ⟨a_Neighbours_guess, if_Neighbours_guess, kp_Neighbours_guess⟩
    f_Strides_init := f_Strides_init
    fd_Strides_init := PySem.W.fnOf "__init__" "Strides.__init__" (defArgs s_Strides_init) (defBody s_Strides_init) (defScope s_Strides_init) .none kV_Strides_init dc_Strides_init pm_Strides_init an_Strides_init cd_Strides_init ct_Strides_init
    F_Strides_init := fun_mk l_Strides_init cdk_Strides_init kp_Strides_init
    mk_Strides := ⟨mk_Strides, a_Strides_init, if_Strides_init, kc_Strides⟩
    f_Strides_guess := f_Strides_guess
    fd_Strides_guess := PySem.W.fnOf "guess" "Strides.guess" (defArgs s_Strides_guess) (defBody s_Strides_guess) (defScope s_Strides_guess) .none kV_Strides_guess dc_Strides_guess pm_Strides_guess an_Strides_guess cd_Strides_guess ct_Strides_guess
    F_Strides_guess := fun_mk l_Strides_guess cdk_Strides_guess kp_Strides_guess
    m_Strides_guess := ⟨a_Strides_guess, if_Strides_guess, kp_Strides_guess⟩
    f_Strides_count_stride := f_Strides_count_stride
    fd_Strides_count_stride := PySem.W.fnOf "count_stride" "Strides.count_stride" (defArgs s_Strides_count_stride) (defBody s_Strides_count_stride) (defScope s_Strides_count_stride) .none kV_Strides_count_stride dc_Strides_count_stride pm_Strides_count_stride an_Strides_count_stride cd_Strides_count_stride ct_Strides_count_stride
    F_Strides_count_stride := fun_mk l_Strides_count_stride cdk_Strides_count_stride kp_Strides_count_stride
    m_Strides_count_stride := ⟨a_Strides_count_stride, if_Strides_count_stride, kp_Strides_count_stride⟩
    f_Pairs_init := f_Pairs_init
    fd_Pairs_init := PySem.W.fnOf "__init__" "Pairs.__init__" (defArgs s_Pairs_init) (defBody s_Pairs_init) (defScope s_Pairs_init) .none kV_Pairs_init dc_Pairs_init pm_Pairs_init an_Pairs_init cd_Pairs_init ct_Pairs_init
    F_Pairs_init := fun_mk l_Pairs_init cdk_Pairs_init kp_Pairs_init
    mk_Pairs := ⟨mk_Pairs, a_Pairs_init, if_Pairs_init, kc_Pairs⟩
    f_Pairs_guess := f_Pairs_guess
    fd_Pairs_guess := PySem.W.fnOf "guess" "Pairs.guess" (defArgs s_Pairs_guess) (defBody s_Pairs_guess) (defScope s_Pairs_guess) .none kV_Pairs_guess dc_Pairs_guess pm_Pairs_guess an_Pairs_guess cd_Pairs_guess ct_Pairs_guess
    F_Pairs_guess := fun_mk l_Pairs_guess cdk_Pairs_guess kp_Pairs_guess
    m_Pairs_guess := ⟨a_Pairs_guess, if_Pairs_guess, kp_Pairs_guess⟩
    f_Pairs_put_behind := f_Pairs_put_behind
    fd_Pairs_put_behind := PySem.W.fnOf "put_behind" "Pairs.put_behind" (defArgs s_Pairs_put_behind) (defBody s_Pairs_put_behind) (defScope s_Pairs_put_behind) .none kV_Pairs_put_behind dc_Pairs_put_behind pm_Pairs_put_behind an_Pairs_put_behind cd_Pairs_put_behind ct_Pairs_put_behind
    F_Pairs_put_behind := fun_mk l_Pairs_put_behind cdk_Pairs_put_behind kp_Pairs_put_behind
    m_Pairs_put_behind := ⟨a_Pairs_put_behind, if_Pairs_put_behind, kp_Pairs_put_behind⟩
    f_Both_init := f_Both_init
    fd_Both_init := PySem.W.fnOf "__init__" "Both.__init__" (defArgs s_Both_init) (defBody s_Both_init) (defScope s_Both_init) .none kV_Both_init dc_Both_init pm_Both_init an_Both_init cd_Both_init ct_Both_init
    F_Both_init := fun_mk l_Both_init cdk_Both_init kp_Both_init
    mk_Both := ⟨mk_Both, a_Both_init, if_Both_init, kc_Both⟩
    f_Both_guess := f_Both_guess
    fd_Both_guess := PySem.W.fnOf "guess" "Both.guess" (defArgs s_Both_guess) (defBody s_Both_guess) (defScope s_Both_guess) .none kV_Both_guess dc_Both_guess pm_Both_guess an_Both_guess cd_Both_guess ct_Both_guess
    F_Both_guess := fun_mk l_Both_guess cdk_Both_guess kp_Both_guess
    m_Both_guess := ⟨a_Both_guess, if_Both_guess, kp_Both_guess⟩
    f_is_guesser := f_is_guesser
    fd_is_guesser := PySem.W.fnOf "is_guesser" "is_guesser" (defArgs s_is_guesser) (defBody s_is_guesser) (defScope s_is_guesser) .none kV_is_guesser dc_is_guesser pm_is_guesser an_is_guesser cd_is_guesser ct_is_guesser
    F_is_guesser := fun_mk l_is_guesser cdk_is_guesser kp_is_guesser
    g_is_guesser := PySem.W.mg_of X G a_is_guesser
    f_check_guesser := f_check_guesser
    fd_check_guesser := PySem.W.fnOf "check_guesser" "check_guesser" (defArgs s_check_guesser) (defBody s_check_guesser) (defScope s_check_guesser) .none kV_check_guesser dc_check_guesser pm_check_guesser an_check_guesser cd_check_guesser ct_check_guesser
    F_check_guesser := fun_mk l_check_guesser cdk_check_guesser kp_check_guesser
    g_check_guesser := PySem.W.mg_of X G a_check_guesser
    f_begun := f_begun
    fd_begun := PySem.W.fnOf "begun" "begun" (defArgs s_begun) (defBody s_begun) (defScope s_begun) .none kV_begun dc_begun pm_begun an_begun cd_begun ct_begun
    F_begun := fun_mk l_begun cdk_begun kp_begun
    g_begun := PySem.W.mg_of X G a_begun
    f_Play_init := f_Play_init
    fd_Play_init := PySem.W.fnOf "__init__" "Play.__init__" (defArgs s_Play_init) (defBody s_Play_init) (defScope s_Play_init) .none kV_Play_init dc_Play_init pm_Play_init an_Play_init cd_Play_init ct_Play_init
    F_Play_init := fun_mk l_Play_init cdk_Play_init kp_Play_init
    mk_Play := ⟨mk_Play, a_Play_init, if_Play_init, kc_Play⟩
    f_Play_take_turn := f_Play_take_turn
    fd_Play_take_turn := PySem.W.fnOf "take_turn" "Play.take_turn" (defArgs s_Play_take_turn) (defBody s_Play_take_turn) (defScope s_Play_take_turn) .none kV_Play_take_turn dc_Play_take_turn pm_Play_take_turn an_Play_take_turn cd_Play_take_turn ct_Play_take_turn
    F_Play_take_turn := fun_mk l_Play_take_turn cdk_Play_take_turn kp_Play_take_turn
    m_Play_take_turn := ⟨a_Play_take_turn, if_Play_take_turn, kp_Play_take_turn⟩
    f_Play_tell := f_Play_tell
    fd_Play_tell := PySem.W.fnOf "tell" "Play.tell" (defArgs s_Play_tell) (defBody s_Play_tell) (defScope s_Play_tell) .none kV_Play_tell dc_Play_tell pm_Play_tell an_Play_tell cd_Play_tell ct_Play_tell
    F_Play_tell := fun_mk l_Play_tell cdk_Play_tell kp_Play_tell
    m_Play_tell := ⟨a_Play_tell, if_Play_tell, kp_Play_tell⟩
    f_Play_lay_what_comes := f_Play_lay_what_comes
    fd_Play_lay_what_comes := PySem.W.fnOf "lay_what_comes" "Play.lay_what_comes" (defArgs s_Play_lay_what_comes) (defBody s_Play_lay_what_comes) (defScope s_Play_lay_what_comes) .none kV_Play_lay_what_comes dc_Play_lay_what_comes pm_Play_lay_what_comes an_Play_lay_what_comes cd_Play_lay_what_comes ct_Play_lay_what_comes
    F_Play_lay_what_comes := fun_mk l_Play_lay_what_comes cdk_Play_lay_what_comes kp_Play_lay_what_comes
    m_Play_lay_what_comes := ⟨a_Play_lay_what_comes, if_Play_lay_what_comes, kp_Play_lay_what_comes⟩
    f_Play_ask := f_Play_ask
    fd_Play_ask := PySem.W.fnOf "ask" "Play.ask" (defArgs s_Play_ask) (defBody s_Play_ask) (defScope s_Play_ask) .none kV_Play_ask dc_Play_ask pm_Play_ask an_Play_ask cd_Play_ask ct_Play_ask
    F_Play_ask := fun_mk l_Play_ask cdk_Play_ask kp_Play_ask
    m_Play_ask := ⟨a_Play_ask, if_Play_ask, kp_Play_ask⟩
    f_Play_ask_on_shelf := f_Play_ask_on_shelf
    fd_Play_ask_on_shelf := PySem.W.fnOf "ask_on_shelf" "Play.ask_on_shelf" (defArgs s_Play_ask_on_shelf) (defBody s_Play_ask_on_shelf) (defScope s_Play_ask_on_shelf) .none kV_Play_ask_on_shelf dc_Play_ask_on_shelf pm_Play_ask_on_shelf an_Play_ask_on_shelf cd_Play_ask_on_shelf ct_Play_ask_on_shelf
    F_Play_ask_on_shelf := fun_mk l_Play_ask_on_shelf cdk_Play_ask_on_shelf kp_Play_ask_on_shelf
    m_Play_ask_on_shelf := ⟨a_Play_ask_on_shelf, if_Play_ask_on_shelf, kp_Play_ask_on_shelf⟩
    f_Play_lay := f_Play_lay
    fd_Play_lay := PySem.W.fnOf "lay" "Play.lay" (defArgs s_Play_lay) (defBody s_Play_lay) (defScope s_Play_lay) .none kV_Play_lay dc_Play_lay pm_Play_lay an_Play_lay cd_Play_lay ct_Play_lay
    F_Play_lay := fun_mk l_Play_lay cdk_Play_lay kp_Play_lay
    m_Play_lay := ⟨a_Play_lay, if_Play_lay, kp_Play_lay⟩
    f_Play_let_oldest_leave := f_Play_let_oldest_leave
    fd_Play_let_oldest_leave := PySem.W.fnOf "let_oldest_leave" "Play.let_oldest_leave" (defArgs s_Play_let_oldest_leave) (defBody s_Play_let_oldest_leave) (defScope s_Play_let_oldest_leave) .none kV_Play_let_oldest_leave dc_Play_let_oldest_leave pm_Play_let_oldest_leave an_Play_let_oldest_leave cd_Play_let_oldest_leave ct_Play_let_oldest_leave
    F_Play_let_oldest_leave := fun_mk l_Play_let_oldest_leave cdk_Play_let_oldest_leave kp_Play_let_oldest_leave
    m_Play_let_oldest_leave := ⟨a_Play_let_oldest_leave, if_Play_let_oldest_leave, kp_Play_let_oldest_leave⟩
    f_Play_read_or_write := f_Play_read_or_write
    fd_Play_read_or_write := PySem.W.fnOf "read_or_write" "Play.read_or_write" (defArgs s_Play_read_or_write) (defBody s_Play_read_or_write) (defScope s_Play_read_or_write) .none kV_Play_read_or_write dc_Play_read_or_write pm_Play_read_or_write an_Play_read_or_write cd_Play_read_or_write ct_Play_read_or_write
    F_Play_read_or_write := fun_mk l_Play_read_or_write cdk_Play_read_or_write kp_Play_read_or_write
    m_Play_read_or_write := ⟨a_Play_read_or_write, if_Play_read_or_write, kp_Play_read_or_write⟩
    f_Play_start_guessed := f_Play_start_guessed
    fd_Play_start_guessed := PySem.W.fnOf "start_guessed" "Play.start_guessed" (defArgs s_Play_start_guessed) (defBody s_Play_start_guessed) (defScope s_Play_start_guessed) .none kV_Play_start_guessed dc_Play_start_guessed pm_Play_start_guessed an_Play_start_guessed cd_Play_start_guessed ct_Play_start_guessed
    F_Play_start_guessed := fun_mk l_Play_start_guessed cdk_Play_start_guessed kp_Play_start_guessed
    m_Play_start_guessed := ⟨a_Play_start_guessed, if_Play_start_guessed, kp_Play_start_guessed⟩
    f_Play_may_start := f_Play_may_start
    fd_Play_may_start := PySem.W.fnOf "may_start" "Play.may_start" (defArgs s_Play_may_start) (defBody s_Play_may_start) (defScope s_Play_may_start) .none kV_Play_may_start dc_Play_may_start pm_Play_may_start an_Play_may_start cd_Play_may_start ct_Play_may_start
    F_Play_may_start := fun_mk l_Play_may_start cdk_Play_may_start kp_Play_may_start
    m_Play_may_start := ⟨a_Play_may_start, if_Play_may_start, kp_Play_may_start⟩
    f_played := f_played
    fd_played := PySem.W.fnOf "played" "played" (defArgs s_played) (defBody s_played) (defScope s_played) .none kV_played dc_played pm_played an_played cd_played ct_played
    F_played := fun_mk l_played cdk_played kp_played
    g_played := PySem.W.mg_of X G a_played
    f_counts_of := f_counts_of
    fd_counts_of := PySem.W.fnOf "counts_of" "counts_of" (defArgs s_counts_of) (defBody s_counts_of) (defScope s_counts_of) .none kV_counts_of dc_counts_of pm_counts_of an_counts_of cd_counts_of ct_counts_of
    F_counts_of := fun_mk l_counts_of cdk_counts_of kp_counts_of
    g_counts_of := PySem.W.mg_of X G a_counts_of
    f_checked_play := f_checked_play
    fd_checked_play := PySem.W.fnOf "checked_play" "checked_play" (defArgs s_checked_play) (defBody s_checked_play) (defScope s_checked_play) .none kV_checked_play dc_checked_play pm_checked_play an_checked_play cd_checked_play ct_checked_play
    F_checked_play := fun_mk l_checked_play cdk_checked_play kp_checked_play
    g_checked_play := PySem.W.mg_of X G a_checked_play
    f_run := f_run
    fd_run := PySem.W.fnOf "run" "run" (defArgs s_run) (defBody s_run) (defScope s_run) .none kV_run dc_run pm_run an_run cd_run ct_run
    F_run := fun_mk l_run cdk_run kp_run
    g_run := PySem.W.mg_of X G a_run
    f_law_taken := f_law_taken
    fd_law_taken := PySem.W.fnOf "_law_taken" "_law_taken" (defArgs s_law_taken) (defBody s_law_taken) (defScope s_law_taken) .none kV_law_taken dc_law_taken pm_law_taken an_law_taken cd_law_taken ct_law_taken
    F_law_taken := fun_mk l_law_taken cdk_law_taken kp_law_taken
    g_law_taken := PySem.W.mg_of X G a_law_taken
    f_law_alike := f_law_alike
    fd_law_alike := PySem.W.fnOf "_law_alike" "_law_alike" (defArgs s_law_alike) (defBody s_law_alike) (defScope s_law_alike) .none kV_law_alike dc_law_alike pm_law_alike an_law_alike cd_law_alike ct_law_alike
    F_law_alike := fun_mk l_law_alike cdk_law_alike kp_law_alike
    g_law_alike := PySem.W.mg_of X G a_law_alike
    f_law_guesser := f_law_guesser
    fd_law_guesser := PySem.W.fnOf "_law_guesser" "_law_guesser" (defArgs s_law_guesser) (defBody s_law_guesser) (defScope s_law_guesser) .none kV_law_guesser dc_law_guesser pm_law_guesser an_law_guesser cd_law_guesser ct_law_guesser
    F_law_guesser := fun_mk l_law_guesser cdk_law_guesser kp_law_guesser
    g_law_guesser := PySem.W.mg_of X G a_law_guesser
    f_law_setting := f_law_setting
    fd_law_setting := PySem.W.fnOf "_law_setting" "_law_setting" (defArgs s_law_setting) (defBody s_law_setting) (defScope s_law_setting) .none kV_law_setting dc_law_setting pm_law_setting an_law_setting cd_law_setting ct_law_setting
    F_law_setting := fun_mk l_law_setting cdk_law_setting kp_law_setting
    g_law_setting := PySem.W.mg_of X G a_law_setting
    f_law_places := f_law_places
    fd_law_places := PySem.W.fnOf "_law_places" "_law_places" (defArgs s_law_places) (defBody s_law_places) (defScope s_law_places) .none kV_law_places dc_law_places pm_law_places an_law_places cd_law_places ct_law_places
    F_law_places := fun_mk l_law_places cdk_law_places kp_law_places
    g_law_places := PySem.W.mg_of X G a_law_places
    f_law_deeds := f_law_deeds
    fd_law_deeds := PySem.W.fnOf "_law_deeds" "_law_deeds" (defArgs s_law_deeds) (defBody s_law_deeds) (defScope s_law_deeds) .none kV_law_deeds dc_law_deeds pm_law_deeds an_law_deeds cd_law_deeds ct_law_deeds
    F_law_deeds := fun_mk l_law_deeds cdk_law_deeds kp_law_deeds
    g_law_deeds := PySem.W.mg_of X G a_law_deeds
    f_law_guessed := f_law_guessed
    fd_law_guessed := PySem.W.fnOf "_law_guessed" "_law_guessed" (defArgs s_law_guessed) (defBody s_law_guessed) (defScope s_law_guessed) .none kV_law_guessed dc_law_guessed pm_law_guessed an_law_guessed cd_law_guessed ct_law_guessed
    F_law_guessed := fun_mk l_law_guessed cdk_law_guessed kp_law_guessed
    g_law_guessed := PySem.W.mg_of X G a_law_guessed
    f_law_run := f_law_run
    fd_law_run := PySem.W.fnOf "_law_run" "_law_run" (defArgs s_law_run) (defBody s_law_run) (defScope s_law_run) .none kV_law_run dc_law_run pm_law_run an_law_run cd_law_run ct_law_run
    F_law_run := fun_mk l_law_run cdk_law_run kp_law_run
    g_law_run := PySem.W.mg_of X G a_law_run
    f_law_laid := f_law_laid
    fd_law_laid := PySem.W.fnOf "_law_laid" "_law_laid" (defArgs s_law_laid) (defBody s_law_laid) (defScope s_law_laid) .none kV_law_laid dc_law_laid pm_law_laid an_law_laid cd_law_laid ct_law_laid
    F_law_laid := fun_mk l_law_laid cdk_law_laid kp_law_laid
    g_law_laid := PySem.W.mg_of X G a_law_laid
    f_law_asked := f_law_asked
    fd_law_asked := PySem.W.fnOf "_law_asked" "_law_asked" (defArgs s_law_asked) (defBody s_law_asked) (defScope s_law_asked) .none kV_law_asked dc_law_asked pm_law_asked an_law_asked cd_law_asked ct_law_asked
    F_law_asked := fun_mk l_law_asked cdk_law_asked kp_law_asked
    g_law_asked := PySem.W.mg_of X G a_law_asked
    f_law_counts := f_law_counts
    fd_law_counts := PySem.W.fnOf "_law_counts" "_law_counts" (defArgs s_law_counts) (defBody s_law_counts) (defScope s_law_counts) .none kV_law_counts dc_law_counts pm_law_counts an_law_counts cd_law_counts ct_law_counts
    F_law_counts := fun_mk l_law_counts cdk_law_counts kp_law_counts
    g_law_counts := PySem.W.mg_of X G a_law_counts
    f_law_plain := f_law_plain
    fd_law_plain := PySem.W.fnOf "_law_plain" "_law_plain" (defArgs s_law_plain) (defBody s_law_plain) (defScope s_law_plain) .none kV_law_plain dc_law_plain pm_law_plain an_law_plain cd_law_plain ct_law_plain
    F_law_plain := fun_mk l_law_plain cdk_law_plain kp_law_plain
    g_law_plain := PySem.W.mg_of X G a_law_plain
    f_law := f_law
    fd_law := PySem.W.fnOf "law" "law" (defArgs s_law) (defBody s_law) (defScope s_law) .none kV_law dc_law pm_law an_law cd_law ct_law
    F_law := fun_mk l_law cdk_law kp_law
    g_law := PySem.W.mg_of X G a_law
    c_PARTS := c_PARTS
    k_PARTS := PySem.W.mg_of X G k_PARTS
    s_PARTS := fun H => .inr ⟨_, _, _, l_PARTS, rfl, rfl, (show 4 ≤ sizeLine by decide), .cons ⟨_, rfl⟩ (.cons ⟨_, rfl⟩ (.cons ⟨_, rfl⟩ (.cons ⟨_, rfl⟩ (.nil))))⟩
    c_BOUNDS := c_BOUNDS
    k_BOUNDS := PySem.W.mg_of X G k_BOUNDS
    es_BOUNDS := es_BOUNDS
    ne_BOUNDS := ne_BOUNDS
    pw := wp
    D_BOUNDS := fun w e => ⟨l_BOUNDS, e ▸ lit_BOUNDS, low_BOUNDS⟩
    p_BOUNDS_room := p_BOUNDS_room
    i_BOUNDS_room := i_BOUNDS_room
    s_BOUNDS_room := fun H => .inr ⟨_, _, _, l_BOUNDS_room, rfl, rfl, (show 2 ≤ sizeLine by decide), .cons ⟨_, rfl⟩ (.cons ⟨_, rfl⟩ (.nil))⟩
    p_BOUNDS_late := p_BOUNDS_late
    i_BOUNDS_late := i_BOUNDS_late
    s_BOUNDS_late := fun H => .inr ⟨_, _, _, l_BOUNDS_late, rfl, rfl, (show 2 ≤ sizeLine by decide), .cons ⟨_, rfl⟩ (.cons ⟨_, rfl⟩ (.nil))⟩
    p_BOUNDS_most := p_BOUNDS_most
    i_BOUNDS_most := i_BOUNDS_most
    s_BOUNDS_most := fun H => .inr ⟨_, _, _, l_BOUNDS_most, rfl, rfl, (show 2 ≤ sizeLine by decide), .cons ⟨_, rfl⟩ (.cons ⟨_, rfl⟩ (.nil))⟩
    t_MOST_PLACES := t_MOST_PLACES
    k_MOST_PLACES := PySem.W.mg_of X G k_MOST_PLACES
    t_MOST_DEEDS := t_MOST_DEEDS
    k_MOST_DEEDS := PySem.W.mg_of X G k_MOST_DEEDS
    t_HIGHEST := t_HIGHEST
    k_HIGHEST := PySem.W.mg_of X G k_HIGHEST
    t_MOST_BOTHS := t_MOST_BOTHS
    k_MOST_BOTHS := PySem.W.mg_of X G k_MOST_BOTHS
    cc_is_memory := cc_is_memory
    tb_is_memory := tb_is_memory
    C_is_memory := ⟨_, _, _, _, _, _, _, _, rfl, l_is_memory, cdk_is_memory⟩
    np_is_memory := np_is_memory
    cp_is_memory := ⟨_, _, _, _, lc_is_memory, vp_is_memory⟩
    z_all := PySem.W.mg_none_of X G z_all
    z_bool := PySem.W.mg_none_of X G z_bool
    z_enumerate := PySem.W.mg_none_of X G z_enumerate
    z_int := PySem.W.mg_none_of X G z_int
    z_isinstance := PySem.W.mg_none_of X G z_isinstance
    z_len := PySem.W.mg_none_of X G z_len
    z_list := PySem.W.mg_none_of X G z_list
    z_max := PySem.W.mg_none_of X G z_max
    z_min := PySem.W.mg_none_of X G z_min
    z_range := PySem.W.mg_none_of X G z_range
    z_str := PySem.W.mg_none_of X G z_str
    z_sum := PySem.W.mg_none_of X G z_sum
    z_tuple := PySem.W.mg_none_of X G z_tuple }, rfl⟩
theorem tabB {base : Heap} {mg : Str → Option Value} {c P : Addr} (h : LamX.TabB base mg c P) : GxR.TabB base mg c P := ⟨h.code, h.bm, h.gP⟩
theorem tab_of {K : PySem.W.Frag} {mg : Str → Option Value} {h : Heap} (T : Top K mg) (KX : K.In h) (t : TabOf h mg "is_memory") : PySem.W.CodeHd h T.cc_is_memory T.tb_is_memory ∧ h.get? T.tb_is_memory = some { cls := .none, data := .fields #[] } := by
  obtain ⟨a, o, fd, c, P, h1, h2, h3, h4, h5, h6⟩ := t
  cases T.g_is_memory.symm.trans h1
  obtain ⟨oc, od, kV, doc, pm, an, ct, osl, efd, lk, hcd⟩ := T.C_is_memory.ex
  have e1 := (KX _ _ lk).symm.trans h2
  cases e1
  cases h3
  rw [efd] at h4
  cases h4
  obtain ⟨e, dd, us, sl, q1, q2⟩ := T.cp_is_memory
  obtain ⟨ob, ws, r1⟩ := _root_.id h5
  obtain ⟨file, tf, flags, tg, inF, text, tt, r2, r3, r4, r5, _⟩ := r1
  have e2 := (KX _ _ q1).symm.trans r2
  cases e2
  cases r4
  rw [q2] at r5
  cases r5
  exact ⟨h5, h6⟩
theorem walk {l : PySem.W.OpenLaw} {q : Program} {loose : List Str} {XP : (Str → Option Value) → Heap → Prop} {YP : World → Heap → Prop} {d : DefRec} {K : Params → PySem.W.Frag} (hn : l.most = some 63) (hdf : d.params.defaults = []) (hname : d.name = "law")
    (hrec : ([("is_memory" : Str)].all fun nm => (recsOf q).any fun e => e.name == nm) = true) (hY : ∀ (w : World) (h : Heap), YP w h → (K w.params).In h)
    (F : ∀ (w : World) (mg : Str → Option Value) (h : Heap), (K w.params).In h → h.Ns mainGlobals mg → ∃ T : Top (K w.params) mg, T.pw = w.params) :
    PySem.W.WalkO q loose XP YP l.row.toRowW d [] (fun f vs => PySem.call f vs) :=
  walk_tabs (n := 63) (k := 20) (x := "_law_script") (nms := ["is_memory"]) (CX := fun _ => CX0) hn (by decide) hdf ⟨rfl, by decide, by decide⟩ hrec hY
    (fun w mg fa h _ KX G hmg tabs => by
      obtain ⟨T, hW⟩ := F w mg h KX G
      rw [hname] at hmg
      cases hmg.symm.trans T.g_law
      obtain ⟨tc, tt⟩ := tab_of T KX (tabs "is_memory" (by simp))
      obtain ⟨oc, od, kV, doc, pm, an, cdv, ct, osl, efd, _, _⟩ := T.F_law.ex
      refine ⟨T.fd_law, [(T.cc_is_memory, T.tb_is_memory)], thawed (K w.params) (spLaw (K w.params) T.tb_is_memory), fun p hp => ?_, fun p hp => ?_, fun p hp => ?_, fun s v => ?_, fun H a ns _ _ hH hS => ⟨a, ns.map V.int, rfl, hS, fun H2 hb hs => ⟨a, ns, rfl, hs, ?_, fun _ => rfl⟩⟩, fun base _ _ hT => frz_ok ((ok_law T hW.symm (tabB (hT _ List.mem_cons_self))).mono (by decide))⟩
      · rw [List.mem_singleton.mp hp]
        exact tt
      · rw [List.mem_singleton.mp hp]
        exact T.np_is_memory
      · rw [List.mem_singleton.mp hp]
        exact tc
      · rw [efd]
        exact .of_eq rfl
      · have z := hH _ List.mem_cons_self
        refine ⟨#[], (hb _ fun e => ?_).trans z, True.intro⟩
        rcases hS with (q | ⟨_, q⟩) | ⟨o, _, _, q, _⟩
        · rw [← e, z] at q
          cases q
        · rw [← e, z] at q
          cases q
        · have e : T.tb_is_memory = a := e
          rw [← e, T.np_is_memory] at q
          cases q)
    fun _ _ _ _ _ z => z

end SwD
set_option Elab.async false
open PySem PySem.W PyProof.Rows
set_option maxRecDepth 100000 in
set_option maxHeartbeats 0 in
theorem PySem.Challenge.cw_stridewell_k05_whole_never_another_answe_holds : PySem.Challenge.rw_stridewell_k05_whole_never_another_answe.Holds := by
  w_on; o_law; k_head; (case hw => w_witness2)
  k_fill
  refine SwD.walk (l := PySem.Challenge.rw_stridewell_k05_whole_never_another_answe) rfl rfl rfl ?hrec (fun w h Y => PySem.W.kIn_of Y) ?F
  case hrec => decide +kernel
  case F =>
    intro w mg h KX G
    refine' SwD.mk_top KX G w.params ?q0 ?q1 ?q2 ?q3 ?q4 ?q5 ?q6 ?q7 ?q8 ?q9 ?q10 ?q11 ?q12 ?q13 ?q14 ?q15 ?q16 ?q17 ?q18 ?q19 ?q20 ?q21 ?q22 ?q23 ?q24 ?q25 ?q26 ?q27 ?q28 ?q29 ?q30 ?q31 ?q32 ?q33 ?q34 ?q35 ?q36 ?q37 ?q38 ?q39 ?q40 ?q41 ?q42 ?q43 ?q44 ?q45 ?q46 ?q47 ?q48 ?q49 ?q50 ?q51 ?q52 ?q53 ?q54 ?q55 ?q56 ?q57 ?q58 ?q59 ?q60 ?q61 ?q62 ?q63 ?q64 ?q65 ?q66 ?q67 ?q68 ?q69 ?q70 ?q71 ?q72 ?q73 ?q74 ?q75 ?q76 ?q77 ?q78 ?q79 ?q80 ?q81 ?q82 ?q83 ?q84 ?q85 ?q86 ?q87 ?q88 ?q89 ?q90 ?q91 ?q92 ?q93 ?q94 ?q95 ?q96 ?q97 ?q98 ?q99 ?q100 ?q101 ?q102 ?q103 ?q104 ?q105 ?q106 ?q107 ?q108 ?q109 ?q110 ?q111 ?q112 ?q113 ?q114 ?q115 ?q116 ?q117 ?q118 ?q119 ?q120 ?q121 ?q122 ?q123 ?q124 ?q125 ?q126 ?q127 ?q128 ?q129 ?q130 ?q131 ?q132 ?q133 ?q134 ?q135 ?q136 ?q137 ?q138 ?q139 ?q140 ?q141 ?q142 ?q143 ?q144 ?q145 ?q146 ?q147 ?q148 ?q149 ?q150 ?q151 ?q152 ?q153 ?q154 ?q155 ?q156 ?q157 ?q158 ?q159 ?q160 ?q161 ?q162 ?q163 ?q164 ?q165 ?q166 ?q167 ?q168 ?q169 ?q170 ?q171 ?q172 ?q173 ?q174 ?q175 ?q176 ?q177 ?q178 ?q179 ?q180 ?q181 ?q182 ?q183 ?q184 ?q185 ?q186 ?q187 ?q188 ?q189 ?q190 ?q191 ?q192 ?q193 ?q194 ?q195 ?q196 ?q197 ?q198 ?q199 ?q200 ?q201 ?q202 ?q203 ?q204 ?q205 ?q206 ?q207 ?q208 ?q209 ?q210 ?q211 ?q212 ?q213 ?q214 ?q215 ?q216 ?q217 ?q218 ?q219 ?q220 ?q221 ?q222 ?q223 ?q224 ?q225 ?q226 ?q227 ?q228 ?q229 ?q230 ?q231 ?q232 ?q233 ?q234 ?q235 ?q236 ?q237 ?q238 ?q239 ?q240 ?q241 ?q242 ?q243 ?q244 ?q245 ?q246 ?q247 ?q248 ?q249 ?q250 ?q251 ?q252 ?q253 ?q254 ?q255 ?q256 ?q257 ?q258 ?q259 ?q260 ?q261 ?q262 ?q263 ?q264 ?q265 ?q266 ?q267 ?q268 ?q269 ?q270 ?q271 ?q272 ?q273 ?q274 ?q275 ?q276 ?q277 ?q278 ?q279 ?q280 ?q281 ?q282 ?q283 ?q284 ?q285 ?q286 ?q287 ?q288 ?q289 ?q290 ?q291 ?q292 ?q293 ?q294 ?q295 ?q296 ?q297 ?q298 ?q299 ?q300 ?q301 ?q302 ?q303 ?q304 ?q305 ?q306 ?q307 ?q308 ?q309
    (case q0 => k_is)
    (case q1 => k_is)
    (case q2 => k_is)
    (case q3 => k_is)
    (case q4 => k_is)
    (case q5 => k_is)
    (case q6 => k_is)
    (case q7 => k_is)
    (case q8 => k_is)
    (case q9 => k_is)
    (case q10 => k_is)
    (case q11 => k_is)
    (case q12 => k_is)
    (case q13 => k_is)
    (case q14 => k_is)
    (case q15 => k_is)
    (case q16 => k_is)
    (case q17 => k_is)
    (case q18 => k_is)
    (case q19 => k_is)
    (case q20 => k_is)
    (case q21 => k_is)
    (case q22 => k_is)
    (case q23 => k_is)
    (case q24 => k_is)
    (case q25 => k_is)
    (case q26 => k_is)
    (case q27 => k_is)
    (case q28 => k_is)
    (case q29 => k_is)
    (case q30 => k_is)
    (case q31 => k_is)
    (case q32 => k_is)
    (case q33 => k_is)
    (case q34 => k_is)
    (case q35 => k_is)
    (case q36 => k_is)
    (case q37 => k_is)
    (case q38 => k_is)
    (case q39 => k_is)
    (case q40 => k_is)
    (case q41 => k_is)
    (case q42 => k_is)
    (case q43 => k_is)
    (case q44 => k_is)
    (case q45 => k_is)
    (case q46 => k_is)
    (case q47 => k_is)
    (case q48 => k_is)
    (case q49 => k_is)
    (case q50 => k_is)
    (case q51 => k_is)
    (case q52 => k_is)
    (case q53 => k_is)
    (case q54 => k_is)
    (case q55 => k_is)
    (case q56 => k_is)
    (case q57 => k_is)
    (case q58 => k_is)
    (case q59 => k_is)
    (case q60 => k_is)
    (case q61 => k_is)
    (case q62 => k_is)
    (case q63 => k_is)
    (case q64 => k_is)
    (case q65 => k_is)
    (case q66 => k_is)
    (case q67 => k_is)
    (case q68 => k_is)
    (case q69 => k_is)
    (case q70 => k_is)
    (case q71 => k_is)
    (case q72 => k_is)
    (case q73 => k_is)
    (case q74 => k_is)
    (case q75 => k_is)
    (case q76 => k_is)
    (case q77 => k_is)
    (case q78 => k_is)
    (case q79 => k_is)
    (case q80 => k_is)
    (case q81 => k_is)
    (case q82 => k_is)
    (case q83 => k_is)
    (case q84 => k_is)
    (case q85 => k_is)
    (case q86 => k_is)
    (case q87 => k_is)
    (case q88 => k_is)
    (case q89 => k_is)
    (case q90 => k_is)
    (case q91 => k_is)
    (case q92 => k_is)
    (case q93 => k_is)
    (case q94 => k_is)
    (case q95 => k_is)
    (case q96 => k_is)
    (case q97 => k_is)
    (case q98 => k_is)
    (case q99 => k_is)
    (case q100 => k_is)
    (case q101 => k_is)
    (case q102 => k_is)
    (case q103 => k_is)
    (case q104 => k_is)
    (case q105 => k_is)
    (case q106 => k_is)
    (case q107 => k_is)
    (case q108 => k_is)
    (case q109 => k_is)
    (case q110 => k_is)
    (case q111 => k_is)
    (case q112 => k_is)
    (case q113 => k_is)
    (case q114 => k_is)
    (case q115 => k_is)
    (case q116 => k_is)
    (case q117 => k_is)
    (case q118 => k_is)
    (case q119 => k_is)
    (case q120 => k_is)
    (case q121 => k_is)
    (case q122 => k_is)
    (case q123 => k_is)
    (case q124 => k_is)
    (case q125 => k_is)
    (case q126 => k_is)
    (case q127 => k_is)
    (case q128 => k_is)
    (case q129 => k_is)
    (case q130 => k_is)
    (case q131 => k_is)
    (case q132 => k_is)
    (case q133 => k_is)
    (case q134 => k_is)
    (case q135 => k_is)
    (case q136 => k_is)
    (case q137 => k_is)
    (case q138 => k_is)
    (case q139 => k_is)
    (case q140 => k_is)
    (case q141 => k_is)
    (case q142 => k_is)
    (case q143 => k_is)
    (case q144 => k_is)
    (case q145 => k_is)
    (case q146 => k_is)
    (case q147 => k_is)
    (case q148 => k_is)
    (case q149 => k_is)
    (case q150 => k_is)
    (case q151 => k_is)
    (case q152 => k_is)
    (case q153 => k_is)
    (case q154 => k_is)
    (case q155 => k_is)
    (case q156 => k_is)
    (case q157 => k_is)
    (case q158 => k_is)
    (case q159 => k_is)
    (case q160 => k_is)
    (case q161 => k_is)
    (case q162 => k_is)
    (case q163 => k_is)
    (case q164 => k_is)
    (case q165 => k_is)
    (case q166 => k_is)
    (case q167 => k_is)
    (case q168 => k_is)
    (case q169 => k_is)
    (case q170 => k_is)
    (case q171 => k_is)
    (case q172 => k_is)
    (case q173 => k_is)
    (case q174 => k_is)
    (case q175 => k_is)
    (case q176 => k_is)
    (case q177 => k_is)
    (case q178 => k_is)
    (case q179 => k_is)
    (case q180 => k_is)
    (case q181 => k_is)
    (case q182 => k_is)
    (case q183 => k_is)
    (case q184 => k_is)
    (case q185 => k_is)
    (case q186 => k_is)
    (case q187 => k_is)
    (case q188 => k_is)
    (case q189 => k_is)
    (case q190 => k_is)
    (case q191 => k_is)
    (case q192 => k_is)
    (case q193 => k_is)
    (case q194 => k_is)
    (case q195 => k_is)
    (case q196 => k_is)
    (case q197 => k_is)
    (case q198 => k_is)
    (case q199 => k_is)
    (case q200 => k_is)
    (case q201 => k_is)
    (case q202 => k_is)
    (case q203 => k_is)
    (case q204 => k_is)
    (case q205 => k_is)
    (case q206 => k_is)
    (case q207 => k_is)
    (case q208 => k_is)
    (case q209 => k_is)
    (case q210 => k_is)
    (case q211 => k_is)
    (case q212 => k_is)
    (case q213 => k_is)
    (case q214 => k_is)
    (case q215 => k_is)
    (case q216 => k_is)
    (case q217 => k_is)
    (case q218 => k_is)
    (case q219 => k_is)
    (case q220 => k_is)
    (case q221 => k_is)
    (case q222 => k_is)
    (case q223 => k_is)
    (case q224 => k_is)
    (case q225 => k_is)
    (case q226 => k_is)
    (case q227 => k_is)
    (case q228 => k_is)
    (case q229 => k_is)
    (case q230 => k_is)
    (case q231 => k_is)
    (case q232 => k_is)
    (case q233 => k_is)
    (case q234 => k_is)
    (case q235 => k_is)
    (case q236 => k_is)
    (case q237 => k_is)
    (case q238 => k_is)
    (case q239 => k_is)
    (case q240 => k_is)
    (case q241 => k_is)
    (case q242 => k_is)
    (case q243 => k_is)
    (case q244 => k_is)
    (case q245 => k_is)
    (case q246 => k_is)
    (case q247 => k_is)
    (case q248 => k_is)
    (case q249 => k_is)
    (case q250 => k_is)
    (case q251 => k_is)
    (case q252 => k_is)
    (case q253 => k_is)
    (case q254 => k_is)
    (case q255 => k_is)
    (case q256 => k_is)
    (case q257 => k_is)
    (case q258 => k_is)
    (case q259 => k_is)
    (case q260 => k_is)
    (case q261 => k_is)
    (case q262 => k_is)
    (case q263 => k_is)
    (case q264 => k_is)
    (case q265 => k_is)
    (case q266 => k_is)
    (case q267 => k_is)
    (case q268 => k_is)
    (case q269 => k_is)
    (case q270 => k_is)
    (case q271 => k_is)
    (case q272 => k_is)
    (case q273 => k_is)
    (case q274 => k_is)
    (case q275 => k_is)
    (case q276 => k_is)
    (case q277 => k_is)
    (case q278 => k_is)
    (case q279 => k_is)
    (case q280 => k_is)
    (case q281 => k_is)
    (case q282 => exact ⟨⟨_, _, rfl, rfl⟩, ⟨_, _, rfl, rfl⟩, ⟨_, _, rfl, rfl⟩, True.intro⟩)
    (case q283 => decide)
    (case q284 => k_is)
    (case q285 => k_is)
    (case q286 => k_is)
    (case q287 => k_is)
    (case q288 => k_is)
    (case q289 => k_is)
    (case q290 => k_is)
    (case q291 => k_is)
    (case q292 => k_is)
    (case q293 => k_is)
    (case q294 => k_is)
    (case q295 => exact rfl)
    (case q296 => exact rfl)
    (case q297 => k_is)
    (case q298 => k_is)
    (case q299 => k_is)
    (case q300 => k_is)
    (case q301 => k_is)
    (case q302 => k_is)
    (case q303 => k_is)
    (case q304 => k_is)
    (case q305 => k_is)
    (case q306 => k_is)
    (case q307 => k_is)
    (case q308 => k_is)
    (case q309 => k_is)
