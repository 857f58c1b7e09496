import PyProof.Rows.All
import Wide.All
import OpenK.AllK
import Wide.FinOn
import HandS.ForMost
import HandS.ForExc
import HandS.Evl
import HandS.Wide
import HandS.Gcd
import HandS.IsInst
import HandS.Zip
import HandS.ExcIs
import HandS.RaiseMore
import HandS.TryMany
import HandS.Defaults
import HandS.Star
import PyProof.ReprLen
import PyProof.ReprReads
import PySem.Challenge.RW_rivalprices_k16_dominant_equations_have
set_option Elab.async false
set_option linter.all false
set_option maxRecDepth 100000
set_option maxHeartbeats 2000000
namespace RP
open PySem PySem.Spec PyProof.Rows L2

/-! ### data: what a value stands for -/
inductive RD where
  | non | bl (b : Bool) | int (i : Int) | str (x : Str)
  | tup (ds : List RD) | lst (ds : List RD)
  | dk (ks : List Key) (ds : List RD)
  | dt (ks : List (List Key)) (ds : List RD)
  | obj (C : Addr) (fs : List Str) (ds : List RD)
  | ty (n : String) | cls (C : Addr)
  | scr (ns : List Int)
instance : Inhabited RD := ⟨.non⟩
mutual
inductive Rp (K : PySem.W.Frag) (G : Hp) : V → RD → Prop
  | non : Rp K G .non .non
  | bl (b : Bool) : Rp K G (.bl b) (.bl b)
  | int (i : Int) : Rp K G (.int i) (.int i)
  | str (x : Str) : Rp K G (.str x) (.str x)
  | tup {a : Addr} {xs : List V} {ds : List RD} : SqT K G a xs → RpAll K G xs ds → Rp K G (.ref a) (.tup ds)
  | lst {a : Addr} {xs : List V} {ds : List RD} : G a = some (.lst xs) → RpAll K G xs ds → Rp K G (.ref a) (.lst ds)
  | scr {a : Addr} {ns : List Int} : SqL K G a (ns.map V.int) → Rp K G (.ref a) (.scr ns)
  | dk {a : Addr} {kvs : List (Key × V)} {ks : List Key} {xs : List V} {ds : List RD} : G a = some (.dK kvs) → kvs = ks.zip xs → ks.length = xs.length → RpAll K G xs ds → Rp K G (.ref a) (.dk ks ds)
  | dt {a : Addr} {kvs : List (List Key × V)} {ks : List (List Key)} {xs : List V} {ds : List RD} : G a = some (.dT kvs) → kvs = ks.zip xs → ks.length = xs.length → RpAll K G xs ds → Rp K G (.ref a) (.dt ks ds)
  | obj {a C dx : Addr} {fvs : List (Str × V)} {fs : List Str} {xs : List V} {ds : List RD} : G a = some (.ins C dx fvs) → fvs = fs.zip xs → fs.length = xs.length → RpAll K G xs ds → Rp K G (.ref a) (.obj C fs ds)
  | ty (n : String) : Rp K G (.ty n) (.ty n)
  | cls (C : Addr) : Rp K G (.ref C) (.cls C)
inductive RpAll (K : PySem.W.Frag) (G : Hp) : List V → List RD → Prop
  | nil : RpAll K G [] []
  | cons {v : V} {vs : List V} {d : RD} {ds : List RD} : Rp K G v d → RpAll K G vs ds → RpAll K G (v :: vs) (d :: ds)
end

abbrev Ex := @Evl.Ex
section
variable {K : PySem.W.Frag} {G G' : Hp}
mutual
theorem Rp.mono (e : Evl.Ex G G') : ∀ {v : V} {d : RD}, Rp K G v d → Rp K G' v d
  | _, _, .non => .non
  | _, _, .bl b => .bl b
  | _, _, .int i => .int i
  | _, _, .str x => .str x
  | _, _, .tup h r => .tup (Evl.ex_t e h) (RpAll.mono e r)
  | _, _, .lst h r => .lst (e _ _ h) (RpAll.mono e r)
  | _, _, .scr h => .scr (Evl.ex_l e h)
  | _, _, .dk h a b r => .dk (e _ _ h) a b (RpAll.mono e r)
  | _, _, .dt h a b r => .dt (e _ _ h) a b (RpAll.mono e r)
  | _, _, .obj h a b r => .obj (e _ _ h) a b (RpAll.mono e r)
  | _, _, .ty n => .ty n
  | _, _, .cls C => .cls C
theorem RpAll.mono (e : Evl.Ex G G') : ∀ {vs : List V} {ds : List RD}, RpAll K G vs ds → RpAll K G' vs ds
  | _, _, .nil => .nil
  | _, _, .cons a b => .cons (Rp.mono e a) (RpAll.mono e b)
end
theorem RpAll.length {vs : List V} {ds : List RD} : RpAll K G vs ds → vs.length = ds.length
  | .nil => rfl
  | .cons _ b => congrArg (· + 1) (RpAll.length b)
theorem RpAll.get : ∀ {vs : List V} {ds : List RD} {i : Nat} {d : RD}, RpAll K G vs ds → ds[i]? = some d → ∃ v, vs[i]? = some v ∧ Rp K G v d
  | _, _, 0, d, .cons a b, h => ⟨_, rfl, by cases h; exact a⟩
  | _, _, i + 1, d, .cons a b, h => RpAll.get (i := i) b h
theorem RpAll.getV : ∀ {vs : List V} {ds : List RD} {i : Nat} {v : V}, RpAll K G vs ds → vs[i]? = some v → ∃ d, ds[i]? = some d ∧ Rp K G v d
  | _, _, 0, d, .cons a b, h => ⟨_, rfl, by cases h; exact a⟩
  | _, _, i + 1, d, .cons a b, h => RpAll.getV (i := i) b h
theorem RpAll.append : ∀ {vs us : List V} {ds es : List RD}, RpAll K G vs ds → RpAll K G us es → RpAll K G (vs ++ us) (ds ++ es)
  | _, _, _, _, .nil, h => h
  | _, _, _, _, .cons a b, h => .cons a (RpAll.append b h)
theorem RpAll.take : ∀ {vs : List V} {ds : List RD} (n : Nat), RpAll K G vs ds → RpAll K G (vs.take n) (ds.take n)
  | _, _, 0, _ => by rw [List.take_zero, List.take_zero]; exact .nil
  | _, _, n + 1, .nil => .nil
  | _, _, n + 1, .cons a b => .cons a (RpAll.take n b)
theorem RpAll.drop : ∀ {vs : List V} {ds : List RD} (n : Nat), RpAll K G vs ds → RpAll K G (vs.drop n) (ds.drop n)
  | _, _, 0, h => h
  | _, _, n + 1, .nil => .nil
  | _, _, n + 1, .cons a b => RpAll.drop n b
theorem RpAll.set : ∀ {vs : List V} {ds : List RD} (i : Nat) {v : V} {d : RD}, RpAll K G vs ds → Rp K G v d → RpAll K G (vs.set i v) (ds.set i d)
  | _, _, _, _, _, .nil, _ => .nil
  | _, _, 0, _, _, .cons a b, h => .cons h b
  | _, _, i + 1, _, _, .cons a b, h => .cons a (RpAll.set i b h)
theorem RpAll.ints : ∀ (ns : List Int), RpAll K G (ns.map V.int) (ns.map RD.int)
  | [] => .nil
  | n :: r => .cons (.int n) (RpAll.ints r)
theorem Rp.int_inv {v : V} {i : Int} (h : Rp K G v (.int i)) : v = .int i := by cases h; rfl
theorem Rp.bl_inv {v : V} {b : Bool} (h : Rp K G v (.bl b)) : v = .bl b := by cases h; rfl
theorem Rp.str_inv {v : V} {x : Str} (h : Rp K G v (.str x)) : v = .str x := by cases h; rfl
theorem Rp.non_inv {v : V} (h : Rp K G v .non) : v = .non := by cases h; rfl
theorem Rp.tup_inv {v : V} {ds : List RD} (h : Rp K G v (.tup ds)) : ∃ a xs, v = .ref a ∧ SqT K G a xs ∧ RpAll K G xs ds := by
  cases h with
  | tup a b => exact ⟨_, _, rfl, a, b⟩
theorem Rp.lst_inv {v : V} {ds : List RD} (h : Rp K G v (.lst ds)) : ∃ a xs, v = .ref a ∧ G a = some (.lst xs) ∧ RpAll K G xs ds := by
  cases h with
  | lst a b => exact ⟨_, _, rfl, a, b⟩
end

/-! ### steps of the heap: H the heap, G the part of it that data lean on -/
structure Sx (G H G' H' : Hp) : Prop where
  h : Evl.Ex H H'
  g : Evl.Ex G G'
  s : Evl.Ex G' H'
  n : ∀ a, G' a ≠ none → G a ≠ none ∨ H a = none
theorem Sx.refl {G H : Hp} (e : Evl.Ex G H) : Sx G H G H := ⟨Evl.Ex.refl H, Evl.Ex.refl G, e, fun _ h => .inl h⟩
theorem Sx.trans {G H G1 H1 G2 H2 : Hp} (a : Sx G H G1 H1) (b : Sx G1 H1 G2 H2) : Sx G H G2 H2 :=
  ⟨a.h.trans b.h, a.g.trans b.g, b.s, fun x hx => by
    rcases b.n x hx with h | h
    · exact a.n x h
    · exact .inr (Evl.fresh_back a.h h)⟩
/-- a new object that data may lean on -/
theorem Sx.new {G H : Hp} {p : Addr} {o : HO} (e : Evl.Ex G H) (hp : H p = none) : Sx G H (upd G p o) (upd H p o) :=
  ⟨Evl.Ex.new hp, Evl.Ex.new (Evl.fresh_back e hp), fun a u ha => by
    by_cases h : a = p
    · subst h; rw [upd_same] at ha ⊢; exact ha
    · rw [upd_ne h] at ha ⊢; exact e a u ha,
   fun a ha => by
    by_cases h : a = p
    · subst h; exact .inr hp
    · rw [upd_ne h] at ha; exact .inl ha⟩
/-- a new object of one's own -/
theorem Sx.newH {G H : Hp} {p : Addr} {o : HO} (e : Evl.Ex G H) (hp : H p = none) : Sx G H G (upd H p o) :=
  ⟨Evl.Ex.new hp, Evl.Ex.refl G, e.trans (Evl.Ex.new hp), fun _ ha => .inl ha⟩

/-! ### the slots by what they stand for -/
inductive SV where
  | un | dat (d : RD) | own (ds : List RD)
abbrev Sg := List SV
structure Abs (K : PySem.W.Frag) (G0 H0 G H : Hp) (σ : L2.St) (S : Sg) : Prop where
  sx : Sx G0 H0 G H
  len : σ.length = S.length
  dat : ∀ (i : Nat) (d : RD), S[i]? = some (.dat d) → ∃ v, σ[i]? = some (some v) ∧ Rp K G v d
  own : ∀ (i : Nat) (ds : List RD), S[i]? = some (.own ds) → ∃ a vs, σ[i]? = some (some (.ref a)) ∧ H a = some (.lst vs) ∧ G a = none ∧ H0 a = none ∧ RpAll K G vs ds
  sep : ∀ (i j : Nat) (ds es : List RD) (a : Addr), S[i]? = some (.own ds) → S[j]? = some (.own es) → σ[i]? = some (some (.ref a)) → σ[j]? = some (some (.ref a)) → i = j
section
variable {K : PySem.W.Frag} {G0 H0 G H G' H' : Hp} {σ : L2.St} {S : Sg}
theorem Abs.gh (A : Abs K G0 H0 G H σ S) : Evl.Ex G H := A.sx.s
theorem Sx.stay_none {a : Addr} {o : HO} (s : Sx G H G' H') (ha : H a = some o) (g : G a = none) : G' a = none := by
  cases e : G' a with
  | none => rfl
  | some u =>
    rcases s.n a (by rw [e]; simp) with h | h
    · exact absurd g h
    · rw [ha] at h; cases h
theorem Abs.ext (A : Abs K G0 H0 G H σ S) (s : Sx G H G' H') : Abs K G0 H0 G' H' σ S :=
  ⟨A.sx.trans s, A.len, fun i d h => by
    obtain ⟨v, h1, h2⟩ := A.dat i d h
    exact ⟨v, h1, h2.mono s.g⟩,
   fun i ds h => by
    obtain ⟨a, vs, h1, h2, h3, h4, h5⟩ := A.own i ds h
    exact ⟨a, vs, h1, s.h a _ h2, s.stay_none h2 h3, h4, h5.mono s.g⟩, A.sep⟩
/-- what a slot holds: data -/
theorem Abs.setD {i : Nat} {v : V} {d : RD} (A : Abs K G0 H0 G H σ S) (h : Rp K G v d) : Abs K G0 H0 G H (σ.set i (some v)) (S.set i (.dat d)) := by
  refine ⟨A.sx, by rw [List.length_set, List.length_set]; exact A.len, fun j e hj => ?_, fun j ds hj => ?_, fun j k ds es a hj hk ej ek => ?_⟩
  · by_cases hij : i = j
    · subst hij
      have hl : i < S.length := by
        have := (List.getElem?_eq_some_iff.mp hj).1
        rw [List.length_set] at this; exact this
      rw [List.getElem?_set_self hl] at hj
      cases hj
      exact ⟨v, List.getElem?_set_self (by rw [A.len]; exact hl), h⟩
    · rw [List.getElem?_set_ne hij] at hj
      obtain ⟨u, h1, h2⟩ := A.dat j e hj
      exact ⟨u, by rw [List.getElem?_set_ne hij]; exact h1, h2⟩
  · by_cases hij : i = j
    · subst hij
      have hl : i < S.length := by
        have := (List.getElem?_eq_some_iff.mp hj).1
        rw [List.length_set] at this; exact this
      rw [List.getElem?_set_self hl] at hj
      cases hj
    · rw [List.getElem?_set_ne hij] at hj
      obtain ⟨a, vs, h1, h2⟩ := A.own j ds hj
      exact ⟨a, vs, by rw [List.getElem?_set_ne hij]; exact h1, h2⟩
  · have nj : i ≠ j := fun z => by
      subst z
      have hl : i < S.length := by
        have := (List.getElem?_eq_some_iff.mp hj).1
        rw [List.length_set] at this; exact this
      rw [List.getElem?_set_self hl] at hj; cases hj
    have nk : i ≠ k := fun z => by
      subst z
      have hl : i < S.length := by
        have := (List.getElem?_eq_some_iff.mp hk).1
        rw [List.length_set] at this; exact this
      rw [List.getElem?_set_self hl] at hk; cases hk
    rw [List.getElem?_set_ne nj] at hj ej
    rw [List.getElem?_set_ne nk] at hk ek
    exact A.sep j k ds es a hj hk ej ek
end

/-! ### what readings give -/
section
variable (K : PySem.W.Frag)
def AE (te : TE) (S : Sg) (d : RD) : Prop := ∀ G0 H0 G H σ, Abs K G0 H0 G H σ S → ∀ Q : VK, (∀ v G' H', Sx G H G' H' → Rp K G' v d → Q v H') → te σ H Q
def AT (tt : TT) (S : Sg) (b : Bool) : Prop := ∀ G0 H0 G H σ, Abs K G0 H0 G H σ S → ∀ Q : Bool → Hp → Prop, (∀ G' H', Sx G H G' H' → Q b H') → tt σ H Q
def AA (ta : TA) (S : Sg) (ds : List RD) : Prop := ∀ G0 H0 G H σ, Abs K G0 H0 G H σ S → ∀ Q : List V → Hp → Prop, (∀ vs G' H', Sx G H G' H' → RpAll K G' vs ds → Q vs H') → ta σ H Q
def AO (to : TO) (S : Sg) (o : Option Int) : Prop := ∀ G0 H0 G H σ, Abs K G0 H0 G H σ S → ∀ Q : Option Int → Hp → Prop, (∀ G' H', Sx G H G' H' → Q o H') → to σ H Q
/-- an operation on two values; a call on values -/
def RO (r : R2) (d1 d2 d : RD) : Prop := ∀ G H x y, Evl.Ex G H → Rp K G x d1 → Rp K G y d2 → ∀ Q : VK, (∀ v G' H', Sx G H G' H' → Rp K G' v d → Q v H') → r x y H Q
def RU (r : V → Hp → VK → Prop) (d1 d : RD) : Prop := ∀ G H x, Evl.Ex G H → Rp K G x d1 → ∀ Q : VK, (∀ v G' H', Sx G H G' H' → Rp K G' v d → Q v H') → r x H Q
def RC (r : List V → Hp → VK → Prop) (ds : List RD) (d : RD) : Prop := ∀ G H vs, Evl.Ex G H → RpAll K G vs ds → ∀ Q : VK, (∀ v G' H', Sx G H G' H' → Rp K G' v d → Q v H') → r vs H Q
/-- a method of a built-in value -/
def RM (r : V → List V → Hp → VK → Prop) (d0 : RD) (ds : List RD) (d : RD) : Prop := ∀ G H x vs, Evl.Ex G H → Rp K G x d0 → RpAll K G vs ds → ∀ Q : VK, (∀ v G' H', Sx G H G' H' → Rp K G' v d → Q v H') → r x vs H Q
end

section
variable {K : PySem.W.Frag} {S : Sg} {ta tb te tx : TE} {t u : TT} {d d1 d2 d3 : RD} {r : R2}
theorem ae_var {i : Nat} (h : S[i]? = some (.dat d)) : AE K (tVar i) S d := fun G0 H0 G H σ A Q q => by
  obtain ⟨v, h1, h2⟩ := A.dat i d h
  exact ⟨v, h1, q v G H (.refl A.gh) h2⟩
theorem ae_c {v : V} (h : ∀ G, Rp K G v d) : AE K (tC v) S d := fun G0 H0 G H σ A Q q => q v G H (.refl A.gh) (h G)
theorem ae_int {i : Int} : AE K (tC (.int i)) S (.int i) := ae_c fun _ => .int i
theorem ae_bl {b : Bool} : AE K (tC (.bl b)) S (.bl b) := ae_c fun _ => .bl b
theorem ae_str {x : Str} : AE K (tC (.str x)) S (.str x) := ae_c fun _ => .str x
theorem ae_ty {n : String} : AE K (tC (.ty n)) S (.ty n) := ae_c fun _ => .ty n
theorem ae_non : AE K (tC .non) S .non := ae_c fun _ => .non
theorem ae_is {e : RD} (h : AE K te S d) (e1 : d = e) : AE K te S e := e1 ▸ h
theorem ae_op (ha : AE K ta S d1) (hb : AE K tb S d2) (hr : RO K r d1 d2 d) : AE K (tOp r ta tb) S d := fun G0 H0 G H σ A Q q =>
  ha G0 H0 G H σ A _ fun x G1 H1 s1 r1 => hb G0 H0 G1 H1 σ (A.ext s1) _ fun y G2 H2 s2 r2 => hr G2 H2 x y s2.s (r1.mono s2.g) r2 Q fun v G3 H3 s3 r3 => q v G3 H3 ((s1.trans s2).trans s3) r3
theorem ae_un {r : V → Hp → VK → Prop} (ha : AE K ta S d1) (hr : RU K r d1 d) : AE K (tUn r ta) S d := fun G0 H0 G H σ A Q q =>
  ha G0 H0 G H σ A _ fun x G1 H1 s1 r1 => hr G1 H1 x s1.s r1 Q fun v G3 H3 s3 r3 => q v G3 H3 (s1.trans s3) r3
theorem aa_nil : AA K tNil S [] := fun G0 H0 G H σ A Q q => q [] G H (.refl A.gh) .nil
theorem aa_cons {tr : TA} {ds : List RD} (h : AE K ta S d) (hr : AA K tr S ds) : AA K (tCons ta tr) S (d :: ds) := fun G0 H0 G H σ A Q q =>
  h G0 H0 G H σ A _ fun x G1 H1 s1 r1 => hr G0 H0 G1 H1 σ (A.ext s1) _ fun vs G2 H2 s2 r2 => q (x :: vs) G2 H2 (s1.trans s2) (.cons (r1.mono s2.g) r2)
theorem ae_tup {ta : TA} {ds : List RD} (h : AA K ta S ds) (hl : ds.length ≤ 100000) : AE K (tTup ta) S (.tup ds) := fun G0 H0 G H σ A Q q =>
  h G0 H0 G H σ A _ fun vs G1 H1 s1 r1 => ⟨Evl.sz_of (by rw [r1.length]; exact hl), fun p hp =>
    have sn := Sx.new (o := .tup vs) s1.s hp
    q (.ref p) _ _ (s1.trans sn) (.tup (Evl.st_of upd_same) (r1.mono sn.g))⟩
theorem ae_lst {ta : TA} {ds : List RD} (h : AA K ta S ds) (hl : ds.length ≤ 100000) : AE K (tLst ta) S (.lst ds) := fun G0 H0 G H σ A Q q =>
  h G0 H0 G H σ A _ fun vs G1 H1 s1 r1 => ⟨Evl.sz_of (by rw [r1.length]; exact hl), fun p hp =>
    have sn := Sx.new (o := .lst vs) s1.s hp
    q (.ref p) _ _ (s1.trans sn) (.lst upd_same (r1.mono sn.g))⟩
theorem ae_cb {r : List V → Hp → VK → Prop} {ta : TA} {ds : List RD} (h : AA K ta S ds) (hr : RC K r ds d) : AE K (tCB r ta) S d := fun G0 H0 G H σ A Q q =>
  h G0 H0 G H σ A _ fun vs G1 H1 s1 r1 => hr G1 H1 vs s1.s r1 Q fun v G2 H2 s2 r2 => q v G2 H2 (s1.trans s2) r2
theorem ae_if {b : Bool} (h : AT K t S b) (h1 : b = true → AE K ta S d) (h2 : b = false → AE K tb S d) : AE K (tIf t ta tb) S d := fun G0 H0 G H σ A Q q =>
  h G0 H0 G H σ A _ fun G1 H1 s1 => by
    cases b with
    | true => exact h1 rfl G0 H0 G1 H1 σ (A.ext s1) Q fun v G2 H2 s2 r2 => q v G2 H2 (s1.trans s2) r2
    | false => exact h2 rfl G0 H0 G1 H1 σ (A.ext s1) Q fun v G2 H2 s2 r2 => q v G2 H2 (s1.trans s2) r2
theorem ae_andV {a b : Bool} (h1 : AE K ta S (.bl a)) (h2 : a = true → AE K tb S (.bl b)) : AE K (tAndV ta tb) S (.bl (a && b)) := fun G0 H0 G H σ A Q q =>
  h1 G0 H0 G H σ A _ fun x G1 H1 s1 r1 => by
    cases r1
    refine ⟨a, rfl, ?_⟩
    cases a with
    | true => exact h2 rfl G0 H0 G1 H1 σ (A.ext s1) Q fun v G2 H2 s2 r2 => q v G2 H2 (s1.trans s2) r2
    | false => exact q _ G1 H1 s1 (.bl _)
theorem ae_orV {a b : Bool} (h1 : AE K ta S (.bl a)) (h2 : a = false → AE K tb S (.bl b)) : AE K (tOrV ta tb) S (.bl (a || b)) := fun G0 H0 G H σ A Q q =>
  h1 G0 H0 G H σ A _ fun x G1 H1 s1 r1 => by
    cases r1
    refine ⟨a, rfl, ?_⟩
    cases a with
    | false => exact h2 rfl G0 H0 G1 H1 σ (A.ext s1) Q fun v G2 H2 s2 r2 => q v G2 H2 (s1.trans s2) r2
    | true => exact q _ G1 H1 s1 (.bl _)
theorem ae_notV {a : Bool} (h1 : AE K ta S (.bl a)) : AE K (tNotV ta) S (.bl (!a)) := fun G0 H0 G H σ A Q q =>
  h1 G0 H0 G H σ A _ fun x G1 H1 s1 r1 => by
    cases r1
    exact ⟨a, rfl, q _ G1 H1 s1 (.bl _)⟩
theorem at_test {b : Bool} (h : AE K te S (.bl b)) : AT K (tTest te) S b := fun G0 H0 G H σ A Q q =>
  h G0 H0 G H σ A _ fun x G1 H1 s1 r1 => by
    cases r1
    exact ⟨b, rfl, q G1 H1 s1⟩
theorem at_B {b : Bool} (h : AE K te S (.bl b)) : AT K (tB te) S b := fun G0 H0 G H σ A Q q =>
  h G0 H0 G H σ A _ fun x G1 H1 s1 r1 => by
    cases r1
    exact ⟨b, rfl, q G1 H1 s1⟩
theorem at_and {a b : Bool} (h1 : AT K t S a) (h2 : a = true → AT K u S b) : AT K (tAnd t u) S (a && b) := fun G0 H0 G H σ A Q q =>
  h1 G0 H0 G H σ A _ fun G1 H1 s1 => by
    cases a with
    | true => exact h2 rfl G0 H0 G1 H1 σ (A.ext s1) Q fun G2 H2 s2 => q G2 H2 (s1.trans s2)
    | false => exact q G1 H1 s1
theorem at_or {a b : Bool} (h1 : AT K t S a) (h2 : a = false → AT K u S b) : AT K (tOr t u) S (a || b) := fun G0 H0 G H σ A Q q =>
  h1 G0 H0 G H σ A _ fun G1 H1 s1 => by
    cases a with
    | false => exact h2 rfl G0 H0 G1 H1 σ (A.ext s1) Q fun G2 H2 s2 => q G2 H2 (s1.trans s2)
    | true => exact q G1 H1 s1
theorem at_not {a : Bool} (h1 : AT K t S a) : AT K (tNot t) S (!a) := fun G0 H0 G H σ A Q q => h1 G0 H0 G H σ A _ fun G1 H1 s1 => q G1 H1 s1
theorem at_is {a b : Bool} (h : AT K t S a) (e : a = b) : AT K t S b := e ▸ h
theorem at_yes : AT K tYes S true := fun G0 H0 G H σ A Q q => q G H (.refl A.gh)
theorem ao_none : AO K tNoPart S none := fun G0 H0 G H σ A Q q => q G H (.refl A.gh)
theorem ao_some {i : Int} (h : AE K te S (.int i)) : AO K (tPart te) S (some i) := fun G0 H0 G H σ A Q q =>
  h G0 H0 G H σ A _ fun x G1 H1 s1 r1 => ⟨i, r1.int_inv, q G1 H1 s1⟩

/-! ### operations -/
theorem ro_I0i {g : Int → Int → Int} {i j : Int} : RO K (rI0 fun i j => .int (g i j)) (.int i) (.int j) (.int (g i j)) := fun G H x y e hx hy Q q => by
  cases hx; cases hy
  exact ⟨i, j, rfl, rfl, q _ G H (.refl e) (.int _)⟩
theorem ro_I0b {g : Int → Int → Bool} {i j : Int} : RO K (rI0 fun i j => .bl (g i j)) (.int i) (.int j) (.bl (g i j)) := fun G H x y e hx hy Q q => by
  cases hx; cases hy
  exact ⟨i, j, rfl, rfl, q _ G H (.refl e) (.bl _)⟩
theorem ro_Ii {C : Int → Int → Prop} {g : Int → Int → Int} {i j : Int} (hc : C i j) : RO K (rI C fun i j => .int (g i j)) (.int i) (.int j) (.int (g i j)) := fun G H x y e hx hy Q q => by
  cases hx; cases hy
  exact ⟨i, j, rfl, rfl, hc, q _ G H (.refl e) (.int _)⟩
theorem ru_i {g : Int → Int} {i : Int} : RU K (rU fun i => .int (g i)) (.int i) (.int (g i)) := fun G H x e hx Q q => by
  cases hx
  exact ⟨i, rfl, q _ G H (.refl e) (.int _)⟩
/-- == and != of ints, bools, texts, None -/
def scalD : RD → Option V
  | .int i => some (.int i)
  | .bl b => some (.bl b)
  | .str x => some (.str x)
  | .non => some .non
  | _ => none
theorem scalD_inv {G : Hp} {v w : V} {d : RD} (h : scalD d = some w) (r : Rp K G v d) : v = w := by
  cases r <;> simp [scalD] at h <;> exact h
theorem ro_eq {x y : V} (h1 : scalD d1 = some x) (h2 : scalD d2 = some y) (h : scal x y = true) : RO K rEq d1 d2 (.bl (decide (x = y))) := fun G H v w e hv hw Q q => by
  obtain rfl := scalD_inv h1 hv
  obtain rfl := scalD_inv h2 hw
  exact ⟨h, q _ G H (.refl e) (.bl _)⟩
theorem ro_ne {x y : V} (h1 : scalD d1 = some x) (h2 : scalD d2 = some y) (h : scal x y = true) : RO K rNe d1 d2 (.bl (!decide (x = y))) := fun G H v w e hv hw Q q => by
  obtain rfl := scalD_inv h1 hv
  obtain rfl := scalD_inv h2 hw
  exact ⟨h, q _ G H (.refl e) (.bl _)⟩
theorem ro_ltS {x y : Str} : RO K (fun a b H Q => ∃ i j : Str, a = .str i ∧ b = .str j ∧ Q (.bl (decide (i.cps.toList < j.cps.toList))) H) (.str x) (.str y) (.bl (decide (x.cps.toList < y.cps.toList))) := fun G H v w e hv hw Q q => by
  cases hv; cases hw
  exact ⟨x, y, rfl, rfl, q _ G H (.refl e) (.bl _)⟩
theorem atI_get {α : Type} {xs : List α} {i : Int} {x : α} (h : atI xs i = some x) : ∃ j, ixN xs.length i = some j ∧ xs[j]? = some x := by
  unfold atI at h
  cases e : ixN xs.length i with
  | none => rw [e] at h; cases h
  | some j => rw [e] at h; exact ⟨j, rfl, h⟩
theorem atI_vs {G : Hp} {vs : List V} {ds : List RD} {i : Int} {d : RD} (r : RpAll K G vs ds) (h : atI ds i = some d) : ∃ v, atI vs i = some v ∧ Rp K G v d := by
  obtain ⟨j, h1, h2⟩ := atI_get h
  obtain ⟨v, h3, h4⟩ := r.get h2
  refine ⟨v, ?_, h4⟩
  unfold atI
  rw [r.length, h1]
  exact h3
theorem ro_ixT {ds : List RD} {i : Int} (h : atI ds i = some d) : RO K (rIxT K) (.tup ds) (.int i) d := fun G H x y e hx hy Q q => by
  obtain ⟨a, xs, rfl, hs, ha⟩ := hx.tup_inv
  cases hy
  obtain ⟨v, h1, h2⟩ := atI_vs ha h
  exact ⟨a, xs, i, v, rfl, rfl, Evl.ex_t e hs, h1, q v G H (.refl e) h2⟩
theorem ro_ixL {ds : List RD} {i : Int} (h : atI ds i = some d) : RO K (rIxL K) (.lst ds) (.int i) d := fun G H x y e hx hy Q q => by
  obtain ⟨a, xs, rfl, hs, ha⟩ := hx.lst_inv
  cases hy
  obtain ⟨v, h1, h2⟩ := atI_vs ha h
  exact ⟨a, xs, i, v, rfl, rfl, Evl.ex_l e (Evl.sq_of hs), h1, q v G H (.refl e) h2⟩
theorem ro_ixsT {ds : List RD} {i : Int} (h : atI ds i = some d) : RO K (rIx K) (.tup ds) (.int i) d := fun G H x y e hx hy Q q => .inr (.inl (ro_ixT h G H x y e hx hy Q q))
theorem ro_ixsL {ds : List RD} {i : Int} (h : atI ds i = some d) : RO K (rIx K) (.lst ds) (.int i) d := fun G H x y e hx hy Q q => .inl (ro_ixL h G H x y e hx hy Q q)

/-! ### calls of defs -/
inductive Res where
  | ok (d : RD) | exc (c : Value)
/-- a promise over data: R, what the arguments' data give -/
def spF (K : PySem.W.Frag) (n : Nat) (R : List RD → Res → Prop) : Sp := fun vs H Q E => ∃ G ds r, vs.length = n ∧ Evl.Ex G H ∧ RpAll K G vs ds ∧ R ds r ∧
  match r with
  | .ok d => ∀ v G' H', Sx G H G' H' → Rp K G' v d → Q v H'
  | .exc c => ∀ H', Evl.Ex H H' → E c none H'
theorem ae_call {n : Nat} {R : List RD → Res → Prop} {dvs : List V} {E : XK} {ta : TA} {ds es : List RD} (h : AA K ta S ds) (hd : ∀ G, RpAll K G dvs es) (hn : (ds ++ es).length = n) (hR : R (ds ++ es) (.ok d)) : AE K (tCall (spF K n R) dvs E ta) S d := fun G0 H0 G H σ A Q q =>
  h G0 H0 G H σ A _ fun vs G1 H1 s1 r1 =>
    have ra := r1.append (hd G1)
    ⟨G1, ds ++ es, .ok d, by rw [ra.length]; exact hn, s1.s, ra, hR, fun v G2 H2 s2 r2 => q v G2 H2 (s1.trans s2) r2⟩
theorem ae_call0 {n : Nat} {R : List RD → Res → Prop} {E : XK} {ta : TA} {ds : List RD} (h : AA K ta S ds) (hn : ds.length = n) (hR : R ds (.ok d)) : AE K (tCall (spF K n R) [] E ta) S d :=
  ae_call (es := []) h (fun _ => .nil) (by rw [List.append_nil]; exact hn) (by rw [List.append_nil]; exact hR)
theorem ae_callS {n : Nat} {R : List RD → Res → Prop} {E : L2.St → XK} {ta : TA} {ds : List RD} (h : AA K ta S ds) (hn : ds.length = n) (hR : R ds (.ok d)) : AE K (tCallS (spF K n R) E ta) S d := fun G0 H0 G H σ A Q q =>
  h G0 H0 G H σ A _ fun vs G1 H1 s1 r1 =>
    ⟨G1, ds, .ok d, by rw [r1.length]; exact hn, s1.s, r1, hR, fun v G2 H2 s2 r2 => q v G2 H2 (s1.trans s2) r2⟩
end
end RP

set_option Elab.async false
set_option linter.all false
set_option maxRecDepth 100000
set_option maxHeartbeats 2000000
namespace RP
open PySem PySem.Spec PyProof.Rows L2

/-! ### statements -/
inductive Out where
  | nx (S : Sg) | rt (d : RD) | bk (S : Sg) | ct (S : Sg) | ex (c : Value) (S : Sg)
def Fin (K : PySem.W.Frag) (W : WX) (D : Ends) (G0 H0 G : Hp) : Out → Prop
  | .nx S => ∀ G' H' σ', Evl.Ex G G' → Abs K G0 H0 G' H' σ' S → D.nx σ' H'
  | .rt d => ∀ v G' H', Evl.Ex G G' → Sx G0 H0 G' H' → Rp K G' v d → D.rt v H'
  | .bk S => ∀ G' H' σ', Evl.Ex G G' → Abs K G0 H0 G' H' σ' S → D.bk σ' H'
  | .ct S => ∀ G' H' σ', Evl.Ex G G' → Abs K G0 H0 G' H' σ' S → D.ct σ' H'
  | .ex c S => ∀ G' H' σ', Evl.Ex G G' → Abs K G0 H0 G' H' σ' S → W c none σ' H'
def AS (K : PySem.W.Frag) (W : WX) (ts : TS) (S : Sg) (o : Out) : Prop := ∀ G0 H0 G H σ, Abs K G0 H0 G H σ S → ∀ D, Fin K W D G0 H0 G o → ts D σ H
/-- an expression that raises -/
def AX (K : PySem.W.Frag) (W : WX) (te : TE) (S : Sg) (c : Value) : Prop := ∀ G0 H0 G H σ, Abs K G0 H0 G H σ S → (∀ G' H', Sx G H G' H' → W c none σ H') → ∀ Q, te σ H Q
/-- what is known is forgotten in part -/
inductive Fg : Sg → Sg → Prop
  | nil : Fg [] []
  | keep {x : SV} {S T : Sg} (h : Fg S T) : Fg (x :: S) (x :: T)
  | drop {x : SV} {S T : Sg} (h : Fg S T) : Fg (x :: S) (.un :: T)
theorem Fg.refl : ∀ S, Fg S S
  | [] => .nil
  | x :: S => .keep (Fg.refl S)
theorem Fg.len {S T : Sg} (f : Fg S T) : S.length = T.length := by
  induction f with
  | nil => rfl
  | keep _ ih => exact congrArg (· + 1) ih
  | drop _ ih => exact congrArg (· + 1) ih
theorem Fg.at {S T : Sg} (f : Fg S T) : ∀ {i : Nat} {x : SV}, T[i]? = some x → x ≠ .un → S[i]? = some x := by
  induction f with
  | nil => intro i x h; simp at h
  | keep _ ih =>
    intro i x h hx
    cases i with
    | zero => exact h
    | succ i => exact ih (i := i) h hx
  | drop _ ih =>
    intro i x h hx
    cases i with
    | zero => cases h; exact absurd rfl hx
    | succ i => exact ih (i := i) h hx
theorem Abs.fg {K : PySem.W.Frag} {G0 H0 G H : Hp} {σ : L2.St} {S T : Sg} (A : Abs K G0 H0 G H σ S) (f : Fg S T) : Abs K G0 H0 G H σ T :=
  ⟨A.sx, A.len.trans f.len, fun i d h => A.dat i d (f.at h fun z => nomatch z), fun i ds h => A.own i ds (f.at h fun z => nomatch z),
   fun i j ds es a h k => A.sep i j ds es a (f.at h fun z => nomatch z) (f.at k fun z => nomatch z)⟩
def Out.goes : Out → Sg → Prop
  | .nx S, T => Fg S T
  | .ct S, T => Fg S T
  | _, _ => False
/-- what a turn's end that leaves the loop makes of the loop -/
def Out.leaves : Out → Out → Prop
  | .rt d, o => o = .rt d
  | .ex c S, o => o = .ex c S
  | .bk S, o => o = .nx S
  | _, _ => False
/-- neither next nor break nor continue -/
def Out.hard : Out → Bool
  | .rt _ => true
  | .ex _ _ => true
  | _ => false
section
variable {K : PySem.W.Frag} {W : WX} {S S1 S2 : Sg} {te ta tb : TE} {tt : TT} {t u : TS} {d : RD} {o : Out} {c : Value}
theorem Fin.mono {D : Ends} {G0 H0 G G' : Hp} (e : Evl.Ex G G') (f : Fin K W D G0 H0 G o) : Fin K W D G0 H0 G' o := by
  cases o with
  | nx S => exact fun G2 H2 σ2 e2 => f G2 H2 σ2 (e.trans e2)
  | rt d => exact fun v G2 H2 e2 => f v G2 H2 (e.trans e2)
  | bk S => exact fun G2 H2 σ2 e2 => f G2 H2 σ2 (e.trans e2)
  | ct S => exact fun G2 H2 σ2 e2 => f G2 H2 σ2 (e.trans e2)
  | ex c S => exact fun G2 H2 σ2 e2 => f G2 H2 σ2 (e.trans e2)
theorem as_next : AS K W tNext S (.nx S) := fun G0 H0 G H σ A D f => f G H σ (Evl.Ex.refl G) A
theorem as_seq (h1 : AS K W t S (.nx S1)) (h2 : AS K W u S1 o) : AS K W (tSeq t u) S o := fun G0 H0 G H σ A D f =>
  h1 G0 H0 G H σ A { D with nx := u D } fun G1 H1 σ1 e1 A1 => h2 G0 H0 G1 H1 σ1 A1 D (f.mono e1)
theorem as_stop (h1 : AS K W t S o) (ho : ∀ T, o ≠ .nx T) : AS K W (tSeq t u) S o := fun G0 H0 G H σ A D f =>
  h1 G0 H0 G H σ A { D with nx := u D } (by
    cases o with
    | nx T => exact absurd rfl (ho T)
    | rt d => exact f
    | bk T => exact f
    | ct T => exact f
    | ex c T => exact f)
theorem as_asg {i : Nat} (h : AE K te S d) : AS K W (tAsg te (gName i)) S (.nx (S.set i (.dat d))) := fun G0 H0 G H σ A D f =>
  h G0 H0 G H σ A _ fun v G1 H1 s1 r1 => f G1 H1 _ s1.g ((A.ext s1).setD r1)
theorem as_ret (h : AE K te S d) : AS K W (tRet te) S (.rt d) := fun G0 H0 G H σ A D f =>
  h G0 H0 G H σ A _ fun v G1 H1 s1 r1 => f v G1 H1 s1.g (A.sx.trans s1) r1
theorem as_retN : AS K W tRetN S (.rt .non) := fun G0 H0 G H σ A D f => f .non G H (Evl.Ex.refl G) A.sx .non
theorem as_drop (h : AE K te S d) : AS K W (tDrop te) S (.nx S) := fun G0 H0 G H σ A D f =>
  h G0 H0 G H σ A _ fun v G1 H1 s1 r1 => f G1 H1 _ s1.g (A.ext s1)
theorem as_if {b : Bool} (h : AT K tt S b) (h1 : b = true → AS K W t S o) (h2 : b = false → AS K W u S o) : AS K W (tIfS tt t u) S o := fun G0 H0 G H σ A D f =>
  h G0 H0 G H σ A _ fun G1 H1 s1 => by
    cases b with
    | true => exact h1 rfl G0 H0 G1 H1 σ (A.ext s1) D (f.mono s1.g)
    | false => exact h2 rfl G0 H0 G1 H1 σ (A.ext s1) D (f.mono s1.g)
theorem as_brk : AS K W tBreak S (.bk S) := fun G0 H0 G H σ A D f => f G H σ (Evl.Ex.refl G) A
theorem as_cont : AS K W tCont S (.ct S) := fun G0 H0 G H σ A D f => f G H σ (Evl.Ex.refl G) A
theorem as_raise {C : Addr} : AS K W (fun _ σ H => W (.ref C) none σ H) S (.ex (.ref C) S) := fun G0 H0 G H σ A D f => f G H σ (Evl.Ex.refl G) A
theorem as_par {i j : Nat} {ta : TA} {d1 d2 : RD} (h : AA K ta S [d1, d2]) : AS K W (tPar i j ta) S (.nx ((S.set i (.dat d1)).set j (.dat d2))) := fun G0 H0 G H σ A D f =>
  h G0 H0 G H σ A _ fun vs G1 H1 s1 r1 => by
    cases r1 with
    | cons a r => cases r with
      | cons b r => cases r with
        | nil => exact ⟨_, _, rfl, f G1 H1 _ s1.g (((A.ext s1).setD a).setD b)⟩
theorem as_aug {i : Nat} {g : Int → Int → Int} {a b : Int} (hx : S[i]? = some (.dat (.int a))) (h : AE K te S (.int b)) : AS K W (tAug i te (ipI g)) S (.nx (S.set i (.dat (.int (g a b))))) := fun G0 H0 G H σ A D f => by
  obtain ⟨v, h1, h2⟩ := A.dat i _ hx
  cases h2
  refine ⟨_, h1, h G0 H0 G H σ A _ fun v G1 H1 s1 r1 => ?_⟩
  cases r1
  exact ⟨a, b, rfl, rfl, f G1 H1 _ s1.g ((A.ext s1).setD (.int _))⟩
theorem as_is {o' : Out} (h : AS K W t S o) (e : o = o') : AS K W t S o' := e ▸ h
/-- calls that raise -/
theorem ax_callS {n : Nat} {R : List RD → Res → Prop} {ta : TA} {ds : List RD} (h : AA K ta S ds) (hn : ds.length = n) (hR : R ds (.exc c)) : AX K W (tCallS (spF K n R) (WE W) ta) S c := fun G0 H0 G H σ A f Q =>
  h G0 H0 G H σ A _ fun vs G1 H1 s1 r1 =>
    ⟨G1, ds, .exc c, by rw [r1.length]; exact hn, s1.s, r1, hR, fun H2 e2 => f G1 H2 (s1.trans ⟨e2, Evl.Ex.refl G1, s1.s.trans e2, fun _ h => .inl h⟩)⟩
theorem as_asgX {g : TG} (h : AX K W te S c) : AS K W (tAsg te g) S (.ex c S) := fun G0 H0 G H σ A D f =>
  h G0 H0 G H σ A (fun G1 H1 s1 => f G1 H1 σ s1.g (A.ext s1)) _
theorem as_dropX (h : AX K W te S c) : AS K W (tDrop te) S (.ex c S) := fun G0 H0 G H σ A D f =>
  h G0 H0 G H σ A (fun G1 H1 s1 => f G1 H1 σ s1.g (A.ext s1)) _
theorem as_retX (h : AX K W te S c) : AS K W (tRet te) S (.ex c S) := fun G0 H0 G H σ A D f =>
  h G0 H0 G H σ A (fun G1 H1 s1 => f G1 H1 σ s1.g (A.ext s1)) _
end

section
variable {K : PySem.W.Frag} {W : WX} {S : Sg} {tt : TT} {t u v : TS} {o : Out}
theorem as_fg {T : Sg} (f : Fg S T) (h : AS K W t T o) : AS K W t S o := fun G0 H0 G H σ A D q => h G0 H0 G H σ (A.fg f) D q
/-- if .., without else, and what follows -/
theorem as_when {b : Bool} (h : AT K tt S b) (h1 : b = true → AS K W (tSeq t u) S o) (h2 : b = false → AS K W u S o) : AS K W (tSeq (tIfS tt t tNext) u) S o := fun G0 H0 G H σ A D f =>
  h G0 H0 G H σ A _ fun G1 H1 s1 => by
    cases b with
    | true => exact h1 rfl G0 H0 G1 H1 σ (A.ext s1) D (f.mono s1.g)
    | false => exact h2 rfl G0 H0 G1 H1 σ (A.ext s1) D (f.mono s1.g)
/-- both ways meet in what Z says of the slots -/
theorem as_whenQ {b : Bool} (Z : Sg → Prop) (h : AT K tt S b) (h1 : b = true → ∃ S1 S2, AS K W t S (.nx S1) ∧ Fg S1 S2 ∧ Z S2) (h2 : b = false → ∃ S2, Fg S S2 ∧ Z S2) (k : ∀ S1, Z S1 → AS K W u S1 o) : AS K W (tSeq (tIfS tt t tNext) u) S o :=
  as_when h (fun hb => by
    obtain ⟨S1, S2, a, f, z⟩ := h1 hb
    exact as_seq a (as_fg f (k S2 z))) (fun hb => by
    obtain ⟨S2, f, z⟩ := h2 hb
    exact as_fg f (k S2 z))
theorem as_when2 {b : Bool} (h : AT K tt S b) (h1 : b = true → AS K W (tSeq t u) S o) (h2 : b = false → AS K W (tSeq v u) S o) : AS K W (tSeq (tIfS tt t v) u) S o := fun G0 H0 G H σ A D f =>
  h G0 H0 G H σ A _ fun G1 H1 s1 => by
    cases b with
    | true => exact h1 rfl G0 H0 G1 H1 σ (A.ext s1) D (f.mono s1.g)
    | false => exact h2 rfl G0 H0 G1 H1 σ (A.ext s1) D (f.mono s1.g)
theorem set_self {i : Nat} {x : SV} (h : S[i]? = some x) : S.set i x = S := by
  apply List.ext_getElem?
  intro j
  by_cases hij : i = j
  · subst hij
    rw [List.getElem?_set_self (List.getElem?_eq_some_iff.mp h).1, h]
  · rw [List.getElem?_set_ne hij]
/-- if ..: x = e, by what x holds behind it -/
theorem as_ifset {b : Bool} {te : TE} {d : RD} {i : Nat} (h : AT K tt S b) (h1 : b = true → AE K te S d) (h2 : b = false → S[i]? = some (.dat d)) (k : AS K W u (S.set i (.dat d)) o) : AS K W (tSeq (tIfS tt (tAsg te (gName i)) tNext) u) S o :=
  as_when h (fun hb => as_seq (as_asg (h1 hb)) k) (fun hb => by rw [set_self (h2 hb)] at k; exact k)
theorem as_rets {te : TE} {d : RD} (h : AE K te S d) : AS K W (tSeq (tRet te) u) S (.rt d) := as_stop (as_ret h) fun _ z => nomatch z
end
/-! ### targets -/
/-- l: the slots that the target may write -/
def AG (K : PySem.W.Frag) (g : TG) (l : List Nat) (d : RD) (S S' : Sg) : Prop := ∀ G0 H0 G H σ v, Abs K G0 H0 G H σ S → Rp K G v d → ∀ Q : L2.St → Hp → Prop,
  (∀ σ', Abs K G0 H0 G H σ' S' → σ'.length = σ.length → (∀ k, k ∉ l → σ'[k]? = σ[k]?) → Q σ' H) → g v σ H Q
def AGs (K : PySem.W.Frag) (g : TGs) (l : List Nat) (ds : List RD) (S S' : Sg) : Prop := ∀ G0 H0 G H σ vs, Abs K G0 H0 G H σ S → RpAll K G vs ds → ∀ Q : L2.St → Hp → Prop,
  (∀ σ', Abs K G0 H0 G H σ' S' → σ'.length = σ.length → (∀ k, k ∉ l → σ'[k]? = σ[k]?) → Q σ' H) → g vs σ H Q
section
variable {K : PySem.W.Frag} {W : WX} {S S1 S2 S' : Sg} {te ta tb : TE} {tt : TT} {t u : TS} {d : RD} {ds : List RD} {o : Out} {g : TG} {gs : TGs} {l l' : List Nat}
theorem ag_name {i : Nat} : AG K (gName i) [i] d S (S.set i (.dat d)) := fun G0 H0 G H σ v A r Q q =>
  q _ (A.setD r) (List.length_set ..) fun k hk => List.getElem?_set_ne (fun e => hk (by rw [e]; exact List.mem_cons_self))
theorem ags_nil : AGs K gNil [] [] S S := fun G0 H0 G H σ vs A r Q q => by
  cases r
  exact ⟨rfl, q σ A rfl fun _ _ => rfl⟩
theorem ags_cons (h : AG K g l d S S1) (hr : AGs K gs l' ds S1 S2) : AGs K (gCons g gs) (l ++ l') (d :: ds) S S2 := fun G0 H0 G H σ vs A r Q q => by
  cases r with
  | cons a b =>
    refine ⟨_, _, rfl, h G0 H0 G H σ _ A a _ fun σ1 A1 l1 k1 => hr G0 H0 G H σ1 _ A1 b Q fun σ2 A2 l2 k2 => q σ2 A2 (l2.trans l1) fun k hk => ?_⟩
    rw [List.mem_append] at hk
    rw [k2 k fun z => hk (.inr z), k1 k fun z => hk (.inl z)]
theorem ag_tup {n : Nat} (h : AGs K gs l ds S S1) (hn : ds.length = n) : AG K (gTup K n gs) l (.tup ds) S S1 := fun G0 H0 G H σ v A r Q q => by
  obtain ⟨a, xs, rfl, hs, ha⟩ := r.tup_inv
  exact ⟨a, xs, rfl, Evl.ex_t A.gh hs, by rw [ha.length, hn], h G0 H0 G H σ xs A ha Q q⟩
end
theorem wipe_congr {σ τ : L2.St} : ∀ (vs : List Nat), σ.length = τ.length → (∀ k, k ∉ vs → σ[k]? = τ[k]?) → wipe σ vs = wipe τ vs := by
  intro vs hl hk
  apply List.ext_getElem?
  intro i
  by_cases hi : i ∈ vs
  · have f : ∀ (ρ : L2.St), i < ρ.length → (wipe ρ vs)[i]? = some none := fun ρ h => by
      have hl : i < (wipe ρ vs).length := by rw [wipe_length]; exact h
      have e := List.getElem?_eq_getElem hl
      cases z : (wipe ρ vs)[i] with
      | none => rw [e, z]
      | some x => rw [z] at e; exact absurd hi (wipe_some e).2
    by_cases h : i < σ.length
    · rw [f σ h, f τ (hl ▸ h)]
    · rw [List.getElem?_eq_none (by rw [wipe_length]; omega), List.getElem?_eq_none (by rw [wipe_length]; omega)]
  · rw [wipe_out hi, wipe_out hi]
    exact hk i hi
def wipeS (S : Sg) : List Nat → Sg
  | [] => S
  | v :: vs => (wipeS S vs).set v .un
theorem Abs.setU {K : PySem.W.Frag} {G0 H0 G H : Hp} {σ : L2.St} {S : Sg} {i : Nat} {z : Option V} (A : Abs K G0 H0 G H σ S) : Abs K G0 H0 G H (σ.set i z) (S.set i .un) := by
  have key : ∀ {j : Nat} {x : SV}, (S.set i .un)[j]? = some x → x ≠ .un → i ≠ j ∧ S[j]? = some x := fun {j x} h hx => by
    by_cases hij : i = j
    · subst hij
      have hl : i < S.length := by
        have := (List.getElem?_eq_some_iff.mp h).1
        rw [List.length_set] at this; exact this
      rw [List.getElem?_set_self hl] at h
      cases h; exact absurd rfl hx
    · exact ⟨hij, by rw [List.getElem?_set_ne hij] at h; exact h⟩
  refine ⟨A.sx, by rw [List.length_set, List.length_set]; exact A.len, fun j e hj => ?_, fun j ds hj => ?_, fun j k ds es a hj hk ej ek => ?_⟩
  · obtain ⟨n, hj⟩ := key hj (fun z => nomatch z)
    obtain ⟨v, h1, h2⟩ := A.dat j e hj
    exact ⟨v, by rw [List.getElem?_set_ne n]; exact h1, h2⟩
  · obtain ⟨n, hj⟩ := key hj (fun z => nomatch z)
    obtain ⟨a, vs, h1, h2⟩ := A.own j ds hj
    exact ⟨a, vs, by rw [List.getElem?_set_ne n]; exact h1, h2⟩
  · obtain ⟨n1, hj⟩ := key hj (fun z => nomatch z)
    obtain ⟨n2, hk⟩ := key hk (fun z => nomatch z)
    rw [List.getElem?_set_ne n1] at ej
    rw [List.getElem?_set_ne n2] at ek
    exact A.sep j k ds es a hj hk ej ek
theorem Abs.wipe {K : PySem.W.Frag} {G0 H0 G H : Hp} {σ : L2.St} {S : Sg} (A : Abs K G0 H0 G H σ S) : ∀ vs, Abs K G0 H0 G H (L2.wipe σ vs) (wipeS S vs)
  | [] => A
  | v :: vs => (A.wipe vs).setU

/-! ### what is walked -/
def Walks (K : PySem.W.Frag) (J : It) (G1 : Hp) (ds : List RD) : Prop := ∀ G H, Evl.Ex G1 G → Evl.Ex G H →
  (∀ i, i < ds.length → J.go i H ∧ ∀ x H', J.yld i H x H' → ∃ G' d, ds[i]? = some d ∧ Sx G H G' H' ∧ Rp K G' x d) ∧ J.stop ds.length H
def AI (K : PySem.W.Frag) (wi : TI) (S : Sg) (ds : List RD) : Prop := ∀ G0 H0 G H σ, Abs K G0 H0 G H σ S → ∀ R : It → Hp → Prop,
  (∀ J G1 H1, Sx G H G1 H1 → Walks K J G1 ds → R J H1) → wi σ H R
section
variable {K : PySem.W.Frag} {W : WX} {S S1 S2 S' : Sg} {te ta tb : TE} {tt : TT} {t u : TS} {d : RD} {ds : List RD} {o : Out} {g : TG}
theorem ai_list {tl : TE} (h : AE K tl S (.lst ds)) : AI K (iList K tl) S ds := fun G0 H0 G H σ A R q =>
  h G0 H0 G H σ A _ fun v G1 H1 s1 r1 => by
    obtain ⟨a, xs, rfl, hs', ha⟩ := r1.lst_inv
    have hs := Evl.sq_of (K := K) hs'
    refine ⟨a, rfl, ⟨xs, Evl.ex_l s1.s hs⟩, q _ G1 H1 s1 fun G2 H2 e1 e2 => ⟨fun i hi => ⟨?_, fun x H' hy => ?_⟩, xs, Evl.ex_l (e1.trans e2) hs, by rw [ha.length]; exact Nat.le_refl _⟩⟩
    · obtain ⟨v, h1, _⟩ := ha.get (List.getElem?_eq_getElem hi)
      exact ⟨xs, v, Evl.ex_l (e1.trans e2) hs, h1⟩
    · obtain ⟨rfl, hx⟩ := hy
      obtain ⟨d, h1, h2⟩ := ha.getV (hx xs (Evl.ex_l (e1.trans e2) hs))
      exact ⟨G2, d, h1, .refl e2, h2.mono e1⟩
theorem ai_tup {tl : TE} (h : AE K tl S (.tup ds)) : AI K (iTup K tl) S ds := fun G0 H0 G H σ A R q =>
  h G0 H0 G H σ A _ fun v G1 H1 s1 r1 => by
    obtain ⟨a, xs, rfl, hs, ha⟩ := r1.tup_inv
    refine ⟨a, rfl, ⟨xs, Evl.ex_t s1.s hs⟩, q _ G1 H1 s1 fun G2 H2 e1 e2 => ⟨fun i hi => ⟨?_, fun x H' hy => ?_⟩, xs, Evl.ex_t (e1.trans e2) hs, by rw [ha.length]; exact Nat.le_refl _⟩⟩
    · obtain ⟨v, h1, _⟩ := ha.get (List.getElem?_eq_getElem hi)
      exact ⟨xs, v, Evl.ex_t (e1.trans e2) hs, h1⟩
    · obtain ⟨rfl, hx⟩ := hy
      obtain ⟨d, h1, h2⟩ := ha.getV (hx xs (Evl.ex_t (e1.trans e2) hs))
      exact ⟨G2, d, h1, .refl e2, h2.mono e1⟩
theorem walks_range {lo : Int} {n : Nat} {G : Hp} : Walks K (Itr lo n) G ((List.range n).map fun (i : Nat) => RD.int (lo + i)) := fun G2 H2 e1 e2 => by
  refine ⟨fun i hi => ?_, by rw [List.length_map, List.length_range]; exact Nat.le_refl _⟩
  rw [List.length_map, List.length_range] at hi
  refine ⟨hi, fun x H' hy => ?_⟩
  obtain ⟨rfl, rfl⟩ := hy
  exact ⟨G2, .int (lo + i), by rw [List.getElem?_map, List.getElem?_range hi]; rfl, .refl e2, .int _⟩
theorem ai_range1 {ta : TA} {j : Int} (h : AA K ta S [.int j]) (hj : -1000000000 ≤ j ∧ j ≤ 1000000000) : AI K (iRng1 ta) S ((List.range j.toNat).map fun (i : Nat) => RD.int (0 + i)) := fun G0 H0 G H σ A R q =>
  h G0 H0 G H σ A _ fun vs G1 H1 s1 r1 => by
    cases r1 with
    | cons a r => cases r; cases a; exact ⟨j, rfl, by omega, by omega, q _ G1 H1 s1 walks_range⟩
theorem ai_range2 {ta : TA} {i j : Int} (h : AA K ta S [.int i, .int j]) (hi : -1000000000 ≤ i ∧ i ≤ 1000000000) (hj : -1000000000 ≤ j ∧ j ≤ 1000000000) : AI K (iRng2 ta) S ((List.range (j - i).toNat).map fun (k : Nat) => RD.int (i + k)) := fun G0 H0 G H σ A R q =>
  h G0 H0 G H σ A _ fun vs G1 H1 s1 r1 => by
    cases r1 with
    | cons a r => cases r with
      | cons b r => cases r; cases a; cases b; exact ⟨i, j, rfl, ⟨by omega, by omega, by omega, by omega⟩, q _ G1 H1 s1 walks_range⟩
theorem ai_zip {ta : TA} {as bs : List RD} (h : AA K ta S [.lst as, .lst bs]) : AI K (iZip K ta) S ((as.zip bs).map fun p => RD.tup [p.1, p.2]) := fun G0 H0 G H σ A R q =>
  h G0 H0 G H σ A _ fun vs G1 H1 s1 r1 => by
    cases r1 with
    | cons a r => cases r with
      | cons b r =>
        cases r
        obtain ⟨x, xs, rfl, hx', ax⟩ := a.lst_inv
        obtain ⟨y, ys, rfl, hy', ay⟩ := b.lst_inv
        have hx := Evl.sq_of (K := K) hx'
        have hy := Evl.sq_of (K := K) hy'
        refine ⟨x, y, xs, ys, rfl, Evl.ex_l s1.s hx, Evl.ex_l s1.s hy, q _ G1 H1 s1 fun G2 H2 e1 e2 => ?_⟩
        have hx2 := Evl.ex_l (e1.trans e2) hx
        have hy2 := Evl.ex_l (e1.trans e2) hy
        refine ⟨fun i hi => ?_, xs, ys, hx2, hy2, ?_⟩
        · rw [List.length_map, List.length_zip] at hi
          obtain ⟨u, h1, h2⟩ := ax.get (List.getElem?_eq_getElem (show i < as.length by omega))
          obtain ⟨v, h3, h4⟩ := ay.get (List.getElem?_eq_getElem (show i < bs.length by omega))
          refine ⟨⟨xs, ys, u, v, hx2, hy2, h1, h3⟩, fun p H' hp => ?_⟩
          obtain ⟨T, p1, p2, rfl, nT, rfl, f1, f2⟩ := hp
          have e3 : p1 = u := Option.some.inj ((f1 xs hx2).symm.trans h1)
          have e4 : p2 = v := Option.some.inj ((f2 ys hy2).symm.trans h3)
          subst e3 e4
          have sn := Sx.new (o := .tup [p1, p2]) e2 nT
          refine ⟨_, _, ?_, sn, .tup (Evl.st_of upd_same) (.cons (h2.mono (e1.trans sn.g)) (.cons (h4.mono (e1.trans sn.g)) .nil))⟩
          have ea := List.getElem?_eq_getElem (show i < as.length by omega)
          have eb := List.getElem?_eq_getElem (show i < bs.length by omega)
          rw [List.getElem?_map, List.getElem?_zip_eq_some (z := (as[i], bs[i])) |>.mpr ⟨ea, eb⟩] <;> rfl
        · rw [List.length_map, List.length_zip, ax.length, ay.length]
          omega
theorem ai_enum {ta : TA} {as : List RD} (h : AA K ta S [.lst as]) : AI K (iEnum K ta) S ((List.range as.length).map fun (i : Nat) => RD.tup [.int i, as.getD i .non]) := fun G0 H0 G H σ A R q =>
  h G0 H0 G H σ A _ fun vs G1 H1 s1 r1 => by
    cases r1 with
    | cons a r =>
      cases r
      obtain ⟨x, xs, rfl, hx', ax⟩ := a.lst_inv
      have hx := Evl.sq_of (K := K) hx'
      refine ⟨x, xs, rfl, Evl.ex_l s1.s hx, q _ G1 H1 s1 fun G2 H2 e1 e2 => ?_⟩
      have hx2 := Evl.ex_l (e1.trans e2) hx
      refine ⟨fun i hi => ?_, xs, hx2, by rw [List.length_map, List.length_range, ax.length]; exact Nat.le_refl _⟩
      rw [List.length_map, List.length_range] at hi
      obtain ⟨u, h1, h2⟩ := ax.get (List.getElem?_eq_getElem hi)
      refine ⟨⟨xs, u, hx2, h1⟩, fun p H' hp => ?_⟩
      obtain ⟨T, p1, rfl, nT, rfl, f1⟩ := hp
      have e3 : p1 = u := Option.some.inj ((f1 xs hx2).symm.trans h1)
      subst e3
      have sn := Sx.new (o := .tup [.int (i : Nat), p1]) e2 nT
      refine ⟨_, _, ?_, sn, .tup (Evl.st_of upd_same) (.cons (.int _) (.cons (h2.mono (e1.trans sn.g)) .nil))⟩
      rw [List.getElem?_map, List.getElem?_range hi, Option.map_some, List.getD_eq_getElem?_getD, List.getElem?_eq_getElem hi] <;> rfl
theorem ai_is {wi : TI} {es : List RD} (h : AI K wi S ds) (e : ds = es) : AI K wi S es := e ▸ h

/-! ### for -/
/-- m turns to their end; then the walk's end, or a turn that leaves -/
theorem as_for {wi : TI} {l : List Nat} (h : AI K wi S ds) (m : Nat) (T : Nat → Sg) (h0 : T 0 = S)
    (hs : ∀ i x, i < m → ds[i]? = some x → ∃ U o', AG K g l x (T i) U ∧ AS K W t U o' ∧ o'.goes (T (i + 1)))
    (he : (m = ds.length ∧ o = .nx (T m)) ∨ (∃ x U o', ds[m]? = some x ∧ AG K g l x (T m) U ∧ AS K W t U o' ∧ o'.leaves o)) : AS K W (tFor wi g t) S o := fun G0 H0 G H σ A D f =>
  h G0 H0 G H σ A _ fun J G1 H1 s1 hw => by
    have hm : m ≤ ds.length := by
      rcases he with ⟨e, _⟩ | ⟨x, _, _, hx, _⟩
      · omega
      · exact Nat.le_of_lt (List.getElem?_eq_some_iff.mp hx).1
    refine ⟨fun i k σ' H' => k = m - i ∧ i ≤ m ∧ ∃ G', Evl.Ex G1 G' ∧ Abs K G0 H0 G' H' σ' (T i), ⟨m, by omega, Nat.zero_le _, G1, Evl.Ex.refl _, by rw [h0]; exact A.ext s1⟩, ?_⟩
    rintro i k σ' H' ⟨rfl, hi, G', e', A'⟩
    obtain ⟨hgo, hstop⟩ := hw G' H' e' A'.gh
    by_cases hlt : i < m
    · obtain ⟨hg, hy⟩ := hgo i (by omega)
      refine .inr ⟨hg, fun σ2 H2 => ∃ G2, Evl.Ex G1 G2 ∧ Abs K G0 H0 G2 H2 σ2 (T (i + 1)), fun σ2 H2 ⟨G2, e2, A2⟩ => ⟨m - (i + 1), by omega, rfl, by omega, G2, e2, A2⟩, fun x H2 hx => ?_⟩
      obtain ⟨G2, d, hd, s2, r2⟩ := hy x H2 hx
      obtain ⟨U, o', ag, as, og⟩ := hs i d hlt hd
      refine ag G0 H0 G2 H2 σ' x (A'.ext s2) r2 _ fun σ3 A3 _ _ => as G0 H0 G2 H2 σ3 A3 _ ?_
      cases o' with
      | nx S' => exact fun G3 H3 σ4 e3 A4 => ⟨G3, (e'.trans s2.g).trans e3, A4.fg og⟩
      | ct S' => exact fun G3 H3 σ4 e3 A4 => ⟨G3, (e'.trans s2.g).trans e3, A4.fg og⟩
      | rt d => cases og
      | bk S' => cases og
      | ex c S' => cases og
    · have him : i = m := by omega
      subst him
      rcases he with ⟨e, rfl⟩ | ⟨x, U, o', hx, ag, as, ol⟩
      · subst e
        exact .inl ⟨hstop, f G' H' σ' (s1.g.trans e') A'⟩
      · have hil : i < ds.length := (List.getElem?_eq_some_iff.mp hx).1
        obtain ⟨hg, hy⟩ := hgo i hil
        refine .inr ⟨hg, fun _ _ => False, fun _ _ z => z.elim, fun y H2 hyl => ?_⟩
        obtain ⟨G2, d, hd, s2, r2⟩ := hy y H2 hyl
        rw [hx] at hd
        cases hd
        have e12 := (s1.g.trans e').trans s2.g
        refine ag G0 H0 G2 H2 σ' y (A'.ext s2) r2 _ fun σ3 A3 _ _ => as G0 H0 G2 H2 σ3 A3 _ ?_
        cases o' with
        | nx S' => cases ol
        | ct S' => cases ol
        | rt d => cases ol; exact fun v G3 H3 e3 => f v G3 H3 (e12.trans e3)
        | bk S' => cases ol; exact fun G3 H3 σ4 e3 => f G3 H3 σ4 (e12.trans e3)
        | ex c S' => cases ol; exact fun G3 H3 σ4 e3 => f G3 H3 σ4 (e12.trans e3)
/-- the whole walk -/
theorem as_forAll {wi : TI} {l : List Nat} (h : AI K wi S ds) (T : Nat → Sg) (h0 : T 0 = S)
    (hs : ∀ i x, ds[i]? = some x → ∃ U o', AG K g l x (T i) U ∧ AS K W t U o' ∧ o'.goes (T (i + 1))) : AS K W (tFor wi g t) S (.nx (T ds.length)) :=
  as_for h ds.length T h0 (fun i x _ hx => hs i x hx) (.inl ⟨rfl, rfl⟩)
/-- each turn leaves what is known as it is -/
theorem as_forK {wi : TI} {l : List Nat} (h : AI K wi S ds) (hs : ∀ x ∈ ds, ∃ U o', AG K g l x S U ∧ AS K W t U o' ∧ o'.goes S) : AS K W (tFor wi g t) S (.nx S) :=
  as_forAll h (fun _ => S) rfl fun i x hx => hs x (List.mem_of_getElem? hx)
/-! ### while -/
theorem as_while (m : Nat) (T : Nat → Sg) (h0 : T 0 = S) (hs : ∀ i, i < m → AT K tt (T i) true ∧ ∃ o', AS K W t (T i) o' ∧ o'.goes (T (i + 1)))
    (he : (AT K tt (T m) false ∧ o = .nx (T m)) ∨ (AT K tt (T m) true ∧ ∃ o', AS K W t (T m) o' ∧ o'.leaves o)) : AS K W (tWhile tt t) S o := fun G0 H0 G H σ A D f => by
  refine ⟨fun k σ' H' => ∃ i G', k = m - i ∧ i ≤ m ∧ Evl.Ex G G' ∧ Abs K G0 H0 G' H' σ' (T i), ⟨m, 0, G, by omega, Nat.zero_le _, Evl.Ex.refl _, by rw [h0]; exact A⟩, ?_⟩
  rintro k σ' H' ⟨i, G', rfl, hi, e', A'⟩
  by_cases hlt : i < m
  · obtain ⟨ht, o', as, og⟩ := hs i hlt
    refine ht G0 H0 G' H' σ' A' _ fun G2 H2 s2 => iteT ⟨fun σ2 H2 => ∃ G2, Evl.Ex G G2 ∧ Abs K G0 H0 G2 H2 σ2 (T (i + 1)), fun σ2 H2 ⟨G2, e2, A2⟩ => ⟨m - (i + 1), by omega, i + 1, G2, rfl, by omega, e2, A2⟩, as G0 H0 G2 H2 σ' (A'.ext s2) _ ?_⟩
    cases o' with
    | nx S' => exact fun G3 H3 σ4 e3 A4 => ⟨G3, (e'.trans s2.g).trans e3, A4.fg og⟩
    | ct S' => exact fun G3 H3 σ4 e3 A4 => ⟨G3, (e'.trans s2.g).trans e3, A4.fg og⟩
    | rt d => cases og
    | bk S' => cases og
    | ex c S' => cases og
  · have him : i = m := by omega
    subst him
    rcases he with ⟨ht, rfl⟩ | ⟨ht, o', as, ol⟩
    · exact ht G0 H0 G' H' σ' A' _ fun G2 H2 s2 => iteF (f G2 H2 σ' (e'.trans s2.g) (A'.ext s2))
    · refine ht G0 H0 G' H' σ' A' _ fun G2 H2 s2 => iteT ⟨fun _ _ => False, fun _ _ z => z.elim, as G0 H0 G2 H2 σ' (A'.ext s2) _ ?_⟩
      have e12 := e'.trans s2.g
      cases o' with
      | nx S' => cases ol
      | ct S' => cases ol
      | rt d => cases ol; exact fun v G3 H3 e3 => f v G3 H3 (e12.trans e3)
      | bk S' => cases ol; exact fun G3 H3 σ4 e3 => f G3 H3 σ4 (e12.trans e3)
      | ex c S' => cases ol; exact fun G3 H3 σ4 e3 => f G3 H3 σ4 (e12.trans e3)

/-- by a word that falls -/
theorem as_whileW {Se : Sg} (Wd : Nat → Sg → Prop) (m0 : Nat) (h0 : Wd m0 S)
    (hs : ∀ m T, Wd m T → ∃ b, AT K tt T b ∧ (b = true → ∃ o' T' m', AS K W t T o' ∧ o'.goes T' ∧ m' < m ∧ Wd m' T') ∧ (b = false → T = Se)) : AS K W (tWhile tt t) S (.nx Se) := fun G0 H0 G H σ A D f => by
  refine ⟨fun k σ' H' => ∃ T G', Wd k T ∧ Evl.Ex G G' ∧ Abs K G0 H0 G' H' σ' T, ⟨m0, S, G, h0, Evl.Ex.refl _, A⟩, ?_⟩
  rintro k σ' H' ⟨T, G', hw, e', A'⟩
  obtain ⟨b, hb, h1, h2⟩ := hs k T hw
  refine hb G0 H0 G' H' σ' A' _ fun G2 H2 s2 => ?_
  cases b with
  | true =>
    obtain ⟨o', T', m', as, og, lt, hw'⟩ := h1 rfl
    refine iteT ⟨fun σ2 H2 => ∃ G2, Evl.Ex G G2 ∧ Abs K G0 H0 G2 H2 σ2 T', fun σ2 H2 ⟨G2, e2, A2⟩ => ⟨m', lt, T', G2, hw', e2, A2⟩, as G0 H0 G2 H2 σ' (A'.ext s2) _ ?_⟩
    cases o' with
    | nx S' => exact fun G3 H3 σ4 e3 A4 => ⟨G3, (e'.trans s2.g).trans e3, A4.fg og⟩
    | ct S' => exact fun G3 H3 σ4 e3 A4 => ⟨G3, (e'.trans s2.g).trans e3, A4.fg og⟩
    | rt d => cases og
    | bk S' => cases og
    | ex c S' => cases og
  | false =>
    cases h2 rfl
    exact iteF (f G2 H2 σ' (e'.trans s2.g) (A'.ext s2))

/-! ### list comprehensions -/
/-- p: which turns give; f: what they give -/
theorem ae_lc {wi : TI} {te : TE} {vs l : List Nat} (h : AI K wi S ds) (p : Nat → Bool) (f : Nat → RD) (hl : ∀ k ∈ l, k ∈ vs) (hz : ds.length ≤ 100000)
    (hs : ∀ i x, ds[i]? = some x → ∃ U, AG K g l x (wipeS S vs) U ∧ AT K tt U (p i) ∧ (p i = true → AE K te U (f i))) :
    AE K (tLc wi g tt te vs) S (.lst (((List.range ds.length).filter p).map f)) := fun G0 H0 G H σ A Q q =>
  h G0 H0 G H σ A _ fun J G1 H1 s1 hw L hL => by
    have key : ∀ n, (((List.range n).filter p).map f).length ≤ n := fun n => by
      rw [List.length_map]
      have := List.length_filter_le p (List.range n)
      rw [List.length_range] at this
      exact this
    have A1 := (A.ext s1).wipe vs
    have gL : G1 L = none := Evl.fresh_back s1.s hL
    refine ⟨fun i k H' => k = ds.length - i ∧ i ≤ ds.length ∧ ∃ G' acc, Sx G1 H1 G' H' ∧ G' L = none ∧ H' L = some (.lst acc) ∧ RpAll K G' acc (((List.range i).filter p).map f), ⟨ds.length, by omega, Nat.zero_le _, G1, [], Sx.newH s1.s hL, gL, upd_same, .nil⟩, ?_⟩
    rintro i k H' ⟨rfl, hi, G', acc, s', gl, hl', ra⟩
    obtain ⟨hgo, hstop⟩ := hw G' H' s'.g s'.s
    by_cases hlt : i < ds.length
    · obtain ⟨hg, hy⟩ := hgo i hlt
      refine .inr ⟨hg, fun H2 => ∃ G2 acc, Sx G1 H1 G2 H2 ∧ G2 L = none ∧ H2 L = some (.lst acc) ∧ RpAll K G2 acc (((List.range (i + 1)).filter p).map f), fun H2 ⟨G2, acc, w⟩ => ⟨ds.length - (i + 1), by omega, rfl, by omega, G2, acc, w⟩, fun x H2 hx => ?_⟩
      obtain ⟨G2, d, hd, s2, r2⟩ := hy x H2 hx
      obtain ⟨U, ag, at', ae⟩ := hs i d hd
      have s12 := s'.trans s2
      refine ag G0 H0 G2 H2 (wipe σ vs) x (A1.ext s12) r2 _ fun σ3 A3 l3 k3 => ⟨?_, ?_⟩
      · rw [wipe_congr vs l3 fun k hk => k3 k fun z => hk (hl k z)]
        have e0 : wipe (wipe σ vs) vs = wipe σ vs := wipe_congr vs (wipe_length _ _) fun k hk => wipe_out hk
        exact e0
      · refine at' G0 H0 G2 H2 σ3 A3 _ fun G3 H3 s3 => ?_
        have s23 := s2.trans s3
        have n3 := s23.stay_none hl' gl
        cases hp : p i with
        | true =>
          refine iteT (ae hp G0 H0 G3 H3 σ3 (A3.ext s3) _ fun y G4 H4 s4 r4 => ?_)
          have s24 := s23.trans s4
          have n4 := s24.stay_none hl' gl
          refine ⟨acc, s24.h L _ hl', Evl.sz_lt (by rw [ra.length]; have := key i; omega), G4, acc ++ [y], ?_, n4, upd_same, ?_⟩
          · have sx := s'.trans s24
            refine ⟨Evl.Ex.mut sx.h hL, sx.g, fun a u ha => ?_, sx.n⟩
            have hne : a ≠ L := fun z => by subst z; rw [n4] at ha; cases ha
            rw [upd_ne hne]
            exact sx.s a u ha
          · rw [List.range_succ, List.filter_append, List.map_append, List.filter_cons, if_pos hp]
            exact (ra.mono s24.g).append (.cons r4 .nil)
        | false =>
          refine iteF ⟨G3, acc, s'.trans s23, n3, s23.h L _ hl', ?_⟩
          rw [List.range_succ, List.filter_append, List.map_append, List.filter_cons, if_neg (by rw [hp]; decide)]
          show RpAll K G3 acc (_ ++ [])
          rw [List.append_nil]
          exact ra.mono s23.g
    · have him : i = ds.length := by omega
      subst him
      refine .inl ⟨hstop, q (.ref L) (upd G' L (.lst acc)) H' ?_ (.lst upd_same (ra.mono (Evl.Ex.new gl)))⟩
      have sx := s1.trans s'
      refine ⟨sx.h, sx.g.trans (Evl.Ex.new gl), fun a u ha => ?_, fun a ha => ?_⟩
      · by_cases hne : a = L
        · subst hne; rw [upd_same] at ha; cases ha; exact hl'
        · rw [upd_ne hne] at ha; exact s'.s a u ha
      · by_cases hne : a = L
        · subst hne; exact .inr (Evl.fresh_back s1.h hL)
        · rw [upd_ne hne] at ha; exact sx.n a ha
/-- over items told by a list: which give (p), what they give (f) -/
theorem ae_lcF {wi : TI} {te : TE} {vs l : List Nat} {α : Type} {xs : List α} {enc : α → RD} (h : AI K wi S (xs.map enc)) (p : α → Bool) (f : α → RD) (hl : ∀ k ∈ l, k ∈ vs) (hz : xs.length ≤ 100000)
    (hs : ∀ x ∈ xs, ∃ U, AG K g l (enc x) (wipeS S vs) U ∧ AT K tt U (p x) ∧ (p x = true → AE K te U (f x))) :
    AE K (tLc wi g tt te vs) S (.lst ((xs.filter p).map f)) := by
  have q := ae_lc (tt := tt) h (fun i => (xs[i]?.map p).getD false) (fun i => (xs[i]?.map f).getD .non) hl (by rw [List.length_map]; exact hz) fun i x hx => by
    rw [List.getElem?_map] at hx
    cases e : xs[i]? with
    | none => rw [e] at hx; cases hx
    | some y =>
      rw [e] at hx
      cases hx
      exact hs y (List.mem_of_getElem? e)
  have key : ∀ (ys : List α), ((List.range ys.length).filter fun i => (ys[i]?.map p).getD false).map (fun i => (ys[i]?.map f).getD .non) = (ys.filter p).map f := by
    intro ys
    induction ys with
    | nil => rfl
    | cons y r ih =>
      rw [List.length_cons, List.range_succ_eq_map, List.filter_cons, List.filter_cons, List.filter_map]
      have e1 : (((y :: r)[0]?).map p).getD false = p y := rfl
      have e2 : ((fun i => (((y :: r)[i]?).map p).getD false) ∘ Nat.succ) = fun i => ((r[i]?).map p).getD false := by funext i; simp
      have e3 : ((fun i => (((y :: r)[i]?).map f).getD .non) ∘ Nat.succ) = fun i => ((r[i]?).map f).getD .non := by funext i; simp
      rw [e1, e2]
      cases p y with
      | true =>
        simp only [if_true, List.map_cons, List.map_map, e3]
        rw [ih]
        rfl
      | false =>
        simp only [Bool.false_eq_true, if_false, List.map_map, e3]
        exact ih
  rw [List.length_map, key xs] at q
  exact q
/-- without a test -/
theorem ae_lcM {wi : TI} {te : TE} {vs l : List Nat} {α : Type} {xs : List α} {enc : α → RD} (h : AI K wi S (xs.map enc)) (f : α → RD) (hl : ∀ k ∈ l, k ∈ vs) (hz : xs.length ≤ 100000)
    (hs : ∀ x ∈ xs, ∃ U, AG K g l (enc x) (wipeS S vs) U ∧ AE K te U (f x)) : AE K (tLc wi g tYes te vs) S (.lst (xs.map f)) := by
  have q := ae_lcF (tt := tYes) h (fun _ => true) f hl hz fun x hx => by
    obtain ⟨U, a, b⟩ := hs x hx
    exact ⟨U, a, at_yes, fun _ => b⟩
  rw [List.filter_eq_self.mpr fun _ _ => rfl] at q
  exact q
end

/-! ### lists of one's own -/
section
variable {K : PySem.W.Frag} {W : WX} {S : Sg} {te : TE} {d : RD} {ds : List RD}
theorem Abs.setO {G0 H0 G H : Hp} {σ : L2.St} {i : Nat} {p : Addr} {xs : List V} (A : Abs K G0 H0 G H σ S) (hp : H p = none) (r : RpAll K G xs ds) : Abs K G0 H0 G (upd H p (.lst xs)) (σ.set i (some (.ref p))) (S.set i (.own ds)) := by
  have gp : G p = none := Evl.fresh_back A.gh hp
  have A1 := A.ext (Sx.newH (o := .lst xs) A.gh hp)
  have key : ∀ {j : Nat} {x : SV}, (S.set i (.own ds))[j]? = some x → i ≠ j → S[j]? = some x := fun {j x} h hij => by rw [List.getElem?_set_ne hij] at h; exact h
  have self : ∀ {x : SV}, (S.set i (.own ds))[i]? = some x → i < S.length ∧ x = .own ds := fun {x} h => by
    have hl : i < S.length := by
      have := (List.getElem?_eq_some_iff.mp h).1
      rw [List.length_set] at this; exact this
    rw [List.getElem?_set_self hl] at h
    exact ⟨hl, (Option.some.inj h).symm⟩
  refine ⟨A1.sx, by rw [List.length_set, List.length_set]; exact A.len, fun j e hj => ?_, fun j es hj => ?_, fun j k es fs a hj hk ej ek => ?_⟩
  · by_cases hij : i = j
    · subst hij; obtain ⟨_, z⟩ := self hj; cases z
    · obtain ⟨v, h1, h2⟩ := A.dat j e (key hj hij)
      exact ⟨v, by rw [List.getElem?_set_ne hij]; exact h1, h2⟩
  · by_cases hij : i = j
    · subst hij
      obtain ⟨hl, z⟩ := self hj
      cases z
      exact ⟨p, xs, List.getElem?_set_self (by rw [A.len]; exact hl), upd_same, gp, Evl.fresh_back A.sx.h hp, r⟩
    · obtain ⟨a, vs, h1, h2, h3⟩ := A1.own j es (key hj hij)
      exact ⟨a, vs, by rw [List.getElem?_set_ne hij]; exact h1, h2, h3⟩
  · have fresh : ∀ {n : Nat} {gs : List RD}, S[n]? = some (.own gs) → σ[n]? ≠ some (some (.ref p)) := fun {n gs} h z => by
      obtain ⟨b, ws, h1, h2, _⟩ := A.own n gs h
      rw [z] at h1; cases h1
      rw [hp] at h2; cases h2
    by_cases hij : i = j
    · by_cases hik : i = k
      · exact hij.symm.trans hik
      · subst hij
        obtain ⟨hl, _⟩ := self hj
        rw [List.getElem?_set_self (by rw [A.len]; exact hl)] at ej
        cases ej
        rw [List.getElem?_set_ne hik] at ek
        exact absurd ek (fresh (key hk hik))
    · by_cases hik : i = k
      · subst hik
        obtain ⟨hl, _⟩ := self hk
        rw [List.getElem?_set_self (by rw [A.len]; exact hl)] at ek
        cases ek
        rw [List.getElem?_set_ne hij] at ej
        exact absurd ej (fresh (key hj hij))
      · rw [List.getElem?_set_ne hij] at ej
        rw [List.getElem?_set_ne hik] at ek
        exact A.sep j k es fs a (key hj hij) (key hk hik) ej ek
/-- x = [..]: a list of one's own -/
theorem as_own {i : Nat} {ta : TA} (h : AA K ta S ds) (hl : ds.length ≤ 100000) : AS K W (tAsg (tLst ta) (gName i)) S (.nx (S.set i (.own ds))) := fun G0 H0 G H σ A D f =>
  h G0 H0 G H σ A _ fun vs G1 H1 s1 r1 => ⟨Evl.sz_of (by rw [r1.length]; exact hl), fun p hp => f G1 _ _ s1.g ((A.ext s1).setO hp r1)⟩
/-- what an own slot's list becomes -/
theorem Abs.putO {G0 H0 G H : Hp} {σ : L2.St} {i : Nat} {a : Addr} {xs ys : List V} {es : List RD} (A : Abs K G0 H0 G H σ S) (hS : S[i]? = some (.own ds)) (hσ : σ[i]? = some (some (.ref a))) (r : RpAll K G ys es) : Abs K G0 H0 G (upd H a (.lst ys)) σ (S.set i (.own es)) := by
  obtain ⟨b, ws, h1, h2, h3, h4, h5⟩ := A.own i ds hS
  rw [hσ] at h1
  cases h1
  have hl : i < S.length := (List.getElem?_eq_some_iff.mp hS).1
  refine ⟨⟨Evl.Ex.mut A.sx.h h4, A.sx.g, fun b u hb => ?_, A.sx.n⟩, by rw [List.length_set]; exact A.len, fun j e hj => ?_, fun j fs hj => ?_, fun j k fs gs b hj hk ej ek => ?_⟩
  · have hne : b ≠ a := fun z => by subst z; rw [h3] at hb; cases hb
    rw [upd_ne hne]; exact A.gh b u hb
  · by_cases hij : i = j
    · subst hij; rw [List.getElem?_set_self hl] at hj; cases hj
    · rw [List.getElem?_set_ne hij] at hj
      exact A.dat j e hj
  · by_cases hij : i = j
    · subst hij
      rw [List.getElem?_set_self hl] at hj
      cases hj
      exact ⟨a, ys, hσ, upd_same, h3, h4, r⟩
    · rw [List.getElem?_set_ne hij] at hj
      obtain ⟨b, vs, q1, q2, q3⟩ := A.own j fs hj
      have hne : b ≠ a := fun z => by
        subst z
        exact hij (A.sep i j _ _ _ hS hj hσ q1)
      exact ⟨b, vs, q1, by rw [upd_ne hne]; exact q2, q3⟩
  · have back : ∀ {n : Nat} {hs : List RD}, (S.set i (.own es))[n]? = some (.own hs) → ∃ hs', S[n]? = some (.own hs') := fun {n hs} h => by
      by_cases hin : i = n
      · subst hin; exact ⟨_, hS⟩
      · rw [List.getElem?_set_ne hin] at h; exact ⟨_, h⟩
    obtain ⟨_, e1⟩ := back hj
    obtain ⟨_, e2⟩ := back hk
    exact A.sep j k _ _ b e1 e2 ej ek
/-- x.append(e) -/
theorem as_app {i : Nat} (hS : S[i]? = some (.own ds)) (h : AE K te S d) (hl : ds.length < 100000) : AS K W (tDrop (tBM K "list" rAppend (tVar i) (tCons te tNil))) S (.nx (S.set i (.own (ds ++ [d])))) := fun G0 H0 G H σ A D f => by
  obtain ⟨a, vs, h1, h2, h3, h4, h5⟩ := A.own i ds hS
  refine ⟨_, h1, Or.inl ⟨rfl, vs, Evl.sq_of h2⟩, h G0 H0 G H σ A _ fun v G1 H1 s1 r1 => ?_⟩
  have A1 := A.ext s1
  refine ⟨a, vs, v, rfl, rfl, s1.h a _ h2, Evl.sz_lt (by rw [h5.length]; exact hl), f G1 _ _ s1.g ?_⟩
  exact A1.putO (xs := vs) hS h1 ((h5.mono s1.g).append (.cons r1 .nil))
/-- an own list becomes data for good -/
theorem Abs.freeze {G0 H0 G H : Hp} {σ : L2.St} {i : Nat} (A : Abs K G0 H0 G H σ S) (hS : S[i]? = some (.own ds)) : ∃ G', Evl.Ex G G' ∧ Abs K G0 H0 G' H σ (S.set i (.dat (.lst ds))) := by
  obtain ⟨a, vs, h1, h2, h3, h4, h5⟩ := A.own i ds hS
  have hl : i < S.length := (List.getElem?_eq_some_iff.mp hS).1
  have eg : Evl.Ex G (upd G a (.lst vs)) := Evl.Ex.new h3
  have gh : Evl.Ex (upd G a (.lst vs)) H := fun b u hb => by
    by_cases hne : b = a
    · subst hne; rw [upd_same] at hb; cases hb; exact h2
    · rw [upd_ne hne] at hb; exact A.gh b u hb
  have nn : ∀ b, upd G a (.lst vs) b ≠ none → G0 b ≠ none ∨ H0 b = none := fun b hb => by
    by_cases hne : b = a
    · subst hne; exact .inr h4
    · rw [upd_ne hne] at hb; exact A.sx.n b hb
  refine ⟨upd G a (.lst vs), eg, ⟨A.sx.h, A.sx.g.trans eg, gh, nn⟩, by rw [List.length_set]; exact A.len, fun j e hj => ?_, fun j fs hj => ?_, fun j k fs gs b hj hk ej ek => ?_⟩
  · by_cases hij : i = j
    · subst hij; rw [List.getElem?_set_self hl] at hj; cases hj
      exact ⟨_, h1, .lst upd_same (h5.mono eg)⟩
    · rw [List.getElem?_set_ne hij] at hj
      obtain ⟨v, q1, q2⟩ := A.dat j e hj
      exact ⟨v, q1, q2.mono eg⟩
  · by_cases hij : i = j
    · subst hij; rw [List.getElem?_set_self hl] at hj; cases hj
    · rw [List.getElem?_set_ne hij] at hj
      obtain ⟨b, ws, q1, q2, q3, q4, q5⟩ := A.own j fs hj
      have hne : b ≠ a := fun z => by
        subst z
        exact hij (A.sep i j _ _ _ hS hj h1 q1)
      exact ⟨b, ws, q1, q2, by rw [upd_ne hne]; exact q3, q4, q5.mono eg⟩
  · have back : ∀ {n : Nat} {hs : List RD}, (S.set i (.dat (.lst ds)))[n]? = some (.own hs) → S[n]? = some (.own hs) := fun {n hs} h => by
      by_cases hin : i = n
      · subst hin; rw [List.getElem?_set_self hl] at h; cases h
      · rw [List.getElem?_set_ne hin] at h; exact h
    exact A.sep j k _ _ b (back hj) (back hk) ej ek
theorem as_frz {t : TS} {o : Out} {i : Nat} (hS : S[i]? = some (.own ds)) (h : AS K W t (S.set i (.dat (.lst ds))) o) : AS K W t S o := fun G0 H0 G H σ A D f => by
  obtain ⟨G', e, A'⟩ := A.freeze hS
  exact h G0 H0 G' H σ A' D (f.mono e)
end

/-! ### try -/
section
variable {K : PySem.W.Frag} {W : WX} {S S1 S2 : Sg} {o : Out} {tb : WX → TS} {ts : Addr → Value → Option Addr → TS} {Wout : WX} {c cls : Value} {i : Nat}
/-- the body raises nothing -/
theorem as_tryAs0 (hb : ∀ W', AS K W' (tb W') S o) (ho : ∀ c' T, o ≠ .ex c' T) : AS K W (fun D σ H => tb (wAs K c i ts Wout D) D σ H) S o := fun G0 H0 G H σ A D f =>
  hb _ G0 H0 G H σ A D (by
    cases o with
    | nx T => exact f
    | rt d => exact f
    | bk T => exact f
    | ct T => exact f
    | ex c' T => exact absurd rfl (ho c' T))
/-- the body raises, the clause takes it and returns -/
theorem as_tryAsR {d : RD} (hb : ∀ W', AS K W' (tb W') S (.ex cls S1)) (he : PySem.W.exmOne K cls c = some true) (hs : ∀ a W', AS K W' (ts a cls none) (S1.set i (.dat (.cls a))) (.rt d)) : AS K W (fun D σ H => tb (wAs K c i ts Wout D) D σ H) S (.rt d) := fun G0 H0 G H σ A D f =>
  hb _ G0 H0 G H σ A D fun G1 H1 σ1 e1 A1 => ⟨true, he, fun _ a ha => hs a W G0 H0 G1 H1 _ (A1.setD (.cls a)) _ fun v G2 H2 e2 => f v G2 H2 (e1.trans e2), fun z => nomatch z⟩
/-- .. and goes on -/
theorem as_tryAsN (hb : ∀ W', AS K W' (tb W') S (.ex cls S1)) (he : PySem.W.exmOne K cls c = some true) (hs : ∀ a W', AS K W' (ts a cls none) (S1.set i (.dat (.cls a))) (.nx S2)) : AS K W (fun D σ H => tb (wAs K c i ts Wout D) D σ H) S (.nx (S2.set i .un)) := fun G0 H0 G H σ A D f =>
  hb _ G0 H0 G H σ A D fun G1 H1 σ1 e1 A1 => ⟨true, he, fun _ a ha => hs a W G0 H0 G1 H1 _ (A1.setD (.cls a)) _ fun G2 H2 σ2 e2 A2 => f G2 H2 _ (e1.trans e2) A2.setU, fun z => nomatch z⟩
/-- .. without a name -/
theorem as_tryO0 (hb : ∀ W', AS K W' (tb W') S o) (ho : ∀ c' T, o ≠ .ex c' T) : AS K W (fun D σ H => tb (wOnly K c ts Wout D) D σ H) S o := fun G0 H0 G H σ A D f =>
  hb _ G0 H0 G H σ A D (by
    cases o with
    | nx T => exact f
    | rt d => exact f
    | bk T => exact f
    | ct T => exact f
    | ex c' T => exact absurd rfl (ho c' T))
theorem as_tryO (hb : ∀ W', AS K W' (tb W') S (.ex cls S1)) (he : PySem.W.exmOne K cls c = some true) (hs : ∀ a W', AS K W' (ts a cls none) S1 o) (ho : ∀ c' T, o ≠ .ex c' T) : AS K W (fun D σ H => tb (wOnly K c ts Wout D) D σ H) S o := fun G0 H0 G H σ A D f =>
  hb _ G0 H0 G H σ A D fun G1 H1 σ1 e1 A1 => ⟨true, he, fun _ a ha => hs a W G0 H0 G1 H1 _ A1 _ (f.mono e1), fun z => nomatch z⟩
end

/-! ### a def's body -/
def Gives : Out → Res → Prop
  | .rt d, .ok e => d = e
  | .nx _, .ok e => e = .non
  | .ex c _, .exc c' => c = c'
  | _, _ => False
def startS (n : Nat) (ds : List RD) : Sg := ds.map .dat ++ List.replicate (n - ds.length) .un
theorem abs_start {K : PySem.W.Frag} {G H : Hp} {vs : List V} {ds : List RD} {N : List Str} (e : Evl.Ex G H) (r : RpAll K G vs ds) : Abs K G H G H (L2.start N vs) (startS N.length ds) := by
  have hl := r.length
  refine ⟨.refl e, ?_, fun i d h => ?_, fun i es h => ?_, fun i j es fs a h => ?_⟩
  · unfold L2.start startS
    rw [List.length_append, List.length_append, List.length_map, List.length_map, List.length_replicate, List.length_replicate, hl]
  · unfold startS at h
    by_cases hi : i < ds.length
    · rw [List.getElem?_append_left (by rw [List.length_map]; exact hi), List.getElem?_map] at h
      cases e1 : ds[i]? with
      | none => rw [e1] at h; cases h
      | some x =>
        rw [e1] at h
        cases h
        obtain ⟨v, h1, h2⟩ := r.get e1
        refine ⟨v, ?_, h2⟩
        unfold L2.start
        rw [List.getElem?_append_left (by rw [List.length_map, hl]; exact hi), List.getElem?_map, h1] <;> rfl
    · rw [List.getElem?_append_right (by rw [List.length_map]; omega), List.getElem?_replicate] at h
      split at h <;> cases h
  · exfalso
    unfold startS at h
    by_cases hi : i < ds.length
    · rw [List.getElem?_append_left (by rw [List.length_map]; exact hi), List.getElem?_map] at h
      cases e1 : ds[i]? with
      | none => rw [e1] at h; cases h
      | some x => rw [e1] at h; cases h
    · rw [List.getElem?_append_right (by rw [List.length_map]; omega), List.getElem?_replicate] at h
      split at h <;> cases h
  · exfalso
    unfold startS at h
    by_cases hi : i < ds.length
    · rw [List.getElem?_append_left (by rw [List.length_map]; exact hi), List.getElem?_map] at h
      cases e1 : ds[i]? with
      | none => rw [e1] at h; cases h
      | some x => rw [e1] at h; cases h
    · rw [List.getElem?_append_right (by rw [List.length_map]; omega), List.getElem?_replicate] at h
      split at h <;> cases h
theorem body_run {K : PySem.W.Frag} {t : TS} {n : Nat} {R : List RD → Res → Prop} {vs : List V} {H : Hp} {Q : VK} {E : XK} {N : List Str} (h : spF K n R vs H Q E)
    (hA : ∀ ds r, ds.length = n → R ds r → ∃ o, Gives o r ∧ AS K (fun c d _ H => E c d H) t (startS N.length ds) o) : t { nx := fun _ H' => Q .non H', rt := Q } (L2.start N vs) H := by
  obtain ⟨G, ds, r, hn, e, ra, hR, q⟩ := h
  obtain ⟨o, hg, ha⟩ := hA ds r (by rw [← ra.length]; exact hn) hR
  refine ha G H G H _ (abs_start e ra) _ ?_
  cases o with
  | rt d => cases r with
    | ok e' => cases hg; exact fun v G' H' _ s r => q v G' H' s r
    | exc c => cases hg
  | nx S => cases r with
    | ok e' => cases hg; exact fun G' H' σ' _ A => q .non G' H' A.sx .non
    | exc c => cases hg
  | ex c S => cases r with
    | ok e' => cases hg
    | exc c' => cases hg; exact fun G' H' σ' _ A => q H' A.sx.h
  | bk S => cases r <;> cases hg
  | ct S => cases r <;> cases hg
theorem spF_len {K : PySem.W.Frag} {n : Nat} {R : List RD → Res → Prop} {ps : List Str} (hp : n = ps.length) : ∀ vs H Q E, spF K n R vs H Q E → vs.length = ps.length := fun vs H Q E h => by
  obtain ⟨G, ds, r, hn, _⟩ := h
  exact hn.trans hp
end RP

set_option Elab.async false
set_option linter.all false
set_option maxRecDepth 100000
set_option maxHeartbeats 2000000
namespace RP
open PySem PySem.Spec PyProof.Rows L2

/-! ### the layer's rules, the written part by name (a block's own context has the same) -/
section
variable {X : Cx} (K : PySem.W.Frag)
theorem ix_seqK (h : X.K = K) : IxR X (rIx K) := by subst h; exact ix_seq
theorem sl_listK (h : X.K = K) : SlR X (rSlL K) := by subst h; exact sl_list
theorem sl_tupK (h : X.K = K) : SlR X (rSlT K) := by subst h; exact sl_tup
theorem op_inK (h : X.K = K) : OpR X (compareOp .In) (rIn K false) := by subst h; exact op_in_seq
theorem op_notInK (h : X.K = K) : OpR X (compareOp .NotIn) (rIn K true) := by subst h; exact op_notIn_seq
theorem op_eqDK (h : X.K = K) (hu : X.A.units + 64 < cLine) : OpR X (compareOp .Eq) (rEqD K) := by subst h; exact op_eqD hu
theorem op_neDK (h : X.K = K) (hu : X.A.units + 64 < cLine) : OpR X (compareOp .NotEq) (rNeD K) := by subst h; exact op_neD hu
theorem op_catTK (h : X.K = K) : OpR X (binaryOp .Add) (rCatT K) := by subst h; exact op_catT
def rLenK (K : PySem.W.Frag) : List V → Hp → VK → Prop := fun xs H Q => ∃ p ys, xs = [.ref p] ∧ (SqL K H p ys ∨ SqT K H p ys) ∧ Q (.int ys.length) H
theorem call_lenK (h : X.K = K) : CallR X (.builtin "len") (rLenK K) := by subst h; exact call_len_seq
theorem call_isiK' (h : X.K = K) : CallR X (.builtin "isinstance") (rIsi K) := by subst h; exact call_isi
def rListK (K : PySem.W.Frag) : List V → Hp → VK → Prop := fun xs H Q => ∃ p ys, xs = [.ref p] ∧ (SqL K H p ys ∨ SqT K H p ys) ∧ ∀ l, H l = none → Q (.ref l) (upd H l (.lst ys))
theorem call_listK (h : X.K = K) : CallR X (.type "list") (rListK K) := by subst h; exact call_list_of
theorem call_allK (h : X.K = K) (hc : X.calm = true) : CallR X (.builtin "all") (rAll K) := by subst h; exact cr_all hc
theorem call_anyK (h : X.K = K) (hc : X.calm = true) : CallR X (.builtin "any") (rAny K) := by subst h; exact cr_any hc
theorem call_sortedSK (h : X.K = K) : CallR X (.builtin "sorted") (rSortedS K) := by subst h; exact cr_sortedS
theorem pi_listK {tg l : Expr} {tl : TE} (h : X.K = K) (hl : PE X l tl) : PI X tg l (iList K tl) := by subst h; exact pi_list hl
theorem pi_tupK {tg l : Expr} {tl : TE} (h : X.K = K) (hl : PE X l tl) : PI X tg l (iTup K tl) := by subst h; exact pi_tup hl
theorem pi_zipK {e e2 : Expr} {ta : TA} {p pos tpos : Pos} {elts : List Expr} {kk : Nat} (h : X.K = K) (hg : Gl X "zip") (hm : X.mg "zip" = none) (ha : PA X [e, e2] ta)
    (hs : starEach [e, e2] X.env = (false, eval e X.env) :: starEach [e2] X.env := by rfl) (hpl : (backTo pos (starEach [e2] X.env)).any (·.1) = false := by rfl) :
    PI X (.Tuple elts kk tpos) (.Call (.Name "zip" p) [e, e2] [] pos) (iZip K ta) := by subst h; exact pi_zip hg hm ha hs hpl
theorem pi_enumK {e : Expr} {ta : TA} {p pos tpos : Pos} {elts : List Expr} {kk : Nat} (h : X.K = K) (hg : Gl X "enumerate") (hm : X.mg "enumerate" = none) (ha : PA X [e] ta) (hs : starEach [e] X.env = [(false, eval e X.env)] := by rfl) :
    PI X (.Tuple elts kk tpos) (.Call (.Name "enumerate" p) [e] [] pos) (iEnum K ta) := by subst h; exact pi_enum hg hm ha hs
theorem pg_tupK {es : List Expr} {k : Nat} {t : TGs} {n : Nat} {pos : Pos} (h : X.K = K) (hc : X.calm = true) (hp : PGs X es t)
    (hn : (assignEach es X.env).length = n := by rfl) (hst : (assignEach es X.env).findIdx? (·.1) = none := by rfl) : PG X (.Tuple es k pos) (gTup K n t) := by subst h; exact pg_tup hc hp hn hst
end
/-! ### data as PyData, for == -/
mutual
def RD.py : RD → Option PyData
  | .non => some .none
  | .bl b => some (.bool b)
  | .int i => some (.int i)
  | .str x => some (.str x)
  | .tup ds => (RD.pys ds).map .tuple
  | .lst ds => (RD.pys ds).map .list
  | .dk _ _ => none
  | .dt _ _ => none
  | .obj _ _ _ => none
  | .ty _ => none
  | .cls _ => none
  | .scr _ => none
def RD.pys : List RD → Option (List PyData)
  | [] => some []
  | d :: ds => match RD.py d, RD.pys ds with
    | some p, some ps => some (p :: ps)
    | _, _ => none
end
section
variable {K : PySem.W.Frag} {G H : Hp}
mutual
theorem Rp.dp : ∀ {v : V} {d : RD} {p : PyData}, Rp K G v d → RD.py d = some p → Dp K G v p
  | _, _, _, .non, h => by cases h; exact .non
  | _, _, _, .bl b, h => by cases h; exact .bl b
  | _, _, _, .int i, h => by cases h; exact .int i
  | _, _, _, .str x, h => by cases h; exact .str x
  | _, .tup ds, p, .tup s r, h => by
    simp only [RD.py] at h
    cases e : RD.pys ds with
    | none => rw [e] at h; cases h
    | some ps => rw [e] at h; cases h; exact .tup s (RpAll.dp r e)
  | _, .lst ds, p, .lst s r, h => by
    simp only [RD.py] at h
    cases e : RD.pys ds with
    | none => rw [e] at h; cases h
    | some ps => rw [e] at h; cases h; exact .lst (Evl.sq_of s) (RpAll.dp r e)
  | _, _, _, .dk _ _ _ _, h => by cases h
  | _, _, _, .dt _ _ _ _, h => by cases h
  | _, _, _, .obj _ _ _ _, h => by cases h
  | _, _, _, .ty _, h => by cases h
  | _, _, _, .cls _, h => by cases h
  | _, _, _, .scr _, h => by cases h
theorem RpAll.dp : ∀ {vs : List V} {ds : List RD} {ps : List PyData}, RpAll K G vs ds → RD.pys ds = some ps → DpAll K G vs ps
  | _, _, _, .nil, h => by cases h; exact .nil
  | _, d :: ds, ps, .cons a b, h => by
    simp only [RD.pys] at h
    cases e1 : RD.py d with
    | none => rw [e1] at h; cases h
    | some q => cases e2 : RD.pys ds with
      | none => rw [e1, e2] at h; cases h
      | some qs => rw [e1, e2] at h; cases h; exact .cons (Rp.dp a e1) (RpAll.dp b e2)
end
end
section
variable {K : PySem.W.Frag} {S : Sg} {te ta : TE} {d d1 d2 : RD}
theorem dp_ex {G H : Hp} {v : V} {p : PyData} {d : RD} (e : Evl.Ex G H) (r : Rp K G v d) (h : RD.py d = some p) : Dp K H v p := (r.mono e).dp h
theorem ro_eqD {p q : PyData} {b : Bool} (h1 : RD.py d1 = some p) (h2 : RD.py d2 = some q) (s1 : SeqAt.shaped p = true) (s2 : SeqAt.shaped q = true) (hb : PyData.eqv p q = b) : RO K (rEqD K) d1 d2 (.bl b) := fun G H x y e hx hy Q k =>
  ⟨p, q, dp_ex e hx h1, dp_ex e hy h2, s1, s2, by rw [hb]; exact k _ G H (.refl e) (.bl _)⟩
theorem ro_neD {p q : PyData} {b : Bool} (h1 : RD.py d1 = some p) (h2 : RD.py d2 = some q) (s1 : SeqAt.shaped p = true) (s2 : SeqAt.shaped q = true) (hb : PyData.eqv p q = b) : RO K (rNeD K) d1 d2 (.bl (!b)) := fun G H x y e hx hy Q k =>
  ⟨p, q, dp_ex e hx h1, dp_ex e hy h2, s1, s2, by rw [hb]; exact k _ G H (.refl e) (.bl _)⟩

theorem ro_eqS {p : PyData} (h1 : RD.py d = some p) (s1 : SeqAt.shaped p = true) : RO K (rEqD K) d d (.bl true) := ro_eqD h1 h1 s1 s1 (SeqAt.eqv_refl _ (SeqAt.canLay_of_shaped s1))
theorem ro_neS {p : PyData} (h1 : RD.py d = some p) (s1 : SeqAt.shaped p = true) : RO K (rNeD K) d d (.bl false) := ro_neD (b := true) h1 h1 s1 s1 (SeqAt.eqv_refl _ (SeqAt.canLay_of_shaped s1))
theorem ae_dnew : AE K tDNewK S (.dk [] []) := fun G0 H0 G H σ A Q q p hp =>
  have sn := Sx.new (o := .dK []) A.gh hp
  q (.ref p) _ _ sn (.dk (kvs := []) (xs := []) upd_same rfl rfl .nil)
/-! ### built-in calls -/
theorem rc_abs {i : Int} : RC K (fun xs H Q => ∃ i, xs = [.int i] ∧ Q (.int (if i < 0 then -i else i)) H) [.int i] (.int (i.natAbs : Int)) := fun G H vs e r Q q => by
  cases r with
  | cons a r => cases r; cases a; exact ⟨i, rfl, by
      have h : (if i < 0 then -i else i) = (i.natAbs : Int) := by split <;> omega
      rw [h]; exact q _ G H (.refl e) (.int _)⟩
theorem rc_int {i : Int} : RC K (fun xs H Q => (∃ i, xs = [.int i] ∧ Q (.int i) H) ∨ ∃ k, xs = [.bl k] ∧ Q (.int (if k then 1 else 0)) H) [.int i] (.int i) := fun G H vs e r Q q => by
  cases r with
  | cons a r => cases r; cases a; exact .inl ⟨i, rfl, q _ G H (.refl e) (.int _)⟩
theorem rc_lenL {ds : List RD} : RC K (rLenK K) [.lst ds] (.int (ds.length : Int)) := fun G H vs e r Q q => by
  cases r with
  | cons a r =>
    cases r
    obtain ⟨p, xs, rfl, hs, ha⟩ := a.lst_inv
    exact ⟨p, xs, rfl, .inl (Evl.sq_of (e _ _ hs)), by rw [ha.length]; exact q _ G H (.refl e) (.int _)⟩
theorem rc_lenT {ds : List RD} : RC K (rLenK K) [.tup ds] (.int (ds.length : Int)) := fun G H vs e r Q q => by
  cases r with
  | cons a r =>
    cases r
    obtain ⟨p, xs, rfl, hs, ha⟩ := a.tup_inv
    exact ⟨p, xs, rfl, .inr (Evl.ex_t e hs), by rw [ha.length]; exact q _ G H (.refl e) (.int _)⟩
theorem rc_gcd {a b : Int} : RC K rGcd [.int a, .int b] (.int (Nat.gcd a.natAbs b.natAbs : Nat)) := fun G H vs e r Q q => by
  cases r with
  | cons x r => cases r with
    | cons y r => cases r; cases x; cases y; exact ⟨a, b, rfl, q _ G H (.refl e) (.int _)⟩
/-- the kind of a datum, by Python's name -/
def RD.kind : RD → Option String
  | .non => some "NoneType"
  | .bl _ => some "bool"
  | .int _ => some "int"
  | .str _ => some "str"
  | .tup _ => some "tuple"
  | .lst _ => some "list"
  | .dk _ _ => some "dict"
  | .dt _ _ => some "dict"
  | _ => none
theorem tyx_seqL {H : Hp} {a : Addr} {xs : List V} (h : SqL K H a xs) : TyX K H (.ref a) (.type "list") := by
  rcases h with (h | ⟨o, h⟩) | ⟨o, its, n, h, hc, _⟩
  · exact .base (.lst h)
  · exact .base (.frz h)
  · exact .kList h hc
theorem tyx_seqT {H : Hp} {a : Addr} {xs : List V} (h : SqT K H a xs) : TyX K H (.ref a) (.type "tuple") := by
  rcases h with (h | ⟨o, h⟩) | ⟨o, its, n, h, hc, _⟩
  · exact .base (.tup h)
  · exact .fTuple h
  · exact .kTuple h hc
theorem tyx_of {G H : Hp} {v : V} {n : String} (e : Evl.Ex G H) (r : Rp K G v d) (h : d.kind = some n) : TyX K H v (.type n) := by
  cases r with
  | non => cases h; exact .base .non
  | bl b => cases h; exact .base (.bl b)
  | int i => cases h; exact .base (.int i)
  | str x => cases h; exact .base (.str x)
  | tup s _ => cases h; exact tyx_seqT (Evl.ex_t e s)
  | lst s _ => cases h; exact tyx_seqL (Evl.sq_of (e _ _ s))
  | dk s _ _ _ => cases h; exact .base (.dK (e _ _ s))
  | dt s _ _ _ => cases h; exact .base (.dT (e _ _ s))
  | obj _ _ _ _ => cases h
  | ty _ => cases h
  | cls _ => cases h
  | scr _ => cases h
theorem rc_isi {n m : String} {b : Bool} (hk : d.kind = some n) (hb : kitB n m = some b) : RC K (rIsi K) [d, .ty m] (.bl b) := fun G H vs e r Q q => by
  cases r with
  | cons x r => cases r with
    | cons y r => cases r; cases y; exact ⟨_, _, _, _, b, rfl, .ty m, tyx_of e x hk, kit_ty hb, q _ G H (.refl e) (.bl _)⟩
/-! ### slices, sums of lists and tuples -/
def cutD (ds : List RD) (lo hi : Option Int) : List RD := (ds.drop (HT.sIx ds.length 0 lo)).take (HT.sIx ds.length ds.length hi - HT.sIx ds.length 0 lo)
theorem cut_all {G : Hp} {vs : List V} {ds : List RD} {lo hi : Option Int} (r : RpAll K G vs ds) : RpAll K G (cutV vs lo hi) (cutD ds lo hi) := by
  unfold cutV cutD
  rw [r.length]
  exact (r.drop _).take _
theorem ae_slL {tl th : TO} {ds : List RD} {lo hi : Option Int} (h : AE K te S (.lst ds)) (h1 : AO K tl S lo) (h2 : AO K th S hi) : AE K (tSl (rSlL K) te tl th) S (.lst (cutD ds lo hi)) := fun G0 H0 G H σ A Q q =>
  h G0 H0 G H σ A _ fun v G1 H1 s1 r1 => h1 G0 H0 G1 H1 σ (A.ext s1) _ fun G2 H2 s2 => h2 G0 H0 G2 H2 σ (A.ext (s1.trans s2)) _ fun G3 H3 s3 => by
    obtain ⟨a, xs, rfl, hs, ha⟩ := r1.lst_inv
    have s23 := s2.trans s3
    refine ⟨a, xs, rfl, Evl.sq_of ((s1.s.trans s23.h) _ _ hs), fun p hp => ?_⟩
    have sn := Sx.new (o := .lst (cutV xs lo hi)) s3.s hp
    exact q _ _ _ ((s1.trans s23).trans sn) (.lst upd_same ((cut_all ha).mono (s23.g.trans sn.g)))
theorem ro_cat {as bs : List RD} (hl : as.length + bs.length ≤ 100000) : RO K rCat (.lst as) (.lst bs) (.lst (as ++ bs)) := fun G H x y e hx hy Q q => by
  obtain ⟨a, xs, rfl, h1, r1⟩ := hx.lst_inv
  obtain ⟨b, ys, rfl, h2, r2⟩ := hy.lst_inv
  refine ⟨a, b, xs, ys, rfl, rfl, e _ _ h1, e _ _ h2, Evl.sz_of (by rw [r1.length, r2.length]; exact hl), fun p hp => ?_⟩
  have sn := Sx.new (o := .lst (xs ++ ys)) e hp
  exact q _ _ _ sn (.lst upd_same ((r1.append r2).mono sn.g))
/-! ### isinstance of a caught error -/
def rIsEx (K : PySem.W.Frag) (cls : Value) (dd : Option Addr) (a : Addr) : List V → Hp → VK → Prop := fun xs H Q => ∃ D, cls = .ref D ∧ dd = none ∧ ExcC K D ∧ rIsE K D a xs H Q
theorem call_isEx {X : Cx} {a : Addr} {cls : Value} {dd : Option Addr} {oe : Obj} {pn : List (Addr × Obj)} (hz : Zc cls dd oe) (hf : ∃ vs, oe.data = .fields vs) : CallR (X.suite a ((a, oe) :: pn)) (.builtin "isinstance") (rIsEx X.K cls dd a) := by
  intro pins s σ H xs us Q I r h
  obtain ⟨D, rfl, rfl, C, h⟩ := h
  exact call_isE C hz hf pins s σ H xs us Q I r h
theorem rc_isEt {D a : Addr} {n : String} {b : Bool} (C : ExcC K D) (hk : PySem.W.kitOne K (.ref D) (.type n) = some b) : RC K (rIsEx K (.ref D) none a) [.cls a, .ty n] (.bl b) := fun G H vs e r Q q => by
  cases r with
  | cons x r => cases r with
    | cons y r => cases r; cases x; cases y; exact ⟨D, rfl, rfl, C, _, _, b, rfl, fun u h => h, hk, q _ G H (.refl e) (.bl _)⟩
theorem rc_isEc {D D2 a : Addr} {b : Bool} (C : ExcC K D) (hk : PySem.W.kitOne K (.ref D) (.ref D2) = some b) : RC K (rIsEx K (.ref D) none a) [.cls a, .cls D2] (.bl b) := fun G H vs e r Q q => by
  cases r with
  | cons x r => cases r with
    | cons y r => cases r; cases x; cases y; exact ⟨D, rfl, rfl, C, _, _, b, rfl, fun u h => h, hk, q _ G H (.refl e) (.bl _)⟩
theorem ae_cls {C : Addr} : AE K (tC (.ref C)) S (.cls C) := ae_c fun _ => .cls C
/-! ### the script -/
theorem rc_lenS {ns : List Int} : RC K (rLenK K) [.scr ns] (.int (ns.length : Int)) := fun G H vs e r Q q => by
  cases r with
  | cons a r =>
    cases r
    cases a with
    | scr hs => exact ⟨_, _, rfl, .inl (Evl.ex_l e hs), by rw [List.length_map]; exact q _ G H (.refl e) (.int _)⟩
theorem atI_map {α β : Type} {f : α → β} {xs : List α} {i : Int} {x : α} (h : atI xs i = some x) : atI (xs.map f) i = some (f x) := by
  obtain ⟨j, h1, h2⟩ := atI_get h
  unfold atI
  rw [List.length_map, h1]
  show (xs.map f)[j]? = some (f x)
  rw [List.getElem?_map, h2]
  rfl
theorem ro_ixS {ns : List Int} {i n : Int} (h : atI ns i = some n) : RO K (rIx K) (.scr ns) (.int i) (.int n) := fun G H x y e hx hy Q q => by
  cases hx with
  | scr hs =>
    cases hy
    exact .inl ⟨_, _, i, .int n, rfl, rfl, Evl.ex_l e hs, atI_map h, q _ G H (.refl e) (.int _)⟩
end
end RP

set_option Elab.async false
set_option linter.all false
set_option maxRecDepth 100000
set_option maxHeartbeats 2000000
namespace RP
open PySem PySem.Spec PyProof.Rows L2
/-! ### ratios -/
abbrev Q2 := Int × Int
def eR (a : Q2) : RD := .tup [.int a.1, .int a.2]
/-- the lowest form; g divides exactly -/
def lowR (n d : Int) : Q2 := (n / (Nat.gcd n.natAbs d.natAbs : Nat), d / (Nat.gcd n.natAbs d.natAbs : Nat))
def lawLow (n d : Int) : Q2 := if d < 0 then (0 - n / (Nat.gcd n.natAbs d.natAbs : Nat), 0 - d / (Nat.gcd n.natAbs d.natAbs : Nat)) else lowR n d
/-- a ratio in the one form -/
structure IsR (a : Q2) : Prop where
  pos : 0 < a.2
  cop : Nat.gcd a.1.natAbs a.2.natAbs = 1
/-- small enough -/
@[irreducible] def Bd (B : Nat) (x : Int) : Prop := x.natAbs < 2 ^ B
theorem Bd.lt {B : Nat} {x : Int} (h : Bd B x) : x.natAbs < 2 ^ B := by unfold Bd at h; exact h
theorem Bd.of {B : Nat} {x : Int} (h : x.natAbs < 2 ^ B) : Bd B x := by unfold Bd; exact h
theorem bd_zero {B : Nat} : Bd B 0 := .of (Nat.two_pow_pos _)
theorem Bd.mono {B C : Nat} {x : Int} (h : Bd B x) (l : B ≤ C) : Bd C x := .of (Nat.lt_of_lt_of_le h.lt (Nat.pow_le_pow_right (by decide) l))
theorem Bd.mul {B C : Nat} {x y : Int} (h : Bd B x) (k : Bd C y) : Bd (B + C) (x * y) := .of (L2.wide_lt h.lt k.lt)
theorem Bd.add {B : Nat} {x y : Int} (h : Bd B x) (k : Bd B y) : Bd (B + 1) (x + y) := by
  unfold Bd at *
  rw [Nat.pow_succ]
  omega
theorem Bd.sub {B : Nat} {x y : Int} (h : Bd B x) (k : Bd B y) : Bd (B + 1) (x - y) := by
  unfold Bd at *
  rw [Nat.pow_succ]
  omega
theorem Bd.neg {B : Nat} {x : Int} (h : Bd B x) : Bd B (-x) := by unfold Bd at *; omega
theorem Bd.wmul {B C : Nat} {x y : Int} (h : Bd B x) (k : Bd C y) (hB : 0 < B) (hC : 0 < C) (l : B + C ≤ 1000000) : CMulW x y := L2.wide_mul h.lt k.lt hB hC l
theorem gcd_pos_of {n d : Int} (h : d ≠ 0) : 0 < Nat.gcd n.natAbs d.natAbs := Nat.gcd_pos_of_pos_right _ (by omega)
theorem gcd_le_of {n d : Int} (h : d ≠ 0) : Nat.gcd n.natAbs d.natAbs ≤ d.natAbs := Nat.gcd_le_right _ (by omega)
theorem gcd_wdiv {n d x : Int} {B : Nat} (h : d ≠ 0) (hb : Bd B d) (h0 : 0 < B) (h9 : B ≤ 9000) : CDivW x (Nat.gcd n.natAbs d.natAbs : Nat) := by
  refine L2.wide_div (b := B) ?_ ?_ h0 h9
  · have := gcd_pos_of (n := n) h
    omega
  · rw [Int.natAbs_natCast]
    exact Nat.lt_of_le_of_lt (gcd_le_of h) hb.lt
theorem lowR_dvd (n d : Int) : ((Nat.gcd n.natAbs d.natAbs : Nat) : Int) ∣ n ∧ ((Nat.gcd n.natAbs d.natAbs : Nat) : Int) ∣ d := by
  refine ⟨Int.ofNat_dvd_left.mpr (Nat.gcd_dvd_left _ _), Int.ofNat_dvd_left.mpr (Nat.gcd_dvd_right _ _)⟩
theorem lowR_mul (n d : Int) : n = (lowR n d).1 * (Nat.gcd n.natAbs d.natAbs : Nat) ∧ d = (lowR n d).2 * (Nat.gcd n.natAbs d.natAbs : Nat) :=
  ⟨(Int.ediv_mul_cancel (lowR_dvd n d).1).symm, (Int.ediv_mul_cancel (lowR_dvd n d).2).symm⟩
theorem lowR_isR {n d : Int} (h : 0 < d) : IsR (lowR n d) := by
  have hg := gcd_pos_of (n := n) (d := d) (by omega)
  obtain ⟨e1, e2⟩ := lowR_mul n d
  constructor
  · exact Int.ediv_pos_of_pos_of_dvd h (by omega) (lowR_dvd n d).2
  · show Nat.gcd (n / (Nat.gcd n.natAbs d.natAbs : Nat)).natAbs (d / (Nat.gcd n.natAbs d.natAbs : Nat)).natAbs = 1
    rw [Int.natAbs_ediv_of_dvd (lowR_dvd n d).1, Int.natAbs_ediv_of_dvd (lowR_dvd n d).2, Int.natAbs_natCast]
    exact Nat.gcd_div_gcd_div_gcd_of_pos_right (by omega)
/-- the cross product is kept -/
theorem lowR_cross (n d : Int) : (lowR n d).1 * d = n * (lowR n d).2 := by
  obtain ⟨e1, e2⟩ := lowR_mul n d
  generalize (Nat.gcd n.natAbs d.natAbs : Nat) = g at e1 e2
  generalize lowR n d = p at e1 e2 ⊢
  subst e1 e2
  rw [Int.mul_assoc, Int.mul_comm p.2]
/-- two ratios in the one form with one cross product are one -/
theorem IsR.ext {a b : Q2} (ha : IsR a) (hb : IsR b) (h : a.1 * b.2 = b.1 * a.2) : a = b := by
  have e2 : a.2.natAbs = b.2.natAbs := by
    have h' : a.1.natAbs * b.2.natAbs = b.1.natAbs * a.2.natAbs := by rw [← Int.natAbs_mul, ← Int.natAbs_mul, h]
    refine Nat.dvd_antisymm ?_ ?_
    · have : a.2.natAbs ∣ a.1.natAbs * b.2.natAbs := ⟨b.1.natAbs, by rw [h', Nat.mul_comm]⟩
      exact Nat.Coprime.dvd_of_dvd_mul_left (Nat.Coprime.symm ha.cop) this
    · have : b.2.natAbs ∣ b.1.natAbs * a.2.natAbs := ⟨a.1.natAbs, by rw [← h', Nat.mul_comm]⟩
      exact Nat.Coprime.dvd_of_dvd_mul_left (Nat.Coprime.symm hb.cop) this
  have p1 := ha.pos
  have p2 := hb.pos
  have e3 : a.2 = b.2 := by omega
  have e4 : a.1 = b.1 := by
    rw [e3] at h
    exact Int.eq_of_mul_eq_mul_right (by omega) h
  exact Prod.ext e4 e3
theorem lowR_eq {a : Q2} {n d : Int} (ha : IsR a) (hd : 0 < d) (h : a.1 * d = n * a.2) : lowR n d = a := by
  refine IsR.ext (lowR_isR hd) ha ?_
  have c := lowR_cross n d
  -- (lowR).1 * d = n * (lowR).2 and a.1 * d = n * a.2
  have : ((lowR n d).1 * a.2) * d = (a.1 * (lowR n d).2) * d := by
    calc ((lowR n d).1 * a.2) * d = ((lowR n d).1 * d) * a.2 := by rw [Int.mul_right_comm]
      _ = (n * (lowR n d).2) * a.2 := by rw [c]
      _ = (n * a.2) * (lowR n d).2 := by rw [Int.mul_right_comm]
      _ = (a.1 * d) * (lowR n d).2 := by rw [h]
      _ = (a.1 * (lowR n d).2) * d := by rw [Int.mul_right_comm]
  exact Int.eq_of_mul_eq_mul_right (by omega) this
theorem lowR_self {a : Q2} (ha : IsR a) : lowR a.1 a.2 = a := lowR_eq ha ha.pos rfl
theorem lowR_bd {n d : Int} {B : Nat} (hn : Bd B n) : Bd B (lowR n d).1 := by
  refine .of ?_
  unfold lowR
  rw [Int.natAbs_ediv_of_dvd (lowR_dvd n d).1, Int.natAbs_natCast]
  exact Nat.lt_of_le_of_lt (Nat.div_le_self _ _) hn.lt
theorem lowR_bd2 {n d : Int} {B : Nat} (hd : Bd B d) : Bd B (lowR n d).2 := by
  refine .of ?_
  unfold lowR
  rw [Int.natAbs_ediv_of_dvd (lowR_dvd n d).2, Int.natAbs_natCast]
  exact Nat.lt_of_le_of_lt (Nat.div_le_self _ _) hd.lt
theorem lawLow_pos {n d : Int} (h : 0 < d) : lawLow n d = lowR n d := if_neg (by omega)
theorem eR_py (a : Q2) : RD.py (eR a) = some (.tuple [.int a.1, .int a.2]) := rfl
theorem lowR_scale {n d f : Int} (hd : 0 < d) (hf : 0 < f) : lowR (n * f) (d * f) = lowR n d := by
  refine lowR_eq (lowR_isR hd) (Int.mul_pos hd hf) ?_
  have c := lowR_cross n d
  rw [← Int.mul_assoc, c, Int.mul_right_comm]
theorem lowR_one (n : Int) : lowR n 1 = (n, 1) := by
  refine lowR_eq ⟨Int.one_pos, ?_⟩ (by decide) (by rfl)
  exact Nat.gcd_one_right _
theorem lowR_zero {d : Int} (hd : 0 < d) : lowR 0 d = (0, 1) := by
  refine lowR_eq ⟨by decide, by decide⟩ hd ?_
  rw [Int.zero_mul, Int.zero_mul]
theorem IsR.low {a : Q2} (h : IsR a) : lawLow a.1 a.2 = a := by rw [lawLow_pos h.pos, lowR_self h]
/-- sums, differences, products, quotients -/
def addR (a b : Q2) : Q2 := lowR (a.1 * b.2 + b.1 * a.2) (a.2 * b.2)
def subR (a b : Q2) : Q2 := lowR (a.1 * b.2 - b.1 * a.2) (a.2 * b.2)
def mulR (a b : Q2) : Q2 := lowR (a.1 * b.1) (a.2 * b.2)
def divR (a b : Q2) : Q2 := if b.1 < 0 then lowR (-a.1 * b.2) (a.2 * -b.1) else lowR (a.1 * b.2) (a.2 * b.1)
theorem addR_isR {a b : Q2} (ha : IsR a) (hb : IsR b) : IsR (addR a b) := lowR_isR (Int.mul_pos ha.pos hb.pos)
theorem subR_isR {a b : Q2} (ha : IsR a) (hb : IsR b) : IsR (subR a b) := lowR_isR (Int.mul_pos ha.pos hb.pos)
theorem mulR_isR {a b : Q2} (ha : IsR a) (hb : IsR b) : IsR (mulR a b) := lowR_isR (Int.mul_pos ha.pos hb.pos)
theorem divR_isR {a b : Q2} (ha : IsR a) (hb : IsR b) (h : b.1 ≠ 0) : IsR (divR a b) := by
  unfold divR
  split
  · exact lowR_isR (Int.mul_pos ha.pos (by omega))
  · exact lowR_isR (Int.mul_pos ha.pos (by omega))
theorem Bd.low {n d : Int} {B C : Nat} (hn : Bd B n) (hd : Bd C d) : Bd B (lowR n d).1 ∧ Bd C (lowR n d).2 := ⟨lowR_bd hn, lowR_bd2 hd⟩
/-- bounds of both parts -/
def Bq (B : Nat) (a : Q2) : Prop := Bd B a.1 ∧ Bd B a.2
theorem Bq.mono {B C : Nat} {a : Q2} (h : Bq B a) (l : B ≤ C) : Bq C a := ⟨h.1.mono l, h.2.mono l⟩
/-- a ratio whose parts are small enough to be reckoned with -/
def Sm (a : Q2) : Prop := Bd 4000 a.1 ∧ Bd 4000 a.2
theorem sm_mul {a b : Q2} (ha : Sm a) (hb : Sm b) : CMulW a.1 b.2 ∧ CMulW b.1 a.2 := ⟨ha.1.wmul hb.2 (by decide) (by decide) (by decide), hb.1.wmul ha.2 (by decide) (by decide) (by decide)⟩
theorem Bq.sm {B : Nat} {a : Q2} (h : Bq B a) (l : B ≤ 4000) : Sm a := h.mono l
theorem addR_bq {a b : Q2} {B C : Nat} (ha : Bq B a) (hb : Bq C b) : Bq (B + C + 1) (addR a b) :=
  ⟨lowR_bd ((ha.1.mul hb.2).add (Nat.add_comm C B ▸ hb.1.mul ha.2)), lowR_bd2 ((ha.2.mul hb.2).mono (Nat.le_succ _))⟩
theorem subR_bq {a b : Q2} {B C : Nat} (ha : Bq B a) (hb : Bq C b) : Bq (B + C + 1) (subR a b) :=
  ⟨lowR_bd ((ha.1.mul hb.2).sub (Nat.add_comm C B ▸ hb.1.mul ha.2)), lowR_bd2 ((ha.2.mul hb.2).mono (Nat.le_succ _))⟩
theorem mulR_bq {a b : Q2} {B C : Nat} (ha : Bq B a) (hb : Bq C b) : Bq (B + C) (mulR a b) := ⟨lowR_bd (ha.1.mul hb.1), lowR_bd2 (ha.2.mul hb.2)⟩
theorem one_bd {B : Nat} (h : 1 ≤ B) : Bd B 1 := Bd.mono (B := 1) (by unfold Bd; decide) h
end RP

set_option Elab.async false
set_option linter.all false
set_option maxRecDepth 100000
set_option maxHeartbeats 2000000
namespace RP
open PySem PySem.Spec PyProof.Rows L2
/-! ### ratios as Rat -/
def ofQ (q : Rat) : Q2 := (q.num, (q.den : Int))
def eQ (q : Rat) : RD := .tup [.int q.num, .int (q.den : Int)]
theorem eQ_eR (q : Rat) : eQ q = eR (ofQ q) := rfl
theorem ofQ_isR (q : Rat) : IsR (ofQ q) := ⟨by show (0 : Int) < (q.den : Int); have := q.den_pos; omega, by show Nat.gcd q.num.natAbs (q.den : Int).natAbs = 1; rw [Int.natAbs_natCast]; exact q.reduced⟩
theorem low_ofQ {n d : Int} (h : 0 < d) : lowR n d = ofQ (Rat.divInt n d) := by
  refine lowR_eq (ofQ_isR _) h ?_
  have e : Rat.divInt (Rat.divInt n d).num ((Rat.divInt n d).den : Int) = Rat.divInt n d := by
    rw [Rat.divInt_ofNat, Rat.mkRat_self]
  have hz := (Rat.divInt n d).den_nz
  rw [Rat.divInt_eq_divInt_iff (by omega) (by omega)] at e
  exact e
theorem eQ_low {n d : Int} (h : 0 < d) : eR (lowR n d) = eQ (Rat.divInt n d) := by rw [low_ofQ h]; rfl
theorem eQ_lawLow {n d : Int} (h : 0 < d) : eR (lawLow n d) = eQ (Rat.divInt n d) := by rw [lawLow_pos h, eQ_low h]
/-- bounds of both parts -/
def Bt (B : Nat) (q : Rat) : Prop := Bd B q.num ∧ Bd B (q.den : Int)
theorem Bt.mono {B C : Nat} {q : Rat} (h : Bt B q) (l : B ≤ C) : Bt C q := ⟨h.1.mono l, h.2.mono l⟩
theorem bt_low {n d : Int} {B : Nat} (h : 0 < d) (hn : Bd B n) (hd : Bd B d) : Bt B (Rat.divInt n d) := by
  have e := low_ofQ (n := n) h
  have h1 := lowR_bd (d := d) hn
  have h2 := lowR_bd2 (n := n) hd
  rw [e] at h1 h2
  exact ⟨h1, h2⟩
theorem den_ne (q : Rat) : (q.den : Int) ≠ 0 := by have := q.den_nz; omega
theorem den_pos' (q : Rat) : (0 : Int) < (q.den : Int) := by have := q.den_pos; omega
theorem num_den (q : Rat) : Rat.divInt q.num (q.den : Int) = q := by rw [Rat.divInt_ofNat, Rat.mkRat_self]
theorem add_divInt (a b : Rat) : Rat.divInt (a.num * b.den + b.num * a.den) (a.den * b.den) = a + b := by
  conv => rhs; rw [← num_den a, ← num_den b, Rat.divInt_add_divInt _ _ (den_ne a) (den_ne b)]
theorem sub_divInt (a b : Rat) : Rat.divInt (a.num * b.den - b.num * a.den) (a.den * b.den) = a - b := by
  conv => rhs; rw [← num_den a, ← num_den b, Rat.divInt_sub_divInt _ _ (den_ne a) (den_ne b)]
theorem mul_divInt (a b : Rat) : Rat.divInt (a.num * b.num) (a.den * b.den) = a * b := by
  conv => rhs; rw [← num_den a, ← num_den b, Rat.divInt_mul_divInt]
theorem div_divInt (a b : Rat) : Rat.divInt (a.num * b.den) (a.den * b.num) = a / b := by
  conv => rhs; rw [Rat.div_def, ← num_den a, ← num_den b, Rat.inv_divInt, Rat.divInt_mul_divInt]
theorem lt_iff' (a b : Rat) : (a.num * b.den < b.num * a.den) = (a < b) := propext (Rat.lt_iff a b).symm
theorem le_iff' (a b : Rat) : (a.num * b.den ≤ b.num * a.den) = (a ≤ b) := propext (Rat.le_iff a b).symm
theorem Bt.add {a b : Rat} {B C : Nat} (ha : Bt B a) (hb : Bt C b) : Bt (B + C + 1) (a + b) := by
  rw [← add_divInt]
  exact bt_low (Int.mul_pos (den_pos' a) (den_pos' b)) ((ha.1.mul hb.2).add (Nat.add_comm C B ▸ hb.1.mul ha.2)) ((ha.2.mul hb.2).mono (Nat.le_succ _))
theorem Bt.sub {a b : Rat} {B C : Nat} (ha : Bt B a) (hb : Bt C b) : Bt (B + C + 1) (a - b) := by
  rw [← sub_divInt]
  exact bt_low (Int.mul_pos (den_pos' a) (den_pos' b)) ((ha.1.mul hb.2).sub (Nat.add_comm C B ▸ hb.1.mul ha.2)) ((ha.2.mul hb.2).mono (Nat.le_succ _))
theorem Bt.mul {a b : Rat} {B C : Nat} (ha : Bt B a) (hb : Bt C b) : Bt (B + C) (a * b) := by
  rw [← mul_divInt]
  exact bt_low (Int.mul_pos (den_pos' a) (den_pos' b)) (ha.1.mul hb.1) (ha.2.mul hb.2)
theorem eQ_py (q : Rat) : RD.py (eQ q) = some (.tuple [.int q.num, .int (q.den : Int)]) := rfl
/-- small enough to be reckoned with -/
abbrev Sq (q : Rat) : Prop := Bt 4000 q
theorem Sq.wmul {a b : Rat} (ha : Sq a) (hb : Sq b) : CMulW a.num b.num ∧ CMulW a.num b.den ∧ CMulW a.den b.num ∧ CMulW a.den b.den :=
  ⟨ha.1.wmul hb.1 (by decide) (by decide) (by decide), ha.1.wmul hb.2 (by decide) (by decide) (by decide), ha.2.wmul hb.1 (by decide) (by decide) (by decide), ha.2.wmul hb.2 (by decide) (by decide) (by decide)⟩
theorem Sq.dd {a b : Rat} (ha : Sq a) (hb : Sq b) : (a.den : Int) * (b.den : Int) ≠ 0 ∧ Bd 9000 ((a.den : Int) * (b.den : Int)) := by
  refine ⟨?_, (ha.2.mul hb.2).mono (by decide)⟩
  have := Int.mul_pos (den_pos' a) (den_pos' b)
  omega
theorem bt_int {B : Nat} {n : Int} (h : Bd B n) (hB : 1 ≤ B) : Bt B (n : Rat) := ⟨h, by show Bd B (((n : Rat).den : Nat) : Int); exact one_bd hB⟩
theorem eQ_int (n : Int) : eQ (n : Rat) = .tup [.int n, .int 1] := rfl
end RP

set_option Elab.async false
set_option linter.all false
set_option maxRecDepth 100000
set_option maxHeartbeats 2000000
namespace RP
open PySem PySem.Spec PyProof.Rows L2
/-! ### lists and rows of ratios -/
def eL (qs : List Rat) : RD := .lst (qs.map eQ)
def eM (rows : List (List Rat)) : RD := .lst (rows.map eL)
def pQ (q : Rat) : PyData := .tuple [.int q.num, .int (q.den : Int)]
def pL (qs : List Rat) : PyData := .list (qs.map pQ)
def pM (rows : List (List Rat)) : PyData := .list (rows.map pL)
theorem pys_map {α : Type} {e : α → RD} {p : α → PyData} (h : ∀ x, RD.py (e x) = some (p x)) : ∀ xs : List α, RD.pys (xs.map e) = some (xs.map p)
  | [] => rfl
  | x :: r => by
    simp only [List.map_cons, RD.pys, h x, pys_map h r]
theorem eQ_pQ (q : Rat) : RD.py (eQ q) = some (pQ q) := rfl
theorem eL_py (qs : List Rat) : RD.py (eL qs) = some (pL qs) := by
  show (RD.pys (qs.map eQ)).map _ = _
  rw [pys_map eQ_pQ]
  rfl
theorem eM_py (rows : List (List Rat)) : RD.py (eM rows) = some (pM rows) := by
  show (RD.pys (rows.map eL)).map _ = _
  rw [pys_map eL_py]
  rfl
/-- data that may be laid, of a depth -/
def Shp (n : Nat) (p : PyData) : Prop := p.canLay0 = true ∧ p.depth ≤ n
theorem Shp.shaped {n : Nat} {p : PyData} (h : Shp n p) (hn : n ≤ 64) : SeqAt.shaped p = true := by
  unfold SeqAt.shaped
  rw [h.1, decide_eq_true (Nat.le_trans h.2 hn)]
  rfl
theorem canLayAll_map {α : Type} {p : α → PyData} : ∀ (xs : List α), (∀ x ∈ xs, (p x).canLay0 = true) → PyData.canLayAll0 (xs.map p) = true
  | [], _ => rfl
  | x :: r, h => by
    show ((p x).canLay0 && PyData.canLayAll0 (r.map p)) = true
    rw [h x List.mem_cons_self, canLayAll_map r fun y hy => h y (List.mem_cons_of_mem _ hy)]
    rfl
theorem depthAll_map {α : Type} {p : α → PyData} {n : Nat} : ∀ (xs : List α), (∀ x ∈ xs, (p x).depth ≤ n) → PyData.depthAll (xs.map p) ≤ n
  | [], _ => Nat.zero_le _
  | x :: r, h => by
    show max (p x).depth (PyData.depthAll (r.map p)) ≤ n
    have h1 := h x List.mem_cons_self
    have h2 := depthAll_map r fun y hy => h y (List.mem_cons_of_mem _ hy)
    omega
theorem shp_list {α : Type} {p : α → PyData} {n : Nat} {xs : List α} (h : ∀ x ∈ xs, Shp n (p x)) : Shp (n + 1) (.list (xs.map p)) :=
  ⟨canLayAll_map xs fun x hx => (h x hx).1, Nat.succ_le_succ (depthAll_map xs fun x hx => (h x hx).2)⟩
theorem shp_pQ (q : Rat) : Shp 1 (pQ q) := ⟨rfl, Nat.le_refl _⟩
theorem shp_pL (qs : List Rat) : Shp 2 (pL qs) := shp_list fun q _ => shp_pQ q
theorem shp_pM (rows : List (List Rat)) : Shp 3 (pM rows) := shp_list fun r _ => shp_pL r
theorem shp_pair {n : Nat} {p q : PyData} (h : Shp n p) (k : Shp n q) : Shp (n + 1) (.tuple [p, q]) := by
  refine ⟨?_, ?_⟩
  · show (p.canLay0 && (q.canLay0 && true)) = true
    rw [h.1, k.1]; rfl
  · show max p.depth (max q.depth 0) + 1 ≤ n + 1
    have h1 := h.2
    have h2 := k.2
    omega
section
variable {K : PySem.W.Frag} {S : Sg} {d : RD}
theorem ro_eqL {qs : List Rat} : RO K (rEqD K) (eL qs) (eL qs) (.bl true) := ro_eqS (eL_py qs) ((shp_pL qs).shaped (by decide))
theorem ro_neL {qs : List Rat} : RO K (rNeD K) (eL qs) (eL qs) (.bl false) := ro_neS (eL_py qs) ((shp_pL qs).shaped (by decide))
theorem rc_listL {ds : List RD} : RC K (rListK K) [.lst ds] (.lst ds) := fun G H vs e r Q q => by
  cases r with
  | cons a r =>
    cases r
    obtain ⟨p, xs, rfl, hs, ha⟩ := a.lst_inv
    refine ⟨p, xs, rfl, .inl (Evl.sq_of (e _ _ hs)), fun l hl => ?_⟩
    have sn := Sx.new (o := .lst xs) e hl
    exact q _ _ _ sn (.lst upd_same (ha.mono sn.g))
end
theorem atI_nat' {α : Type} {xs : List α} {i : Nat} (h : i < xs.length) : atI xs (i : Int) = some xs[i] := atI_nat (List.getElem?_eq_getElem h)
theorem atI_mapQ {xs : List Rat} {i : Int} {q : Rat} (h : atI xs i = some q) : atI (xs.map eQ) i = some (eQ q) := atI_map h
/-- all within a bound -/
def BL (B : Nat) (qs : List Rat) : Prop := ∀ q ∈ qs, Bt B q
def BM (B : Nat) (rows : List (List Rat)) : Prop := ∀ r ∈ rows, BL B r
theorem BL.mono {B C : Nat} {qs : List Rat} (h : BL B qs) (l : B ≤ C) : BL C qs := fun q hq => (h q hq).mono l
/-- products of rows -/
def dot (row vs : List Rat) : Rat := ((row.zip vs).map fun p => p.1 * p.2).sum
theorem bt_zero {B : Nat} (h : 1 ≤ B) : Bt B (0 : Rat) := ⟨bd_zero, one_bd h⟩
theorem sum_take {qs : List Rat} {i : Nat} (h : i < qs.length) : (qs.take (i + 1)).sum = (qs.take i).sum + qs[i] := by
  rw [List.take_add_one, List.sum_append, List.getElem?_eq_getElem h]
  show (qs.take i).sum + [qs[i]].sum = _
  rw [List.sum_cons, List.sum_nil, Rat.add_zero]
theorem bt_sum {B : Nat} (hB : 1 ≤ B) : ∀ {qs : List Rat}, BL B qs → Bt (qs.length * (B + 1) + 1) qs.sum
  | [], _ => bt_zero (by omega)
  | q :: r, h => by
    rw [List.sum_cons]
    refine ((h q List.mem_cons_self).add (bt_sum hB fun x hx => h x (List.mem_cons_of_mem _ hx))).mono ?_
    rw [List.length_cons, Nat.add_mul]
    omega
end RP

set_option Elab.async false
set_option linter.all false
set_option maxRecDepth 100000
set_option maxHeartbeats 2000000
namespace RP
open PySem PySem.Spec PyProof.Rows L2
/-! ### Gauss and Jordan over rows of ratios -/
/-- an entry -/
def En (t : List (List Rat)) (i j : Nat) : Rat := (t.getD i []).getD j 0
def scaleR (row : List Rat) (p : Rat) : List Rat := row.map fun v => v / p
def clearR (row lead : List Rat) (k : Nat) : List Rat := (row.zip lead).map fun p => p.1 - row.getD k 0 * p.2
def othersT (t : List (List Rat)) (p : Nat) : List (List Rat) := t.take p ++ t.drop (p + 1)
def leadT (t : List (List Rat)) (k p : Nat) : List Rat := scaleR (t.getD p []) (En t p k)
def restT (t : List (List Rat)) (k p : Nat) : List (List Rat) := (othersT t p).map fun r => clearR r (leadT t k p) k
def stepT (t : List (List Rat)) (k p : Nat) : List (List Rat) := (restT t k p).take k ++ (leadT t k p :: (restT t k p).drop k)
def leadGo (t : List (List Rat)) (k : Nat) : Nat → Nat → Option Nat
  | 0, _ => none
  | n + 1, p => if En t p k = 0 then leadGo t k n (p + 1) else some p
theorem leadGo_some {t : List (List Rat)} {k : Nat} : ∀ {n p q : Nat}, leadGo t k n p = some q → p ≤ q ∧ q < p + n ∧ En t q k ≠ 0 ∧ ∀ j, p ≤ j → j < q → En t j k = 0
  | 0, _, _, h => by cases h
  | n + 1, p, q, h => by
    unfold leadGo at h
    split at h
    · rename_i hz
      obtain ⟨a, b, c, d⟩ := leadGo_some h
      refine ⟨by omega, by omega, c, fun j h1 h2 => ?_⟩
      by_cases e : j = p
      · rw [e]; exact hz
      · exact d j (by omega) h2
    · rename_i hz
      cases h
      exact ⟨Nat.le_refl _, by omega, hz, fun j h1 h2 => by omega⟩
theorem leadGo_none {t : List (List Rat)} {k : Nat} : ∀ {n p : Nat}, leadGo t k n p = none → ∀ j, p ≤ j → j < p + n → En t j k = 0
  | 0, _, _ => fun j h1 h2 => by omega
  | n + 1, p, h => by
    unfold leadGo at h
    split at h
    · rename_i hz
      have d := leadGo_none h
      intro j h1 h2
      by_cases e : j = p
      · rw [e]; exact hz
      · exact d j (by omega) (by omega)
    · cases h
def leadOf (t : List (List Rat)) (k : Nat) : Option Nat := leadGo t k (t.length - k) k
def gj (t : List (List Rat)) : Nat → Option (List (List Rat))
  | 0 => some t
  | i + 1 => match gj t i with
    | none => none
    | some u => match leadOf u i with
      | none => none
      | some p => some (stepT u i p)
/-! zeros -/
def Zr (t : List (List Rat)) (z : List Rat) : Prop := ∀ row ∈ t, dot row z = 0
theorem dot_nil (z : List Rat) : dot [] z = 0 := rfl
theorem dot_nilR (r : List Rat) : dot r [] = 0 := by unfold dot; rw [List.zip_nil_right]; rfl
theorem dot_cons (a b : Rat) (r v : List Rat) : dot (a :: r) (b :: v) = a * b + dot r v := by
  unfold dot
  rw [List.zip_cons_cons, List.map_cons, List.sum_cons]
theorem dot_scale (p : Rat) : ∀ (row z : List Rat), dot (scaleR row p) z = dot row z / p
  | [], z => by
    show (0 : Rat) = dot [] z / p
    rw [dot_nil]
    grind
  | a :: r, [] => by
    rw [dot_nilR, dot_nilR]
    grind
  | a :: r, b :: z => by
    have h := dot_scale p r z
    show dot ((a / p) :: scaleR r p) (b :: z) = _
    rw [dot_cons, dot_cons, h]
    grind
theorem dot_sub (c : Rat) : ∀ (row lead z : List Rat), row.length = lead.length → dot ((row.zip lead).map fun p => p.1 - c * p.2) z = dot row z - c * dot lead z
  | [], lead, z, h => by
    cases lead with
    | nil =>
      show (0 : Rat) = dot [] z - c * dot [] z
      rw [dot_nil]
      grind
    | cons _ _ => cases h
  | a :: r, [], z, h => by cases h
  | a :: r, l :: ls, [], h => by
    rw [dot_nilR, dot_nilR, dot_nilR]
    grind
  | a :: r, l :: ls, b :: z, h => by
    have ih := dot_sub c r ls z (Nat.succ.inj h)
    show dot ((a - c * l) :: ((r.zip ls).map fun p => p.1 - c * p.2)) (b :: z) = _
    rw [dot_cons, dot_cons, dot_cons, ih]
    grind
theorem dot_clear {row lead z : List Rat} {k : Nat} (h : row.length = lead.length) : dot (clearR row lead k) z = dot row z - row.getD k 0 * dot lead z := dot_sub _ _ _ _ h
/-! shape -/
/-- rows of a length -/
structure Sh (n m : Nat) (t : List (List Rat)) : Prop where
  len : t.length = n
  row : ∀ r ∈ t, r.length = m
theorem Sh.get {n m : Nat} {t : List (List Rat)} (h : Sh n m t) {i : Nat} (hi : i < n) : t.getD i [] ∈ t ∧ (t.getD i []).length = m := by
  have hi' : i < t.length := by rw [h.len]; exact hi
  have e : t.getD i [] = t[i] := by simp [List.getD_eq_getElem?_getD, List.getElem?_eq_getElem, hi']
  rw [e]
  exact ⟨List.getElem_mem _, h.row _ (List.getElem_mem _)⟩
theorem scale_len (row : List Rat) (p : Rat) : (scaleR row p).length = row.length := List.length_map ..
theorem clear_len {row lead : List Rat} {k : Nat} (h : row.length = lead.length) : (clearR row lead k).length = row.length := by
  unfold clearR
  rw [List.length_map, List.length_zip]
  omega
theorem others_mem {t : List (List Rat)} {p : Nat} {r : List Rat} (h : r ∈ othersT t p) : r ∈ t := by
  unfold othersT at h
  rw [List.mem_append] at h
  rcases h with h | h
  · exact List.mem_of_mem_take h
  · exact List.mem_of_mem_drop h
theorem others_split {t : List (List Rat)} {p : Nat} {r : List Rat} (hp : p < t.length) (h : r ∈ t) : r = t.getD p [] ∨ r ∈ othersT t p := by
  have e : t.getD p [] = t[p] := by simp [List.getD_eq_getElem?_getD, List.getElem?_eq_getElem, hp]
  have e2 : t = t.take p ++ (t[p] :: t.drop (p + 1)) := by rw [List.getElem_cons_drop, List.take_append_drop]
  rw [e2, List.mem_append, List.mem_cons] at h
  rw [e]
  unfold othersT
  rw [List.mem_append]
  rcases h with h | h | h
  · exact .inr (.inl h)
  · exact .inl h
  · exact .inr (.inr h)
theorem step_mem {t : List (List Rat)} {k p : Nat} {r : List Rat} : r ∈ stepT t k p ↔ r = leadT t k p ∨ ∃ s ∈ othersT t p, r = clearR s (leadT t k p) k := by
  unfold stepT
  rw [List.mem_append, List.mem_cons]
  have e : r ∈ restT t k p ↔ (r ∈ (restT t k p).take k ∨ r ∈ (restT t k p).drop k) := by
    conv => lhs; rw [← List.take_append_drop k (restT t k p)]
    rw [List.mem_append]
  have e2 : r ∈ restT t k p ↔ ∃ s ∈ othersT t p, r = clearR s (leadT t k p) k := by
    unfold restT
    rw [List.mem_map]
    constructor
    · rintro ⟨s, h1, h2⟩; exact ⟨s, h1, h2.symm⟩
    · rintro ⟨s, h1, h2⟩; exact ⟨s, h1, h2.symm⟩
  rw [← e2, e]
  constructor
  · rintro (h | h | h)
    · exact .inr (.inl h)
    · exact .inl h
    · exact .inr (.inr h)
  · rintro (h | h | h)
    · exact .inr (.inl h)
    · exact .inl h
    · exact .inr (.inr h)
theorem others_len {n m : Nat} {t : List (List Rat)} (h : Sh n m t) {p : Nat} (hp : p < n) : (othersT t p).length = n - 1 := by
  unfold othersT
  rw [List.length_append, List.length_take, List.length_drop, h.len]
  omega
theorem lead_len {n m : Nat} {t : List (List Rat)} (h : Sh n m t) {k p : Nat} (hp : p < n) : (leadT t k p).length = m := by
  unfold leadT
  rw [scale_len]
  exact (h.get hp).2
theorem step_sh {n m : Nat} {t : List (List Rat)} (h : Sh n m t) {k p : Nat} (hk : k < n) (hp : p < n) : Sh n m (stepT t k p) := by
  refine ⟨?_, fun r hr => ?_⟩
  · unfold stepT restT
    rw [List.length_append, List.length_cons, List.length_take, List.length_drop, List.length_map, others_len h hp]
    omega
  · rcases step_mem.mp hr with rfl | ⟨s, hs, rfl⟩
    · exact lead_len h hp
    · have hs2 := h.row s (others_mem hs)
      rw [clear_len (by rw [hs2, lead_len h hp]), hs2]
/-- a step keeps what solves -/
theorem step_zr {n m : Nat} {t : List (List Rat)} (h : Sh n m t) {k p : Nat} (hp : p < n) (hz : En t p k ≠ 0) {z : List Rat} : Zr (stepT t k p) z ↔ Zr t z := by
  have hl : dot (leadT t k p) z = dot (t.getD p []) z / En t p k := dot_scale _ _ _
  constructor
  · intro hs r hr
    have h0 := hs _ (step_mem.mpr (.inl rfl))
    rcases others_split (by rw [h.len]; exact hp) hr with rfl | ho
    · rw [hl] at h0
      grind
    · have h1 := hs _ (step_mem.mpr (.inr ⟨r, ho, rfl⟩))
      rw [dot_clear (by rw [h.row r hr, lead_len h hp]), h0] at h1
      grind
  · intro hs r hr
    have h0 : dot (leadT t k p) z = 0 := by
      rw [hl, hs _ (h.get hp).1]
      grind
    rcases step_mem.mp hr with rfl | ⟨s, hs2, rfl⟩
    · exact h0
    · rw [dot_clear (by rw [h.row s (others_mem hs2), lead_len h hp]), h0, hs s (others_mem hs2)]
      grind
/-! entries -/
def srcI (k p i : Nat) : Nat := if i < k then i else if i ≤ p then i - 1 else i
theorem getD_map0 {f : Rat → Rat} {row : List Rat} {j : Nat} (h : j < row.length) : (row.map f).getD j 0 = f (row.getD j 0) := by
  simp [List.getD_eq_getElem?_getD, List.getElem?_eq_getElem, h]
theorem getD_get {r : List Rat} {k : Nat} (h : k < r.length) : r.getD k 0 = r[k] := by simp [List.getD_eq_getElem?_getD, List.getElem?_eq_getElem, h]
theorem clear_get {row lead : List Rat} {k j : Nat} (h : row.length = lead.length) (hj : j < row.length) : (clearR row lead k).getD j 0 = row.getD j 0 - row.getD k 0 * lead.getD j 0 := by
  have hj2 : j < lead.length := by omega
  have hz : j < (row.zip lead).length := by rw [List.length_zip]; omega
  have e : (row.zip lead)[j]? = some (row[j], lead[j]) := by rw [List.getElem?_eq_getElem hz]; simp
  unfold clearR
  rw [List.getD_eq_getElem?_getD, List.getElem?_map, e, getD_get hj, getD_get hj2]
  rfl
theorem others_get {t : List (List Rat)} {p i : Nat} (hp : p < t.length) (hi : i + 1 < t.length) : (othersT t p).getD i [] = t.getD (if i < p then i else i + 1) [] := by
  unfold othersT
  simp only [List.getD_eq_getElem?_getD, List.getElem?_append, List.length_take, List.getElem?_take, List.getElem?_drop]
  by_cases h : i < p
  · rw [if_pos (by omega), if_pos h, if_pos h]
  · rw [if_neg (by omega), if_neg h]
    congr 2
    omega
theorem step_en {n m : Nat} {t : List (List Rat)} (h : Sh n m t) {k p i j : Nat} (hk : k ≤ p) (hp : p < n) (hi : i < n) (hj : j < m) :
    En (stepT t k p) i j = if i = k then En t p j / En t p k else En t (srcI k p i) j - En t (srcI k p i) k * (En t p j / En t p k) := by
  have hl : (leadT t k p).getD j 0 = En t p j / En t p k := by
    unfold leadT scaleR
    rw [getD_map0 (by rw [(h.get hp).2]; exact hj)]
    rfl
  have hr : ∀ o, o + 1 < n → ((restT t k p).getD o []).getD j 0 = En t (if o < p then o else o + 1) j - En t (if o < p then o else o + 1) k * (En t p j / En t p k) := by
    intro o ho
    have e : (restT t k p).getD o [] = clearR ((othersT t p).getD o []) (leadT t k p) k := by
      have ho2 : o < (othersT t p).length := by rw [others_len h hp]; omega
      unfold restT
      simp [List.getD_eq_getElem?_getD, List.getElem?_eq_getElem, ho2]
    have hs : (if o < p then o else o + 1) < n := by split <;> omega
    rw [e, others_get (by rw [h.len]; exact hp) (by rw [h.len]; exact ho), clear_get (by rw [(h.get hs).2, lead_len h hp]) (by rw [(h.get hs).2]; exact hj), hl]
    rfl
  have hlen : (restT t k p).length = n - 1 := by unfold restT; rw [List.length_map, others_len h hp]
  unfold En stepT
  rw [List.getD_eq_getElem?_getD (l := _ ++ _), List.getElem?_append, List.length_take, hlen]
  by_cases h1 : i < k
  · rw [if_pos (by omega), List.getElem?_take, if_pos h1, if_neg (by omega), ← List.getD_eq_getElem?_getD, hr i (by omega)]
    unfold srcI
    rw [if_pos h1, if_pos (by omega)]
    rfl
  · rw [if_neg (by omega)]
    have e : min k (n - 1) = k := by omega
    rw [e]
    by_cases h2 : i = k
    · subst h2
      rw [Nat.sub_self, List.getElem?_cons_zero, if_pos rfl]
      exact hl
    · obtain ⟨o, ho⟩ : ∃ o, i = k + 1 + o := ⟨i - (k + 1), by omega⟩
      have e2 : i - k = o + 1 := by omega
      rw [e2, List.getElem?_cons_succ, List.getElem?_drop, if_neg h2, ← List.getD_eq_getElem?_getD, hr (k + o) (by omega)]
      unfold srcI
      rw [if_neg h1]
      by_cases h3 : i ≤ p
      · have e3 : i - 1 = k + o := by omega
        rw [if_pos h3, if_pos (by omega), e3]
        rfl
      · have e3 : k + o + 1 = i := by omega
        rw [if_neg h3, if_neg (by omega), e3]
        rfl
/-- columns that are done -/
def Un (n k : Nat) (t : List (List Rat)) : Prop := ∀ i j, i < n → j < k → En t i j = if i = j then 1 else 0
theorem step_un {n m : Nat} {t : List (List Rat)} (h : Sh n m t) {k p : Nat} (hk : k ≤ p) (hp : p < n) (hm : n ≤ m) (hz : En t p k ≠ 0) (hu : Un n k t) : Un n (k + 1) (stepT t k p) := by
  intro i j hi hj
  rw [step_en h hk hp hi (by omega)]
  by_cases h1 : i = k
  · rw [if_pos h1]
    by_cases h2 : j = k
    · subst h2
      rw [if_pos h1]
      grind
    · rw [hu p j hp (by omega), if_neg (by omega), if_neg (by omega)]
      grind
  · rw [if_neg h1]
    by_cases h2 : j = k
    · subst h2
      rw [if_neg h1]
      grind
    · have hs : srcI k p i < n := by unfold srcI; split; omega; split <;> omega
      rw [hu p j hp (by omega), if_neg (by omega), hu _ j hs (by omega)]
      have e : (srcI k p i = j) = (i = j) := by
        apply propext
        unfold srcI
        split
        · rfl
        · split <;> constructor <;> intro z <;> omega
      simp only [e]
      grind
/-! bits -/
def CD (B : Nat) (row : List Rat) : Prop := ∃ D : Int, 0 < D ∧ Bd B D ∧ ∀ q ∈ row, ∃ m : Int, Bd B m ∧ q = Rat.divInt m D
theorem CD.bl {B : Nat} {row : List Rat} (h : CD B row) : BL B row := fun q hq => by
  obtain ⟨D, h1, h2, h3⟩ := h
  obtain ⟨m, hm, rfl⟩ := h3 q hq
  exact bt_low h1 hm h2
theorem CD.mono {B C : Nat} {row : List Rat} (h : CD B row) (l : B ≤ C) : CD C row := by
  obtain ⟨D, h1, h2, h3⟩ := h
  refine ⟨D, h1, h2.mono l, fun q hq => ?_⟩
  obtain ⟨m, hm, e⟩ := h3 q hq
  exact ⟨m, hm.mono l, e⟩
theorem divInt_rat (a b : Int) : Rat.divInt a b = (a : Rat) / (b : Rat) := Rat.divInt_eq_div a b
theorem rat_ne {a : Int} (h : a ≠ 0) : (a : Rat) ≠ 0 := fun z => h (Rat.intCast_eq_zero_iff.mp z)
theorem bd_neg {B : Nat} {m : Int} (h : Bd B m) : Bd B (-m) := h.neg
theorem CD.scale {B : Nat} {row : List Rat} {p : Rat} (h : CD B row) (hp : p ∈ row) (hz : p ≠ 0) : CD B (scaleR row p) := by
  obtain ⟨D, h1, h2, h3⟩ := h
  obtain ⟨a, ha, ea⟩ := h3 p hp
  have hD := rat_ne (a := D) (by omega)
  rw [divInt_rat] at ea
  have ha0 : a ≠ 0 := fun z => hz (by rw [ea, z]; grind)
  have ha1 := rat_ne ha0
  by_cases hs : 0 < a
  · refine ⟨a, hs, ha, fun q hq => ?_⟩
    obtain ⟨q0, hq0, rfl⟩ := List.mem_map.mp hq
    obtain ⟨m, hm, em⟩ := h3 q0 hq0
    refine ⟨m, hm, ?_⟩
    rw [divInt_rat] at em ⊢
    rw [em, ea]
    grind
  · refine ⟨-a, by omega, bd_neg ha, fun q hq => ?_⟩
    obtain ⟨q0, hq0, rfl⟩ := List.mem_map.mp hq
    obtain ⟨m, hm, em⟩ := h3 q0 hq0
    refine ⟨-m, bd_neg hm, ?_⟩
    rw [divInt_rat] at em ⊢
    rw [em, ea, Rat.intCast_neg, Rat.intCast_neg]
    grind
theorem CD.clear {B : Nat} {row lead : List Rat} {k : Nat} (h : CD B row) (hl : CD B lead) (hk : k < row.length) : CD (2 * B + 1) (clearR row lead k) := by
  obtain ⟨D, h1, h2, h3⟩ := h
  obtain ⟨L, l1, l2, l3⟩ := hl
  have hD := rat_ne (a := D) (by omega)
  have hL := rat_ne (a := L) (by omega)
  have hc : row.getD k 0 ∈ row := by
    have e : row.getD k 0 = row[k] := by simp [List.getD_eq_getElem?_getD, List.getElem?_eq_getElem, hk]
    rw [e]; exact List.getElem_mem _
  obtain ⟨c, hc1, ec⟩ := h3 _ hc
  refine ⟨D * L, Int.mul_pos h1 l1, (h2.mul l2).mono (by omega), fun q hq => ?_⟩
  obtain ⟨p, hp, rfl⟩ := List.mem_map.mp hq
  obtain ⟨m, hm, em⟩ := h3 p.1 (List.of_mem_zip hp).1
  obtain ⟨l, hl, el⟩ := l3 p.2 (List.of_mem_zip hp).2
  refine ⟨m * L - c * l, ((hm.mul l2).sub (hc1.mul hl)).mono (by omega), ?_⟩
  rw [divInt_rat] at em el ec ⊢
  rw [em, el, ec, Rat.intCast_sub, Rat.intCast_mul, Rat.intCast_mul, Rat.intCast_mul]
  grind
def bitsG (B : Nat) : Nat → Nat
  | 0 => B
  | i + 1 => 2 * bitsG B i + 1
theorem bitsG_le {B : Nat} (h : B ≤ 40) : ∀ i, i ≤ 6 → bitsG B i ≤ 2623 ∧ (i ≤ 5 → bitsG B i ≤ 1311) := by
  have e0 : bitsG B 0 = B := rfl
  have e1 : bitsG B 1 = 2 * B + 1 := rfl
  have e2 : bitsG B 2 = 2 * (2 * B + 1) + 1 := rfl
  have e3 : bitsG B 3 = 2 * (2 * (2 * B + 1) + 1) + 1 := rfl
  have e4 : bitsG B 4 = 2 * (2 * (2 * (2 * B + 1) + 1) + 1) + 1 := rfl
  have e5 : bitsG B 5 = 2 * (2 * (2 * (2 * (2 * B + 1) + 1) + 1) + 1) + 1 := rfl
  have e6 : bitsG B 6 = 2 * (2 * (2 * (2 * (2 * (2 * B + 1) + 1) + 1) + 1) + 1) + 1 := rfl
  intro i hi
  have : i = 0 ∨ i = 1 ∨ i = 2 ∨ i = 3 ∨ i = 4 ∨ i = 5 ∨ i = 6 := by omega
  rcases this with rfl | rfl | rfl | rfl | rfl | rfl | rfl <;> omega
theorem getD_mem {row : List Rat} {j : Nat} (h : j < row.length) : row.getD j 0 ∈ row := by
  have e : row.getD j 0 = row[j] := by simp [List.getD_eq_getElem?_getD, List.getElem?_eq_getElem, h]
  rw [e]; exact List.getElem_mem _
theorem step_cd {n m B : Nat} {t : List (List Rat)} (h : Sh n m t) {k p : Nat} (hp : p < n) (hm : k < m) (hz : En t p k ≠ 0) (hc : ∀ r ∈ t, CD B r) : ∀ r ∈ stepT t k p, CD (2 * B + 1) r := by
  have hl : CD B (leadT t k p) := (hc _ (h.get hp).1).scale (getD_mem (by rw [(h.get hp).2]; exact hm)) hz
  intro r hr
  rcases step_mem.mp hr with rfl | ⟨s, hs, rfl⟩
  · exact hl.mono (by omega)
  · exact (hc s (others_mem hs)).clear hl (by rw [h.row s (others_mem hs)]; exact hm)
structure GOk (n m B : Nat) (t : List (List Rat)) (i : Nat) (u : List (List Rat)) : Prop where
  sh : Sh n m u
  un : Un n i u
  cd : ∀ r ∈ u, CD (bitsG B i) r
  zr : ∀ z, Zr u z ↔ Zr t z
theorem leadOf_some {n m : Nat} {t : List (List Rat)} (h : Sh n m t) {k p : Nat} (e : leadOf t k = some p) : k ≤ p ∧ p < n ∧ En t p k ≠ 0 ∧ ∀ j, k ≤ j → j < p → En t j k = 0 := by
  obtain ⟨a, b, c, d⟩ := leadGo_some e
  rw [h.len] at b
  exact ⟨a, by omega, c, d⟩
theorem leadOf_none {n m : Nat} {t : List (List Rat)} (h : Sh n m t) {k : Nat} (e : leadOf t k = none) : ∀ j, k ≤ j → j < n → En t j k = 0 := by
  have d := leadGo_none e
  rw [h.len] at d
  exact fun j h1 h2 => d j h1 (by omega)
theorem gj_ok {n m B : Nat} {t : List (List Rat)} (h : Sh n m t) (hm : n ≤ m) (hc : ∀ r ∈ t, CD B r) : ∀ i, i ≤ n → ∀ u, gj t i = some u → GOk n m B t i u
  | 0, _, u, e => by
    cases e
    exact ⟨h, fun i j _ hj => absurd hj (Nat.not_lt_zero _), hc, fun z => Iff.rfl⟩
  | i + 1, hi, u, e => by
    unfold gj at e
    split at e
    · cases e
    · rename_i v hv
      have g := gj_ok h hm hc i (by omega) v hv
      split at e
      · cases e
      · rename_i p hp
        cases e
        obtain ⟨a, b, c, _⟩ := leadOf_some g.sh hp
        exact ⟨step_sh g.sh (by omega) b, step_un g.sh a b hm c g.un, step_cd g.sh b (by omega) c g.cd, fun z => (step_zr g.sh b c).trans (g.zr z)⟩
/-! solutions -/
theorem dot_append : ∀ (a c b d : List Rat), a.length = c.length → dot (a ++ b) (c ++ d) = dot a c + dot b d := fun a c b d h => by
  unfold dot
  rw [List.zip_append h, List.map_append, List.sum_append]
theorem dot_zero : ∀ (row z : List Rat), (∀ j, j < row.length → row.getD j 0 = 0) → dot row z = 0
  | [], z, _ => rfl
  | a :: r, [], _ => dot_nilR _
  | a :: r, b :: z, h => by
    have h0 : a = 0 := h 0 (Nat.succ_pos _)
    rw [dot_cons, dot_zero r z fun j hj => h (j + 1) (Nat.succ_lt_succ hj), h0]
    grind
theorem dot_sel : ∀ (row z : List Rat) (i : Nat), row.length = z.length → i < row.length → (∀ j, j < row.length → j ≠ i → row.getD j 0 = 0) → dot row z = row.getD i 0 * z.getD i 0
  | [], z, i, _, h, _ => by cases h
  | a :: r, [], i, h, _, _ => by cases h
  | a :: r, b :: z, 0, hl, _, h => by
    rw [dot_cons, dot_zero r z fun j hj => h (j + 1) (Nat.succ_lt_succ hj) (by omega)]
    show _ = a * b
    grind
  | a :: r, b :: z, i + 1, hl, hi, h => by
    have h0 : a = 0 := h 0 (Nat.succ_pos _) (by omega)
    rw [dot_cons, dot_sel r z i (Nat.succ.inj hl) (Nat.lt_of_succ_lt_succ hi) fun j hj hne => h (j + 1) (Nat.succ_lt_succ hj) (by omega), h0]
    show _ = r.getD i 0 * z.getD i 0
    grind
theorem dot_zeroR : ∀ (row : List Rat) (m : Nat), dot row (List.replicate m 0) = 0
  | [], _ => rfl
  | a :: r, 0 => dot_nilR _
  | a :: r, m + 1 => by
    rw [List.replicate_succ, dot_cons, dot_zeroR r m]
    grind
theorem getD_take {row : List Rat} {n j : Nat} (h : j < n) : (row.take n).getD j 0 = row.getD j 0 := by
  rw [List.getD_eq_getElem?_getD, List.getElem?_take, if_pos h, ← List.getD_eq_getElem?_getD]
def lastC (n : Nat) (u : List (List Rat)) : List Rat := (List.range n).map fun i => En u i n
theorem lastC_len (n : Nat) (u : List (List Rat)) : (lastC n u).length = n := by unfold lastC; rw [List.length_map, List.length_range]
theorem lastC_get {n : Nat} {u : List (List Rat)} {i : Nat} (h : i < n) : (lastC n u).getD i 0 = En u i n := by
  unfold lastC
  simp [List.getD_eq_getElem?_getD, List.getElem?_range, h]
theorem ext_getD {a b : List Rat} (h : a.length = b.length) (e : ∀ i, i < a.length → a.getD i 0 = b.getD i 0) : a = b := by
  apply List.ext_getElem h
  intro i h1 h2
  have := e i h1
  simpa [List.getD_eq_getElem?_getD, List.getElem?_eq_getElem, h1, h2] using this
theorem row_mem {n m : Nat} {u : List (List Rat)} (h : Sh n m u) {r : List Rat} (hr : r ∈ u) : ∃ i, i < n ∧ r = u.getD i [] := by
  obtain ⟨i, hi, e⟩ := List.getElem_of_mem hr
  exact ⟨i, by rw [← h.len]; exact hi, by rw [← e]; simp [List.getD_eq_getElem?_getD, List.getElem?_eq_getElem, hi]⟩
theorem split_last {n : Nat} {r : List Rat} (h : r.length = n + 1) : r = r.take n ++ [r.getD n 0] := by
  have e : r.getD n 0 = r[n] := by simp [List.getD_eq_getElem?_getD, List.getElem?_eq_getElem, h]
  have e2 := List.take_append_drop n r
  have e3 : r.drop n = [r[n]] := by
    rw [List.drop_eq_getElem_cons (by omega)]
    rw [List.drop_eq_nil_of_le (by omega)]
  rw [e3] at e2
  rw [e]
  exact e2.symm
/-- when all columns are done: one solution -/
theorem gj_sol {n B : Nat} {t u : List (List Rat)} (g : GOk n (n + 1) B t n u) {y : List Rat} (hy : y.length = n) : Zr t (y ++ [-1]) ↔ y = lastC n u := by
  rw [← g.zr]
  have key : ∀ i, i < n → dot (u.getD i []) (y ++ [-1]) = y.getD i 0 - En u i n := by
    intro i hi
    have hl := (g.sh.get hi).2
    rw [split_last hl, dot_append _ _ _ _ (by rw [List.length_take, hl, hy]; omega), dot_cons, dot_nil]
    have hs := dot_sel ((u.getD i []).take n) y i (by rw [List.length_take, hl, hy]; omega) (by rw [List.length_take, hl]; omega) (fun j hj hne => by
      rw [List.length_take, hl] at hj
      rw [getD_take (by omega)]
      have := g.un i j hi (by omega)
      rw [if_neg (by omega)] at this
      exact this)
    rw [hs, getD_take hi]
    have h1 := g.un i i hi hi
    rw [if_pos rfl] at h1
    have h2 : (u.getD i []).getD i 0 = 1 := h1
    rw [h2]
    show _ = _ - (u.getD i []).getD n 0
    grind
  constructor
  · intro h
    refine ext_getD (by rw [hy, lastC_len]) fun i hi => ?_
    rw [hy] at hi
    have h1 := key i hi
    rw [h _ (g.sh.get hi).1] at h1
    rw [lastC_get hi]
    grind
  · intro h r hr
    obtain ⟨i, hi, rfl⟩ := row_mem g.sh hr
    rw [key i hi, h, lastC_get hi]
    grind
/-- no leading row: more than one or none -/
theorem gj_ker {n B k : Nat} {t u : List (List Rat)} (g : GOk n (n + 1) B t k u) (hk : k < n) (e : leadOf u k = none) : ∃ y : List Rat, y.length = n ∧ y.getD k 0 = 1 ∧ Zr t (y ++ [0]) := by
  have hz := leadOf_none g.sh e
  refine ⟨((List.range k).map fun j => -(En u j k)) ++ (1 :: List.replicate (n - k - 1) 0), ?_, ?_, ?_⟩
  · rw [List.length_append, List.length_map, List.length_range, List.length_cons, List.length_replicate]; omega
  · rw [List.getD_eq_getElem?_getD, List.getElem?_append_right (by rw [List.length_map, List.length_range]; exact Nat.le_refl _), List.length_map, List.length_range, Nat.sub_self]
    rfl
  · rw [← g.zr]
    intro r hr
    obtain ⟨i, hi, rfl⟩ := row_mem g.sh hr
    have hl := (g.sh.get hi).2
    have e1 : (((List.range k).map fun j => -(En u j k)) ++ (1 :: List.replicate (n - k - 1) 0)) ++ [0] = ((List.range k).map fun j => -(En u j k)) ++ (1 :: List.replicate (n - k) 0) := by
      rw [List.append_assoc, List.cons_append, ← List.replicate_succ']
      congr 3
      omega
    have hr1 : u.getD i [] = (u.getD i []).take k ++ ((u.getD i []).getD k 0 :: (u.getD i []).drop (k + 1)) := by
      have e4 : (u.getD i []).getD k 0 = (u.getD i [])[k]'(by omega) := getD_get (by omega)
      rw [e4, List.getElem_cons_drop, List.take_append_drop]
    have hd : dot ((u.getD i []).take k) ((List.range k).map fun j => -(En u j k)) = -(En u i k) := by
      by_cases hik : i < k
      · rw [dot_sel _ _ i (by rw [List.length_take, hl, List.length_map, List.length_range]; omega) (by rw [List.length_take, hl]; omega) (fun j hj hne => by
          rw [List.length_take, hl] at hj
          rw [getD_take (by omega)]
          have := g.un i j hi (by omega)
          rw [if_neg (by omega)] at this
          exact this), getD_take hik]
        have h1 := g.un i i hi hik
        rw [if_pos rfl] at h1
        have h2 : (u.getD i []).getD i 0 = 1 := h1
        rw [h2]
        have h3 : ((List.range k).map fun j => -(En u j k)).getD i 0 = -(En u i k) := by
          simp [List.getD_eq_getElem?_getD, List.getElem?_range, hik]
        rw [h3]
        grind
      · rw [hz i (by omega) hi, dot_zero _ _ fun j hj => by
          rw [List.length_take, hl] at hj
          rw [getD_take (by omega)]
          have := g.un i j hi (by omega)
          rw [if_neg (by omega)] at this
          exact this]
        grind
    rw [e1]
    conv => lhs; rw [hr1]
    rw [dot_append _ _ _ _ (by rw [List.length_take, hl, List.length_map, List.length_range]; omega), dot_cons, dot_zeroR, hd]
    show -(En u i k) + (En u i k * 1 + 0) = 0
    grind
end RP

set_option Elab.async false
set_option linter.all false
set_option maxRecDepth 100000
set_option maxHeartbeats 2000000
namespace RP
open PySem PySem.Spec PyProof.Rows L2
theorem pa_starK {X : Cx} {e : Expr} {es : List Expr} {te : TE} {t : TA} {p : Pos} (K : PySem.W.Frag) (h : X.K = K) (he : PE X e te) (hr : PA X es t) (hs : starEach (e.Starred p :: es) X.env = (true, eval e X.env) :: starEach es X.env := by rfl) : PA X (e.Starred p :: es) (StX.tStar K te t) := by
  subst h; exact StX.pa_star he hr hs
section
variable {K : PySem.W.Frag} {S : Sg} {te : TE} {tr : TA} {as bs : List RD}
theorem aa_star (h : AE K te S (.lst as)) (hr : AA K tr S bs) : AA K (StX.tStar K te tr) S (as ++ bs) := fun G0 H0 G H σ A Q q =>
  h G0 H0 G H σ A _ fun v G1 H1 s1 r1 => by
    obtain ⟨p, xs, rfl, hs, ha⟩ := r1.lst_inv
    exact ⟨p, xs, rfl, .inr (Evl.sq_of (s1.s _ _ hs)), hr G0 H0 G1 H1 σ (A.ext s1) _ fun ys G2 H2 s2 r2 => q _ G2 H2 (s1.trans s2) ((ha.mono s2.g).append r2)⟩
end
/-! slices at a place -/
theorem cut_to {ds : List RD} {p : Nat} (h : p ≤ ds.length) : cutD ds none (some (p : Int)) = ds.take p := by
  have e1 : HT.sIx ds.length 0 none = 0 := rfl
  have e2 : HT.sIx ds.length ds.length (some (p : Int)) = p := by
    show (if (p : Int) < 0 then ((p : Int) + (ds.length : Int)).toNat else min (p : Int).toNat ds.length) = p
    rw [if_neg (by omega)]
    omega
  unfold cutD
  rw [e1, e2, List.drop_zero, Nat.sub_zero]
theorem cut_from {ds : List RD} {p : Nat} {i : Int} (hi : i = (p : Int)) (h : p ≤ ds.length) : cutD ds (some i) none = ds.drop p := by
  subst hi
  have e1 : HT.sIx ds.length ds.length none = ds.length := rfl
  have e2 : HT.sIx ds.length 0 (some (p : Int)) = p := by
    show (if (p : Int) < 0 then ((p : Int) + (ds.length : Int)).toNat else min (p : Int).toNat ds.length) = p
    rw [if_neg (by omega)]
    omega
  unfold cutD
  rw [e1, e2]
  exact List.take_of_length_le (by rw [List.length_drop]; exact Nat.le_refl _)
theorem cut_all0 {ds : List RD} : cutD ds none none = ds := by
  have e1 : HT.sIx ds.length ds.length none = ds.length := rfl
  have e2 : HT.sIx ds.length 0 none = 0 := rfl
  unfold cutD
  rw [e1, e2, List.drop_zero, Nat.sub_zero, List.take_length]
/-! entries of rows -/
theorem atI_getD {xs : List Rat} {j : Nat} (h : j < xs.length) : atI xs (j : Int) = some (xs.getD j 0) := by rw [atI_nat' h, getD_get h]
theorem atI_row {n m : Nat} {t : List (List Rat)} (h : Sh n m t) {i : Nat} (hi : i < n) : atI (t.map eL) (i : Int) = some (eL (t.getD i [])) := by
  have hi2 : i < t.length := by rw [h.len]; exact hi
  have e : t.getD i [] = t[i] := by simp [List.getD_eq_getElem?_getD, List.getElem?_eq_getElem, hi2]
  rw [e]
  exact atI_map (atI_nat' hi2)
theorem atI_last {α : Type} {xs : List α} {n : Nat} (h : xs.length = n + 1) : atI xs (-1) = some (xs[n]'(by omega)) := by
  have e : ixN xs.length (-1) = some n := by
    unfold ixN
    rw [h]
    simp
    try omega
  unfold atI
  rw [e]
  exact List.getElem?_eq_getElem (by omega)
section
variable {K : PySem.W.Frag} {S : Sg} {te ta tb : TE}
theorem ae_row {n m : Nat} {t : List (List Rat)} (h : Sh n m t) {i : Nat} (hi : i < n) (h1 : AE K ta S (eM t)) (h2 : AE K tb S (.int (i : Int))) : AE K (tOp (rIx K) ta tb) S (eL (t.getD i [])) :=
  ae_op h1 h2 (ro_ixsL (atI_row h hi))
theorem ae_at {xs : List Rat} {j : Nat} (hj : j < xs.length) (h1 : AE K ta S (eL xs)) (h2 : AE K tb S (.int (j : Int))) : AE K (tOp (rIx K) ta tb) S (eQ (xs.getD j 0)) :=
  ae_op h1 h2 (ro_ixsL (atI_mapQ (atI_getD hj)))
theorem ae_en {n m : Nat} {t : List (List Rat)} (h : Sh n m t) {i j : Nat} (hi : i < n) (hj : j < m) {tc : TE} (h1 : AE K ta S (eM t)) (h2 : AE K tb S (.int (i : Int))) (h3 : AE K tc S (.int (j : Int))) : AE K (tOp (rIx K) (tOp (rIx K) ta tb) tc) S (eQ (En t i j)) :=
  ae_at (by rw [(h.get hi).2]; exact hj) (ae_row h hi h1 h2) h3
end
/-! the way of the elimination -/
theorem gj_mono {t : List (List Rat)} : ∀ {n : Nat} {u : List (List Rat)}, gj t n = some u → ∀ i, i ≤ n → ∃ v, gj t i = some v
  | 0, u, h, i, hi => by
    have : i = 0 := by omega
    subst this
    exact ⟨t, rfl⟩
  | n + 1, u, h, i, hi => by
    by_cases e : i = n + 1
    · subst e; exact ⟨u, h⟩
    · unfold gj at h
      split at h
      · cases h
      · rename_i v hv
        exact gj_mono hv i (by omega)
theorem gj_first {t : List (List Rat)} : ∀ {n : Nat}, gj t n = none → ∃ m u, m < n ∧ gj t m = some u ∧ leadOf u m = none
  | 0, h => by cases h
  | n + 1, h => by
    unfold gj at h
    split at h
    · rename_i hv
      obtain ⟨m, u, a, b, c⟩ := gj_first hv
      exact ⟨m, u, by omega, b, c⟩
    · rename_i v hv
      split at h
      · rename_i hl
        exact ⟨n, v, Nat.lt_succ_self _, hv, hl⟩
      · cases h
theorem gj_step {t u v : List (List Rat)} {i : Nat} (h : gj t i = some u) (h2 : gj t (i + 1) = some v) : ∃ p, leadOf u i = some p ∧ v = stepT u i p := by
  unfold gj at h2
  rw [h] at h2
  simp only at h2
  split at h2
  · cases h2
  · rename_i p hp
    cases h2
    exact ⟨p, hp, rfl⟩
def augT (rows : List (List Rat)) (right : List Rat) : List (List Rat) := (rows.zip right).map fun p => p.1 ++ [p.2]
theorem aug_sh {n : Nat} {rows : List (List Rat)} {right : List Rat} (h : Sh n n rows) (hr : right.length = n) : Sh n (n + 1) (augT rows right) := by
  refine ⟨?_, fun r hr2 => ?_⟩
  · unfold augT
    rw [List.length_map, List.length_zip, h.len, hr]
    omega
  · obtain ⟨p, hp, rfl⟩ := List.mem_map.mp hr2
    rw [List.length_append, h.row _ (List.of_mem_zip hp).1]
    rfl
def solveR (C : Addr) (n : Nat) (t : List (List Rat)) : Res := match gj t n with
  | some u => .ok (eL (lastC n u))
  | none => .exc (.ref C)
/-! all -/
section
variable {K : PySem.W.Frag} {G : Hp}
theorem bls_inv : ∀ {bs : List Bool} {vs : List V}, RpAll K G vs (bs.map RD.bl) → vs = bs.map V.bl
  | [], _, h => by cases h; rfl
  | b :: bs, _, h => by
    cases h with
    | cons a r => cases a; rw [bls_inv r]; rfl
theorem rc_all {bs : List Bool} : RC K (rAll K) [.lst (bs.map RD.bl)] (.bl (bs.all id)) := fun G H vs e r Q q => by
  cases r with
  | cons a r =>
    cases r
    obtain ⟨p, xs, rfl, hs, ha⟩ := a.lst_inv
    have := bls_inv ha
    subst this
    exact ⟨p, bs, rfl, Evl.sq_of (e _ _ hs), q _ G H (.refl e) (.bl _)⟩
end
/-! sizes without sign -/
def absQ (q : Rat) : Rat := if q.num < 0 then -q else q
theorem absQ_num (q : Rat) : (absQ q).num = (q.num.natAbs : Int) := by
  unfold absQ
  split
  · rw [Rat.neg_num]; omega
  · omega
theorem absQ_den (q : Rat) : (absQ q).den = q.den := by
  unfold absQ
  split
  · rw [Rat.neg_den]
  · rfl
theorem eQ_abs (q : Rat) : eQ (absQ q) = .tup [.int (q.num.natAbs : Int), .int (q.den : Int)] := by
  unfold eQ
  rw [absQ_num, absQ_den]
theorem absQ_bt {B : Nat} {q : Rat} (h : Bt B q) : Bt B (absQ q) := by
  refine ⟨?_, by rw [absQ_den]; exact h.2⟩
  rw [absQ_num]
  exact .of (by rw [Int.natAbs_natCast]; exact h.1.lt)
theorem absQ_nonneg (q : Rat) : 0 ≤ absQ q := by
  rw [← Rat.num_nonneg, absQ_num]
  omega
theorem absQ_eq (q : Rat) : absQ q = if q < 0 then -q else q := by
  unfold absQ
  have e : (q.num < 0) ↔ q < 0 := by
    rw [← Rat.not_le, ← Rat.num_nonneg]
    omega
  by_cases h : q < 0
  · rw [if_pos h, if_pos (e.mpr h)]
  · rw [if_neg h, if_neg (fun z => h (e.mp z))]
theorem getD_mapQ {row : List Rat} {i : Nat} (h : i < row.length) : (row.map eQ).getD i RD.non = eQ (row.getD i 0) := by
  rw [List.getD_eq_getElem?_getD, List.getElem?_map, List.getElem?_eq_getElem h, getD_get h]
  rfl
/-- the sum of the others' sizes, by the first i -/
def offI (row : List Rat) (k : Nat) : Nat → Rat
  | 0 => 0
  | i + 1 => if i = k then offI row k i else offI row k i + absQ (row.getD i 0)
theorem offI_bt {row : List Rat} {B k : Nat} (h : BL B row) : ∀ i, i ≤ row.length → Bt (i * (B + 1) + 1) (offI row k i)
  | 0, _ => bt_zero (by omega)
  | i + 1, hi => by
    have ih := offI_bt (k := k) h i (by omega)
    unfold offI
    have e : (i + 1) * (B + 1) = i * (B + 1) + (B + 1) := Nat.succ_mul ..
    split
    · exact ih.mono (by omega)
    · exact (ih.add (absQ_bt (h _ (getD_mem (by omega))))).mono (by omega)
def domB (n : Nat) (rows : List (List Rat)) : Bool := (List.range n).all fun i => decide (offI (rows.getD i []) i n < absQ (En rows i i))
end RP

set_option Elab.async false
set_option linter.all false
set_option maxRecDepth 100000
set_option maxHeartbeats 2000000
namespace RP
open PySem PySem.Spec PyProof.Rows L2
/-! ### a def that is run with no repr under way -/
/-- what a def's call does where nothing guards -/
def RunG (P : Program) (w : World) (K : PySem.W.Frag) (mg : Str → Option Value) (base : Heap) (CX : CXT) (k : Nat) (f : Addr) (fd : FuncData) (ps : List Str) (sp : Sp) : Prop :=
  ∀ (A : Around) (outer : List Env) (s : Shared) (H : Hp) (args : Args) (us : List Value) (vs : List V) (Q : VK) (E : XK),
    A.guards = some [] → Room k A → Env0 P w K mg base A outer s H → BindsTo s fd args (ps.zip us) → Vals vs us → sp vs H Q E →
      codeAny (model P w) A (Code.call (Value.ref f) args) (CR CX outer P w H s Q E) s
theorem runG_ok {P : Program} {w : World} {K : PySem.W.Frag} {mg : Str → Option Value} {base : Heap} {x qual : Str} {st : Stmt} {f : Addr} {fd : FuncData} {N ps : List Str} {k : Nat} {sp : Sp}
    (F : Fun K x qual st f fd) (S : FnScope N ps (defScope st)) (len : ∀ vs H Q E, sp vs H Q E → vs.length = ps.length)
    (hbody : ∀ (cdv : Value) (A : Around) (outer : List Env) (s : Shared) (H : Hp) (vs : List V) (Q : VK) (E : XK), A.guards = some [] →
      Room k (A.deeper (envOfC qual (defScope st) s.heap.objs.size f cdv)) → sp vs H Q E →
        ∃ t, PSs (cxOf (CX P w) P w K mg base N qual (defScope st) f cdv A outer s H E) (defBody st) t ∧ t { nx := fun _ H' => Q .non H', rt := Q } (L2.start N vs) H) :
    RunG P w K mg base (CX P w) (k + 1) f fd ps sp := by
  obtain ⟨oc, od, kV, doc, pm, an, cdv, ct, osl, rfl, lk, hcd⟩ := F.ex
  intro A outer s H args us vs Q E hg hr e0 hb r hsp
  have hl := len vs H Q E hsp
  have KX := PySem.W.Frag.In.keeps e0.mod.kin fun b o e => (e0.bs b o e).1
  have lim := Heap.NoLimit.keeps e0.mod.nolimit fun b o e => (e0.bs b o e).1
  refine codeAny_call_function hr.depth (KX f _ lk) rfl S.co S.gen rfl (PySem.W.codeRec_of KX hcd) (hb _ A.in1 _ _ ?_)
  refine wpAny_newFunctionEnv_cells S.kind (fun x hy => ?_) fun env he s1 z => ?_
  · rcases S.par x.1 (List.of_mem_zip (a := x.1) (b := x.2) hy).1 with q | q
    · exact .inl q
    · exact .inr ⟨q, PySem.W.cellsFrom_some _ _ _ (.inl q)⟩
  · subst he
    refine ⟨Heap.NoLimit.keeps lim z.toInCall.keep, codeAny_func ?_⟩
    obtain ⟨t, ht, hq⟩ := hbody cdv A outer s H vs Q E hg (hr.deeper _) hsp
    have I := inv_start (CX := CX P w) (E := E) S hr.hd e0 hl r z
    refine wpAny_mono (ht.run [] s1 (L2.start N vs) H _ I hq) (fun fl s' hs => ?_) (fun e s' hs => hs)
    cases fl with
    | next =>
      obtain ⟨σ', H', J, q⟩ := hs
      exact ⟨V.non, H', J.os, J.bare, J.base, J.hok, rfl, q⟩
    | ret u =>
      obtain ⟨v, σ', H', J, rv, q⟩ := hs
      exact ⟨v, H', J.os, J.bare, J.base, J.hok, rv, q⟩
    | brk => obtain ⟨_, _, _, q⟩ := hs; exact q.elim
    | cont => obtain ⟨_, _, _, q⟩ := hs; exact q.elim
/-- the law's call, from outside -/
theorem law_callG {P : Program} {w : World} {K : PySem.W.Frag} {mg mb : Str → Option Value} {CX : CXT} {k : Nat} {fa a : Addr} {fd : FuncData} {x : Str} {sp : Sp} {s₁ : Shared} {vs : List Value} {ns : List Int}
    (KX : K.In s₁.heap) (hns : s₁.heap.Ns mainGlobals mg) (hb : s₁.heap.Ns builtinsNs mb) (hbb : ∀ x, x ≠ Str.ofString "__name__" → mb x = bootBuiltins x) (hlim : s₁.heap.NoLimit) (hg : s₁.gens = #[])
    (ha : s₁.heap.get? a = some { cls := Value.type "list", data := Data.seq vs.toArray }) (hi : IntsAre vs ns) (hl : ns.length ≤ sizeLine) (hr : Room k callerA)
    (F : ∀ base : Heap, K.In base → base.Ns mainGlobals mg → RunG P w K mg base CX k fa fd [x] sp)
    (hbind : ∀ (s : Shared) (u : Value), BindsTo s fd { pos := [u] } [(x, u)])
    (hsp : ∀ H : Hp, Only H → SqL K H a (ns.map V.int) → sp [V.ref a] H (fun v _ => v = V.bl true) (fun _ _ _ => False))
    (hCX : ∀ (H : Hp) (e : Value) (s' : Shared), CX [] H s₁ (fun _ _ _ => False) e s' → False) :
    codeAny (model P w) callerA (Code.call (Value.ref fa) { pos := [Value.ref a] }) (fun r s' => r = .ok (.ret (.bool true)) ∧ OldK s₁.heap s'.heap ∧ s'.os = s₁.os ∧ AllBare s'.gens) s₁ := by
  have core : ∀ H : Hp, Only H → SqL K H a (ns.map V.int) → HOk P w H s₁.heap → (∀ b, H b ≠ none → b = a) → (H a ≠ none → List.lookup a K = none) →
      codeAny (model P w) callerA (Code.call (Value.ref fa) { pos := [Value.ref a] }) (fun r s' => r = .ok (.ret (.bool true)) ∧ OldK s₁.heap s'.heap ∧ s'.os = s₁.os ∧ AllBare s'.gens) s₁ := by
    intro H hO hS hok hA hK
    have other : ∀ {b : Addr}, b ≠ a → H b = none := fun {b} hne => by
      cases e : H b with
      | none => rfl
      | some u => exact absurd (hA b (by rw [e]; exact fun z => nomatch z)) hne
    have kin : K.In (hidT s₁.heap H) := fun b o e => by
      refine hidT_get (KX b o e) ?_
      by_cases h : b = a
      · subst h
        cases e2 : H b with
        | none => rfl
        | some u =>
          have := hK (by rw [e2]; exact fun z => nomatch z)
          rw [e] at this
          cases this
      · exact other h
    have nsK : ∀ {b : Addr} {m : Str → Option Value}, s₁.heap.Ns b m → (hidT s₁.heap H).Ns b m := fun {b m} h => by
      obtain ⟨o, es, ep, e, d, r⟩ := h
      refine ⟨o, es, ep, hidT_get e (other fun z => ?_), d, r⟩
      subst z
      rw [ha] at e
      cases e
      cases d
    have e0 : Env0 P w K mg (hidT s₁.heap H) callerA [] s₁ H :=
      ⟨rfl, ⟨kin, nsK hns, ⟨mb, nsK hb, hbb⟩, by obtain ⟨mc, h1, h2⟩ := hlim; exact ⟨mc, nsK h1, h2⟩⟩, fun b o e => of_hidT e, Nat.le_of_eq (hidT_size s₁.heap H), trivial, (fun b hb => nomatch hb), hok, AllBare.of_eq hg⟩
    refine codeAny_mono (F _ kin (nsK hns) callerA [] s₁ H _ [Value.ref a] [V.ref a] _ _ rfl hr e0 (hbind s₁ (Value.ref a)) (.cons rfl .nil) (hsp H hO hS)) fun r s' h => ?_
    cases r with
    | error e => exact (hCX H e s' h).elim
    | ok fl =>
      cases fl with
      | next => exact h.elim
      | brk => exact h.elim
      | cont => exact h.elim
      | ret u =>
        obtain ⟨v, H', os, bare, un, hok', rv, q⟩ := h
        subst q
        refine ⟨by rw [show u = Value.bool true from rv], OldK.of_keep fun b o e => ?_, os, bare⟩
        cases e1 : H b with
        | none => exact un.keep b o e e1 (fun z => nomatch z) (fun z => nomatch z)
        | some u2 =>
          rcases hO b with z | ⟨ob, xs, z⟩
          · rw [z] at e1; cases e1
          · have z2 := un.frzs b ob _ z
            have y1 := (hok b _ z).1
            have y2 := (hok' b _ z2).1
            rw [e] at y1
            cases y1
            exact y2
  have rv : Vals (ns.map V.int) vs := vals_ints hi
  have lenV : vs.length = ns.length := IntsAre.length hi
  cases hk : List.lookup a K with
  | none =>
    refine core (fun b => if b = a then some (HO.frz { cls := Value.type "list", data := Data.seq vs.toArray } (HO.lst (ns.map V.int))) else none) (fun b => ?_) (.inl (.inr ⟨_, if_pos rfl⟩)) (fun b u z => ?_) (fun b z => ?_) (fun _ => hk)
    · by_cases hb : b = a
      · exact .inr ⟨_, _, if_pos hb⟩
      · exact .inl (if_neg hb)
    · by_cases hb : b = a
      · have z' := (if_pos hb).symm.trans z
        cases z'
        subst hb
        exact ⟨ha, by rw [List.length_map]; exact hl, vs, _, rv, ha⟩
      · have z' := (if_neg hb).symm.trans z
        cases z'
    · by_cases hb : b = a
      · exact hb
      · exact absurd (if_neg hb) z
  | some o =>
    have e := KX a o hk
    rw [ha] at e
    cases e
    refine core (fun _ => none) (fun _ => .inl rfl) (.inr ⟨_, vs.toArray, _, hk, rfl, rfl, rfl, ?_, rv⟩) (fun b u z => nomatch z) (fun b z => absurd rfl z) (fun z => absurd rfl z)
    rw [List.size_toArray, lenV]
    exact hl
/-- the whole claim, from a law's run where nothing guards -/
theorem walk_ofG {l : PySem.W.OpenLaw} {n k : Nat} {q : Program} {loose : List Str} {XP : (Str → Option Value) → Heap → Prop} {YP : World → Heap → Prop} {d : DefRec} {K : Params → PySem.W.Frag} {CX : World → CXT} {sp : World → Sp} {x : Str}
    (hn : l.most = some n) (hn2 : n ≤ sizeLine) (hdf : d.params.defaults = []) (hr : Room k callerA) (hY : ∀ w h, YP w h → (K w.params).In h)
    (F : ∀ (w : World) (mg : Str → Option Value) (fa : Addr) (h : Heap), (K w.params).In h → h.Ns mainGlobals mg → mg d.name = some (Value.ref fa) →
      ∃ fd, (∀ (s : Shared) (u : Value), BindsTo s fd { pos := [u] } [(x, u)]) ∧ ∀ base : Heap, (K w.params).In base → base.Ns mainGlobals mg → RunG l.prog w (K w.params) mg base (CX w) k fa fd [x] (sp w))
    (hsp : ∀ (w : World) (H : Hp) (a : Addr) (ns : List Int), ns.length ≤ n → Only H → SqL (K w.params) H a (ns.map V.int) → sp w [V.ref a] H (fun v _ => v = V.bl true) (fun _ _ _ => False))
    (hCX : ∀ (w : World) (H : Hp) (s : Shared) (e : Value) (s' : Shared), CX w [] H s (fun _ _ _ => False) e s' → False) :
    PySem.W.WalkO q loose XP YP l.row.toRowW d [] fun f vs => PySem.call f vs :=
  Att.attach_call hn hdf fun w s₀ s₁ mg mb fa o pm cd doc a vs ns G Y ho hd hcd hmg hobj hints hlen hg => by
    have KX := hY w s₁.heap Y
    obtain ⟨fd, hb, hF⟩ := F w mg fa s₁.heap KX G.T.g hmg
    exact law_callG KX G.T.g G.T.b G.T.builtins G.T.nolimit hg hobj hints (Nat.le_trans hlen hn2) hr hF hb (fun H hO hS => hsp w H a ns hlen hO hS) (fun H e s' => hCX w H s₁ e s')
/-! ### repr of lists, where nothing guards -/
def rRepr (K : PySem.W.Frag) : List V → Hp → VK → Prop := fun xs H Q => ∃ (a : Addr) (p : PyData), xs = [V.ref a] ∧ Dp K H (V.ref a) p ∧ p.showable = true ∧ p.hasDict = false ∧ p.depth ≤ 64 ∧ p.shown.length ≤ sizeLine ∧ Q (V.str p.shown) H
theorem call_reprK {X : Cx} (K : PySem.W.Frag) (h : X.K = K) (hg : X.A.guards = some []) (hu : X.A.units + 66 < cLine) : CallR X (.builtin "repr") (rRepr K) := by
  subst h
  intro pins s σ H xs us Q I r h
  obtain ⟨a, p, rfl, hd, hs, hdc, hdp, hl, q⟩ := h
  cases r with
  | cons ra r =>
    cases r
    obtain ⟨as, hr⟩ := Dp.reads I p _ _ hd ra
    rename_i u
    have eu : u = Value.ref a := ra
    subst eu
    refine repr_of_reads' hr hs (fun z => ?_) hg (by omega) (fun b o e => e) (fun h' u tk hk => ?_) hl
    · rw [hdc] at z; cases z
    · exact ⟨V.str p.shown, H, I.turnedL (ch := []) (fun b o _ e => hk b o e) (fun b z => nomatch z), ⟨u, rfl⟩, q⟩
/-- data whose text is short enough -/
structure Rep (W D : Nat) (p : PyData) : Prop where
  ls : PyData.leavesShort 13 p = true
  sh : p.showable = true
  hd : p.hasDict = false
  wt : p.weight ≤ W
  dp : p.depth ≤ D
theorem Rep.mono {W D W' D' : Nat} {p : PyData} (h : Rep W D p) (a : W ≤ W') (b : D ≤ D') : Rep W' D' p := ⟨h.ls, h.sh, h.hd, Nat.le_trans h.wt a, Nat.le_trans h.dp b⟩
theorem rep_int {i : Int} (h : Bd 39 i) : Rep 39 0 (.int i) := by
  have hb := h.lt
  have hlog : i.natAbs.log2 < 39 := by
    by_cases z : i.natAbs = 0
    · rw [z]; decide
    · exact (Nat.log2_lt z).mpr hb
  refine ⟨?_, ?_, rfl, ?_, Nat.le_refl _⟩
  · have := PyData.intsShortAll_ints [i] (fun n hn => by
      rw [List.mem_singleton] at hn
      subst hn
      exact Nat.lt_of_lt_of_le hb (by decide))
    rw [PyData.leavesShort.eq_3]
    have e : PyData.intsShortAll 13 ([i].map PyData.int) = (decide ((PyData.int i).shown.length ≤ 13) && true) := rfl
    rw [e, Bool.and_true] at this
    exact this
  · show decide (i.natAbs.log2 < 1920) = true
    exact decide_eq_true (by omega)
  · rw [PyData.weight.eq_5]
    split <;> omega
theorem rep_all {W D : Nat} : ∀ {ps : List PyData}, (∀ p ∈ ps, Rep W D p) → PyData.leavesShortAll 13 ps = true ∧ PyData.showableAll ps = true ∧ PyData.hasDictAll ps = false ∧ PyData.weightAll ps ≤ ps.length * (W + 1) ∧ PyData.depthAll ps ≤ D
  | [], _ => ⟨rfl, rfl, rfl, Nat.zero_le _, Nat.zero_le _⟩
  | p :: ps, h => by
    obtain ⟨a, b, c, d, e⟩ := rep_all (ps := ps) fun x hx => h x (List.mem_cons_of_mem _ hx)
    have q := h p List.mem_cons_self
    refine ⟨?_, ?_, ?_, ?_, ?_⟩
    · show (PyData.leavesShort 13 p && PyData.leavesShortAll 13 ps) = true
      rw [q.ls, a]; rfl
    · show (p.showable && PyData.showableAll ps) = true
      rw [q.sh, b]; rfl
    · show (p.hasDict || PyData.hasDictAll ps) = false
      rw [q.hd, c]; rfl
    · rw [PyData.weightAll.eq_2, List.length_cons, Nat.succ_mul]
      have := q.wt
      omega
    · show max p.depth (PyData.depthAll ps) ≤ D
      have := q.dp
      omega
theorem rep_lst {W D : Nat} {ps : List PyData} (h : ∀ p ∈ ps, Rep W D p) : Rep (ps.length * (W + 1)) (D + 1) (.list ps) := by
  obtain ⟨a, b, c, d, e⟩ := rep_all h
  exact ⟨a, b, c, d, Nat.succ_le_succ e⟩
theorem rep_tup {W D : Nat} {ps : List PyData} (h : ∀ p ∈ ps, Rep W D p) : Rep (ps.length * (W + 1)) (D + 1) (.tuple ps) := by
  obtain ⟨a, b, c, d, e⟩ := rep_all h
  exact ⟨a, b, c, d, Nat.succ_le_succ e⟩
theorem rep_pQ {q : Rat} (h : Bt 39 q) : Rep 80 1 (pQ q) := by
  refine (rep_tup (W := 39) (D := 0) (ps := [.int q.num, .int (q.den : Int)]) fun p hp => ?_).mono (Nat.le_refl 80) (by decide)
  simp only [List.mem_cons, List.not_mem_nil, or_false] at hp
  rcases hp with rfl | rfl
  · exact rep_int h.1
  · exact rep_int h.2
theorem rep_pL {qs : List Rat} {n : Nat} (h : BL 39 qs) (hl : qs.length ≤ n) : Rep (n * 81) 2 (pL qs) := by
  refine (rep_lst (W := 80) (D := 1) (ps := qs.map pQ) fun p hp => ?_).mono ?_ (by decide)
  · obtain ⟨q, hq, rfl⟩ := List.mem_map.mp hp
    exact rep_pQ (h q hq)
  · rw [List.length_map]
    exact Nat.mul_le_mul_right _ hl
theorem rep_pM {rows : List (List Rat)} {n m : Nat} (h : BM 39 rows) (hr : ∀ r ∈ rows, r.length ≤ m) (hl : rows.length ≤ n) : Rep (n * (m * 81 + 1)) 3 (pM rows) := by
  refine (rep_lst (W := m * 81) (D := 2) (ps := rows.map pL) fun p hp => ?_).mono ?_ (by decide)
  · obtain ⟨q, hq, rfl⟩ := List.mem_map.mp hp
    exact rep_pL (h q hq) (hr q hq)
  · rw [List.length_map]
    exact Nat.mul_le_mul_right _ hl
section
variable {K : PySem.W.Frag} {S : Sg}
theorem rc_repr {ds : List RD} {p : PyData} {W D : Nat} (hp : RD.py (.lst ds) = some p) (h : Rep W D p) (hW : W ≤ 1000000) (hD : D ≤ 64) : RC K (rRepr K) [.lst ds] (.str p.shown) := fun G H vs e r Q q => by
  cases r with
  | cons x r =>
    cases r
    have hdp := dp_ex e x hp
    obtain ⟨a, xs, rfl, hs, ha⟩ := x.lst_inv
    exact ⟨a, p, rfl, hdp, h.sh, h.hd, Nat.le_trans h.dp hD, PyData.shown_fits (B := 13) (by decide) (by decide) h.ls (Nat.le_trans h.wt (Nat.le_trans hW (by decide))), q _ G H (.refl e) (.str _)⟩
end
theorem room66 {k : Nat} {A : Around} (r : Room k A) : A.units + 66 < cLine := by have := r.un; omega
/-! is not, of bools -/
def rNB : R2 := fun x y H Q => ∃ a b : Bool, x = V.bl a ∧ y = V.bl b ∧ Q (V.bl (!decide (a = b))) H
theorem op_notBl {X : Cx} : OpR X (compareOp .IsNot) rNB := by
  intro pins s σ H x y v u Q I rx ry h
  obtain ⟨a, b, rfl, rfl, q⟩ := h
  have e1 : v = Value.bool a := rx
  have e2 : u = Value.bool b := ry
  subst e1
  subst e2
  exact wpAny_isNot_plain rfl (fin_bl I q (by cases a <;> cases b <;> rfl))
theorem ro_notB {K : PySem.W.Frag} {a b : Bool} : RO K rNB (.bl a) (.bl b) (.bl (!decide (a = b))) := fun G H x y e hx hy Q k => by
  cases hx
  cases hy
  exact ⟨a, b, rfl, rfl, k _ G H (.refl e) (.bl _)⟩
end RP

set_option Elab.async false
set_option linter.all false
set_option maxRecDepth 100000
set_option maxHeartbeats 2000000
namespace RP
open PySem PySem.Spec PyProof.Rows L2
/-! ### rows whose own entry is greater than the others together -/
theorem abs_ge (q : Rat) : q ≤ absQ q := by
  rw [absQ_eq]
  split
  · grind
  · exact Rat.le_refl
theorem abs_neg_ge (q : Rat) : -q ≤ absQ q := by
  rw [absQ_eq]
  split
  · exact Rat.le_refl
  · grind
theorem mul_abs_le {a b M : Rat} (h : absQ b ≤ M) : a * b ≤ absQ a * M ∧ -(a * b) ≤ absQ a * M := by
  have h1 : b ≤ M := Rat.le_trans (abs_ge b) h
  have h2 : -b ≤ M := Rat.le_trans (abs_neg_ge b) h
  by_cases ha : a < 0
  · have e : absQ a = -a := by rw [absQ_eq, if_pos ha]
    have n : 0 ≤ -a := by grind
    have x1 := Rat.mul_le_mul_of_nonneg_left h1 n
    have x2 := Rat.mul_le_mul_of_nonneg_left h2 n
    rw [e]
    constructor <;> grind
  · have e : absQ a = a := by rw [absQ_eq, if_neg ha]
    have n : 0 ≤ a := by grind
    have x1 := Rat.mul_le_mul_of_nonneg_left h1 n
    have x2 := Rat.mul_le_mul_of_nonneg_left h2 n
    rw [e]
    constructor <;> grind
def dpI (row y : List Rat) : Nat → Rat
  | 0 => 0
  | i + 1 => dpI row y i + row.getD i 0 * y.getD i 0
theorem dpI_cons (a b : Rat) (r y : List Rat) : ∀ i, dpI (a :: r) (b :: y) (i + 1) = a * b + dpI r y i
  | 0 => by
    show 0 + a * b = a * b + 0
    grind
  | i + 1 => by
    show dpI (a :: r) (b :: y) (i + 1) + r.getD i 0 * y.getD i 0 = a * b + (dpI r y i + r.getD i 0 * y.getD i 0)
    rw [dpI_cons a b r y i]
    grind
theorem dpI_dot : ∀ (row y : List Rat), row.length = y.length → dpI row y row.length = dot row y
  | [], y, _ => rfl
  | a :: r, [], h => by cases h
  | a :: r, b :: y, h => by
    rw [List.length_cons, dpI_cons, dot_cons, dpI_dot r y (Nat.succ.inj h)]
theorem offI_nonneg (row : List Rat) (k : Nat) : ∀ i, 0 ≤ offI row k i
  | 0 => Rat.le_refl
  | i + 1 => by
    have ih := offI_nonneg row k i
    unfold offI
    split
    · exact ih
    · have := absQ_nonneg (row.getD i 0)
      grind
theorem dp_off {row y : List Rat} {k n : Nat} {M : Rat} (hM : ∀ j, j < n → absQ (y.getD j 0) ≤ M) : ∀ i, i ≤ n → (dpI row y i - (if k < i then row.getD k 0 * y.getD k 0 else 0)) ≤ offI row k i * M ∧ -(dpI row y i - (if k < i then row.getD k 0 * y.getD k 0 else 0)) ≤ offI row k i * M
  | 0, _ => by
    rw [if_neg (by omega)]
    unfold dpI offI
    constructor <;> grind
  | i + 1, hi => by
    obtain ⟨h1, h2⟩ := dp_off (row := row) (k := k) hM i (by omega)
    unfold dpI offI
    by_cases e : i = k
    · subst e
      rw [if_neg (by omega)] at h1 h2
      rw [if_pos (by omega), if_pos rfl]
      constructor <;> grind
    · rw [if_neg e]
      obtain ⟨m1, m2⟩ := mul_abs_le (a := row.getD i 0) (hM i (by omega))
      by_cases l : k < i
      · rw [if_pos l] at h1 h2
        rw [if_pos (by omega)]
        constructor <;> grind
      · rw [if_neg l] at h1 h2
        rw [if_neg (by omega)]
        constructor <;> grind
theorem max_at (y : List Rat) : ∀ n, 0 < n → ∃ k, k < n ∧ ∀ j, j < n → absQ (y.getD j 0) ≤ absQ (y.getD k 0)
  | 0, h => by omega
  | 1, _ => ⟨0, by omega, fun j hj => by
      have : j = 0 := by omega
      subst this
      exact Rat.le_refl⟩
  | n + 2, _ => by
    obtain ⟨k, hk, h⟩ := max_at y (n + 1) (by omega)
    by_cases c : absQ (y.getD (n + 1) 0) ≤ absQ (y.getD k 0)
    · refine ⟨k, by omega, fun j hj => ?_⟩
      by_cases e : j = n + 1
      · subst e; exact c
      · exact h j (by omega)
    · refine ⟨n + 1, by omega, fun j hj => ?_⟩
      by_cases e : j = n + 1
      · subst e; exact Rat.le_refl
      · have := h j (by omega)
        grind
theorem domB_at {n : Nat} {rows : List (List Rat)} (h : domB n rows = true) {i : Nat} (hi : i < n) : offI (rows.getD i []) i n < absQ (En rows i i) := by
  unfold domB at h
  rw [List.all_eq_true] at h
  exact of_decide_eq_true (h i (List.mem_range.mpr hi))
theorem abs_zero_iff {q : Rat} (h : absQ q ≤ 0) : q = 0 := by
  have h1 := Rat.le_trans (abs_ge q) h
  have h2 := Rat.le_trans (abs_neg_ge q) h
  grind
/-- dominant rows have nothing that they make zero -/
theorem dom_ker {n : Nat} {rows : List (List Rat)} (hs : Sh n n rows) (hd : domB n rows = true) {y : List Rat} (hy : y.length = n) (hz : ∀ r ∈ rows, dot r y = 0) : ∀ j, j < n → y.getD j 0 = 0 := by
  intro j hj
  obtain ⟨k, hk, hmax⟩ := max_at y n (by omega)
  have hg := hs.get hk
  have hdot := hz _ hg.1
  rw [← dpI_dot _ _ (by rw [hg.2, hy]), hg.2] at hdot
  have ho := dp_off (row := rows.getD k []) (y := y) (k := k) hmax n (Nat.le_refl _)
  rw [if_pos hk, hdot] at ho
  have hlt := domB_at hd hk
  have e1 : En rows k k = (rows.getD k []).getD k 0 := rfl
  rw [e1] at hlt
  generalize (rows.getD k []).getD k 0 = a at ho hlt
  generalize offI (rows.getD k []) k n = f at ho hlt
  apply abs_zero_iff
  refine Rat.le_trans (hmax j hj) ?_
  generalize y.getD k 0 = b at ho
  by_cases c : absQ b ≤ 0
  · exact c
  · exfalso
    have hpos : 0 < absQ b := by grind
    have m : f * absQ b < absQ a * absQ b := Rat.mul_lt_mul_of_pos_right hlt hpos
    have e2 : absQ a * absQ b = a * b ∨ absQ a * absQ b = -(a * b) := by
      rw [absQ_eq a, absQ_eq b]
      split <;> split
      · left; grind
      · right; grind
      · right; grind
      · left; grind
    rcases e2 with e | e <;> rw [e] at m <;> grind
/-! what solves, of the rows with their right sides -/
theorem aug_mem {n : Nat} {rows : List (List Rat)} {right : List Rat} (hs : Sh n n rows) (hr : right.length = n) {r : List Rat} : r ∈ augT rows right ↔ ∃ i, i < n ∧ r = rows.getD i [] ++ [right.getD i 0] := by
  have hl := hs.len
  unfold augT
  rw [List.mem_map]
  constructor
  · rintro ⟨p, hp, rfl⟩
    obtain ⟨i, hi, e⟩ := List.getElem_of_mem hp
    rw [List.length_zip] at hi
    have h1 : i < rows.length := by omega
    have h2 : i < right.length := by omega
    refine ⟨i, by omega, ?_⟩
    have e1 : rows.getD i [] = rows[i] := by simp [List.getD_eq_getElem?_getD, List.getElem?_eq_getElem, h1]
    rw [← e, e1, getD_get h2]
    simp
  · rintro ⟨i, hi, rfl⟩
    have h1 : i < rows.length := by omega
    have h2 : i < right.length := by omega
    have e1 : rows.getD i [] = rows[i] := by simp [List.getD_eq_getElem?_getD, List.getElem?_eq_getElem, h1]
    refine ⟨(rows[i], right[i]), ?_, by rw [e1, getD_get h2]⟩
    have hz : i < (rows.zip right).length := by rw [List.length_zip]; omega
    have e2 : (rows.zip right)[i] = (rows[i], right[i]) := by simp
    rw [← e2]
    exact List.getElem_mem _
theorem zr_aug {n : Nat} {rows : List (List Rat)} {right x : List Rat} {c : Rat} (hs : Sh n n rows) (hr : right.length = n) (hx : x.length = n) : Zr (augT rows right) (x ++ [c]) ↔ ∀ i, i < n → dot (rows.getD i []) x + right.getD i 0 * c = 0 := by
  have key : ∀ i, i < n → dot (rows.getD i [] ++ [right.getD i 0]) (x ++ [c]) = dot (rows.getD i []) x + right.getD i 0 * c := by
    intro i hi
    rw [dot_append _ _ _ _ (by rw [(hs.get hi).2, hx]), dot_cons, dot_nil]
    grind
  constructor
  · intro h i hi
    rw [← key i hi]
    exact h _ ((aug_mem hs hr).mpr ⟨i, hi, rfl⟩)
  · intro h r hr2
    obtain ⟨i, hi, rfl⟩ := (aug_mem hs hr).mp hr2
    rw [key i hi]
    exact h i hi
/-- nothing but zeros is made zero -/
def Ker0 (n : Nat) (rows : List (List Rat)) : Prop := ∀ y : List Rat, y.length = n → (∀ r ∈ rows, dot r y = 0) → ∀ j, j < n → y.getD j 0 = 0
theorem dom_ker0 {n : Nat} {rows : List (List Rat)} (hs : Sh n n rows) (hd : domB n rows = true) : Ker0 n rows := fun y hy hz => dom_ker hs hd hy hz
/-- then the elimination comes to its end, with the one solution -/
theorem solve_ex {n B : Nat} {rows : List (List Rat)} {right : List Rat} (hs : Sh n n rows) (hr : right.length = n) (hc : ∀ r ∈ augT rows right, CD B r) (hk : Ker0 n rows) :
    ∃ u, gj (augT rows right) n = some u ∧ GOk n (n + 1) B (augT rows right) n u ∧ ∀ y : List Rat, y.length = n → ((∀ i, i < n → dot (rows.getD i []) y = right.getD i 0) ↔ y = lastC n u) := by
  have ash := aug_sh hs hr
  have ok := gj_ok ash (Nat.le_succ n) hc
  cases e : gj (augT rows right) n with
  | none =>
    exfalso
    obtain ⟨m, u, hm, hu, hl⟩ := gj_first e
    obtain ⟨y, hy, h1, hz⟩ := gj_ker (ok m (by omega) u hu) hm hl
    have hz2 := (zr_aug hs hr hy).mp hz
    have := hk y hy (fun r hr2 => by
      obtain ⟨i, hi, rfl⟩ := row_mem hs hr2
      have := hz2 i hi
      grind) m hm
    rw [h1] at this
    exact absurd this (by decide)
  | some u =>
    have g := ok n (Nat.le_refl n) u e
    refine ⟨u, rfl, g, fun y hy => ?_⟩
    rw [← gj_sol g hy, zr_aug hs hr hy]
    constructor
    · intro h i hi
      have := h i hi
      grind
    · intro h i hi
      have := h i hi
      grind
def rotT {α : Type} (t : Nat) (xs : List α) : List α := xs.drop t ++ xs.take t
theorem rotT_mem {α : Type} {t : Nat} {xs : List α} {x : α} : x ∈ rotT t xs ↔ x ∈ xs := by
  unfold rotT
  rw [List.mem_append]
  conv => rhs; rw [← List.take_append_drop t xs, List.mem_append]
  exact or_comm
theorem rotT_len {α : Type} {t : Nat} {xs : List α} : (rotT t xs).length = xs.length := by
  unfold rotT
  rw [List.length_append, List.length_drop, List.length_take]
  omega
def mulL (p : Rat) (xs : List Rat) : List Rat := xs.map fun v => p * v
theorem mulL_len (p : Rat) (xs : List Rat) : (mulL p xs).length = xs.length := List.length_map ..
theorem dot_mulL (p : Rat) : ∀ (row z : List Rat), dot (mulL p row) z = p * dot row z
  | [], z => by
    show (0 : Rat) = p * dot [] z
    rw [dot_nil]
    grind
  | a :: r, [] => by
    rw [dot_nilR, dot_nilR]
    grind
  | a :: r, b :: z => by
    have h := dot_mulL p r z
    show dot ((p * a) :: mulL p r) (b :: z) = _
    rw [dot_cons, dot_cons, h]
    grind
theorem dot_mulR (p : Rat) : ∀ (row z : List Rat), dot row (mulL p z) = p * dot row z
  | [], z => by
    rw [dot_nil, dot_nil]
    grind
  | a :: r, [] => by
    show dot (a :: r) [] = _
    rw [dot_nilR]
    grind
  | a :: r, b :: z => by
    have h := dot_mulR p r z
    show dot (a :: r) ((p * b) :: mulL p z) = _
    rw [dot_cons, dot_cons, h]
    grind
theorem getD_mulL {p : Rat} {xs : List Rat} {i : Nat} (h : i < xs.length) : (mulL p xs).getD i 0 = p * xs.getD i 0 := getD_map0 h
theorem aug_turn {t : Nat} {p : Rat} {rows : List (List Rat)} {right : List Rat} (hl : rows.length = right.length) : augT ((rotT t rows).map (mulL p)) (mulL p (rotT t right)) = (rotT t (augT rows right)).map (mulL p) := by
  have e : (rotT t rows).zip (rotT t right) = rotT t (rows.zip right) := by
    unfold rotT
    rw [List.zip_append (by rw [List.length_drop, List.length_drop, hl])]
    congr 1
    · simp [List.zip, List.drop_zipWith]
    · simp [List.zip, List.take_zipWith]
  unfold augT
  unfold mulL
  rw [List.zip_map, e, List.map_map]
  unfold rotT
  have ef : ((fun q : List Rat × Rat => q.1 ++ [q.2]) ∘ Prod.map (fun xs => List.map (fun v => p * v) xs) fun v => p * v) = ((fun xs => List.map (fun v => p * v) xs) ∘ fun q : List Rat × Rat => q.1 ++ [q.2]) := by
    funext q
    simp
  simp only [List.map_append, List.map_drop, List.map_take, List.map_map, ef]
/-! parts of 2520 -/
def E25 (N : Nat) (q : Rat) : Prop := ∃ m : Int, m.natAbs ≤ N ∧ q = Rat.divInt m 2520
theorem E25.mono {N M : Nat} {q : Rat} (h : E25 N q) (l : N ≤ M) : E25 M q := by
  obtain ⟨m, a, b⟩ := h
  exact ⟨m, Nat.le_trans a l, b⟩
theorem e25_zero {N : Nat} : E25 N 0 := ⟨0, Nat.zero_le _, by rw [Rat.zero_divInt]⟩
theorem E25.add {N M : Nat} {p q : Rat} (h : E25 N p) (k : E25 M q) : E25 (N + M) (p + q) := by
  obtain ⟨m, a, rfl⟩ := h
  obtain ⟨l, b, rfl⟩ := k
  refine ⟨m + l, by omega, ?_⟩
  rw [divInt_rat, divInt_rat, divInt_rat, Rat.intCast_add]
  grind
theorem E25.neg {N : Nat} {q : Rat} (h : E25 N q) : E25 N (-q) := by
  obtain ⟨m, a, rfl⟩ := h
  exact ⟨-m, by omega, by rw [Rat.neg_divInt]⟩
theorem E25.abs {N : Nat} {q : Rat} (h : E25 N q) : E25 N (absQ q) := by
  unfold absQ
  split
  · exact h.neg
  · exact h
theorem e25_of {n d : Int} {N : Nat} (hd : 0 < d ∧ d ≤ 9) (hn : n.natAbs ≤ N) : E25 (N * 2520) (Rat.divInt n d) := by
  have hk : ∃ k : Int, d * k = 2520 ∧ 0 ≤ k ∧ k ≤ 2520 := by
    have : d = 1 ∨ d = 2 ∨ d = 3 ∨ d = 4 ∨ d = 5 ∨ d = 6 ∨ d = 7 ∨ d = 8 ∨ d = 9 := by omega
    rcases this with rfl | rfl | rfl | rfl | rfl | rfl | rfl | rfl | rfl
    · exact ⟨2520, by decide⟩
    · exact ⟨1260, by decide⟩
    · exact ⟨840, by decide⟩
    · exact ⟨630, by decide⟩
    · exact ⟨504, by decide⟩
    · exact ⟨420, by decide⟩
    · exact ⟨360, by decide⟩
    · exact ⟨315, by decide⟩
    · exact ⟨280, by decide⟩
  obtain ⟨k, hk, k0, k1⟩ := hk
  refine ⟨n * k, ?_, ?_⟩
  · rw [Int.natAbs_mul]
    exact Nat.mul_le_mul hn (by omega)
  · rw [Rat.divInt_eq_divInt_iff (by omega) (by decide), Int.mul_assoc, Int.mul_comm k d, hk]
theorem e25_off {row : List Rat} {N k : Nat} (h : ∀ q ∈ row, E25 N q) : ∀ i, i ≤ row.length → E25 (i * N) (offI row k i)
  | 0, _ => e25_zero
  | i + 1, hi => by
    have ih := e25_off (k := k) h i (by omega)
    unfold offI
    split
    · exact ih.mono (Nat.mul_le_mul_right _ (by omega))
    · rw [Nat.succ_mul]
      exact ih.add (h _ (getD_mem (by omega))).abs
theorem cd_e25 {row : List Rat} (h : ∀ q ∈ row, E25 131071 q) : CD 17 row := by
  refine ⟨2520, by decide, .of (by decide), fun q hq => ?_⟩
  obtain ⟨m, a, b⟩ := h q hq
  exact ⟨m, .of (Nat.lt_of_le_of_lt a (by decide)), b⟩
theorem bt_e25 {q : Rat} (h : E25 131071 q) : Bt 17 q := (cd_e25 (row := [q]) (fun x hx => by rw [List.mem_singleton] at hx; rw [hx]; exact h)).bl q List.mem_cons_self
/-- a row times a small part -/
theorem cd_mulL {row : List Rat} {p : Rat} (h : ∀ q ∈ row, E25 131071 q) (hp : Bt 4 p) : CD 21 (mulL p row) := by
  refine ⟨(p.den : Int) * 2520, Int.mul_pos (den_pos' p) (by decide), ((hp.2.mul (Bd.of (B := 12) (by decide)))).mono (by decide), fun q hq => ?_⟩
  obtain ⟨v, hv, rfl⟩ := List.mem_map.mp hq
  obtain ⟨m, a, rfl⟩ := h v hv
  refine ⟨p.num * m, (hp.1.mul (Bd.of (B := 17) (Nat.lt_of_le_of_lt a (by decide)))), ?_⟩
  conv => lhs; rw [← num_den p]
  rw [Rat.divInt_mul_divInt]
/-- an own entry set -/
theorem off_set {row : List Rat} {k : Nat} {v : Rat} : ∀ i, offI (row.set k v) k i = offI row k i
  | 0 => rfl
  | i + 1 => by
    unfold offI
    rw [off_set i]
    by_cases e : i = k
    · rw [if_pos e, if_pos e]
    · rw [if_neg e, if_neg e]
      congr 2
      rw [List.getD_eq_getElem?_getD, List.getD_eq_getElem?_getD, List.getElem?_set_ne (fun z => e z.symm)]
theorem get_set {row : List Rat} {k : Nat} {v : Rat} (h : k < row.length) : (row.set k v).getD k 0 = v := by
  rw [List.getD_eq_getElem?_getD, List.getElem?_set_self h]
  rfl
theorem set_cut {α : Type} {row : List α} {k : Nat} {v : α} (h : k < row.length) : row.take k ++ [v] ++ row.drop (k + 1) = row.set k v := by
  rw [List.set_eq_take_append_cons_drop, if_pos h, List.append_assoc]
  rfl
/-- the others' sum, as a list -/
theorem off_sum {row : List Rat} {k : Nat} : ∀ n, (((List.range n).filter fun (i : Nat) => !decide (i = k)).map fun i => absQ (row.getD i 0)).sum = offI row k n
  | 0 => by
    show ([] : List Rat).sum = 0
    rw [List.sum_nil]
  | n + 1 => by
    rw [List.range_succ, List.filter_append, List.map_append, List.sum_append, off_sum n]
    show _ = (if n = k then offI row k n else offI row k n + absQ (row.getD n 0))
    by_cases e : n = k
    · rw [if_pos e]
      have : ([n].filter fun (i : Nat) => !decide (i = k)) = [] := by simp [e]
      rw [this]
      show offI row k n + ([] : List Rat).sum = _
      rw [List.sum_nil, Rat.add_zero]
    · rw [if_neg e]
      have : ([n].filter fun (i : Nat) => !decide (i = k)) = [n] := by
        simp [e]
      rw [this]
      show offI row k n + [absQ (row.getD n 0)].sum = _
      rw [List.sum_cons, List.sum_nil, Rat.add_zero]
end RP


set_option Elab.async false
set_option linter.all false
set_option maxRecDepth 100000
set_option maxHeartbeats 4000000

namespace RPk16
open PySem PySem.Spec PyProof.Rows L2 RP


local macro_rules | `(tactic| walk_at "fn") => `(tactic| fail)
local macro_rules | `(tactic| walk_at "side") => `(tactic| first | rfl | (show (0 : Int) < _; decide) | exact ⟨by decide, by decide⟩ | exact ⟨by decide, by decide, by decide⟩)
local macro_rules | `(tactic| walk_at "ro") => `(tactic| ((with_reducible show RO _ _ _ _ _); first
  | (with_reducible exact ro_I0i) | (with_reducible exact ro_I0b) | ((with_reducible apply ro_Ii); try walk_at "side") | ((with_reducible apply ro_eq) <;> rfl) | ((with_reducible apply ro_ne) <;> rfl)
  | exact ro_ixsT rfl | exact ro_ixsL rfl | apply ro_ixsT | apply ro_ixsL | apply ro_ixS | walk_at "ro2"))
local macro_rules | `(tactic| walk_at "ro2") => `(tactic| fail)
local macro_rules | `(tactic| walk_at "rc") => `(tactic| ((with_reducible show RC _ _ _ _); first
  | (with_reducible exact rc_abs) | (with_reducible exact rc_int) | (with_reducible exact rc_gcd) | exact rc_lenL | exact rc_lenT | exact rc_lenS | exact rc_isi rfl (by decide +kernel) | walk_at "rc2"))
local macro_rules | `(tactic| walk_at "rc2") => `(tactic| fail)
local macro_rules | `(tactic| walk_at "ae") => `(tactic| ((with_reducible show AE _ _ _ _); first
  | (with_reducible exact ae_int) | (with_reducible exact ae_bl) | (with_reducible exact ae_str) | (with_reducible exact ae_non) | (with_reducible exact ae_ty) | (with_reducible exact ae_cls) | (with_reducible exact ae_dnew) | ((with_reducible apply ae_var); rfl)
  | (with_reducible apply ae_op) | (with_reducible apply ae_un) | (with_reducible apply ae_call0) | (with_reducible apply ae_cb) | (with_reducible apply ae_tup) | (with_reducible apply ae_lst)
  | (with_reducible apply ae_andV) | (with_reducible apply ae_orV) | (with_reducible apply ae_notV) | walk_at "ae2"))
local macro_rules | `(tactic| walk_at "ae2") => `(tactic| fail)
local macro_rules | `(tactic| walk_at "ev") => `(tactic| repeat' (first
  | walk_at "ae" | (with_reducible exact aa_nil) | (with_reducible apply aa_cons)
  | walk_at "ro" | walk_at "rc" | ((with_reducible show RU _ _ _ _); exact ru_i) | walk_at "fn"
  | ((with_reducible show AT _ _ _ _); first | (with_reducible apply at_test) | (with_reducible apply at_B) | (with_reducible apply at_and) | (with_reducible apply at_or) | (with_reducible apply at_not) | (with_reducible exact at_yes))
  | ((with_reducible show List.length _ ≤ 100000); exact Nat.le_of_ble_eq_true rfl) | ((with_reducible show List.length _ = _); rfl) | (with_reducible intro _)))
local macro_rules | `(tactic| walk_at "fg") => `(tactic| repeat (first | exact Fg.nil | apply Fg.keep | apply Fg.drop))

def topS (i : Nat) : Stmt := PySem.Challenge.pw_rivalprices_k16_dominant_equations_have.main.body.getD i (.Pass ⟨0, 0, 0, 0⟩)
abbrev s_law_cell : Stmt := topS 25
theorem sc_law_cell : FnScope ["script", "k"] ["script", "k"] (defScope s_law_cell) := ⟨rfl, rfl, rfl, by decide +kernel, rfl, by decide +kernel, by decide +kernel⟩
abbrev s_law_low : Stmt := topS 26
theorem sc_law_low : FnScope ["n", "d", "a", "b"] ["n", "d"] (defScope s_law_low) := ⟨rfl, rfl, rfl, by decide +kernel, rfl, by decide +kernel, by decide +kernel⟩
abbrev s_law_sum : Stmt := topS 30
theorem sc_law_sum : FnScope ["parts", "n", "d", "part"] ["parts"] (defScope s_law_sum) := ⟨rfl, rfl, rfl, by decide +kernel, rfl, by decide +kernel, by decide +kernel⟩
abbrev s_law_own : Stmt := topS 33
theorem sc_law_own : FnScope ["row", "at", "cell", "total", "k", "more", "own"] ["row", "at", "cell"] (defScope s_law_own) := ⟨rfl, rfl, rfl, by decide +kernel, rfl, by decide +kernel, by decide +kernel⟩
abbrev s_law_times : Stmt := topS 31
theorem sc_law_times : FnScope ["a", "b"] ["a", "b"] (defScope s_law_times) := ⟨rfl, rfl, rfl, by decide +kernel, rfl, by decide +kernel, by decide +kernel⟩
abbrev s_law_product : Stmt := topS 32
theorem sc_law_product : FnScope ["rows", "values", "k", "row"] ["rows", "values"] (defScope s_law_product) := ⟨rfl, rfl, rfl, by decide +kernel, rfl, by decide +kernel, by decide +kernel⟩
abbrev s_law_small : Stmt := topS 28
theorem sc_law_small : FnScope ["cell"] ["cell"] (defScope s_law_small) := ⟨rfl, rfl, rfl, by decide +kernel, rfl, by decide +kernel, by decide +kernel⟩
abbrev s_law_rows : Stmt := topS 29
theorem sc_law_rows : FnScope ["script", "at", "count", "rows", "i", "j"] ["script", "at", "count"] (defScope s_law_rows) := ⟨rfl, rfl, rfl, by decide +kernel, rfl, by decide +kernel, by decide +kernel⟩
abbrev s_law_weak : Stmt := topS 34
theorem sc_law_weak : FnScope ["rows", "cell", "at", "row", "total", "k"] ["rows", "cell"] (defScope s_law_weak) := ⟨rfl, rfl, rfl, by decide +kernel, rfl, by decide +kernel, by decide +kernel⟩
abbrev s_size : Stmt := topS 17
theorem sc_size : FnScope ["value"] ["value"] (defScope s_size) := ⟨rfl, rfl, rfl, by decide +kernel, rfl, by decide +kernel, by decide +kernel⟩
abbrev s_lowest : Stmt := topS 7
theorem sc_lowest : FnScope ["n", "d", "part"] ["n", "d"] (defScope s_lowest) := ⟨rfl, rfl, rfl, by decide +kernel, rfl, by decide +kernel, by decide +kernel⟩
abbrev s_add : Stmt := topS 8
theorem sc_add : FnScope ["a", "b"] ["a", "b"] (defScope s_add) := ⟨rfl, rfl, rfl, by decide +kernel, rfl, by decide +kernel, by decide +kernel⟩
abbrev s_less : Stmt := topS 12
theorem sc_less : FnScope ["a", "b"] ["a", "b"] (defScope s_less) := ⟨rfl, rfl, rfl, by decide +kernel, rfl, by decide +kernel, by decide +kernel⟩
abbrev s_leads : Stmt := topS 18
theorem sc_leads : FnScope ["row", "at", "others", "place", "value"] ["row", "at"] (defScope s_leads) := ⟨rfl, rfl, rfl, by decide +kernel, rfl, by decide +kernel, by decide +kernel⟩
abbrev s_is_dominant : Stmt := topS 19
theorem sc_is_dominant : FnScope ["rows", "at", "row"] ["rows"] (defScope s_is_dominant) := ⟨rfl, rfl, rfl, by decide +kernel, rfl, by decide +kernel, by decide +kernel⟩
abbrev s_times : Stmt := topS 10
theorem sc_times : FnScope ["a", "b"] ["a", "b"] (defScope s_times) := ⟨rfl, rfl, rfl, by decide +kernel, rfl, by decide +kernel, by decide +kernel⟩
abbrev s_along : Stmt := topS 15
theorem sc_along : FnScope ["row", "values", "total", "part", "value"] ["row", "values"] (defScope s_along) := ⟨rfl, rfl, rfl, by decide +kernel, rfl, by decide +kernel, by decide +kernel⟩
abbrev s_product : Stmt := topS 16
theorem sc_product : FnScope ["rows", "values", "row"] ["rows", "values"] (defScope s_product) := ⟨rfl, rfl, rfl, by decide +kernel, rfl, by decide +kernel, by decide +kernel⟩
abbrev s_sub : Stmt := topS 9
theorem sc_sub : FnScope ["a", "b"] ["a", "b"] (defScope s_sub) := ⟨rfl, rfl, rfl, by decide +kernel, rfl, by decide +kernel, by decide +kernel⟩
abbrev s_cleared : Stmt := topS 22
theorem sc_cleared : FnScope ["row", "lead", "at", "part", "value", "step"] ["row", "lead", "at"] (defScope s_cleared) := ⟨rfl, rfl, rfl, by decide +kernel, rfl, by decide +kernel, by decide +kernel⟩
abbrev s_sign : Stmt := topS 13
theorem sc_sign : FnScope ["a"] ["a"] (defScope s_sign) := ⟨rfl, rfl, rfl, by decide +kernel, rfl, by decide +kernel, by decide +kernel⟩
abbrev s_lead_place : Stmt := topS 20
theorem sc_lead_place : FnScope ["table", "at", "place"] ["table", "at"] (defScope s_lead_place) := ⟨rfl, rfl, rfl, by decide +kernel, rfl, by decide +kernel, by decide +kernel⟩
abbrev s_over : Stmt := topS 11
theorem sc_over : FnScope ["a", "b"] ["a", "b"] (defScope s_over) := ⟨rfl, rfl, rfl, by decide +kernel, rfl, by decide +kernel, by decide +kernel⟩
abbrev s_scaled : Stmt := topS 21
theorem sc_scaled : FnScope ["row", "part", "value"] ["row", "part"] (defScope s_scaled) := ⟨rfl, rfl, rfl, by decide +kernel, rfl, by decide +kernel, by decide +kernel⟩
abbrev s_solve : Stmt := topS 23
theorem sc_solve : FnScope ["rows", "right", "table", "row", "value", "at", "place", "lead", "others", "rest"] ["rows", "right"] (defScope s_solve) := ⟨rfl, rfl, rfl, by decide +kernel, rfl, by decide +kernel, by decide +kernel⟩
abbrev s_law : Stmt := topS 35
theorem sc_law : FnScope ["script", "count", "rows", "k", "right", "weak", "kept", "actual", "turn", "part", "turned", "one", "row", "turned_right", "twice"] ["script"] (defScope s_law) := ⟨rfl, rfl, rfl, by decide +kernel, rfl, by decide +kernel, by decide +kernel⟩
structure Txt (K : PySem.W.Frag) (mg : Str → Option Value) where
  a_law_cell : Addr
  fd_law_cell : FuncData
  F_law_cell : Fun K "_law_cell" "_law_cell" s_law_cell a_law_cell fd_law_cell
  g_law_cell : mg "_law_cell" = some (.ref a_law_cell)
  b_law_cell : Binds K fd_law_cell ["script", "k"] []
  a_law_low : Addr
  fd_law_low : FuncData
  F_law_low : Fun K "_law_low" "_law_low" s_law_low a_law_low fd_law_low
  g_law_low : mg "_law_low" = some (.ref a_law_low)
  b_law_low : Binds K fd_law_low ["n", "d"] []
  a_law_sum : Addr
  fd_law_sum : FuncData
  F_law_sum : Fun K "_law_sum" "_law_sum" s_law_sum a_law_sum fd_law_sum
  g_law_sum : mg "_law_sum" = some (.ref a_law_sum)
  b_law_sum : Binds K fd_law_sum ["parts"] []
  a_law_own : Addr
  fd_law_own : FuncData
  F_law_own : Fun K "_law_own" "_law_own" s_law_own a_law_own fd_law_own
  g_law_own : mg "_law_own" = some (.ref a_law_own)
  b_law_own : Binds K fd_law_own ["row", "at", "cell"] []
  a_law_times : Addr
  fd_law_times : FuncData
  F_law_times : Fun K "_law_times" "_law_times" s_law_times a_law_times fd_law_times
  g_law_times : mg "_law_times" = some (.ref a_law_times)
  b_law_times : Binds K fd_law_times ["a", "b"] []
  a_law_product : Addr
  fd_law_product : FuncData
  F_law_product : Fun K "_law_product" "_law_product" s_law_product a_law_product fd_law_product
  g_law_product : mg "_law_product" = some (.ref a_law_product)
  b_law_product : Binds K fd_law_product ["rows", "values"] []
  a_law_small : Addr
  fd_law_small : FuncData
  F_law_small : Fun K "_law_small" "_law_small" s_law_small a_law_small fd_law_small
  g_law_small : mg "_law_small" = some (.ref a_law_small)
  b_law_small : Binds K fd_law_small ["cell"] []
  a_law_rows : Addr
  fd_law_rows : FuncData
  F_law_rows : Fun K "_law_rows" "_law_rows" s_law_rows a_law_rows fd_law_rows
  g_law_rows : mg "_law_rows" = some (.ref a_law_rows)
  b_law_rows : Binds K fd_law_rows ["script", "at", "count"] []
  a_law_weak : Addr
  fd_law_weak : FuncData
  F_law_weak : Fun K "_law_weak" "_law_weak" s_law_weak a_law_weak fd_law_weak
  g_law_weak : mg "_law_weak" = some (.ref a_law_weak)
  b_law_weak : Binds K fd_law_weak ["rows", "cell"] []
  a_size : Addr
  fd_size : FuncData
  F_size : Fun K "_size" "_size" s_size a_size fd_size
  g_size : mg "_size" = some (.ref a_size)
  b_size : Binds K fd_size ["value"] []
  a_lowest : Addr
  fd_lowest : FuncData
  F_lowest : Fun K "_lowest" "_lowest" s_lowest a_lowest fd_lowest
  g_lowest : mg "_lowest" = some (.ref a_lowest)
  b_lowest : Binds K fd_lowest ["n", "d"] []
  a_add : Addr
  fd_add : FuncData
  F_add : Fun K "add" "add" s_add a_add fd_add
  g_add : mg "add" = some (.ref a_add)
  b_add : Binds K fd_add ["a", "b"] []
  a_less : Addr
  fd_less : FuncData
  F_less : Fun K "less" "less" s_less a_less fd_less
  g_less : mg "less" = some (.ref a_less)
  b_less : Binds K fd_less ["a", "b"] []
  a_leads : Addr
  fd_leads : FuncData
  F_leads : Fun K "_leads" "_leads" s_leads a_leads fd_leads
  g_leads : mg "_leads" = some (.ref a_leads)
  b_leads : Binds K fd_leads ["row", "at"] []
  a_is_dominant : Addr
  fd_is_dominant : FuncData
  F_is_dominant : Fun K "is_dominant" "is_dominant" s_is_dominant a_is_dominant fd_is_dominant
  g_is_dominant : mg "is_dominant" = some (.ref a_is_dominant)
  b_is_dominant : Binds K fd_is_dominant ["rows"] []
  a_times : Addr
  fd_times : FuncData
  F_times : Fun K "times" "times" s_times a_times fd_times
  g_times : mg "times" = some (.ref a_times)
  b_times : Binds K fd_times ["a", "b"] []
  a_along : Addr
  fd_along : FuncData
  F_along : Fun K "along" "along" s_along a_along fd_along
  g_along : mg "along" = some (.ref a_along)
  b_along : Binds K fd_along ["row", "values"] []
  a_product : Addr
  fd_product : FuncData
  F_product : Fun K "product" "product" s_product a_product fd_product
  g_product : mg "product" = some (.ref a_product)
  b_product : Binds K fd_product ["rows", "values"] []
  a_sub : Addr
  fd_sub : FuncData
  F_sub : Fun K "sub" "sub" s_sub a_sub fd_sub
  g_sub : mg "sub" = some (.ref a_sub)
  b_sub : Binds K fd_sub ["a", "b"] []
  a_cleared : Addr
  fd_cleared : FuncData
  F_cleared : Fun K "_cleared" "_cleared" s_cleared a_cleared fd_cleared
  g_cleared : mg "_cleared" = some (.ref a_cleared)
  b_cleared : Binds K fd_cleared ["row", "lead", "at"] []
  a_sign : Addr
  fd_sign : FuncData
  F_sign : Fun K "sign" "sign" s_sign a_sign fd_sign
  g_sign : mg "sign" = some (.ref a_sign)
  b_sign : Binds K fd_sign ["a"] []
  a_lead_place : Addr
  fd_lead_place : FuncData
  F_lead_place : Fun K "_lead_place" "_lead_place" s_lead_place a_lead_place fd_lead_place
  g_lead_place : mg "_lead_place" = some (.ref a_lead_place)
  b_lead_place : Binds K fd_lead_place ["table", "at"] []
  a_over : Addr
  fd_over : FuncData
  F_over : Fun K "over" "over" s_over a_over fd_over
  g_over : mg "over" = some (.ref a_over)
  b_over : Binds K fd_over ["a", "b"] []
  a_scaled : Addr
  fd_scaled : FuncData
  F_scaled : Fun K "_scaled" "_scaled" s_scaled a_scaled fd_scaled
  g_scaled : mg "_scaled" = some (.ref a_scaled)
  b_scaled : Binds K fd_scaled ["row", "part"] []
  a_solve : Addr
  fd_solve : FuncData
  F_solve : Fun K "solve" "solve" s_solve a_solve fd_solve
  g_solve : mg "solve" = some (.ref a_solve)
  b_solve : Binds K fd_solve ["rows", "right"] []
  a_law : Addr
  fd_law : FuncData
  F_law : Fun K "law" "law" s_law a_law fd_law
  g_law : mg "law" = some (.ref a_law)
  b_law : Binds K fd_law ["script"] []
  m_abs : mg "abs" = none
  m_all : mg "all" = none
  m_bool : mg "bool" = none
  m_enumerate : mg "enumerate" = none
  m_int : mg "int" = none
  m_isinstance : mg "isinstance" = none
  m_len : mg "len" = none
  m_list : mg "list" = none
  m_range : mg "range" = none
  m_repr : mg "repr" = none
  m_tuple : mg "tuple" = none
  m_zip : mg "zip" = none
  g_gcd : mg "gcd" = some (.builtin "math.gcd")
  z_ZERO : Addr
  c_ZERO : mg "ZERO" = some (.ref z_ZERO)
  s_ZERO : ∀ G : Hp, SqT K G z_ZERO [V.int 0, V.int 1]
  C_InvalidRatio : Addr
  gC_InvalidRatio : mg "InvalidRatio" = some (.ref C_InvalidRatio)
  x_InvalidRatio : PySem.W.excIn K C_InvalidRatio [.type "ValueError", .type "Exception", .type "BaseException", .type "object"] "ValueError.__new__" = true
  k_InvalidRatio : PySem.W.keepIn K (.ref C_InvalidRatio) = true
  b_InvalidRatio : PySem.W.subIn K (.ref C_InvalidRatio) (.type "BaseException") = some true
  t_InvalidRatio : PySem.W.typeIn K (.ref C_InvalidRatio) = some (.type "type")
  i_InvalidRatio : PySem.W.isClsIn K C_InvalidRatio = true
  e_InvalidRatio : PySem.W.subIn K (.ref C_InvalidRatio) (.ref C_InvalidRatio) = some true
  C_Singular : Addr
  gC_Singular : mg "Singular" = some (.ref C_Singular)
  x_Singular : PySem.W.excIn K C_Singular [.type "ValueError", .type "Exception", .type "BaseException", .type "object"] "ValueError.__new__" = true
  k_Singular : PySem.W.keepIn K (.ref C_Singular) = true
  b_Singular : PySem.W.subIn K (.ref C_Singular) (.type "BaseException") = some true
  t_Singular : PySem.W.typeIn K (.ref C_Singular) = some (.type "type")
  i_Singular : PySem.W.isClsIn K C_Singular = true
  e_Singular : PySem.W.subIn K (.ref C_Singular) (.ref C_Singular) = some true
section
variable {P : Program} {w : World} {K : PySem.W.Frag} {mg : Str → Option Value} {base : Heap}
/-! ### _law_cell -/
def lawCell (ns : List Int) (k : Nat) : Int := if h : k < ns.length then ns[k] else 13 * (k : Int) + 2
def R_law_cell (ds : List RD) (r : Res) : Prop := ∃ (ns : List Int) (k : Nat), ds = [.scr ns, .int (k : Int)] ∧ (ns.length ≤ 100 ∧ k ≤ 1000) ∧ r = .ok (.int (lawCell ns k))
theorem R_law_cell_mk {ns : List Int} {z : Int} (hn : ns.length ≤ 100) (k : Nat) (hz : z = (k : Int)) (hk : k ≤ 1000) : R_law_cell [.scr ns, .int z] (.ok (.int (lawCell ns k))) := ⟨ns, k, by rw [hz], ⟨hn, hk⟩, rfl⟩
local macro_rules | `(tactic| walk_at "fn") => `(tactic| ((with_reducible show R_law_cell _ _); (refine R_law_cell_mk (by first | assumption | omega) _ (by first | rfl | assumption | omega) (by first | decide | omega))))
theorem ok_law_cell (T : Txt K mg) : FnOk P w K mg base (L2.CX P w) 1 T.a_law_cell T.fd_law_cell ["script", "k"] (spF K 2 R_law_cell) := by
  refine T.F_law_cell.okX sc_law_cell (spF_len rfl) (fun cdv A outer s H vs Q E hr h => ?_)
  refine ⟨_, (pss_cons (ps_if (pt_cmpR op_lt (pv 1) (pe_callB (call_lenK K rfl) (by rfl) T.m_len (by decide +kernel) (pa_cons (pv 0) pa_nil)) (nomark _)) (pss_one (ps_ret (pe_callTy (call_int1) (by rfl) T.m_int (by decide +kernel) (pa_cons (pe_ix (ix_seqK K rfl) (pv 0) (pv 1) (fun _ _ => rfl)) pa_nil)))) pss_nil)
      (pss_one (ps_ret (pe_op op_add (pe_op op_mulW pe_int (pv 1)) pe_int)))), ?_⟩
  refine body_run h (fun ds r hl hR => ?_)
  obtain ⟨ns, k, rfl, ⟨hn, hk⟩, rfl⟩ := hR
  refine ⟨.rt (.int (lawCell ns k)), rfl, ?_⟩
  refine as_when (b := decide ((k : Int) < (ns.length : Int))) (by walk_at "ev") (fun hb => as_rets ?_) (fun hb => as_ret ?_)
  · have h := of_decide_eq_true hb
    have hk2 : k < ns.length := by omega
    refine ae_is (d := .int ns[k]) ?_ (by unfold lawCell; rw [dif_pos hk2])
    walk_at "ev"
    exact atI_nat (List.getElem?_eq_getElem hk2)
  · have h := of_decide_eq_false hb
    refine ae_is (d := .int (13 * (k : Int) + 2)) ?_ (by unfold lawCell; rw [dif_neg (by omega)])
    walk_at "ev"
    exact L2.wide_mul (a := 10) (b := 10) (by decide) (by rw [Int.natAbs_natCast]; omega) (by decide) (by decide) (by decide)
/-! ### _law_low -/
def R_law_low (ds : List RD) (r : Res) : Prop := ∃ n d : Int, ds = [.int n, .int d] ∧ (d ≠ 0 ∧ Bd 9000 d) ∧ r = .ok (eR (lawLow n d))
theorem R_law_low_mk {n d : Int} (h : d ≠ 0) (hb : Bd 9000 d) : R_law_low [.int n, .int d] (.ok (eR (lawLow n d))) := ⟨n, d, rfl, ⟨h, hb⟩, rfl⟩
local macro_rules | `(tactic| walk_at "fn") => `(tactic| (with_reducible refine R_law_low_mk ?_ ?_))
theorem ok_law_low (T : Txt K mg) : FnOk P w K mg base (L2.CX P w) 1 T.a_law_low T.fd_law_low ["n", "d"] (spF K 2 R_law_low) := by
  refine T.F_law_low.okX sc_law_low (spF_len rfl) (fun cdv A outer s H vs Q E hr h => ?_)
  refine ⟨_, (pss_cons (ps_set (i := 2) sc_law_low.nd rfl (Or.inl rfl) (pe_callB (call_abs) (by rfl) T.m_abs (by decide +kernel) (pa_cons (pv 0) pa_nil)))
      (pss_cons (ps_set (i := 3) sc_law_low.nd rfl (Or.inl rfl) (pe_callB (call_abs) (by rfl) T.m_abs (by decide +kernel) (pa_cons (pv 1) pa_nil)))
      (pss_cons (ps_while (passes_of rfl) (pt_cmpR op_gt (pv 3) pe_int (nomark _)) (pss_one (ps_par (i := 2) (j := 3) (by rfl) sc_law_low.nd rfl rfl (by decide) rfl rfl (pa_cons (pv 3) (pa_cons (pe_op op_mod (pe_callTy (call_int1) (by rfl) T.m_int (by decide +kernel) (pa_cons (pv 2) pa_nil)) (pv 3)) pa_nil)) (by rfl))))
      (pss_cons (ps_if (pt_cmpR op_lt (pv 1) pe_int (nomark _)) (pss_one (ps_ret (pe_tup (pa_cons (pe_op op_sub pe_int (pe_op op_fdivW (pv 0) (pv 2))) (pa_cons (pe_op op_sub pe_int (pe_op op_fdivW (pv 1) (pv 2))) pa_nil))))) pss_nil)
      (pss_one (ps_ret (pe_tup (pa_cons (pe_op op_fdivW (pv 0) (pv 2)) (pa_cons (pe_op op_fdivW (pv 1) (pv 2)) pa_nil))))))))), ?_⟩
  refine body_run h (fun ds r hl hR => ?_)
  obtain ⟨n, d, rfl, ⟨hd, hb⟩, rfl⟩ := hR
  have wd : ∀ x : Int, CDivW x (Nat.gcd n.natAbs d.natAbs : Nat) := fun x => gcd_wdiv hd hb (by decide) (by decide)
  refine ⟨.rt (eR (lawLow n d)), rfl, ?_⟩
  refine as_seq (S1 := [.dat (.int n), .dat (.int d), .dat (.int (n.natAbs : Int)), .un]) (as_asg (by walk_at "ev")) ?_
  refine as_seq (S1 := [.dat (.int n), .dat (.int d), .dat (.int (n.natAbs : Int)), .dat (.int (d.natAbs : Int))]) (as_asg (by walk_at "ev")) ?_
  refine as_seq (S1 := [.dat (.int n), .dat (.int d), .dat (.int (Nat.gcd n.natAbs d.natAbs : Nat)), .dat (.int 0)])
    (as_whileW (fun m T => ∃ a b : Nat, m = b ∧ Nat.gcd a b = Nat.gcd n.natAbs d.natAbs ∧ T = [.dat (.int n), .dat (.int d), .dat (.int a), .dat (.int b)]) d.natAbs ⟨_, _, rfl, rfl, rfl⟩ ?_) ?_
  · rintro m T ⟨a, b, rfl, hg, rfl⟩
    refine ⟨decide ((0 : Int) < (m : Int)), by walk_at "ev", fun hb => ?_, fun hb => ?_⟩
    · have hm : 0 < m := by have := of_decide_eq_true hb; omega
      refine ⟨_, [.dat (.int n), .dat (.int d), .dat (.int (m : Int)), .dat (.int ((a : Int) % (m : Int)))], a % m, as_par (d1 := .int (m : Int)) (d2 := .int ((a : Int) % (m : Int))) ?_, Fg.refl _, Nat.mod_lt _ hm, m, a % m, rfl, ?_, ?_⟩
      · walk_at "ev"
        show (0 : Int) < (m : Int)
        omega
      · rw [← hg, Nat.gcd_comm m (a % m), ← Nat.gcd_rec, Nat.gcd_comm]
      · rw [Int.natCast_emod]
    · have hm : m = 0 := by have := of_decide_eq_false hb; omega
      subst hm
      rw [Nat.gcd_zero_right] at hg
      rw [hg]
      rfl
  · refine as_when (b := decide (d < 0)) (by walk_at "ev") (fun hb => as_rets ?_) (fun hb => as_ret ?_)
    · refine ae_is (d := .tup [.int (0 - n / (Nat.gcd n.natAbs d.natAbs : Nat)), .int (0 - d / (Nat.gcd n.natAbs d.natAbs : Nat))]) ?_ (by unfold lawLow; rw [if_pos (of_decide_eq_true hb)]; rfl)
      walk_at "ev"
      all_goals exact wd _
    · refine ae_is (d := .tup [.int (n / (Nat.gcd n.natAbs d.natAbs : Nat)), .int (d / (Nat.gcd n.natAbs d.natAbs : Nat))]) ?_ (by unfold lawLow; rw [if_neg (of_decide_eq_false hb)]; rfl)
      walk_at "ev"
      all_goals exact wd _
/-! ### _law_sum -/
theorem sum_bits {i n B : Nat} (h : i < n) : i * (B + 1) + 1 + B + 1 ≤ n * (B + 1) + 1 := by
  have h2 := Nat.mul_le_mul_right (B + 1) (Nat.succ_le_of_lt h)
  rw [Nat.succ_mul] at h2
  omega
/-- the parts' sum as it is reckoned: numerator and denominator behind i turns -/
def sumN (qs : List Rat) : Nat → Int × Int
  | 0 => (0, 1)
  | i + 1 => ((sumN qs i).1 * ((qs.getD i 0).den : Int) + (qs.getD i 0).num * (sumN qs i).2, (sumN qs i).2 * ((qs.getD i 0).den : Int))
theorem sumN_ok {qs : List Rat} {B : Nat} (hq : BL B qs) : ∀ i, i ≤ qs.length → 0 < (sumN qs i).2 ∧ Bd (i * (B + 1) + 1) (sumN qs i).1 ∧ Bd (i * (B + 1) + 1) (sumN qs i).2 ∧ Rat.divInt (sumN qs i).1 (sumN qs i).2 = (qs.take i).sum
  | 0, _ => ⟨Int.one_pos, bd_zero, one_bd (by omega), by show Rat.divInt 0 1 = ([] : List Rat).sum; rw [List.sum_nil]; rfl⟩
  | i + 1, hi => by
    obtain ⟨hd, bn, bd, e⟩ := sumN_ok hq i (by omega)
    have hq1 := hq qs[i] (List.getElem_mem (by omega))
    have hg : qs.getD i 0 = qs[i] := by simp [List.getD_eq_getElem?_getD, List.getElem?_eq_getElem (show i < qs.length by omega)]
    unfold sumN
    rw [hg]
    refine ⟨Int.mul_pos hd (den_pos' _), ?_, ?_, ?_⟩
    · exact ((bn.mul hq1.2).add (Nat.add_comm B _ ▸ hq1.1.mul bd)).mono (by rw [Nat.succ_mul]; omega)
    · exact (bd.mul hq1.2).mono (by rw [Nat.succ_mul]; omega)
    · rw [RP.sum_take (by omega), ← e]
      conv => rhs; rw [← num_den qs[i], Rat.divInt_add_divInt _ _ (by omega) (den_ne _)]
def R_law_sum (ds : List RD) (r : Res) : Prop := ∃ (qs : List Rat) (B : Nat), ds = [eL qs] ∧ (1 ≤ B ∧ BL B qs ∧ qs.length * (B + 1) + 1 ≤ 8000) ∧ r = .ok (eQ qs.sum)
theorem R_law_sum_mk {qs : List Rat} (B : Nat) (h1 : 1 ≤ B) (h : BL B qs) (hl : qs.length * (B + 1) + 1 ≤ 8000) : R_law_sum [eL qs] (.ok (eQ qs.sum)) := ⟨qs, B, rfl, ⟨h1, h, hl⟩, rfl⟩
theorem ok_law_sum (T : Txt K mg) : FnOk P w K mg base (L2.CX P w) 2 T.a_law_sum T.fd_law_sum ["parts"] (spF K 1 R_law_sum) := by
  refine T.F_law_sum.okX sc_law_sum (spF_len rfl) (fun cdv A outer s H vs Q E hr h => ?_)
  refine ⟨_, (pss_cons (ps_set (i := 1) sc_law_sum.nd rfl (Or.inl rfl) pe_int)
      (pss_cons (ps_set (i := 2) sc_law_sum.nd rfl (Or.inl rfl) pe_int)
      (pss_cons (ps_for (passes_of rfl) rfl (pi_listK K rfl (pv 0)) (pg_name (i := 3) sc_law_sum.nd rfl (Or.inl rfl))
      (pss_cons (ps_set (i := 1) sc_law_sum.nd rfl (Or.inl rfl) (pe_op op_add (pe_op op_mulW (pv 1) (pe_ix (ix_seqK K rfl) (pv 3) pe_int (fun _ _ => rfl))) (pe_op op_mulW (pe_ix (ix_seqK K rfl) (pv 3) pe_int (fun _ _ => rfl)) (pv 2))))
      (pss_one (ps_set (i := 2) sc_law_sum.nd rfl (Or.inl rfl) (pe_op op_mulW (pv 2) (pe_ix (ix_seqK K rfl) (pv 3) pe_int (fun _ _ => rfl)))))))
      (pss_one (ps_ret (pe_call (ok_law_low T) (hr.mono (by decide)) rfl T.g_law_low T.F_law_low.kp T.b_law_low .nil passL (pa_cons (pv 1) (pa_cons (pv 2) pa_nil)))))))), ?_⟩
  refine body_run h (fun ds r hl hR => ?_)
  obtain ⟨qs, B, rfl, ⟨hB, hq, hl2⟩, rfl⟩ := hR
  refine ⟨.rt (eQ qs.sum), rfl, ?_⟩
  have ok := sumN_ok hq
  have cb : ∀ i, i < qs.length → i * (B + 1) + 1 + B + 1 ≤ 8000 := fun i hi => Nat.le_trans (sum_bits hi) hl2
  have hlen : qs.length ≤ 8000 := by
    have := Nat.le_mul_of_pos_right qs.length (show 0 < B + 1 by omega)
    omega
  refine as_seq (S1 := [.dat (eL qs), .dat (.int 0), .un, .un]) (as_asg (by walk_at "ev")) ?_
  refine as_seq (S1 := [.dat (eL qs), .dat (.int 0), .dat (.int 1), .un]) (as_asg (by walk_at "ev")) ?_
  refine as_seq (as_forAll (l := [3]) (ds := qs.map eQ) (ai_list (ae_var rfl)) (fun i => [.dat (eL qs), .dat (.int (sumN qs i).1), .dat (.int (sumN qs i).2), .un]) rfl fun i x hx => ?_) ?_
  · rw [List.getElem?_map] at hx
    cases e : qs[i]? with
    | none => rw [e] at hx; cases hx
    | some q =>
      rw [e] at hx
      cases hx
      have hi : i < qs.length := (List.getElem?_eq_some_iff.mp e).1
      have hg : qs.getD i 0 = q := by simp [List.getD_eq_getElem?_getD, e]
      have hq1 := hq q (List.mem_of_getElem? e)
      obtain ⟨hd, bn, bd, _⟩ := ok i (by omega)
      have c := cb i hi
      have x1 : CMulW (sumN qs i).1 q.den := bn.wmul hq1.2 (by omega) (by omega) (by omega)
      have x2 : CMulW q.num (sumN qs i).2 := hq1.1.wmul bd (by omega) (by omega) (by omega)
      have x3 : CMulW (sumN qs i).2 q.den := bd.wmul hq1.2 (by omega) (by omega) (by omega)
      refine ⟨[.dat (eL qs), .dat (.int (sumN qs i).1), .dat (.int (sumN qs i).2), .dat (eQ q)], .nx [.dat (eL qs), .dat (.int (sumN qs (i + 1)).1), .dat (.int (sumN qs (i + 1)).2), .dat (eQ q)], ag_name, ?_, by walk_at "fg"⟩
      have e1 : sumN qs (i + 1) = ((sumN qs i).1 * (q.den : Int) + q.num * (sumN qs i).2, (sumN qs i).2 * (q.den : Int)) := by
        show ((sumN qs i).1 * ((qs.getD i 0).den : Int) + (qs.getD i 0).num * (sumN qs i).2, (sumN qs i).2 * ((qs.getD i 0).den : Int)) = _
        rw [hg]
      rw [e1]
      refine as_seq (S1 := [.dat (eL qs), .dat (.int ((sumN qs i).1 * (q.den : Int) + q.num * (sumN qs i).2)), .dat (.int (sumN qs i).2), .dat (eQ q)]) (as_asg (by walk_at "ev" <;> with_reducible assumption)) (as_asg (by walk_at "ev" <;> with_reducible assumption))
  · obtain ⟨hd, bn, bd, e⟩ := ok qs.length (Nat.le_refl _)
    rw [List.length_map]
    refine as_ret (ae_is (d := eR (lawLow (sumN qs qs.length).1 (sumN qs qs.length).2)) (ae_call0 (ds := [.int (sumN qs qs.length).1, .int (sumN qs qs.length).2]) (by walk_at "ev") rfl (R_law_low_mk (by omega) (bd.mono (by omega)))) ?_)
    rw [eQ_lawLow hd, e, List.take_length]
/-! ### _law_own -/
def moreQ (c : Int) : Rat := Rat.divInt (1 + c % 7) (1 + c / 7 % 9)
def ownQ (row : List Rat) (k : Nat) (c : Int) : Rat := if c / 63 % 2 = 1 then -(offI row k row.length + moreQ c) else offI row k row.length + moreQ c
theorem moreQ_bt (c : Int) : Bt 4 (moreQ c) := bt_low (by omega) (.of (by omega)) (.of (by omega))
theorem moreQ_e25 (c : Int) : E25 17640 (moreQ c) := e25_of (N := 7) (by omega) (by omega)
theorem moreQ_pos (c : Int) : 0 < moreQ c := by
  have hd : (0 : Int) < 1 + c / 7 % 9 := by omega
  unfold moreQ
  rw [divInt_rat]
  have h1 : (0 : Rat) < ((1 + c % 7 : Int) : Rat) := Rat.intCast_pos.mpr (by omega)
  have h2 : (0 : Rat) < ((1 + c / 7 % 9 : Int) : Rat) := Rat.intCast_pos.mpr hd
  rw [Rat.div_def]
  exact Rat.mul_pos h1 (Rat.inv_pos.mpr h2)
theorem ownQ_e25 {row : List Rat} {k : Nat} (c : Int) (h : ∀ q ∈ row, E25 15120 q) (hl : row.length ≤ 6) : E25 131071 (ownQ row k c) := by
  have h1 := ((e25_off (k := k) h row.length (Nat.le_refl _)).mono (Nat.mul_le_mul_right _ hl)).add (moreQ_e25 c)
  unfold ownQ
  split
  · exact h1.neg.mono (by decide)
  · exact h1.mono (by decide)
theorem ownQ_abs (row : List Rat) (k : Nat) (c : Int) : offI row k row.length < absQ (ownQ row k c) := by
  have h1 := offI_nonneg row k row.length
  have h2 := moreQ_pos c
  have h3 : offI row k row.length < offI row k row.length + moreQ c := by grind
  have h4 : offI row k row.length + moreQ c ≤ absQ (ownQ row k c) := by
    unfold ownQ
    split
    · have := abs_neg_ge (-(offI row k row.length + moreQ c))
      grind
    · exact abs_ge _
  grind
theorem ae_absQ {K : PySem.W.Frag} {S : Sg} {t : TE} {row : List Rat} {i : Nat} (h : AE K t S (eQ (row.getD i 0))) : AE K (tTup (tCons (tCB (fun xs H Q => ∃ i, xs = [.int i] ∧ Q (.int (if i < 0 then -i else i)) H) (tCons (tOp (rIx K) t (tC (.int 0))) tNil)) (tCons (tOp (rIx K) t (tC (.int 1))) tNil))) S (eQ (absQ (row.getD i 0))) := by
  refine ae_is (ae_tup (aa_cons (ae_cb (aa_cons (ae_op h ae_int (ro_ixsT rfl)) aa_nil) rc_abs) (aa_cons (ae_op h ae_int (ro_ixsT rfl)) aa_nil)) (Nat.le_of_ble_eq_true rfl)) ?_
  exact (eQ_abs _).symm
theorem eQ_neg (q : Rat) : RD.tup [.int (0 - q.num), .int (q.den : Int)] = eQ (-q) := by
  unfold eQ
  rw [Rat.neg_num, Rat.neg_den]
  congr 3
  omega
def R_law_own (ds : List RD) (r : Res) : Prop := ∃ (row : List Rat) (k : Nat) (c : Int), ds = [eL row, .int (k : Int), .int c] ∧ (BL 4 row ∧ k < row.length ∧ row.length ≤ 6) ∧ r = .ok (eL (row.set k (ownQ row k c)))
theorem R_law_own_mk {row : List Rat} {k : Nat} {c : Int} (h1 : BL 4 row) (h2 : k < row.length) (h3 : row.length ≤ 6) : R_law_own [eL row, .int (k : Int), .int c] (.ok (eL (row.set k (ownQ row k c)))) := ⟨row, k, c, rfl, ⟨h1, h2, h3⟩, rfl⟩
/-- the others' sizes, as the list that is summed -/
def offL (row : List Rat) (k : Nat) : List Rat := ((List.range row.length).filter fun (i : Nat) => !decide (i = k)).map fun i => absQ (row.getD i 0)
theorem offL_bl {row : List Rat} {k : Nat} {B : Nat} (h : BL B row) : BL B (offL row k) := fun q hq => by
  obtain ⟨i, hi, rfl⟩ := List.mem_map.mp hq
  exact absQ_bt (h _ (getD_mem (List.mem_range.mp (List.mem_filter.mp hi).1)))
theorem offL_len (row : List Rat) (k : Nat) : (offL row k).length ≤ row.length := by
  unfold offL
  rw [List.length_map]
  have := List.length_filter_le (fun (i : Nat) => !decide (i = k)) (List.range row.length)
  rw [List.length_range] at this
  exact this
theorem eL_cut {row : List Rat} {k : Nat} {v : Rat} (h : k < row.length) : RD.lst ((row.take k).map eQ ++ [eQ v] ++ (row.drop (k + 1)).map eQ) = eL (row.set k v) := by
  rw [← set_cut h]
  unfold eL
  rw [List.map_append, List.map_append]
  rfl
theorem ok_law_own (T : Txt K mg) : FnOk P w K mg base (L2.CX P w) 3 T.a_law_own T.fd_law_own ["row", "at", "cell"] (spF K 3 R_law_own) := by
  refine T.F_law_own.okX sc_law_own (spF_len rfl) (fun cdv A outer s H vs Q E hr h => ?_)
  refine ⟨_, (pss_cons (ps_set (i := 3) sc_law_own.nd rfl (Or.inl rfl) (pe_call (ok_law_sum T) (hr.mono (by decide)) rfl T.g_law_sum T.F_law_sum.kp T.b_law_sum .nil passL (pa_cons (pe_lc (own := [("k", 4)]) rfl sc_law_own.nd (pi_range1 rfl T.m_range (pa_cons (pe_callB (call_lenK K rfl) (by rfl) T.m_len (by decide +kernel) (pa_cons (pv 0) pa_nil)) pa_nil)) (blkOk_by (N := ["row", "at", "cell", "total", "k", "more", "own"]) (sc := defScope s_law_own) (by decide +kernel)) (fun _ _ _ _ _ => (pg_name (i := 4) sc_law_own.nd rfl (Or.inl rfl))) (fun _ _ _ _ _ => (pts_one (pt_cmpR op_ne (pv 4) (pv 1) (nomark _)))) (fun _ _ _ _ _ => (pe_tup (pa_cons (pe_callB (call_abs) (by rfl) T.m_abs (by decide +kernel) (pa_cons (pe_ix (ix_seqK K rfl) (pe_ix (ix_seqK K rfl) (pv 0) (pv 4) (fun _ _ => rfl)) pe_int (fun _ _ => rfl)) pa_nil)) (pa_cons (pe_ix (ix_seqK K rfl) (pe_ix (ix_seqK K rfl) (pv 0) (pv 4) (fun _ _ => rfl)) pe_int (fun _ _ => rfl)) pa_nil))))) pa_nil)))
      (pss_cons (ps_set (i := 5) sc_law_own.nd rfl (Or.inl rfl) (pe_call (ok_law_low T) (hr.mono (by decide)) rfl T.g_law_low T.F_law_low.kp T.b_law_low .nil passL (pa_cons (pe_op op_add pe_int (pe_op op_mod (pv 2) pe_int)) (pa_cons (pe_op op_add pe_int (pe_op op_mod (pe_op op_fdiv (pv 2) pe_int) pe_int)) pa_nil))))
      (pss_cons (ps_set (i := 6) sc_law_own.nd rfl (Or.inl rfl) (pe_call (ok_law_sum T) (hr.mono (by decide)) rfl T.g_law_sum T.F_law_sum.kp T.b_law_sum .nil passL (pa_cons (pe_lst (pa_cons (pv 3) (pa_cons (pv 5) pa_nil))) pa_nil)))
      (pss_cons (ps_if (pt_cmpR op_eq (pe_op op_mod (pe_op op_fdiv (pv 2) pe_int) pe_int) pe_int (nomark _)) (pss_one (ps_set (i := 6) sc_law_own.nd rfl (Or.inl rfl) (pe_tup (pa_cons (pe_op op_sub pe_int (pe_ix (ix_seqK K rfl) (pv 6) pe_int (fun _ _ => rfl))) (pa_cons (pe_ix (ix_seqK K rfl) (pv 6) pe_int (fun _ _ => rfl)) pa_nil))))) pss_nil)
      (pss_one (ps_ret (pe_op op_cat (pe_op op_cat (pe_slice (sl_listK K rfl) (pv 0) po_none (po_some (pv 1))) (pe_lst (pa_cons (pv 6) pa_nil))) (pe_slice (sl_listK K rfl) (pv 0) (po_some (pe_op op_add (pv 1) pe_int)) po_none)))))))), ?_⟩
  refine body_run h (fun ds r hl hR => ?_)
  obtain ⟨row, k, c, rfl, ⟨h1, h2, h3⟩, rfl⟩ := hR
  refine ⟨.rt (eL (row.set k (ownQ row k c))), rfl, ?_⟩
  have hol := offL_len row k
  refine as_seq (S1 := [.dat (eL row), .dat (.int (k : Int)), .dat (.int c), .dat (eQ (offI row k row.length)), .un, .un, .un]) (as_asg (ae_is (ae_call0 (ds := [eL (offL row k)]) (aa_cons (ae_is (d := .lst (((List.range row.length).filter fun (i : Nat) => !decide (i = k)).map fun i => eQ (absQ (row.getD i 0)))) (ae_lcF (l := [4]) (xs := List.range row.length) (enc := fun (k : Nat) => .int (0 + (k : Int))) (ai_is (ai_range1 (j := (row.length : Int)) (aa_cons (ae_is (ae_cb (ds := [eL row]) (aa_cons (ae_var rfl) aa_nil) rc_lenL) (by rw [List.length_map])) aa_nil) (by omega)) rfl) (fun (i : Nat) => !decide (i = k)) (fun i => eQ (absQ (row.getD i 0))) (by simp) (by simp; omega) fun i hi => ⟨_, ag_name, ?_, fun _ => ?_⟩) (by unfold eL offL; rw [List.map_map]; rfl)) aa_nil) rfl (R_law_sum_mk 4 (by decide) (offL_bl h1) (by omega))) (by unfold offL; rw [off_sum]))) ?_
  · refine at_is (at_test (ae_op (d1 := .int (0 + (i : Int))) (d2 := .int (k : Int)) (ae_var rfl) (ae_var rfl) (ro_ne rfl rfl rfl))) ?_
    congr 1
    rw [Int.zero_add]
    by_cases e : i = k
    · rw [decide_eq_true e, decide_eq_true (by rw [e])]
    · rw [decide_eq_false e, decide_eq_false (fun z => e (by have := V.int.inj z; omega))]
  · exact ae_absQ (ae_at (List.mem_range.mp hi) (ae_var rfl) (ae_is (d := .int (0 + (i : Int))) (ae_var rfl) (by rw [Int.zero_add])))
  have hob : Bt 31 (offI row k row.length) := (offI_bt h1 row.length (Nat.le_refl _)).mono (by omega)
  refine as_seq (S1 := [.dat (eL row), .dat (.int (k : Int)), .dat (.int c), .dat (eQ (offI row k row.length)), .un, .dat (eQ (moreQ c)), .un]) (as_asg (ae_is (ae_call0 (ds := [.int (1 + c % 7), .int (1 + c / 7 % 9)]) (by walk_at "ev") rfl (R_law_low_mk (by omega) ((Bd.of (B := 4) (by omega)).mono (by decide)))) (eQ_lawLow (by omega)))) ?_
  refine as_seq (S1 := [.dat (eL row), .dat (.int (k : Int)), .dat (.int c), .dat (eQ (offI row k row.length)), .un, .dat (eQ (moreQ c)), .dat (eQ (offI row k row.length + moreQ c))]) (as_asg (ae_is (ae_call0 (ds := [eL [offI row k row.length, moreQ c]]) (aa_cons (ae_lst (aa_cons (ae_var rfl) (aa_cons (ae_var rfl) aa_nil)) (Nat.le_of_ble_eq_true rfl)) aa_nil) rfl (R_law_sum_mk 31 (by decide) ?_ (Nat.le_of_ble_eq_true rfl))) (by rw [List.sum_cons, List.sum_cons, List.sum_nil, Rat.add_zero]))) ?_
  · intro q hq
    simp only [List.mem_cons, List.not_mem_nil, or_false] at hq
    rcases hq with rfl | rfl
    · exact hob
    · exact (moreQ_bt c).mono (by decide)
  refine as_ifset (b := decide (V.int (c / 63 % 2) = V.int 1)) (d := eQ (ownQ row k c)) (by walk_at "ev") (fun hb => ?_) (fun hb => ?_) ?_
  · have hb2 : c / 63 % 2 = 1 := V.int.inj (of_decide_eq_true hb)
    unfold ownQ
    rw [if_pos hb2, ← eQ_neg]
    walk_at "ev"
  · have hb2 : ¬ c / 63 % 2 = 1 := fun z => of_decide_eq_false hb (by rw [z])
    unfold ownQ
    rw [if_neg hb2]
    rfl
  refine as_ret (ae_is (ae_op (d1 := .lst ((row.take k).map eQ ++ [eQ (ownQ row k c)])) (d2 := .lst ((row.drop (k + 1)).map eQ)) (ae_op (d1 := .lst ((row.take k).map eQ)) (d2 := .lst [eQ (ownQ row k c)]) (ae_is (ae_slL (ds := row.map eQ) (lo := none) (hi := some (k : Int)) (ae_var rfl) ao_none (ao_some (ae_var rfl))) ?_) (ae_lst (aa_cons (ae_var rfl) aa_nil) (Nat.le_of_ble_eq_true rfl)) (ro_cat ?_)) (ae_is (ae_slL (ds := row.map eQ) (lo := some ((k : Int) + 1)) (hi := none) (ae_var rfl) (ao_some (ae_op (d1 := .int (k : Int)) (d2 := .int 1) (ae_var rfl) ae_int ro_I0i)) ao_none) ?_) (ro_cat ?_)) (eL_cut h2))
  · rw [cut_to (by rw [List.length_map]; omega), List.map_take]
  · rw [List.length_map, List.length_take]
    show _ + 1 ≤ 100000
    omega
  · rw [cut_from (p := k + 1) (by omega) (by rw [List.length_map]; omega), List.map_drop]
  · rw [List.length_append, List.length_map, List.length_map, List.length_take, List.length_drop]
    show _ + 1 + _ ≤ 100000
    omega
/-! ### _law_times -/
def R_law_times (ds : List RD) (r : Res) : Prop := ∃ a b : Rat, ds = [eQ a, eQ b] ∧ (Sq a ∧ Sq b) ∧ r = .ok (eQ (a * b))
theorem R_law_times_mk {a b : Rat} (ha : Sq a) (hb : Sq b) : R_law_times [eQ a, eQ b] (.ok (eQ (a * b))) := ⟨a, b, rfl, ⟨ha, hb⟩, rfl⟩
local macro_rules | `(tactic| walk_at "fn") => `(tactic| (with_reducible refine R_law_times_mk ?_ ?_))
theorem ok_law_times (T : Txt K mg) : FnOk P w K mg base (L2.CX P w) 2 T.a_law_times T.fd_law_times ["a", "b"] (spF K 2 R_law_times) := by
  refine T.F_law_times.okX sc_law_times (spF_len rfl) (fun cdv A outer s H vs Q E hr h => ?_)
  refine ⟨_, (pss_one (ps_ret (pe_call (ok_law_low T) (hr.mono (by decide)) rfl T.g_law_low T.F_law_low.kp T.b_law_low .nil passL (pa_cons (pe_op op_mulW (pe_ix (ix_seqK K rfl) (pv 0) pe_int (fun _ _ => rfl)) (pe_ix (ix_seqK K rfl) (pv 1) pe_int (fun _ _ => rfl))) (pa_cons (pe_op op_mulW (pe_ix (ix_seqK K rfl) (pv 0) pe_int (fun _ _ => rfl)) (pe_ix (ix_seqK K rfl) (pv 1) pe_int (fun _ _ => rfl))) pa_nil))))), ?_⟩
  refine body_run h (fun ds r hl hR => ?_)
  obtain ⟨a, b, rfl, ⟨ha, hb⟩, rfl⟩ := hR
  obtain ⟨w1, w2, w3, w4⟩ := ha.wmul hb
  obtain ⟨z1, z2⟩ := ha.dd hb
  refine ⟨.rt (eQ (a * b)), rfl, as_ret (ae_is (d := eR (lawLow (a.num * b.num) (a.den * b.den))) ?_ ?_)⟩
  · walk_at "ev" <;> with_reducible assumption
  · rw [eQ_lawLow (Int.mul_pos (den_pos' a) (den_pos' b)), mul_divInt]
/-! ### _law_product -/
theorem range_dot {row vs : List Rat} (h : row.length = vs.length) : ((List.range vs.length).map fun k => row.getD k 0 * vs.getD k 0) = (row.zip vs).map fun p => p.1 * p.2 := by
  apply List.ext_getElem
  · simp [h]
  · intro i h1 h2
    simp at h1 h2
    have h3 : i < row.length := by omega
    simp [List.getD_eq_getElem?_getD, List.getElem?_eq_getElem, h1, h3]
def R_law_product (ds : List RD) (r : Res) : Prop := ∃ (rows : List (List Rat)) (vs : List Rat), ds = [eM rows, eL vs] ∧ (rows.length ≤ 100 ∧ (∀ row ∈ rows, row.length = vs.length) ∧ BM 24 rows ∧ BL 1200 vs ∧ vs.length ≤ 6) ∧ r = .ok (eL (rows.map fun row => dot row vs))
theorem R_law_product_mk {rows : List (List Rat)} {vs : List Rat} (h1 : rows.length ≤ 100) (h2 : ∀ row ∈ rows, row.length = vs.length) (h3 : BM 24 rows) (h4 : BL 1200 vs) (h5 : vs.length ≤ 6) : R_law_product [eM rows, eL vs] (.ok (eL (rows.map fun row => dot row vs))) := ⟨rows, vs, rfl, ⟨h1, h2, h3, h4, h5⟩, rfl⟩
theorem ok_law_product (T : Txt K mg) : FnOk P w K mg base (L2.CX P w) 3 T.a_law_product T.fd_law_product ["rows", "values"] (spF K 2 R_law_product) := by
  refine T.F_law_product.okX sc_law_product (spF_len rfl) (fun cdv A outer s H vs Q E hr h => ?_)
  refine ⟨_, (pss_one (ps_ret (pe_lc (own := [("row", 3)]) rfl sc_law_product.nd (pi_listK K rfl (pv 0)) (blkOk_by (N := ["rows", "values", "k", "row"]) (sc := defScope s_law_product) (by decide +kernel)) (fun _ _ _ _ _ => (pg_name (i := 3) sc_law_product.nd rfl (Or.inr rfl))) (fun _ _ _ _ _ => pts_nil) (fun _ _ _ _ _ => (pe_call (ok_law_sum T) (hr.mono (by decide)) rfl T.g_law_sum T.F_law_sum.kp T.b_law_sum .nil passL (pa_cons (pe_lc (own := [("k", 2)]) rfl sc_law_product.nd (pi_range1 rfl T.m_range (pa_cons (pe_callB (call_lenK K rfl) (by rfl) T.m_len (by decide +kernel) (pa_cons (pv 1) pa_nil)) pa_nil)) (blkOk_by (N := ["rows", "values", "k", "row"]) (sc := (relS ({
                      kind := PySem.ScopeKind.function,
                      names := [
                        (PySem.Str.ofString ".0", PySem.NameKind.local),
                        (PySem.Str.ofString "row", PySem.NameKind.cell),
                        (PySem.Str.ofString "_law_sum", PySem.NameKind.globalImplicit),
                        (PySem.Str.ofString "range", PySem.NameKind.globalImplicit),
                        (PySem.Str.ofString "len", PySem.NameKind.globalImplicit),
                        (PySem.Str.ofString "values", PySem.NameKind.free)],
                      isGenerator := false,
                      isCoroutine := false,
                      more := [] : PySem.Scope }) (defScope s_law_product))) (by decide +kernel)) (fun _ _ _ _ _ => (pg_name (i := 2) sc_law_product.nd rfl (Or.inl rfl))) (fun _ _ _ _ _ => pts_nil) (fun _ _ _ _ _ => (pe_call (ok_law_times T) (hr.mono (by decide)) rfl T.g_law_times T.F_law_times.kp T.b_law_times .nil passL (pa_cons (pe_ix (ix_seqK K rfl) (pv 3) (pv 2) (fun _ _ => rfl)) (pa_cons (pe_ix (ix_seqK K rfl) (pv 1) (pv 2) (fun _ _ => rfl)) pa_nil))))) pa_nil)))))), ?_⟩
  refine body_run h (fun ds r hl hR => ?_)
  obtain ⟨rows, vs, rfl, ⟨hr1, hlen, bm, bl, hl5⟩, rfl⟩ := hR
  refine ⟨.rt (eL (rows.map fun row => dot row vs)), rfl, as_ret ?_⟩
  have e0 : eL (rows.map fun row => dot row vs) = .lst (rows.map fun row => eQ (dot row vs)) := by
    unfold eL
    rw [List.map_map]
    rfl
  rw [e0]
  refine ae_lcM (l := [3]) (xs := rows) (enc := eL) (ai_list (ae_var rfl)) (fun row => eQ (dot row vs)) (by simp) (by omega) fun row hrow => ⟨_, ag_name, ?_⟩
  have br := bm row hrow
  have hl1 := hlen row hrow
  have e1 : dot row vs = ((List.range vs.length).map fun k => row.getD k 0 * vs.getD k 0).sum := by rw [range_dot hl1]; rfl
  rw [e1]
  refine ae_call0 (ds := [eL ((List.range vs.length).map fun k => row.getD k 0 * vs.getD k 0)]) (aa_cons (ae_is (d := .lst ((List.range vs.length).map fun k => eQ (row.getD k 0 * vs.getD k 0))) (ae_lcM (l := [2]) (xs := List.range vs.length) (enc := fun (k : Nat) => .int (0 + (k : Int))) (ai_is (ai_range1 (j := (vs.length : Int)) (aa_cons (ae_is (ae_cb (ds := [eL vs]) (aa_cons (ae_var rfl) aa_nil) rc_lenL) (by rw [List.length_map])) aa_nil) (by omega)) rfl) (fun k => eQ (row.getD k 0 * vs.getD k 0)) (by simp) (by simp; omega) fun k hk => ⟨_, ag_name, ?_⟩) ?_) aa_nil) rfl (R_law_sum_mk 1224 (by decide) ?_ ?_)
  · have hk2 := List.mem_range.mp hk
    have g1 : row.getD k 0 = row[k]'(by omega) := by simp [List.getD_eq_getElem?_getD, List.getElem?_eq_getElem, hl1, hk2]
    have g2 : vs.getD k 0 = vs[k] := by simp [List.getD_eq_getElem?_getD, List.getElem?_eq_getElem, hk2]
    rw [g1, g2]
    refine ae_call0 (ds := [eQ (row[k]'(by omega)), eQ vs[k]]) (aa_cons (ae_op (d1 := eL row) (d2 := .int (0 + (k : Int))) (ae_var rfl) (ae_var rfl) (ro_ixsL ?_)) (aa_cons (ae_op (d1 := eL vs) (d2 := .int (0 + (k : Int))) (ae_var rfl) (ae_var rfl) (ro_ixsL ?_)) aa_nil)) rfl (R_law_times_mk ((br _ (List.getElem_mem _)).mono (by decide)) ((bl _ (List.getElem_mem _)).mono (by decide)))
    · rw [Int.zero_add]; exact atI_mapQ (atI_nat' (by omega))
    · rw [Int.zero_add]; exact atI_mapQ (atI_nat' hk2)
  · unfold eL; rw [List.map_map]; rfl
  · intro q hq
    obtain ⟨k, hk, rfl⟩ := List.mem_map.mp hq
    have hk2 := List.mem_range.mp hk
    have g1 : row.getD k 0 = row[k]'(by omega) := by simp [List.getD_eq_getElem?_getD, List.getElem?_eq_getElem, hl1, hk2]
    have g2 : vs.getD k 0 = vs[k] := by simp [List.getD_eq_getElem?_getD, List.getElem?_eq_getElem, hk2]
    rw [g1, g2]
    exact (br _ (List.getElem_mem _)).mul (bl _ (List.getElem_mem _))
  · rw [List.length_map, List.length_range]
    have := Nat.mul_le_mul_right 1225 hl5
    omega
/-! ### _law_small -/
def smallM (c : Int) : Int := [1, 4, 9].getD (c / 60 % 3).toNat 1
theorem smallM_cases (c : Int) : smallM c = 1 ∨ smallM c = 4 ∨ smallM c = 9 := by
  have h : (c / 60 % 3).toNat = 0 ∨ (c / 60 % 3).toNat = 1 ∨ (c / 60 % 3).toNat = 2 := by omega
  unfold smallM
  rcases h with h | h | h <;> rw [h] <;> simp
theorem smallM_at (c : Int) : atI [RD.int 1, .int 4, .int 9] (c / 60 % 3) = some (.int (smallM c)) := by
  have e : (((c / 60 % 3).toNat : Nat) : Int) = c / 60 % 3 := by omega
  have h : (c / 60 % 3).toNat = 0 ∨ (c / 60 % 3).toNat = 1 ∨ (c / 60 % 3).toNat = 2 := by omega
  unfold smallM
  rw [← e]
  rcases h with h | h | h <;> rw [h] <;> rfl
def smallD (c : Int) : Int := 1 + c / 13 % smallM c
theorem smallD_pos (c : Int) : 0 < smallD c ∧ smallD c ≤ 9 := by
  unfold smallD
  rcases smallM_cases c with h | h | h <;> rw [h] <;> omega
def smallQ (c : Int) : Rat := Rat.divInt (c % 13 - 6) (smallD c)
theorem smallQ_bt (c : Int) : Bt 4 (smallQ c) := bt_low (smallD_pos c).1 (.of (by omega)) (.of (by have := smallD_pos c; omega))
def R_law_small (ds : List RD) (r : Res) : Prop := ∃ c : Int, ds = [.int c] ∧ r = .ok (eQ (smallQ c))
theorem R_law_small_mk {c : Int} : R_law_small [.int c] (.ok (eQ (smallQ c))) := ⟨c, rfl, rfl⟩
local macro_rules | `(tactic| walk_at "fn") => `(tactic| (with_reducible exact R_law_small_mk))
theorem ok_law_small (T : Txt K mg) : FnOk P w K mg base (L2.CX P w) 2 T.a_law_small T.fd_law_small ["cell"] (spF K 1 R_law_small) := by
  refine T.F_law_small.okX sc_law_small (spF_len rfl) (fun cdv A outer s H vs Q E hr h => ?_)
  refine ⟨_, (pss_one (ps_ret (pe_call (ok_law_low T) (hr.mono (by decide)) rfl T.g_law_low T.F_law_low.kp T.b_law_low .nil passL (pa_cons (pe_op op_sub (pe_op op_mod (pv 0) pe_int) pe_int) (pa_cons (pe_op op_add pe_int (pe_op op_mod (pe_op op_fdiv (pv 0) pe_int) (pe_ix (ix_seqK K rfl) (pe_lst (pa_cons pe_int (pa_cons pe_int (pa_cons pe_int pa_nil)))) (pe_op op_mod (pe_op op_fdiv (pv 0) pe_int) pe_int) (fun _ _ => rfl)))) pa_nil))))), ?_⟩
  refine body_run h (fun ds r hl hR => ?_)
  obtain ⟨c, rfl, rfl⟩ := hR
  refine ⟨.rt (eQ (smallQ c)), rfl, as_ret (ae_is (d := eR (lawLow (c % 13 - 6) (1 + c / 13 % smallM c))) ?_ (eQ_lawLow (smallD_pos c).1))⟩
  have hm := smallM_cases c
  have hd : 0 < 1 + c / 13 % smallM c ∧ 1 + c / 13 % smallM c ≤ 9 := smallD_pos c
  walk_at "ev"
  · exact smallM_at c
  · show (0 : Int) < smallM c
    omega
  · omega
  · exact (Bd.of (B := 4) (by omega)).mono (by decide)
/-! ### _law_rows -/
def rowQ (ns : List Int) (at_ n i : Nat) : List Rat := (List.range n).map fun j => smallQ (lawCell ns (at_ + n * i + j))
def rowsQ (ns : List Int) (at_ n m : Nat) : List (List Rat) := (List.range m).map (rowQ ns at_ n)
theorem rowsQ_len (ns : List Int) (at_ n m : Nat) : (rowsQ ns at_ n m).length = m := by unfold rowsQ; rw [List.length_map, List.length_range]
theorem small_e25 (c : Int) : E25 15120 (smallQ c) := e25_of (N := 6) ⟨(smallD_pos c).1, (smallD_pos c).2⟩ (by omega)
theorem rowsQ_sh (ns : List Int) (at_ n : Nat) : Sh n n (rowsQ ns at_ n n) := ⟨rowsQ_len ns at_ n n, fun r hr => by
  obtain ⟨i, _, rfl⟩ := List.mem_map.mp hr
  unfold rowQ
  rw [List.length_map, List.length_range]⟩
theorem rowsQ_e25 {ns : List Int} {at_ n m : Nat} {r : List Rat} (h : r ∈ rowsQ ns at_ n m) : ∀ q ∈ r, E25 15120 q := by
  obtain ⟨i, _, rfl⟩ := List.mem_map.mp h
  intro q hq
  obtain ⟨j, _, rfl⟩ := List.mem_map.mp hq
  exact small_e25 _
def R_law_rows (ds : List RD) (r : Res) : Prop := ∃ (ns : List Int) (at_ n : Nat), ds = [.scr ns, .int (at_ : Int), .int (n : Int)] ∧ (ns.length ≤ 100 ∧ at_ ≤ 100 ∧ n ≤ 6) ∧ r = .ok (eM (rowsQ ns at_ n n))
theorem R_law_rows_mk {ns : List Int} {at_ n : Nat} (h1 : ns.length ≤ 100) (h2 : at_ ≤ 100) (h3 : n ≤ 6) : R_law_rows [.scr ns, .int (at_ : Int), .int (n : Int)] (.ok (eM (rowsQ ns at_ n n))) := ⟨ns, at_, n, rfl, ⟨h1, h2, h3⟩, rfl⟩
theorem ok_law_rows (T : Txt K mg) : FnOk P w K mg base (L2.CX P w) 3 T.a_law_rows T.fd_law_rows ["script", "at", "count"] (spF K 3 R_law_rows) := by
  refine T.F_law_rows.okX sc_law_rows (spF_len rfl) (fun cdv A outer s H vs Q E hr h => ?_)
  refine ⟨_, (pss_cons (ps_set (i := 3) sc_law_rows.nd rfl (Or.inl rfl) (pe_lst pa_nil))
      (pss_cons (ps_for (passes_of rfl) rfl (pi_range1 rfl T.m_range (pa_cons (pv 2) pa_nil)) (pg_name (i := 4) sc_law_rows.nd rfl (Or.inr rfl))
      (pss_one (ps_expr (pe_bm PySem.F.plainAttrs_list PySem.F.slot_list_append PySem.F.type_list_append mt_append (pv 3) (pa_cons (pe_lc (own := [("j", 5)]) rfl sc_law_rows.nd (pi_range1 rfl T.m_range (pa_cons (pv 2) pa_nil)) (blkOk_by (N := ["script", "at", "count", "rows", "i", "j"]) (sc := defScope s_law_rows) (by decide +kernel)) (fun _ _ _ _ _ => (pg_name (i := 5) sc_law_rows.nd rfl (Or.inl rfl))) (fun _ _ _ _ _ => pts_nil) (fun _ _ _ _ _ => (pe_call (ok_law_small T) (hr.mono (by decide)) rfl T.g_law_small T.F_law_small.kp T.b_law_small .nil passL (pa_cons (pe_call (ok_law_cell T) (hr.mono (by decide)) rfl T.g_law_cell T.F_law_cell.kp T.b_law_cell .nil passL (pa_cons (pv 0) (pa_cons (pe_op op_add (pe_op op_add (pv 1) (pe_op op_mulW (pv 2) (pv 4))) (pv 5)) pa_nil))) pa_nil)))) pa_nil)))))
      (pss_one (ps_ret (pv 3))))), ?_⟩
  refine body_run h (fun ds r hl hR => ?_)
  obtain ⟨ns, at_, ht, rfl, ⟨hn, ha, hh1⟩, rfl⟩ := hR
  refine ⟨.rt (eM (rowsQ ns at_ ht ht)), rfl, ?_⟩
  refine as_seq (S1 := [.dat (.scr ns), .dat (.int at_), .dat (.int ht), .own [], .un, .un]) (as_own aa_nil (by decide)) ?_
  refine as_seq (as_forAll (l := [4]) (ds := (List.range ht).map fun (i : Nat) => RD.int (0 + i)) (ai_is (ai_range1 (j := (ht : Int)) (by walk_at "ev") (by omega)) rfl) (fun n => [.dat (.scr ns), .dat (.int at_), .dat (.int ht), .own ((rowsQ ns at_ ht n).map eL), .un, .un]) rfl fun i x hx => ?_) ?_
  · have hi : i < ht := by
      have := (List.getElem?_eq_some_iff.mp hx).1
      simp at this
      omega
    have hx2 : x = .int (0 + (i : Int)) := by
      rw [List.getElem?_map, List.getElem?_range hi] at hx
      exact (Option.some.inj hx).symm
    subst hx2
    refine ⟨_, _, ag_name, as_app (S := [.dat (.scr ns), .dat (.int at_), .dat (.int ht), .own ((rowsQ ns at_ ht i).map eL), .dat (.int (0 + (i : Int))), .un]) (i := 3) (ds := (rowsQ ns at_ ht i).map eL) (d := eL (rowQ ns at_ ht i)) rfl ?_ (by rw [List.length_map, rowsQ_len]; omega), (?_ : Out.goes (.nx [.dat (.scr ns), .dat (.int at_), .dat (.int ht), .own ((rowsQ ns at_ ht i).map eL ++ [eL (rowQ ns at_ ht i)]), .dat (.int (0 + (i : Int))), .un]) _)⟩
    · refine ae_is (d := .lst ((List.range ht).map fun j => eQ (smallQ (lawCell ns (at_ + ht * i + j))))) (ae_lcM (l := [5]) (xs := List.range ht) (enc := fun (k : Nat) => .int (0 + (k : Int))) (ai_is (ai_range1 (j := (ht : Int)) (by walk_at "ev") (by omega)) rfl) (fun j => eQ (smallQ (lawCell ns (at_ + ht * i + j)))) (by simp) (by simp; omega) fun k hk => ⟨_, ag_name, ?_⟩) (by unfold eL rowQ; rw [List.map_map]; rfl)
      have hk2 := List.mem_range.mp hk
      have hwi : ht * i ≤ 36 := Nat.le_trans (Nat.mul_le_mul hh1 (show i ≤ 6 by omega)) (by decide)
      refine ae_call0 (ds := [.int (lawCell ns (at_ + ht * i + k))]) (aa_cons (ae_call0 (ds := [.scr ns, .int ((at_ : Int) + (ht : Int) * (0 + (i : Int)) + (0 + (k : Int)))]) ?_ rfl (R_law_cell_mk hn (at_ + ht * i + k) (by rw [Int.zero_add, Int.zero_add]; push_cast; rfl) (by omega))) aa_nil) rfl R_law_small_mk
      walk_at "ev"
      exact (Bd.of (B := 4) (by omega)).wmul (Bd.of (B := 4) (by omega)) (by decide) (by decide) (by decide)
    · have e : (rowsQ ns at_ ht (i + 1)).map eL = (rowsQ ns at_ ht i).map eL ++ [eL (rowQ ns at_ ht i)] := by
        unfold rowsQ
        rw [List.range_succ, List.map_append, List.map_append]
        rfl
      show Fg _ [_, _, _, .own ((rowsQ ns at_ ht (i + 1)).map eL), _, _]
      rw [e]
      walk_at "fg"
  have hlen : ((List.range ht).map fun (i : Nat) => RD.int (0 + i)).length = ht := by rw [List.length_map, List.length_range]
  rw [hlen]
  refine as_frz (i := 3) (ds := (rowsQ ns at_ ht ht).map eL) rfl ?_
  exact as_ret (ae_var rfl)
/-! ### _law_weak -/
def m5 : Rat := ⟨-1, 5, by decide, by decide⟩
theorem m5_e25 : E25 504 m5 := ⟨-504, by decide, by decide +kernel⟩
def invN (d : Nat) (h : d ≠ 0) : Rat := ⟨1, d, h, by simp⟩
theorem invN_nonneg {d : Nat} {h : d ≠ 0} : 0 ≤ invN d h := by
  rw [← Rat.num_nonneg]
  exact (by decide : (0 : Int) ≤ 1)
theorem invN_le {d : Nat} {h : d ≠ 0} : invN d h ≤ 1 := by
  rw [Rat.le_iff]
  show (1 : Int) * ((1 : Nat) : Int) ≤ 1 * (d : Int)
  omega
/-- the last def's total, in its steps -/
def wk1 (c : Int) (t : Rat) : Rat := if c / 6 % 4 = 1 then (if (t + m5).num < 0 then 0 else t + m5) else t
def wkD (c : Int) : Nat := (2 + c / 24 % 9).toNat
theorem wkD_ne (c : Int) : wkD c ≠ 0 := by unfold wkD; omega
def wk2 (c : Int) (t : Rat) : Rat := if c / 6 % 4 = 2 then t * invN (wkD c) (wkD_ne c) else t
def wk3 (c : Int) (t : Rat) : Rat := if c / 6 % 4 = 3 then 0 else t
def wk4 (c : Int) (t : Rat) : Rat := if c / 5 % 2 = 1 then -t else t
def wkQ (c : Int) (t : Rat) : Rat := wk4 c (wk3 c (wk2 c (wk1 c t)))
theorem wk1_le {c : Int} {t : Rat} (h : 0 ≤ t) : 0 ≤ wk1 c t ∧ wk1 c t ≤ t := by
  have h5 : m5 ≤ 0 := by decide +kernel
  unfold wk1
  split
  · split
    · exact ⟨Rat.le_refl, h⟩
    · rename_i hn
      exact ⟨Rat.num_nonneg.mp (by omega), by grind⟩
  · exact ⟨h, Rat.le_refl⟩
theorem wk2_le {c : Int} {t : Rat} (h : 0 ≤ t) : 0 ≤ wk2 c t ∧ wk2 c t ≤ t := by
  unfold wk2
  split
  · have h1 := Rat.mul_le_mul_of_nonneg_left (invN_le (d := wkD c) (h := wkD_ne c)) h
    have h2 := Rat.mul_le_mul_of_nonneg_left (invN_nonneg (d := wkD c) (h := wkD_ne c)) h
    constructor <;> grind
  · exact ⟨h, Rat.le_refl⟩
theorem wk3_le {c : Int} {t : Rat} (h : 0 ≤ t) : 0 ≤ wk3 c t ∧ wk3 c t ≤ t := by
  unfold wk3
  split
  · exact ⟨Rat.le_refl, h⟩
  · exact ⟨h, Rat.le_refl⟩
theorem wkQ_le {c : Int} {t : Rat} (h : 0 ≤ t) : absQ (wkQ c t) ≤ t := by
  obtain ⟨a1, b1⟩ := wk1_le (c := c) h
  obtain ⟨a2, b2⟩ := wk2_le (c := c) a1
  obtain ⟨a3, b3⟩ := wk3_le (c := c) a2
  unfold wkQ wk4
  generalize wk3 c (wk2 c (wk1 c t)) = u at a3 b3 ⊢
  rw [absQ_eq]
  split <;> split <;> grind
theorem bt_e25' {q : Rat} {N : Nat} (h : E25 N q) (hN : N < 2 ^ 20) : Bt 20 q := by
  obtain ⟨m, a, rfl⟩ := h
  exact bt_low (by decide) (.of (by omega)) (.of (by decide))
theorem neg_bt {B : Nat} {q : Rat} (h : Bt B q) : Bt B (-q) := ⟨by rw [Rat.neg_num]; exact h.1.neg, by rw [Rat.neg_den]; exact h.2⟩
theorem wk1_e25 {c : Int} {t : Rat} (h : E25 786426 t) : E25 786930 (wk1 c t) := by
  unfold wk1
  split
  · split
    · exact e25_zero
    · exact h.add m5_e25
  · exact h.mono (by decide)
theorem invN_bt (c : Int) : Bt 4 (invN (wkD c) (wkD_ne c)) := ⟨.of (by show (1 : Int).natAbs < 2 ^ 4; decide), .of (by
  show ((wkD c : Nat) : Int).natAbs < _
  unfold wkD
  omega)⟩
theorem wk2_bt {c : Int} {t : Rat} (h : Bt 20 t) : Bt 24 (wk2 c t) := by
  unfold wk2
  split
  · exact h.mul (invN_bt c)
  · exact h.mono (by decide)
theorem wk3_bt {c : Int} {t : Rat} (h : Bt 24 t) : Bt 24 (wk3 c t) := by
  unfold wk3
  split
  · exact ⟨bd_zero, one_bd (by decide)⟩
  · exact h
theorem wkQ_bt {c : Int} {t : Rat} (h : E25 786426 t) : Bt 24 (wkQ c t) := by
  have := wk3_bt (c := c) (wk2_bt (c := c) (bt_e25' (wk1_e25 (c := c) h) (by decide)))
  unfold wkQ wk4
  split
  · exact neg_bt this
  · exact this
def wkAt (n : Nat) (c : Int) : Nat := (c % (n : Int)).toNat
theorem wkAt_lt {n : Nat} (h : 0 < n) (c : Int) : wkAt n c < n ∧ ((wkAt n c : Nat) : Int) = c % (n : Int) := by
  have h1 := Int.emod_nonneg c (show (n : Int) ≠ 0 by omega)
  have h2 := Int.emod_lt_of_pos c (show (0 : Int) < (n : Int) by omega)
  unfold wkAt
  omega
def weakRow (rows : List (List Rat)) (n : Nat) (c : Int) : List Rat := (rows.getD (wkAt n c) []).set (wkAt n c) (wkQ c (offI (rows.getD (wkAt n c) []) (wkAt n c) n))
def weakM (rows : List (List Rat)) (n : Nat) (c : Int) : List (List Rat) := rows.set (wkAt n c) (weakRow rows n c)
def R_law_weak (ds : List RD) (r : Res) : Prop := ∃ (rows : List (List Rat)) (n : Nat) (c : Int), ds = [eM rows, .int c] ∧ (Sh n n rows ∧ 0 < n ∧ n ≤ 6 ∧ (∀ r ∈ rows, ∀ q ∈ r, E25 131071 q)) ∧ r = .ok (eM (weakM rows n c))
theorem R_law_weak_mk {rows : List (List Rat)} {n : Nat} {c : Int} (h1 : Sh n n rows) (h2 : 0 < n) (h3 : n ≤ 6) (h4 : ∀ r ∈ rows, ∀ q ∈ r, E25 131071 q) : R_law_weak [eM rows, .int c] (.ok (eM (weakM rows n c))) := ⟨rows, n, c, rfl, ⟨h1, h2, h3, h4⟩, rfl⟩
theorem eM_cut {rows : List (List Rat)} {k : Nat} {v : List Rat} (h : k < rows.length) : RD.lst ((rows.take k).map eL ++ [eL v] ++ (rows.drop (k + 1)).map eL) = eM (rows.set k v) := by
  rw [← set_cut h]
  unfold eM
  rw [List.map_append, List.map_append]
  rfl
theorem ok_law_weak (T : Txt K mg) : FnOk P w K mg base (L2.CX P w) 3 T.a_law_weak T.fd_law_weak ["rows", "cell"] (spF K 2 R_law_weak) := by
  refine T.F_law_weak.okX sc_law_weak (spF_len rfl) (fun cdv A outer s H vs Q E hr h => ?_)
  refine ⟨_, (pss_cons (ps_set (i := 2) sc_law_weak.nd rfl (Or.inr rfl) (pe_op op_mod (pv 1) (pe_callB (call_lenK K rfl) (by rfl) T.m_len (by decide +kernel) (pa_cons (pv 0) pa_nil))))
      (pss_cons (ps_set (i := 3) sc_law_weak.nd rfl (Or.inr rfl) (pe_ix (ix_seqK K rfl) (pv 0) (pv 2) (fun _ _ => rfl)))
      (pss_cons (ps_set (i := 4) sc_law_weak.nd rfl (Or.inl rfl) (pe_call (ok_law_sum T) (hr.mono (by decide)) rfl T.g_law_sum T.F_law_sum.kp T.b_law_sum .nil passL (pa_cons (pe_lc (own := [("k", 5)]) rfl sc_law_weak.nd (pi_range1 rfl T.m_range (pa_cons (pe_callB (call_lenK K rfl) (by rfl) T.m_len (by decide +kernel) (pa_cons (pv 3) pa_nil)) pa_nil)) (blkOk_by (N := ["rows", "cell", "at", "row", "total", "k"]) (sc := defScope s_law_weak) (by decide +kernel)) (fun _ _ _ _ _ => (pg_name (i := 5) sc_law_weak.nd rfl (Or.inl rfl))) (fun _ _ _ _ _ => (pts_one (pt_cmpR op_ne (pv 5) (pv 2) (nomark _)))) (fun _ _ _ _ _ => (pe_tup (pa_cons (pe_callB (call_abs) (by rfl) T.m_abs (by decide +kernel) (pa_cons (pe_ix (ix_seqK K rfl) (pe_ix (ix_seqK K rfl) (pv 3) (pv 5) (fun _ _ => rfl)) pe_int (fun _ _ => rfl)) pa_nil)) (pa_cons (pe_ix (ix_seqK K rfl) (pe_ix (ix_seqK K rfl) (pv 3) (pv 5) (fun _ _ => rfl)) pe_int (fun _ _ => rfl)) pa_nil))))) pa_nil)))
      (pss_cons (ps_if (pt_cmpR op_eq (pe_op op_mod (pe_op op_fdiv (pv 1) pe_int) pe_int) pe_int (nomark _)) (pss_cons (ps_set (i := 4) sc_law_weak.nd rfl (Or.inl rfl) (pe_call (ok_law_sum T) (hr.mono (by decide)) rfl T.g_law_sum T.F_law_sum.kp T.b_law_sum .nil passL (pa_cons (pe_lst (pa_cons (pv 4) (pa_cons (pe_tup (pa_cons (pe_op op_sub pe_int pe_int) (pa_cons pe_int pa_nil))) pa_nil))) pa_nil)))
      (pss_one (ps_if (pt_cmpR op_lt (pe_ix (ix_seqK K rfl) (pv 4) pe_int (fun _ _ => rfl)) pe_int (nomark _)) (pss_one (ps_set (i := 4) sc_law_weak.nd rfl (Or.inl rfl) (pe_tup (pa_cons pe_int (pa_cons pe_int pa_nil))))) pss_nil))) pss_nil)
      (pss_cons (ps_if (pt_cmpR op_eq (pe_op op_mod (pe_op op_fdiv (pv 1) pe_int) pe_int) pe_int (nomark _)) (pss_one (ps_set (i := 4) sc_law_weak.nd rfl (Or.inl rfl) (pe_call (ok_law_times T) (hr.mono (by decide)) rfl T.g_law_times T.F_law_times.kp T.b_law_times .nil passL (pa_cons (pv 4) (pa_cons (pe_tup (pa_cons pe_int (pa_cons (pe_op op_add pe_int (pe_op op_mod (pe_op op_fdiv (pv 1) pe_int) pe_int)) pa_nil))) pa_nil))))) pss_nil)
      (pss_cons (ps_if (pt_cmpR op_eq (pe_op op_mod (pe_op op_fdiv (pv 1) pe_int) pe_int) pe_int (nomark _)) (pss_one (ps_set (i := 4) sc_law_weak.nd rfl (Or.inl rfl) (pe_tup (pa_cons pe_int (pa_cons pe_int pa_nil))))) pss_nil)
      (pss_cons (ps_if (pt_cmpR op_eq (pe_op op_mod (pe_op op_fdiv (pv 1) pe_int) pe_int) pe_int (nomark _)) (pss_one (ps_set (i := 4) sc_law_weak.nd rfl (Or.inl rfl) (pe_tup (pa_cons (pe_op op_sub pe_int (pe_ix (ix_seqK K rfl) (pv 4) pe_int (fun _ _ => rfl))) (pa_cons (pe_ix (ix_seqK K rfl) (pv 4) pe_int (fun _ _ => rfl)) pa_nil))))) pss_nil)
      (pss_one (ps_ret (pe_op op_cat (pe_op op_cat (pe_slice (sl_listK K rfl) (pv 0) po_none (po_some (pv 2))) (pe_lst (pa_cons (pe_op op_cat (pe_op op_cat (pe_slice (sl_listK K rfl) (pv 3) po_none (po_some (pv 2))) (pe_lst (pa_cons (pv 4) pa_nil))) (pe_slice (sl_listK K rfl) (pv 3) (po_some (pe_op op_add (pv 2) pe_int)) po_none)) pa_nil))) (pe_slice (sl_listK K rfl) (pv 0) (po_some (pe_op op_add (pv 2) pe_int)) po_none))))))))))), ?_⟩
  refine body_run h (fun ds r hl hR => ?_)
  obtain ⟨rows, n, c, rfl, ⟨h1, h2, h3, h4⟩, rfl⟩ := hR
  refine ⟨.rt (eM (weakM rows n c)), rfl, ?_⟩
  obtain ⟨hk, hke⟩ := wkAt_lt h2 c
  have hrl := h1.len
  have hg := h1.get hk
  unfold weakM weakRow
  generalize wkAt n c = k at hk hke hg ⊢
  have hE := h4 _ hg.1
  have hrn := hg.2
  have hol := offL_len (rows.getD k []) k
  have hob : E25 786426 (offI (rows.getD k []) k n) := ((e25_off (k := k) hE n (by omega)).mono (Nat.mul_le_mul_right _ h3))
  have hbl : BL 17 (rows.getD k []) := (cd_e25 hE).bl
  refine as_seq (S1 := [.dat (eM rows), .dat (.int c), .dat (.int (k : Int)), .un, .un, .un]) (as_asg (ae_is (d := .int (c % (n : Int))) (ae_op (d1 := .int c) (d2 := .int (n : Int)) (ae_var rfl) (ae_is (ae_cb (ds := [eM rows]) (aa_cons (ae_var rfl) aa_nil) rc_lenL) (by rw [List.length_map, hrl])) ?_) (by rw [hke]))) ?_
  · walk_at "ev"
    show (0 : Int) < (n : Int)
    omega
  have hrow : AE K (tOp (rIx K) (tVar 0) (tVar 2)) [.dat (eM rows), .dat (.int c), .dat (.int (k : Int)), .un, .un, .un] (eL (rows.getD k [])) := ae_row h1 hk (ae_var rfl) (ae_var rfl)
  generalize rows.getD k [] = row at hE hrn hol hob hbl hrow ⊢
  refine as_seq (S1 := [.dat (eM rows), .dat (.int c), .dat (.int (k : Int)), .dat (eL row), .un, .un]) (as_asg hrow) ?_
  have e0 : offI row k n = offI row k row.length := by rw [hrn]
  refine as_seq (S1 := [.dat (eM rows), .dat (.int c), .dat (.int (k : Int)), .dat (eL row), .dat (eQ (offI row k n)), .un]) (as_asg (ae_is (ae_call0 (ds := [eL (offL row k)]) (aa_cons (ae_is (d := .lst (((List.range row.length).filter fun (i : Nat) => !decide (i = k)).map fun i => eQ (absQ (row.getD i 0)))) (ae_lcF (l := [5]) (xs := List.range row.length) (enc := fun (k : Nat) => .int (0 + (k : Int))) (ai_is (ai_range1 (j := (row.length : Int)) (aa_cons (ae_is (ae_cb (ds := [eL row]) (aa_cons (ae_var rfl) aa_nil) rc_lenL) (by rw [List.length_map])) aa_nil) (by omega)) rfl) (fun (i : Nat) => !decide (i = k)) (fun i => eQ (absQ (row.getD i 0))) (by simp) (by simp; omega) fun i hi => ⟨_, ag_name, ?_, fun _ => ?_⟩) (by unfold eL offL; rw [List.map_map]; rfl)) aa_nil) rfl (R_law_sum_mk 17 (by decide) (offL_bl hbl) (by omega))) (by rw [e0]; unfold offL; rw [off_sum]))) ?_
  · refine at_is (at_test (ae_op (d1 := .int (0 + (i : Int))) (d2 := .int (k : Int)) (ae_var rfl) (ae_var rfl) (ro_ne rfl rfl rfl))) ?_
    congr 1
    rw [Int.zero_add]
    by_cases e : i = k
    · rw [decide_eq_true e, decide_eq_true (by rw [e])]
    · rw [decide_eq_false e, decide_eq_false (fun z => e (by have := V.int.inj z; omega))]
  · exact ae_absQ (ae_at (List.mem_range.mp hi) (ae_var rfl) (ae_is (d := .int (0 + (i : Int))) (ae_var rfl) (by rw [Int.zero_add])))
  generalize offI row k n = t at hob ⊢
  have ht20 : Bt 20 t := bt_e25' hob (by decide)
  have w1 := bt_e25' (wk1_e25 (c := c) hob) (by decide)
  have w2 := wk2_bt (c := c) w1
  unfold wkQ
  refine as_whenQ (b := decide (V.int (c / 6 % 4) = V.int 1)) (fun S => S = [.dat (eM rows), .dat (.int c), .dat (.int (k : Int)), .dat (eL row), .dat (eQ (wk1 c t)), .un]) (by walk_at "ev") (fun hb => ⟨_, _, ?_, Fg.refl _, rfl⟩) (fun hb => ⟨_, Fg.refl _, ?_⟩) (fun S hS => ?_)
  · have hb2 : c / 6 % 4 = 1 := V.int.inj (of_decide_eq_true hb)
    have e : wk1 c t = if (t + m5).num < 0 then 0 else t + m5 := by unfold wk1; rw [if_pos hb2]
    rw [e]
    refine as_seq (S1 := [.dat (eM rows), .dat (.int c), .dat (.int (k : Int)), .dat (eL row), .dat (eQ (t + m5)), .un]) (as_asg (ae_is (ae_call0 (ds := [eL [t, m5]]) (aa_cons (ae_lst (aa_cons (ae_var rfl) (aa_cons (ae_is (d := .tup [.int (0 - 1), .int 5]) (by walk_at "ev") rfl) aa_nil)) (Nat.le_of_ble_eq_true rfl)) aa_nil) rfl (R_law_sum_mk 20 (by decide) ?_ (Nat.le_of_ble_eq_true rfl))) (by rw [List.sum_cons, List.sum_cons, List.sum_nil, Rat.add_zero]))) ?_
    · intro q hq
      simp only [List.mem_cons, List.not_mem_nil, or_false] at hq
      rcases hq with rfl | rfl
      · exact ht20
      · exact bt_e25' m5_e25 (by decide)
    refine as_if (b := decide ((t + m5).num < 0)) (by walk_at "ev") (fun hc => ?_) (fun hc => ?_)
    · rw [if_pos (of_decide_eq_true hc)]
      exact as_asg (ae_is (d := .tup [.int 0, .int 1]) (by walk_at "ev") rfl)
    · rw [if_neg (of_decide_eq_false hc)]
      exact as_next
  · have hb2 : ¬ c / 6 % 4 = 1 := fun z => of_decide_eq_false hb (by rw [z])
    unfold wk1
    rw [if_neg hb2]
  subst hS
  generalize wk1 c t = t1 at w1 w2 ⊢
  refine as_ifset (b := decide (V.int (c / 6 % 4) = V.int 2)) (d := eQ (wk2 c t1)) (by walk_at "ev") (fun hb => ?_) (fun hb => ?_) ?_
  · have hb2 : c / 6 % 4 = 2 := V.int.inj (of_decide_eq_true hb)
    unfold wk2
    rw [if_pos hb2]
    refine ae_call0 (ds := [eQ t1, eQ (invN (wkD c) (wkD_ne c))]) (aa_cons (ae_var rfl) (aa_cons (ae_is (d := .tup [.int 1, .int (2 + c / 24 % 9)]) (by walk_at "ev") ?_) aa_nil)) rfl (R_law_times_mk (w1.mono (by decide)) ((invN_bt c).mono (by decide)))
    have : ((wkD c : Nat) : Int) = 2 + c / 24 % 9 := by unfold wkD; omega
    show _ = RD.tup [.int 1, .int ((wkD c : Nat) : Int)]
    rw [this]
  · have hb2 : ¬ c / 6 % 4 = 2 := fun z => of_decide_eq_false hb (by rw [z])
    unfold wk2
    rw [if_neg hb2]
    rfl
  generalize wk2 c t1 = t2 at w2 ⊢
  refine as_ifset (b := decide (V.int (c / 6 % 4) = V.int 3)) (d := eQ (wk3 c t2)) (by walk_at "ev") (fun hb => ?_) (fun hb => ?_) ?_
  · have hb2 : c / 6 % 4 = 3 := V.int.inj (of_decide_eq_true hb)
    unfold wk3
    rw [if_pos hb2]
    exact ae_is (d := .tup [.int 0, .int 1]) (by walk_at "ev") rfl
  · have hb2 : ¬ c / 6 % 4 = 3 := fun z => of_decide_eq_false hb (by rw [z])
    unfold wk3
    rw [if_neg hb2]
    rfl
  generalize wk3 c t2 = t3
  refine as_ifset (b := decide (V.int (c / 5 % 2) = V.int 1)) (d := eQ (wk4 c t3)) (by walk_at "ev") (fun hb => ?_) (fun hb => ?_) ?_
  · have hb2 : c / 5 % 2 = 1 := V.int.inj (of_decide_eq_true hb)
    unfold wk4
    rw [if_pos hb2, ← eQ_neg]
    walk_at "ev"
  · have hb2 : ¬ c / 5 % 2 = 1 := fun z => of_decide_eq_false hb (by rw [z])
    unfold wk4
    rw [if_neg hb2]
    rfl
  generalize wk4 c t3 = t4
  have hkr : k < row.length := by omega
  refine as_ret (ae_is (ae_op (d1 := .lst ((rows.take k).map eL ++ [eL (row.set k t4)])) (d2 := .lst ((rows.drop (k + 1)).map eL)) (ae_op (d1 := .lst ((rows.take k).map eL)) (d2 := .lst [eL (row.set k t4)]) (ae_is (ae_slL (ds := rows.map eL) (lo := none) (hi := some (k : Int)) (ae_var rfl) ao_none (ao_some (ae_var rfl))) ?_) (ae_lst (aa_cons (ae_is (ae_op (d1 := .lst ((row.take k).map eQ ++ [eQ t4])) (d2 := .lst ((row.drop (k + 1)).map eQ)) (ae_op (d1 := .lst ((row.take k).map eQ)) (d2 := .lst [eQ t4]) (ae_is (ae_slL (ds := row.map eQ) (lo := none) (hi := some (k : Int)) (ae_var rfl) ao_none (ao_some (ae_var rfl))) ?_) (ae_lst (aa_cons (ae_var rfl) aa_nil) (Nat.le_of_ble_eq_true rfl)) (ro_cat ?_)) (ae_is (ae_slL (ds := row.map eQ) (lo := some ((k : Int) + 1)) (hi := none) (ae_var rfl) (ao_some (ae_op (d1 := .int (k : Int)) (d2 := .int 1) (ae_var rfl) ae_int ro_I0i)) ao_none) ?_) (ro_cat ?_)) (eL_cut hkr)) aa_nil) (Nat.le_of_ble_eq_true rfl)) (ro_cat ?_)) (ae_is (ae_slL (ds := rows.map eL) (lo := some ((k : Int) + 1)) (hi := none) (ae_var rfl) (ao_some (ae_op (d1 := .int (k : Int)) (d2 := .int 1) (ae_var rfl) ae_int ro_I0i)) ao_none) ?_) (ro_cat ?_)) (eM_cut (by omega)))
  · rw [cut_to (by rw [List.length_map]; omega), List.map_take]
  · rw [cut_to (by rw [List.length_map]; omega), List.map_take]
  · rw [List.length_map, List.length_take]
    show _ + 1 ≤ 100000
    omega
  · rw [cut_from (p := k + 1) (by omega) (by rw [List.length_map]; omega), List.map_drop]
  · rw [List.length_append, List.length_map, List.length_map, List.length_take, List.length_drop]
    show _ + 1 + _ ≤ 100000
    omega
  · rw [List.length_map, List.length_take]
    show _ + 1 ≤ 100000
    omega
  · rw [cut_from (p := k + 1) (by omega) (by rw [List.length_map]; omega), List.map_drop]
  · rw [List.length_append, List.length_map, List.length_map, List.length_take, List.length_drop]
    show _ + 1 + _ ≤ 100000
    omega
/-! ### _size -/
def R_size (ds : List RD) (r : Res) : Prop := ∃ q : Rat, ds = [eQ q] ∧ r = .ok (eQ (absQ q))
theorem R_size_mk {q : Rat} : R_size [eQ q] (.ok (eQ (absQ q))) := ⟨q, rfl, rfl⟩
local macro_rules | `(tactic| walk_at "fn") => `(tactic| (with_reducible exact R_size_mk))
theorem ok_size (T : Txt K mg) : FnOk P w K mg base (L2.CX P w) 1 T.a_size T.fd_size ["value"] (spF K 1 R_size) := by
  refine T.F_size.okX sc_size (spF_len rfl) (fun cdv A outer s H vs Q E hr h => ?_)
  refine ⟨_, (pss_one (ps_ret (pe_tup (pa_cons (pe_callB (call_abs) (by rfl) T.m_abs (by decide +kernel) (pa_cons (pe_ix (ix_seqK K rfl) (pv 0) pe_int (fun _ _ => rfl)) pa_nil)) (pa_cons (pe_ix (ix_seqK K rfl) (pv 0) pe_int (fun _ _ => rfl)) pa_nil))))), ?_⟩
  refine body_run h (fun ds r hl hR => ?_)
  obtain ⟨q, rfl, rfl⟩ := hR
  refine ⟨.rt (eQ (absQ q)), rfl, as_ret (ae_is (d := .tup [.int (q.num.natAbs : Int), .int (q.den : Int)]) ?_ (eQ_abs q).symm)⟩
  walk_at "ev"
/-! ### _lowest -/
def R_lowest (ds : List RD) (r : Res) : Prop := ∃ n d : Int, ds = [.int n, .int d] ∧ (d ≠ 0 ∧ Bd 9000 d) ∧ r = .ok (eR (lowR n d))
theorem R_lowest_mk {n d : Int} (h : d ≠ 0) (hb : Bd 9000 d) : R_lowest [.int n, .int d] (.ok (eR (lowR n d))) := ⟨n, d, rfl, ⟨h, hb⟩, rfl⟩
local macro_rules | `(tactic| walk_at "fn") => `(tactic| (with_reducible refine R_lowest_mk ?_ ?_))
theorem ok_lowest (T : Txt K mg) : FnOk P w K mg base (L2.CX P w) 1 T.a_lowest T.fd_lowest ["n", "d"] (spF K 2 R_lowest) := by
  refine T.F_lowest.okX sc_lowest (spF_len rfl) (fun cdv A outer s H vs Q E hr h => ?_)
  refine ⟨_, (pss_cons (ps_set (i := 2) sc_lowest.nd rfl (Or.inl rfl) (pe_callBfun cr_gcd rfl T.g_gcd (pa_cons (pv 0) (pa_cons (pv 1) pa_nil))))
      (pss_one (ps_ret (pe_tup (pa_cons (pe_op op_fdivW (pv 0) (pv 2)) (pa_cons (pe_op op_fdivW (pv 1) (pv 2)) pa_nil)))))), ?_⟩
  refine body_run h (fun ds r hl hR => ?_)
  obtain ⟨n, d, rfl, ⟨hd, hb⟩, rfl⟩ := hR
  have wd : ∀ x : Int, CDivW x (Nat.gcd n.natAbs d.natAbs : Nat) := fun x => gcd_wdiv hd hb (by decide) (by decide)
  refine ⟨.rt (eR (lowR n d)), rfl, ?_⟩
  refine as_seq (S1 := [.dat (.int n), .dat (.int d), .dat (.int (Nat.gcd n.natAbs d.natAbs : Nat))]) (as_asg (by walk_at "ev")) (as_ret ?_)
  unfold eR lowR
  walk_at "ev"
  all_goals exact wd _
/-! ### add -/
def R_add (ds : List RD) (r : Res) : Prop := ∃ (a b : Rat) (A B : Nat), ds = [eQ a, eQ b] ∧ (Bt A a ∧ Bt B b ∧ 0 < A ∧ 0 < B ∧ A + B ≤ 8900) ∧ r = .ok (eQ (a + b))
theorem R_add_mk {a b : Rat} (A B : Nat) (ha : Bt A a) (hb : Bt B b) (h1 : 0 < A) (h2 : 0 < B) (h3 : A + B ≤ 8900) : R_add [eQ a, eQ b] (.ok (eQ (a + b))) := ⟨a, b, A, B, rfl, ⟨ha, hb, h1, h2, h3⟩, rfl⟩
theorem ok_add (T : Txt K mg) : FnOk P w K mg base (L2.CX P w) 2 T.a_add T.fd_add ["a", "b"] (spF K 2 R_add) := by
  refine T.F_add.okX sc_add (spF_len rfl) (fun cdv A outer s H vs Q E hr h => ?_)
  refine ⟨_, (pss_one (ps_ret (pe_call (ok_lowest T) (hr.mono (by decide)) rfl T.g_lowest T.F_lowest.kp T.b_lowest .nil passL (pa_cons (pe_op op_add (pe_op op_mulW (pe_ix (ix_seqK K rfl) (pv 0) pe_int (fun _ _ => rfl)) (pe_ix (ix_seqK K rfl) (pv 1) pe_int (fun _ _ => rfl))) (pe_op op_mulW (pe_ix (ix_seqK K rfl) (pv 1) pe_int (fun _ _ => rfl)) (pe_ix (ix_seqK K rfl) (pv 0) pe_int (fun _ _ => rfl)))) (pa_cons (pe_op op_mulW (pe_ix (ix_seqK K rfl) (pv 0) pe_int (fun _ _ => rfl)) (pe_ix (ix_seqK K rfl) (pv 1) pe_int (fun _ _ => rfl))) pa_nil))))), ?_⟩
  refine body_run h (fun ds r hl hR => ?_)
  obtain ⟨a, b, A, B, rfl, ⟨ha, hb, p1, p2, p3⟩, rfl⟩ := hR
  have w2 : CMulW a.num b.den := ha.1.wmul hb.2 p1 p2 (by omega)
  have w3 : CMulW a.den b.den := ha.2.wmul hb.2 p1 p2 (by omega)
  have v2 : CMulW b.num a.den := hb.1.wmul ha.2 p2 p1 (by omega)
  have z1 : (a.den : Int) * (b.den : Int) ≠ 0 := by
    have := Int.mul_pos (den_pos' a) (den_pos' b)
    omega
  have z2 : Bd 9000 ((a.den : Int) * (b.den : Int)) := (ha.2.mul hb.2).mono (by omega)
  refine ⟨.rt (eQ (a + b)), rfl, as_ret (ae_is (d := eR (lowR (a.num * b.den + b.num * a.den) (a.den * b.den))) ?_ ?_)⟩
  · walk_at "ev" <;> with_reducible assumption
  · rw [eQ_low (Int.mul_pos (den_pos' a) (den_pos' b)), add_divInt]
/-! ### less -/
def R_less (ds : List RD) (r : Res) : Prop := ∃ a b : Rat, ds = [eQ a, eQ b] ∧ (Sq a ∧ Sq b) ∧ r = .ok (.bl (decide (a < b)))
theorem R_less_mk {a b : Rat} (ha : Sq a) (hb : Sq b) : R_less [eQ a, eQ b] (.ok (.bl (decide (a < b)))) := ⟨a, b, rfl, ⟨ha, hb⟩, rfl⟩
local macro_rules | `(tactic| walk_at "fn") => `(tactic| (with_reducible refine R_less_mk ?_ ?_))
theorem ok_less (T : Txt K mg) : FnOk P w K mg base (L2.CX P w) 1 T.a_less T.fd_less ["a", "b"] (spF K 2 R_less) := by
  refine T.F_less.okX sc_less (spF_len rfl) (fun cdv A outer s H vs Q E hr h => ?_)
  refine ⟨_, (pss_one (ps_ret (pe_cmpR op_lt (pe_op op_mulW (pe_ix (ix_seqK K rfl) (pv 0) pe_int (fun _ _ => rfl)) (pe_ix (ix_seqK K rfl) (pv 1) pe_int (fun _ _ => rfl))) (pe_op op_mulW (pe_ix (ix_seqK K rfl) (pv 1) pe_int (fun _ _ => rfl)) (pe_ix (ix_seqK K rfl) (pv 0) pe_int (fun _ _ => rfl))) (nomark _)))), ?_⟩
  refine body_run h (fun ds r hl hR => ?_)
  obtain ⟨a, b, rfl, ⟨ha, hb⟩, rfl⟩ := hR
  obtain ⟨w1, w2, w3, w4⟩ := ha.wmul hb
  obtain ⟨v1, v2, v3, v4⟩ := hb.wmul ha
  refine ⟨.rt (.bl (decide (a < b))), rfl, as_ret (ae_is (d := .bl (decide (a.num * b.den < b.num * a.den))) ?_ ?_)⟩
  · walk_at "ev" <;> with_reducible assumption
  · simp only [lt_iff']
/-! ### _leads -/
def R_leads (ds : List RD) (r : Res) : Prop := ∃ (row : List Rat) (k : Nat), ds = [eL row, .int (k : Int)] ∧ (BL 300 row ∧ k < row.length ∧ row.length ≤ 10) ∧ r = .ok (.bl (decide (offI row k row.length < absQ (row.getD k 0))))
theorem R_leads_mk {row : List Rat} {k : Nat} (h1 : BL 300 row) (h2 : k < row.length) (h3 : row.length ≤ 10) : R_leads [eL row, .int (k : Int)] (.ok (.bl (decide (offI row k row.length < absQ (row.getD k 0))))) := ⟨row, k, rfl, ⟨h1, h2, h3⟩, rfl⟩
theorem ok_leads (T : Txt K mg) : FnOk P w K mg base (L2.CX P w) 3 T.a_leads T.fd_leads ["row", "at"] (spF K 2 R_leads) := by
  refine T.F_leads.okX sc_leads (spF_len rfl) (fun cdv A outer s H vs Q E hr h => ?_)
  refine ⟨_, (pss_cons (ps_set (i := 2) sc_leads.nd rfl (Or.inl rfl) (pe_glob (v := .ref T.z_ZERO) rfl T.c_ZERO rfl))
      (pss_cons (ps_for (passes_of rfl) rfl (pi_enumK K rfl (by rfl) T.m_enumerate (pa_cons (pv 0) pa_nil)) (pg_tupK (n := 2) K rfl rfl (pgs_cons (pg_name (i := 3) sc_leads.nd rfl (Or.inl rfl)) (pgs_cons (pg_name (i := 4) sc_leads.nd rfl (Or.inl rfl)) pgs_nil)))
      (pss_one (ps_if (pt_cmpR op_ne (pv 3) (pv 1) (nomark _)) (pss_one (ps_set (i := 2) sc_leads.nd rfl (Or.inl rfl) (pe_call (ok_add T) (hr.mono (by decide)) rfl T.g_add T.F_add.kp T.b_add .nil passL (pa_cons (pv 2) (pa_cons (pe_call (ok_size T) (hr.mono (by decide)) rfl T.g_size T.F_size.kp T.b_size .nil passL (pa_cons (pv 4) pa_nil)) pa_nil))))) pss_nil)))
      (pss_one (ps_ret (pe_call (ok_less T) (hr.mono (by decide)) rfl T.g_less T.F_less.kp T.b_less .nil passL (pa_cons (pv 2) (pa_cons (pe_call (ok_size T) (hr.mono (by decide)) rfl T.g_size T.F_size.kp T.b_size .nil passL (pa_cons (pe_ix (ix_seqK K rfl) (pv 0) (pv 1) (fun _ _ => rfl)) pa_nil)) pa_nil))))))), ?_⟩
  refine body_run h (fun ds r hl hR => ?_)
  obtain ⟨row, k, rfl, ⟨h1, h2, h3⟩, rfl⟩ := hR
  refine ⟨.rt (.bl (decide (offI row k row.length < absQ (row.getD k 0)))), rfl, ?_⟩
  have bt : ∀ i, i ≤ row.length → Bt 3011 (offI row k i) := fun i hi => (offI_bt h1 i hi).mono (by
    have := Nat.mul_le_mul_right 301 (Nat.le_trans hi h3)
    omega)
  refine as_seq (S1 := [.dat (eL row), .dat (.int (k : Int)), .dat (eQ 0), .un, .un]) (as_asg (ae_c fun G => .tup (T.s_ZERO G) (.cons (.int 0) (.cons (.int 1) .nil)))) ?_
  refine as_seq (as_forAll (l := [3, 4]) (ai_enum (as := row.map eQ) (aa_cons (ae_var rfl) aa_nil)) (fun i => [.dat (eL row), .dat (.int (k : Int)), .dat (eQ (offI row k i)), .un, .un]) rfl fun i x hx => ?_) (as_ret ?_)
  · have hi : i < row.length := by
      have := (List.getElem?_eq_some_iff.mp hx).1
      simpa using this
    have hx2 : x = .tup [.int (i : Int), eQ (row.getD i 0)] := by
      rw [List.getElem?_map, List.length_map, List.getElem?_range hi] at hx
      rw [← Option.some.inj hx]
      show RD.tup [.int (i : Int), (row.map eQ).getD i RD.non] = _
      rw [getD_mapQ hi]
    subst hx2
    have q1 := h1 _ (getD_mem hi)
    refine ⟨[.dat (eL row), .dat (.int (k : Int)), .dat (eQ (offI row k i)), .dat (.int (i : Int)), .dat (eQ (row.getD i 0))], .nx [.dat (eL row), .dat (.int (k : Int)), .dat (eQ (offI row k (i + 1))), .dat (.int (i : Int)), .dat (eQ (row.getD i 0))], ag_tup (ags_cons ag_name (ags_cons ag_name ags_nil)) rfl, ?_, by walk_at "fg"⟩
    have q2 := bt i (by omega)
    refine as_if (b := !decide (V.int (i : Int) = V.int (k : Int))) (at_test (ae_op (d1 := .int (i : Int)) (d2 := .int (k : Int)) (ae_var rfl) (ae_var rfl) (ro_ne rfl rfl rfl))) (fun hb => ?_) (fun hb => ?_)
    · have hne : i ≠ k := fun z => by rw [z, decide_eq_true rfl] at hb; cases hb
      have e : offI row k (i + 1) = offI row k i + absQ (row.getD i 0) := by
        show (if i = k then _ else _) = _
        rw [if_neg hne]
      rw [e]
      exact as_asg (ae_call0 (ds := [eQ (offI row k i), eQ (absQ (row.getD i 0))]) (aa_cons (ae_var rfl) (aa_cons (ae_call0 (ds := [eQ (row.getD i 0)]) (aa_cons (ae_var rfl) aa_nil) rfl R_size_mk) aa_nil)) rfl (R_add_mk 3011 300 q2 (absQ_bt q1) (by decide) (by decide) (by decide)))
    · have he : i = k := by
        by_cases z : i = k
        · exact z
        · rw [decide_eq_false (fun y => z (by have := V.int.inj y; omega))] at hb
          cases hb
      have e : offI row k (i + 1) = offI row k i := by
        show (if i = k then _ else _) = _
        rw [if_pos he]
      rw [e]
      exact as_next
  · have e : ((List.range (row.map eQ).length).map fun (i : Nat) => RD.tup [.int i, (row.map eQ).getD i .non]).length = row.length := by simp
    rw [e]
    refine ae_call0 (ds := [eQ (offI row k row.length), eQ (absQ (row.getD k 0))]) (aa_cons (ae_var rfl) (aa_cons (ae_call0 (ds := [eQ (row.getD k 0)]) (aa_cons (ae_at h2 (ae_var rfl) (ae_var rfl)) aa_nil) rfl R_size_mk) aa_nil)) rfl (R_less_mk ((bt _ (Nat.le_refl _)).mono (by decide)) ((absQ_bt (h1 _ (getD_mem h2))).mono (by decide)))
/-! ### is_dominant -/
def R_is_dominant (ds : List RD) (r : Res) : Prop := ∃ (n : Nat) (rows : List (List Rat)), ds = [eM rows] ∧ (Sh n n rows ∧ n ≤ 10 ∧ BM 300 rows) ∧ r = .ok (.bl (domB n rows))
theorem R_is_dominant_mk {n : Nat} {rows : List (List Rat)} (h1 : Sh n n rows) (h2 : n ≤ 10) (h3 : BM 300 rows) : R_is_dominant [eM rows] (.ok (.bl (domB n rows))) := ⟨n, rows, rfl, ⟨h1, h2, h3⟩, rfl⟩
theorem ok_is_dominant (T : Txt K mg) : FnOk P w K mg base (L2.CX P w) 4 T.a_is_dominant T.fd_is_dominant ["rows"] (spF K 1 R_is_dominant) := by
  refine T.F_is_dominant.okX sc_is_dominant (spF_len rfl) (fun cdv A outer s H vs Q E hr h => ?_)
  refine ⟨_, (pss_one (ps_ret (pe_callB (call_allK K rfl rfl) (by rfl) T.m_all (by decide +kernel) (pa_cons (pe_lc (own := [("at", 1), ("row", 2)]) rfl sc_is_dominant.nd (pi_enumK K rfl (by rfl) T.m_enumerate (pa_cons (pv 0) pa_nil)) (blkOk_by (N := ["rows", "at", "row"]) (sc := defScope s_is_dominant) (by decide +kernel)) (fun _ _ _ _ _ => (pg_tupK (n := 2) K rfl rfl (pgs_cons (pg_name (i := 1) sc_is_dominant.nd rfl (Or.inl rfl)) (pgs_cons (pg_name (i := 2) sc_is_dominant.nd rfl (Or.inl rfl)) pgs_nil)))) (fun _ _ _ _ _ => pts_nil) (fun _ _ _ _ _ => (pe_call (ok_leads T) (hr.mono (by decide)) rfl T.g_leads T.F_leads.kp T.b_leads .nil passL (pa_cons (pv 2) (pa_cons (pv 1) pa_nil))))) pa_nil)))), ?_⟩
  refine body_run h (fun ds r hl hR => ?_)
  obtain ⟨n, rows, rfl, ⟨h1, h2, h3⟩, rfl⟩ := hR
  refine ⟨.rt (.bl (domB n rows)), rfl, as_ret ?_⟩
  have e0 : domB n rows = (((List.range n).map fun i => decide (offI (rows.getD i []) i n < absQ (En rows i i))).all id) := by
    unfold domB
    rw [List.all_map]
    rfl
  rw [e0]
  refine ae_cb (ds := [.lst (((List.range n).map fun i => decide (offI (rows.getD i []) i n < absQ (En rows i i))).map RD.bl)]) (aa_cons (ae_is (d := .lst ((List.range n).map fun i => RD.bl (decide (offI (rows.getD i []) i n < absQ (En rows i i))))) (ae_lcM (l := [1, 2]) (xs := List.range n) (enc := fun i => .tup [.int (i : Int), eL (rows.getD i [])]) (ai_is (ai_enum (as := rows.map eL) (aa_cons (ae_var rfl) aa_nil)) ?_) (fun i => RD.bl (decide (offI (rows.getD i []) i n < absQ (En rows i i)))) (by simp) (by simp; omega) fun i hi => ⟨_, ag_tup (ags_cons ag_name (ags_cons ag_name ags_nil)) rfl, ?_⟩) (by rw [List.map_map]; rfl)) aa_nil) rc_all
  · rw [List.length_map, h1.len]
    apply List.map_congr_left
    intro i hi
    have hi2 := List.mem_range.mp hi
    congr 3
    have hi3 : i < rows.length := by rw [h1.len]; exact hi2
    rw [List.getD_eq_getElem?_getD, List.getD_eq_getElem?_getD, List.getElem?_map, List.getElem?_eq_getElem hi3]
    rfl
  · have hi2 := List.mem_range.mp hi
    have hg := h1.get hi2
    have e1 : decide (offI (rows.getD i []) i n < absQ (En rows i i)) = decide (offI (rows.getD i []) i (rows.getD i []).length < absQ ((rows.getD i []).getD i 0)) := by
      rw [hg.2]
      rfl
    rw [e1]
    exact ae_call0 (ds := [eL (rows.getD i []), .int (i : Int)]) (aa_cons (ae_var rfl) (aa_cons (ae_var rfl) aa_nil)) rfl (R_leads_mk (h3 _ hg.1) (by rw [hg.2]; exact hi2) (by rw [hg.2]; exact h2))
/-! ### times -/
def R_times (ds : List RD) (r : Res) : Prop := ∃ a b : Rat, ds = [eQ a, eQ b] ∧ (Sq a ∧ Sq b) ∧ r = .ok (eQ (a * b))
theorem R_times_mk {a b : Rat} (ha : Sq a) (hb : Sq b) : R_times [eQ a, eQ b] (.ok (eQ (a * b))) := ⟨a, b, rfl, ⟨ha, hb⟩, rfl⟩
local macro_rules | `(tactic| walk_at "fn") => `(tactic| (with_reducible refine R_times_mk ?_ ?_))
theorem ok_times (T : Txt K mg) : FnOk P w K mg base (L2.CX P w) 2 T.a_times T.fd_times ["a", "b"] (spF K 2 R_times) := by
  refine T.F_times.okX sc_times (spF_len rfl) (fun cdv A outer s H vs Q E hr h => ?_)
  refine ⟨_, (pss_one (ps_ret (pe_call (ok_lowest T) (hr.mono (by decide)) rfl T.g_lowest T.F_lowest.kp T.b_lowest .nil passL (pa_cons (pe_op op_mulW (pe_ix (ix_seqK K rfl) (pv 0) pe_int (fun _ _ => rfl)) (pe_ix (ix_seqK K rfl) (pv 1) pe_int (fun _ _ => rfl))) (pa_cons (pe_op op_mulW (pe_ix (ix_seqK K rfl) (pv 0) pe_int (fun _ _ => rfl)) (pe_ix (ix_seqK K rfl) (pv 1) pe_int (fun _ _ => rfl))) pa_nil))))), ?_⟩
  refine body_run h (fun ds r hl hR => ?_)
  obtain ⟨a, b, rfl, ⟨ha, hb⟩, rfl⟩ := hR
  obtain ⟨w1, w2, w3, w4⟩ := ha.wmul hb
  obtain ⟨z1, z2⟩ := ha.dd hb
  refine ⟨.rt (eQ (a * b)), rfl, as_ret (ae_is (d := eR (lowR (a.num * b.num) (a.den * b.den))) ?_ ?_)⟩
  · walk_at "ev" <;> with_reducible assumption
  · rw [eQ_low (Int.mul_pos (den_pos' a) (den_pos' b)), mul_divInt]
/-! ### along -/
def dotI (row vs : List Rat) (i : Nat) : Rat := (((row.zip vs).map fun p => p.1 * p.2).take i).sum
theorem dotI_all (row vs : List Rat) (h : row.length = vs.length) : dotI row vs row.length = dot row vs := by
  unfold dotI dot
  rw [List.take_of_length_le (by simp [h])]
theorem dotI_succ {row vs : List Rat} {i : Nat} (h : row.length = vs.length) (hi : i < row.length) : dotI row vs (i + 1) = dotI row vs i + row[i] * vs[i]'(by omega) := by
  unfold dotI
  rw [RP.sum_take (by simp [h]; omega)]
  simp
theorem dotI_bt {row vs : List Rat} {B C : Nat} (h1 : BL B row) (h2 : BL C vs) (i : Nat) (hi : i ≤ 6) : Bt (6 * (B + C + 1) + 1) (dotI row vs i) := by
  have h : BL (B + C) (((row.zip vs).map fun p => p.1 * p.2).take i) := by
    intro q hq
    obtain ⟨p, hp, rfl⟩ := List.mem_map.mp (List.mem_of_mem_take hq)
    exact (h1 p.1 (List.of_mem_zip hp).1).mul (h2 p.2 (List.of_mem_zip hp).2)
  by_cases z : B + C = 0
  · refine (bt_sum (B := 1) (by omega) (h.mono (by omega))).mono ?_
    have hl : (((row.zip vs).map fun p => p.1 * p.2).take i).length ≤ 6 := by rw [List.length_take]; omega
    have hq : ∀ q ∈ (((row.zip vs).map fun p => p.1 * p.2).take i), False := fun q hq => by
      have := (h q hq).2
      have hd := den_pos' q
      have hlt := this.lt
      rw [z] at hlt
      have : (2 : Nat) ^ 0 = 1 := rfl
      omega
    have e : (((row.zip vs).map fun p => p.1 * p.2).take i) = [] := List.eq_nil_iff_forall_not_mem.mpr hq
    rw [e]
    simp
  · refine (bt_sum (by omega) h).mono ?_
    have hl : (((row.zip vs).map fun p => p.1 * p.2).take i).length ≤ 6 := by rw [List.length_take]; omega
    have := Nat.mul_le_mul_right (B + C + 1) hl
    omega
def R_along (ds : List RD) (r : Res) : Prop := ∃ (row vs : List Rat) (B C : Nat), ds = [eL row, eL vs] ∧ (B ≤ 40 ∧ C ≤ 1200 ∧ BL B row ∧ BL C vs ∧ row.length = vs.length ∧ row.length ≤ 6) ∧ r = .ok (eQ (dot row vs))
theorem R_along_mk {row vs : List Rat} (B C : Nat) (h0 : B ≤ 40) (h9 : C ≤ 1200) (h1 : BL B row) (h2 : BL C vs) (h3 : row.length = vs.length) (h4 : row.length ≤ 6) : R_along [eL row, eL vs] (.ok (eQ (dot row vs))) := ⟨row, vs, B, C, rfl, ⟨h0, h9, h1, h2, h3, h4⟩, rfl⟩
theorem ok_along (T : Txt K mg) : FnOk P w K mg base (L2.CX P w) 3 T.a_along T.fd_along ["row", "values"] (spF K 2 R_along) := by
  refine T.F_along.okX sc_along (spF_len rfl) (fun cdv A outer s H vs Q E hr h => ?_)
  refine ⟨_, (pss_cons (ps_set (i := 2) sc_along.nd rfl (Or.inl rfl) (pe_glob (v := .ref T.z_ZERO) rfl T.c_ZERO rfl))
      (pss_cons (ps_for (passes_of rfl) rfl (pi_zipK K rfl (by rfl) T.m_zip (pa_cons (pv 0) (pa_cons (pv 1) pa_nil))) (pg_tupK (n := 2) K rfl rfl (pgs_cons (pg_name (i := 3) sc_along.nd rfl (Or.inl rfl)) (pgs_cons (pg_name (i := 4) sc_along.nd rfl (Or.inl rfl)) pgs_nil)))
      (pss_one (ps_set (i := 2) sc_along.nd rfl (Or.inl rfl) (pe_call (ok_add T) (hr.mono (by decide)) rfl T.g_add T.F_add.kp T.b_add .nil passL (pa_cons (pv 2) (pa_cons (pe_call (ok_times T) (hr.mono (by decide)) rfl T.g_times T.F_times.kp T.b_times .nil passL (pa_cons (pv 3) (pa_cons (pv 4) pa_nil))) pa_nil))))))
      (pss_one (ps_ret (pv 2))))), ?_⟩
  refine body_run h (fun ds r hl hR => ?_)
  obtain ⟨row, vs, B, C, rfl, ⟨h0, h9, b1, b2, hl1, hl2⟩, rfl⟩ := hR
  refine ⟨.rt (eQ (dot row vs)), rfl, ?_⟩
  refine as_seq (S1 := [.dat (eL row), .dat (eL vs), .dat (eQ 0), .un, .un]) (as_asg (ae_c fun G => .tup (T.s_ZERO G) (.cons (.int 0) (.cons (.int 1) .nil)))) ?_
  refine as_seq (as_forAll (l := [3, 4]) (ai_zip (as := row.map eQ) (bs := vs.map eQ) (aa_cons (ae_var rfl) (aa_cons (ae_var rfl) aa_nil))) (fun i => [.dat (eL row), .dat (eL vs), .dat (eQ (dotI row vs i)), .un, .un]) rfl fun i x hx => ?_) (as_ret (ae_var ?_))
  · have hi : i < row.length := by
      have := (List.getElem?_eq_some_iff.mp hx).1
      simp at this
      omega
    have hx2 : x = .tup [eQ row[i], eQ (vs[i]'(by omega))] := by
      rw [List.getElem?_map, List.getElem?_zip_eq_some (z := (eQ row[i], eQ (vs[i]'(by omega)))) |>.mpr ⟨by rw [List.getElem?_map, List.getElem?_eq_getElem hi]; rfl, by rw [List.getElem?_map, List.getElem?_eq_getElem (by omega)]; rfl⟩] at hx
      exact (Option.some.inj hx).symm
    subst hx2
    have q1 := b1 row[i] (List.getElem_mem _)
    have q2 := b2 (vs[i]'(by omega)) (List.getElem_mem _)
    refine ⟨[.dat (eL row), .dat (eL vs), .dat (eQ (dotI row vs i)), .dat (eQ row[i]), .dat (eQ (vs[i]'(by omega)))], .nx [.dat (eL row), .dat (eL vs), .dat (eQ (dotI row vs (i + 1))), .dat (eQ row[i]), .dat (eQ (vs[i]'(by omega)))], ag_tup (ags_cons ag_name (ags_cons ag_name ags_nil)) rfl, ?_, by walk_at "fg"⟩
    rw [dotI_succ hl1 hi]
    refine as_asg (ae_call0 (ds := [eQ (dotI row vs i), eQ (row[i] * vs[i]'(by omega))]) (aa_cons (ae_var rfl) (aa_cons (ae_call0 (ds := [eQ row[i], eQ (vs[i]'(by omega))]) (aa_cons (ae_var rfl) (aa_cons (ae_var rfl) aa_nil)) rfl (R_times_mk (q1.mono (by omega)) (q2.mono (by omega)))) aa_nil)) rfl (R_add_mk 7447 1240 ((dotI_bt b1 b2 i (by omega)).mono (by omega)) ((q1.mul q2).mono (by omega)) (by decide) (by decide) (by decide)))
  · have e : (((row.map eQ).zip (vs.map eQ)).map fun p => RD.tup [p.1, p.2]).length = row.length := by simp [hl1]
    show _ = some (SV.dat (eQ (dot row vs)))
    rw [e, dotI_all row vs hl1]
    rfl
/-! ### product -/
def R_product (ds : List RD) (r : Res) : Prop := ∃ (rows : List (List Rat)) (vs : List Rat), ds = [eM rows, eL vs] ∧ (rows.length ≤ 100 ∧ (∀ row ∈ rows, row.length = vs.length) ∧ BM 40 rows ∧ BL 1200 vs ∧ vs.length ≤ 6) ∧ r = .ok (eL (rows.map fun row => dot row vs))
theorem R_product_mk {rows : List (List Rat)} {vs : List Rat} (h1 : rows.length ≤ 100) (h2 : ∀ row ∈ rows, row.length = vs.length) (h3 : BM 40 rows) (h4 : BL 1200 vs) (h5 : vs.length ≤ 6) : R_product [eM rows, eL vs] (.ok (eL (rows.map fun row => dot row vs))) := ⟨rows, vs, rfl, ⟨h1, h2, h3, h4, h5⟩, rfl⟩
theorem ok_product (T : Txt K mg) : FnOk P w K mg base (L2.CX P w) 4 T.a_product T.fd_product ["rows", "values"] (spF K 2 R_product) := by
  refine T.F_product.okX sc_product (spF_len rfl) (fun cdv A outer s H vs Q E hr h => ?_)
  refine ⟨_, (pss_one (ps_ret (pe_lc (own := [("row", 2)]) rfl sc_product.nd (pi_listK K rfl (pv 0)) (blkOk_by (N := ["rows", "values", "row"]) (sc := defScope s_product) (by decide +kernel)) (fun _ _ _ _ _ => (pg_name (i := 2) sc_product.nd rfl (Or.inl rfl))) (fun _ _ _ _ _ => pts_nil) (fun _ _ _ _ _ => (pe_call (ok_along T) (hr.mono (by decide)) rfl T.g_along T.F_along.kp T.b_along .nil passL (pa_cons (pv 2) (pa_cons (pv 1) pa_nil))))))), ?_⟩
  refine body_run h (fun ds r hl hR => ?_)
  obtain ⟨rows, vs, rfl, ⟨hr1, hlen, bm, bl, hl5⟩, rfl⟩ := hR
  refine ⟨.rt (eL (rows.map fun row => dot row vs)), rfl, as_ret ?_⟩
  have e0 : eL (rows.map fun row => dot row vs) = .lst (rows.map fun row => eQ (dot row vs)) := by
    unfold eL
    rw [List.map_map]
    rfl
  rw [e0]
  refine ae_lcM (l := [2]) (xs := rows) (enc := eL) (ai_list (ae_var rfl)) (fun row => eQ (dot row vs)) (by simp) (by omega) fun row hrow => ⟨_, ag_name, ?_⟩
  have hl1 := hlen row hrow
  exact ae_call0 (ds := [eL row, eL vs]) (aa_cons (ae_var rfl) (aa_cons (ae_var rfl) aa_nil)) rfl (R_along_mk 40 1200 (by decide) (by decide) (bm row hrow) bl hl1 (by omega))
/-! ### sub -/
def R_sub (ds : List RD) (r : Res) : Prop := ∃ a b : Rat, ds = [eQ a, eQ b] ∧ (Sq a ∧ Sq b) ∧ r = .ok (eQ (a - b))
theorem R_sub_mk {a b : Rat} (ha : Sq a) (hb : Sq b) : R_sub [eQ a, eQ b] (.ok (eQ (a - b))) := ⟨a, b, rfl, ⟨ha, hb⟩, rfl⟩
local macro_rules | `(tactic| walk_at "fn") => `(tactic| (with_reducible refine R_sub_mk ?_ ?_))
theorem ok_sub (T : Txt K mg) : FnOk P w K mg base (L2.CX P w) 2 T.a_sub T.fd_sub ["a", "b"] (spF K 2 R_sub) := by
  refine T.F_sub.okX sc_sub (spF_len rfl) (fun cdv A outer s H vs Q E hr h => ?_)
  refine ⟨_, (pss_one (ps_ret (pe_call (ok_lowest T) (hr.mono (by decide)) rfl T.g_lowest T.F_lowest.kp T.b_lowest .nil passL (pa_cons (pe_op op_sub (pe_op op_mulW (pe_ix (ix_seqK K rfl) (pv 0) pe_int (fun _ _ => rfl)) (pe_ix (ix_seqK K rfl) (pv 1) pe_int (fun _ _ => rfl))) (pe_op op_mulW (pe_ix (ix_seqK K rfl) (pv 1) pe_int (fun _ _ => rfl)) (pe_ix (ix_seqK K rfl) (pv 0) pe_int (fun _ _ => rfl)))) (pa_cons (pe_op op_mulW (pe_ix (ix_seqK K rfl) (pv 0) pe_int (fun _ _ => rfl)) (pe_ix (ix_seqK K rfl) (pv 1) pe_int (fun _ _ => rfl))) pa_nil))))), ?_⟩
  refine body_run h (fun ds r hl hR => ?_)
  obtain ⟨a, b, rfl, ⟨ha, hb⟩, rfl⟩ := hR
  obtain ⟨w1, w2, w3, w4⟩ := ha.wmul hb
  obtain ⟨v1, v2, v3, v4⟩ := hb.wmul ha
  obtain ⟨z1, z2⟩ := ha.dd hb
  refine ⟨.rt (eQ (a - b)), rfl, as_ret (ae_is (d := eR (lowR (a.num * b.den - b.num * a.den) (a.den * b.den))) ?_ ?_)⟩
  · walk_at "ev" <;> with_reducible assumption
  · rw [eQ_low (Int.mul_pos (den_pos' a) (den_pos' b)), sub_divInt]
/-! ### _cleared -/
def R_cleared (ds : List RD) (r : Res) : Prop := ∃ (row lead : List Rat) (k : Nat), ds = [eL row, eL lead, .int (k : Int)] ∧ (BL 1311 row ∧ BL 1311 lead ∧ row.length = lead.length ∧ k < row.length ∧ row.length ≤ 100) ∧ r = .ok (eL (clearR row lead k))
theorem R_cleared_mk {row lead : List Rat} {k : Nat} (h1 : BL 1311 row) (h2 : BL 1311 lead) (h3 : row.length = lead.length) (h4 : k < row.length) (h5 : row.length ≤ 100) : R_cleared [eL row, eL lead, .int (k : Int)] (.ok (eL (clearR row lead k))) := ⟨row, lead, k, rfl, ⟨h1, h2, h3, h4, h5⟩, rfl⟩
theorem ok_cleared (T : Txt K mg) : FnOk P w K mg base (L2.CX P w) 3 T.a_cleared T.fd_cleared ["row", "lead", "at"] (spF K 3 R_cleared) := by
  refine T.F_cleared.okX sc_cleared (spF_len rfl) (fun cdv A outer s H vs Q E hr h => ?_)
  refine ⟨_, (pss_cons (ps_set (i := 3) sc_cleared.nd rfl (Or.inr rfl) (pe_ix (ix_seqK K rfl) (pv 0) (pv 2) (fun _ _ => rfl)))
      (pss_one (ps_ret (pe_lc (own := [("value", 4), ("step", 5)]) rfl sc_cleared.nd (pi_zipK K rfl (by rfl) T.m_zip (pa_cons (pv 0) (pa_cons (pv 1) pa_nil))) (blkOk_by (N := ["row", "lead", "at", "part", "value", "step"]) (sc := defScope s_cleared) (by decide +kernel)) (fun _ _ _ _ _ => (pg_tupK (n := 2) K rfl rfl (pgs_cons (pg_name (i := 4) sc_cleared.nd rfl (Or.inl rfl)) (pgs_cons (pg_name (i := 5) sc_cleared.nd rfl (Or.inl rfl)) pgs_nil)))) (fun _ _ _ _ _ => pts_nil) (fun _ _ _ _ _ => (pe_call (ok_sub T) (hr.mono (by decide)) rfl T.g_sub T.F_sub.kp T.b_sub .nil passL (pa_cons (pv 4) (pa_cons (pe_call (ok_times T) (hr.mono (by decide)) rfl T.g_times T.F_times.kp T.b_times .nil passL (pa_cons (pv 3) (pa_cons (pv 5) pa_nil))) pa_nil)))))))), ?_⟩
  refine body_run h (fun ds r hl hR => ?_)
  obtain ⟨row, lead, k, rfl, ⟨h1, h2, h3, h4, h5⟩, rfl⟩ := hR
  refine ⟨.rt (eL (clearR row lead k)), rfl, ?_⟩
  have hp := h1 _ (getD_mem h4)
  refine as_seq (S1 := [.dat (eL row), .dat (eL lead), .dat (.int (k : Int)), .dat (eQ (row.getD k 0)), .un, .un]) (as_asg (ae_at h4 (ae_var rfl) (ae_var rfl))) (as_ret ?_)
  have e0 : eL (clearR row lead k) = .lst ((row.zip lead).map fun p => eQ (p.1 - row.getD k 0 * p.2)) := by
    unfold eL clearR
    rw [List.map_map]
    rfl
  rw [e0]
  refine ae_lcM (l := [4, 5]) (xs := row.zip lead) (enc := fun p => .tup [eQ p.1, eQ p.2]) (ai_is (ai_zip (as := row.map eQ) (bs := lead.map eQ) (aa_cons (ae_var rfl) (aa_cons (ae_var rfl) aa_nil))) ?_) (fun p => eQ (p.1 - row.getD k 0 * p.2)) (by simp) (by rw [List.length_zip]; omega) fun p hp2 => ⟨_, ag_tup (ags_cons ag_name (ags_cons ag_name ags_nil)) rfl, ?_⟩
  · rw [List.zip_map, List.map_map]
    rfl
  · have b1 := h1 _ (List.of_mem_zip hp2).1
    have b2 := h2 _ (List.of_mem_zip hp2).2
    refine ae_call0 (ds := [eQ p.1, eQ (row.getD k 0 * p.2)]) (aa_cons (ae_var rfl) (aa_cons (ae_call0 (ds := [eQ (row.getD k 0), eQ p.2]) (aa_cons (ae_var rfl) (aa_cons (ae_var rfl) aa_nil)) rfl (R_times_mk (hp.mono (by decide)) (b2.mono (by decide)))) aa_nil)) rfl (R_sub_mk (b1.mono (by decide)) ((hp.mul b2).mono (by decide)))
/-! ### sign -/
def sgn (a : Q2) : Int := if 0 < a.1 then 1 else if a.1 < 0 then -1 else 0
def R_sign (ds : List RD) (r : Res) : Prop := ∃ a : Q2, ds = [eR a] ∧ r = .ok (.int (sgn a))
theorem R_sign_mk {a : Q2} : R_sign [eR a] (.ok (.int (sgn a))) := ⟨a, rfl, rfl⟩
local macro_rules | `(tactic| walk_at "fn") => `(tactic| (with_reducible exact R_sign_mk))
theorem ok_sign (T : Txt K mg) : FnOk P w K mg base (L2.CX P w) 1 T.a_sign T.fd_sign ["a"] (spF K 1 R_sign) := by
  refine T.F_sign.okX sc_sign (spF_len rfl) (fun cdv A outer s H vs Q E hr h => ?_)
  refine ⟨_, (pss_cons (ps_if (pt_cmpR op_gt (pe_ix (ix_seqK K rfl) (pv 0) pe_int (fun _ _ => rfl)) pe_int (nomark _)) (pss_one (ps_ret pe_int)) pss_nil)
      (pss_cons (ps_if (pt_cmpR op_lt (pe_ix (ix_seqK K rfl) (pv 0) pe_int (fun _ _ => rfl)) pe_int (nomark _)) (pss_one (ps_ret (pe_un un_neg pe_int))) pss_nil)
      (pss_one (ps_ret pe_int)))), ?_⟩
  refine body_run h (fun ds r hl hR => ?_)
  obtain ⟨a, rfl, rfl⟩ := hR
  refine ⟨.rt (.int (sgn a)), rfl, ?_⟩
  refine as_when (b := decide (0 < a.1)) (by walk_at "ev") (fun hb => as_rets ?_) (fun hb => ?_)
  · refine ae_is (d := .int 1) (by walk_at "ev") (by unfold sgn; rw [if_pos (of_decide_eq_true hb)])
  refine as_when (b := decide (a.1 < 0)) (by walk_at "ev") (fun hc => as_rets ?_) (fun hc => as_ret ?_)
  · refine ae_is (d := .int (-1)) (by walk_at "ev") (by unfold sgn; rw [if_neg (of_decide_eq_false hb), if_pos (of_decide_eq_true hc)])
  · refine ae_is (d := .int 0) (by walk_at "ev") (by unfold sgn; rw [if_neg (of_decide_eq_false hb), if_neg (of_decide_eq_false hc)])
/-! ### _lead_place -/
theorem sgn_q (q : Rat) : sgn (ofQ q) = 0 ↔ q = 0 := by
  rw [← Rat.num_eq_zero]
  show (if 0 < q.num then (1 : Int) else if q.num < 0 then -1 else 0) = 0 ↔ _
  split
  · constructor <;> intro h <;> omega
  · split
    · constructor <;> intro h <;> omega
    · constructor <;> intro h <;> omega
def leadR (C : Addr) (t : List (List Rat)) (k : Nat) : Res := match leadOf t k with
  | some p => .ok (.int (p : Int))
  | none => .exc (.ref C)
def R_lead_place (C : Addr) (ds : List RD) (r : Res) : Prop := ∃ (n m : Nat) (t : List (List Rat)) (k : Nat), ds = [eM t, .int (k : Int)] ∧ (Sh n m t ∧ k < m ∧ k ≤ n ∧ n ≤ 100) ∧ r = leadR C t k
theorem R_lead_place_ok {C : Addr} {n m : Nat} {t : List (List Rat)} {k p : Nat} (h : Sh n m t) (hk : k < m) (hk2 : k ≤ n) (hn : n ≤ 100) (e : leadOf t k = some p) : R_lead_place C [eM t, .int (k : Int)] (.ok (.int (p : Int))) := ⟨n, m, t, k, rfl, ⟨h, hk, hk2, hn⟩, by unfold leadR; rw [e]⟩
theorem R_lead_place_exc {C : Addr} {n m : Nat} {t : List (List Rat)} {k : Nat} (h : Sh n m t) (hk : k < m) (hk2 : k ≤ n) (hn : n ≤ 100) (e : leadOf t k = none) : R_lead_place C [eM t, .int (k : Int)] (.exc (.ref C)) := ⟨n, m, t, k, rfl, ⟨h, hk, hk2, hn⟩, by unfold leadR; rw [e]⟩
theorem ok_lead_place (T : Txt K mg) : FnOk P w K mg base (L2.CX P w) 2 T.a_lead_place T.fd_lead_place ["table", "at"] (spF K 2 (R_lead_place T.C_Singular)) := by
  refine T.F_lead_place.okX sc_lead_place (spF_len rfl) (fun cdv A outer s H vs Q E hr h => ?_)
  refine ⟨_, (pss_cons (ps_for (passes_of rfl) rfl (pi_range2 rfl T.m_range (pa_cons (pv 1) (pa_cons (pe_callB (call_lenK K rfl) (by rfl) T.m_len (by decide +kernel) (pa_cons (pv 0) pa_nil)) pa_nil))) (pg_name (i := 2) sc_lead_place.nd rfl (Or.inl rfl))
      (pss_one (ps_if (pt_cmpR op_ne (pe_call (ok_sign T) (hr.mono (by decide)) rfl T.g_sign T.F_sign.kp T.b_sign .nil passL (pa_cons (pe_ix (ix_seqK K rfl) (pe_ix (ix_seqK K rfl) (pv 0) (pv 2) (fun _ _ => rfl)) (pv 1) (fun _ _ => rfl)) pa_nil)) pe_int (nomark _)) (pss_one (ps_ret (pv 2))) pss_nil)))
      (pss_one (ps_raise rfl (takes_of rfl rfl rfl rfl) (pmk_own PySem.F.excBase_ValueError T.x_Singular T.gC_Singular T.k_Singular (raises_own T.b_Singular T.t_Singular) rfl)))), ?_⟩
  refine body_run h (fun ds r hl hR => ?_)
  obtain ⟨n, m, t, k, rfl, ⟨hs, hk, hk2, hn⟩, rfl⟩ := hR
  have hai : AI K (iRng2 (tCons (tVar 1) (tCons (tCB (rLenK K) (tCons (tVar 0) tNil)) tNil))) [.dat (eM t), .dat (.int (k : Int)), .un] ((List.range ((n : Int) - (k : Int)).toNat).map fun (q : Nat) => RD.int ((k : Int) + q)) :=
    ai_range2 (i := (k : Int)) (j := (n : Int)) (aa_cons (ae_var rfl) (aa_cons (ae_is (ae_cb (ds := [eM t]) (aa_cons (ae_var rfl) aa_nil) rc_lenL) (by rw [List.length_map, hs.len])) aa_nil)) (by omega) (by omega)
  have hx1 : ∀ i x, ((List.range ((n : Int) - (k : Int)).toNat).map fun (q : Nat) => RD.int ((k : Int) + q))[i]? = some x → k + i < n ∧ x = .int ((k + i : Nat) : Int) := by
    intro i x hx
    have h1 := (List.getElem?_eq_some_iff.mp hx).1
    rw [List.length_map, List.length_range] at h1
    rw [List.getElem?_map, List.getElem?_range h1] at hx
    refine ⟨by omega, ?_⟩
    rw [← Option.some.inj hx, Int.natCast_add]
  have test : ∀ {S : Sg} {i : Nat} {E : XK} {b : Bool}, S[0]? = some (.dat (eM t)) → S[1]? = some (.dat (.int (k : Int))) → S[2]? = some (.dat (.int (i : Int))) → i < n → (!decide (En t i k = 0)) = b → AT K (tTest (tOp rNe (tCall (spF K 1 R_sign) [] E (tCons (tOp (rIx K) (tOp (rIx K) (tVar 0) (tVar 2)) (tVar 1)) tNil)) (tC (.int 0)))) S b := by
    intro S i E b s0 s1 s2 hi hb
    refine at_is (at_test (ae_op (d1 := .int (sgn (ofQ (En t i k)))) (d2 := .int 0) (ae_call0 (ds := [eQ (En t i k)]) (aa_cons (ae_en hs hi hk (ae_var s0) (ae_var s2) (ae_var s1)) aa_nil) rfl (R_sign_mk (a := ofQ (En t i k)))) ae_int (ro_ne rfl rfl rfl))) ?_
    rw [← hb]
    congr 1
    by_cases h : En t i k = 0
    · rw [decide_eq_true h, decide_eq_true]
      rw [(sgn_q _).mpr h]
    · rw [decide_eq_false h, decide_eq_false]
      intro z
      exact h ((sgn_q _).mp (V.int.inj z))
  cases e : leadOf t k with
  | none =>
    have hz := leadOf_none hs e
    refine ⟨.ex (.ref T.C_Singular) [.dat (eM t), .dat (.int (k : Int)), .un], by unfold leadR; rw [e]; rfl, ?_⟩
    refine as_seq (as_forK (l := [2]) hai fun x hx => ?_) as_raise
    obtain ⟨i, hi⟩ := List.mem_iff_getElem?.mp hx
    obtain ⟨h1, rfl⟩ := hx1 i x hi
    refine ⟨_, _, ag_name, as_if (b := false) (test rfl rfl rfl h1 (by rw [decide_eq_true (hz _ (Nat.le_add_right _ _) h1)]; rfl)) (fun z => nomatch z) (fun _ => as_next), (?_ : Out.goes (.nx [.dat (eM t), .dat (.int (k : Int)), .dat (.int ((k + i : Nat) : Int))]) _)⟩
    walk_at "fg"
  | some p =>
    obtain ⟨a, b, c, d⟩ := leadOf_some hs e
    refine ⟨.rt (.int (p : Int)), by unfold leadR; rw [e]; rfl, ?_⟩
    refine as_stop (as_for (l := [2]) hai (p - k) (fun _ => [.dat (eM t), .dat (.int (k : Int)), .un]) rfl (fun i x hi hx => ?_) (.inr ⟨.int (p : Int), _, .rt (.int (p : Int)), ?_, ag_name, as_if (b := true) (test rfl rfl rfl b (by rw [decide_eq_false c]; rfl)) (fun _ => as_ret (ae_var rfl)) (fun z => nomatch z), rfl⟩)) (fun _ z => nomatch z)
    · obtain ⟨h1, rfl⟩ := hx1 i x hx
      refine ⟨_, _, ag_name, as_if (b := false) (test rfl rfl rfl h1 (by rw [decide_eq_true (d _ (Nat.le_add_right _ _) (by omega))]; rfl)) (fun z => nomatch z) (fun _ => as_next), (?_ : Out.goes (.nx [.dat (eM t), .dat (.int (k : Int)), .dat (.int ((k + i : Nat) : Int))]) _)⟩
      walk_at "fg"
    · rw [List.getElem?_map, List.getElem?_range (by omega)]
      show some (RD.int ((k : Int) + ((p - k : Nat) : Int))) = _
      congr 2
      omega
/-! ### over -/
def overR (C : Addr) (a b : Rat) : Res := if b = 0 then .exc (.ref C) else .ok (eQ (a / b))
def R_over (C : Addr) (ds : List RD) (r : Res) : Prop := ∃ a b : Rat, ds = [eQ a, eQ b] ∧ (Sq a ∧ Sq b) ∧ r = overR C a b
theorem R_over_mk {C : Addr} {a b : Rat} (ha : Sq a) (hb : Sq b) (h : b ≠ 0) : R_over C [eQ a, eQ b] (.ok (eQ (a / b))) := ⟨a, b, rfl, ⟨ha, hb⟩, by unfold overR; rw [if_neg h]⟩
theorem R_over_exc {C : Addr} {a : Rat} (ha : Sq a) : R_over C [eQ a, eQ 0] (.exc (.ref C)) := ⟨a, 0, rfl, ⟨ha, ⟨bd_zero, one_bd (by decide)⟩⟩, by unfold overR; rw [if_pos rfl]⟩
local macro_rules | `(tactic| walk_at "fn") => `(tactic| (with_reducible refine R_over_mk ?_ ?_ ?_))
theorem ok_over (T : Txt K mg) : FnOk P w K mg base (L2.CX P w) 2 T.a_over T.fd_over ["a", "b"] (spF K 2 (R_over T.C_InvalidRatio)) := by
  refine T.F_over.okX sc_over (spF_len rfl) (fun cdv A outer s H vs Q E hr h => ?_)
  refine ⟨_, (pss_cons (ps_if (pt_cmpR op_eq (pe_ix (ix_seqK K rfl) (pv 1) pe_int (fun _ _ => rfl)) pe_int (nomark _)) (pss_one (ps_raise rfl (takes_of rfl rfl rfl rfl) (pmk_own PySem.F.excBase_ValueError T.x_InvalidRatio T.gC_InvalidRatio T.k_InvalidRatio (raises_own T.b_InvalidRatio T.t_InvalidRatio) rfl))) pss_nil)
      (pss_cons (ps_if (pt_cmpR op_lt (pe_ix (ix_seqK K rfl) (pv 1) pe_int (fun _ _ => rfl)) pe_int (nomark _)) (pss_one (ps_ret (pe_call (ok_lowest T) (hr.mono (by decide)) rfl T.g_lowest T.F_lowest.kp T.b_lowest .nil passL (pa_cons (pe_op op_mulW (pe_un un_neg (pe_ix (ix_seqK K rfl) (pv 0) pe_int (fun _ _ => rfl))) (pe_ix (ix_seqK K rfl) (pv 1) pe_int (fun _ _ => rfl))) (pa_cons (pe_op op_mulW (pe_ix (ix_seqK K rfl) (pv 0) pe_int (fun _ _ => rfl)) (pe_un un_neg (pe_ix (ix_seqK K rfl) (pv 1) pe_int (fun _ _ => rfl)))) pa_nil))))) pss_nil)
      (pss_one (ps_ret (pe_call (ok_lowest T) (hr.mono (by decide)) rfl T.g_lowest T.F_lowest.kp T.b_lowest .nil passL (pa_cons (pe_op op_mulW (pe_ix (ix_seqK K rfl) (pv 0) pe_int (fun _ _ => rfl)) (pe_ix (ix_seqK K rfl) (pv 1) pe_int (fun _ _ => rfl))) (pa_cons (pe_op op_mulW (pe_ix (ix_seqK K rfl) (pv 0) pe_int (fun _ _ => rfl)) (pe_ix (ix_seqK K rfl) (pv 1) pe_int (fun _ _ => rfl))) pa_nil))))))), ?_⟩
  refine body_run h (fun ds r hl hR => ?_)
  obtain ⟨a, b, rfl, ⟨ha, hb⟩, rfl⟩ := hR
  obtain ⟨w1, w2, w3, w4⟩ := ha.wmul hb
  have n2 : CMulW (-a.num) b.den := (ha.1.neg).wmul hb.2 (by decide) (by decide) (by decide)
  have n3 : CMulW a.den (-b.num) := ha.2.wmul hb.1.neg (by decide) (by decide) (by decide)
  by_cases h0 : b = 0
  · refine ⟨.ex (.ref T.C_InvalidRatio) [.dat (eQ a), .dat (eQ b)], by unfold overR; rw [if_pos h0]; rfl, ?_⟩
    subst h0
    exact as_when (b := true) (at_is (b := true) (at_test (ae_op (d1 := .int 0) (d2 := .int 0) (by walk_at "ev") (by walk_at "ev") (ro_eq rfl rfl rfl))) rfl) (fun _ => as_stop as_raise fun _ z => nomatch z) (fun z => nomatch z)
  · have hn : b.num ≠ 0 := fun z => h0 (Rat.num_eq_zero.mp z)
    refine ⟨.rt (eQ (a / b)), by unfold overR; rw [if_neg h0]; rfl, ?_⟩
    refine as_when (b := false) (at_is (at_test (ae_op (d1 := .int b.num) (d2 := .int 0) (by walk_at "ev") (by walk_at "ev") (ro_eq rfl rfl rfl))) (decide_eq_false fun z => hn (V.int.inj z))) (fun z => nomatch z) (fun _ => ?_)
    refine as_when (b := decide (b.num < 0)) (by walk_at "ev") (fun hb2 => as_rets ?_) (fun hb2 => as_ret ?_)
    · have hlt := of_decide_eq_true hb2
      have hp : 0 < (a.den : Int) * -b.num := Int.mul_pos (den_pos' a) (by omega)
      refine ae_is (d := eR (lowR (-a.num * b.den) (a.den * -b.num))) ?_ ?_
      · walk_at "ev"
        · exact n2
        · exact n3
        · omega
        · exact (ha.2.mul hb.1.neg).mono (by decide)
      · rw [eQ_low hp, Int.neg_mul, Int.mul_neg, Rat.neg_divInt_neg, div_divInt]
    · have hlt := of_decide_eq_false hb2
      have hp : 0 < (a.den : Int) * b.num := Int.mul_pos (den_pos' a) (by omega)
      refine ae_is (d := eR (lowR (a.num * b.den) (a.den * b.num))) ?_ ?_
      · walk_at "ev"
        · exact w2
        · exact w3
        · omega
        · exact (ha.2.mul hb.1).mono (by decide)
      · rw [eQ_low hp, div_divInt]
/-! ### _scaled -/
def R_scaled (ds : List RD) (r : Res) : Prop := ∃ (row : List Rat) (p : Rat), ds = [eL row, eQ p] ∧ (BL 4000 row ∧ Sq p ∧ p ≠ 0 ∧ row.length ≤ 100) ∧ r = .ok (eL (scaleR row p))
theorem R_scaled_mk {row : List Rat} {p : Rat} (h1 : BL 4000 row) (h2 : Sq p) (h3 : p ≠ 0) (h4 : row.length ≤ 100) : R_scaled [eL row, eQ p] (.ok (eL (scaleR row p))) := ⟨row, p, rfl, ⟨h1, h2, h3, h4⟩, rfl⟩
theorem ok_scaled (T : Txt K mg) : FnOk P w K mg base (L2.CX P w) 3 T.a_scaled T.fd_scaled ["row", "part"] (spF K 2 R_scaled) := by
  refine T.F_scaled.okX sc_scaled (spF_len rfl) (fun cdv A outer s H vs Q E hr h => ?_)
  refine ⟨_, (pss_one (ps_ret (pe_lc (own := [("value", 2)]) rfl sc_scaled.nd (pi_listK K rfl (pv 0)) (blkOk_by (N := ["row", "part", "value"]) (sc := defScope s_scaled) (by decide +kernel)) (fun _ _ _ _ _ => (pg_name (i := 2) sc_scaled.nd rfl (Or.inl rfl))) (fun _ _ _ _ _ => pts_nil) (fun _ _ _ _ _ => (pe_call (ok_over T) (hr.mono (by decide)) rfl T.g_over T.F_over.kp T.b_over .nil passL (pa_cons (pv 2) (pa_cons (pv 1) pa_nil))))))), ?_⟩
  refine body_run h (fun ds r hl hR => ?_)
  obtain ⟨row, p, rfl, ⟨h1, h2, h3, h4⟩, rfl⟩ := hR
  refine ⟨.rt (eL (scaleR row p)), rfl, as_ret ?_⟩
  have e0 : eL (scaleR row p) = .lst (row.map fun v => eQ (v / p)) := by
    unfold eL scaleR
    rw [List.map_map]
    rfl
  rw [e0]
  refine ae_lcM (l := [2]) (xs := row) (enc := eQ) (ai_list (ae_var rfl)) (fun v => eQ (v / p)) (by simp) (by omega) fun v hv => ⟨_, ag_name, ?_⟩
  exact ae_call0 (ds := [eQ v, eQ p]) (aa_cons (ae_var rfl) (aa_cons (ae_var rfl) aa_nil)) rfl (R_over_mk (h1 v hv) h2 h3)
/-! ### solve -/
/-- equations as they are handed in: few, and small enough -/
structure SIn (n B : Nat) (rows : List (List Rat)) (right : List Rat) : Prop where
  hn : n ≤ 6
  hB : B ≤ 40
  sh : Sh n n rows
  hr : right.length = n
  cd : ∀ r ∈ augT rows right, CD B r
def R_solve (C : Addr) (ds : List RD) (r : Res) : Prop := ∃ (n B : Nat) (rows : List (List Rat)) (right : List Rat), ds = [eM rows, eL right] ∧ SIn n B rows right ∧ r = solveR C n (augT rows right)
theorem R_solve_ok {C : Addr} {n B : Nat} {rows : List (List Rat)} {right : List Rat} {u : List (List Rat)} (h : SIn n B rows right) (e : gj (augT rows right) n = some u) : R_solve C [eM rows, eL right] (.ok (eL (lastC n u))) := ⟨n, B, rows, right, rfl, h, by unfold solveR; rw [e]⟩
theorem R_solve_exc {C : Addr} {n B : Nat} {rows : List (List Rat)} {right : List Rat} (h : SIn n B rows right) (e : gj (augT rows right) n = none) : R_solve C [eM rows, eL right] (.exc (.ref C)) := ⟨n, B, rows, right, rfl, h, by unfold solveR; rw [e]⟩
theorem ok_solve (T : Txt K mg) : FnOk P w K mg base (L2.CX P w) 4 T.a_solve T.fd_solve ["rows", "right"] (spF K 2 (R_solve T.C_Singular)) := by
  refine T.F_solve.okX sc_solve (spF_len rfl) (fun cdv A outer s H vs Q E hr h => ?_)
  refine ⟨_, (pss_cons (ps_setLc (i := 2) (own := [("row", 3), ("value", 4)]) rfl sc_solve.nd rfl rfl (sw_true rfl rfl rfl (by decide +kernel)) (pi_zipK K rfl (by rfl) T.m_zip (pa_cons (pv 0) (pa_cons (pv 1) pa_nil))) (blkOk_by (N := ["rows", "right", "table", "row", "value", "at", "place", "lead", "others", "rest"]) (sc := defScope s_solve) (by decide +kernel)) (fun _ _ _ _ _ => (pg_tupK (n := 2) K rfl rfl (pgs_cons (pg_name (i := 3) sc_solve.nd rfl (Or.inl rfl)) (pgs_cons (pg_name (i := 4) sc_solve.nd rfl (Or.inl rfl)) pgs_nil)))) (fun _ _ _ _ _ => pts_nil) (fun _ _ _ _ _ => (pe_lst (pa_starK K rfl (pv 3) (pa_cons (pv 4) pa_nil)))))
      (pss_cons (ps_for (passes_of rfl) rfl (pi_range1 rfl T.m_range (pa_cons (pe_callB (call_lenK K rfl) (by rfl) T.m_len (by decide +kernel) (pa_cons (pv 0) pa_nil)) pa_nil)) (pg_name (i := 5) sc_solve.nd rfl (Or.inr rfl))
      (pss_cons (ps_set (i := 6) sc_solve.nd rfl (Or.inl rfl) (pe_callS (ok_lead_place T) (hr.mono (by decide)) rfl T.g_lead_place T.F_lead_place.kp T.b_lead_place (fun σ => passAt (takes_of rfl rfl rfl rfl) σ) (pa_cons (pv 2) (pa_cons (pv 5) pa_nil))))
      (pss_cons (ps_set (i := 7) sc_solve.nd rfl (Or.inr rfl) (pe_call (ok_scaled T) (hr.mono (by decide)) rfl T.g_scaled T.F_scaled.kp T.b_scaled .nil passL (pa_cons (pe_ix (ix_seqK K rfl) (pv 2) (pv 6) (fun _ _ => rfl)) (pa_cons (pe_ix (ix_seqK K rfl) (pe_ix (ix_seqK K rfl) (pv 2) (pv 6) (fun _ _ => rfl)) (pv 5) (fun _ _ => rfl)) pa_nil))))
      (pss_cons (ps_set (i := 8) sc_solve.nd rfl (Or.inl rfl) (pe_op op_cat (pe_slice (sl_listK K rfl) (pv 2) po_none (po_some (pv 6))) (pe_slice (sl_listK K rfl) (pv 2) (po_some (pe_op op_add (pv 6) pe_int)) po_none)))
      (pss_cons (ps_setLc (i := 9) (own := [("row", 3)]) rfl sc_solve.nd rfl rfl (sw_true rfl rfl rfl (by decide +kernel)) (pi_listK K rfl (pv 8)) (blkOk_by (N := ["rows", "right", "table", "row", "value", "at", "place", "lead", "others", "rest"]) (sc := defScope s_solve) (by decide +kernel)) (fun _ _ _ _ _ => (pg_name (i := 3) sc_solve.nd rfl (Or.inl rfl))) (fun _ _ _ _ _ => pts_nil) (fun _ _ _ _ _ => (pe_call (ok_cleared T) (hr.mono (by decide)) rfl T.g_cleared T.F_cleared.kp T.b_cleared .nil passL (pa_cons (pv 3) (pa_cons (pv 7) (pa_cons (pv 5) pa_nil))))))
      (pss_one (ps_set (i := 2) sc_solve.nd rfl (Or.inl rfl) (pe_lst (pa_starK K rfl (pe_slice (sl_listK K rfl) (pv 9) po_none (po_some (pv 5))) (pa_cons (pv 7) (pa_starK K rfl (pe_slice (sl_listK K rfl) (pv 9) (po_some (pv 5)) po_none) pa_nil)))))))))))
      (pss_one (ps_ret (pe_lc (own := [("row", 3)]) rfl sc_solve.nd (pi_listK K rfl (pv 2)) (blkOk_by (N := ["rows", "right", "table", "row", "value", "at", "place", "lead", "others", "rest"]) (sc := defScope s_solve) (by decide +kernel)) (fun _ _ _ _ _ => (pg_name (i := 3) sc_solve.nd rfl (Or.inl rfl))) (fun _ _ _ _ _ => pts_nil) (fun _ _ _ _ _ => (pe_ix (ix_seqK K rfl) (pv 3) (pe_un un_neg pe_int) (fun _ _ => rfl)))))))), ?_⟩
  refine body_run h (fun ds r hl hR => ?_)
  obtain ⟨n, B, rows, right, rfl, ⟨hn, hB, sh, hr, cd⟩, rfl⟩ := hR
  have ash := aug_sh sh hr
  have e0 : eM (augT rows right) = .lst ((rows.zip right).map fun p => eL (p.1 ++ [p.2])) := by
    unfold eM augT
    rw [List.map_map]
    rfl
  have hzl : (rows.zip right).length ≤ 100000 := by rw [List.length_zip, sh.len]; omega
  have hrl : rows.length = n := sh.len
  have first : AE K (tLc (iZip K (tCons (tVar 0) (tCons (tVar 1) tNil))) (gTup K 2 (gCons (gName 3) (gCons (gName 4) gNil))) tYes (tLst (StX.tStar K (tVar 3) (tCons (tVar 4) tNil))) [3, 4]) [.dat (eM rows), .dat (eL right), .un, .un, .un, .un, .un, .un, .un, .un] (eM (augT rows right)) := by
    rw [e0]
    refine ae_lcM (l := [3, 4]) (xs := rows.zip right) (enc := fun p => .tup [eL p.1, eQ p.2]) (ai_is (ai_zip (as := rows.map eL) (bs := right.map eQ) (aa_cons (ae_var rfl) (aa_cons (ae_var rfl) aa_nil))) ?_) (fun p => eL (p.1 ++ [p.2])) (by simp) hzl fun p hp => ⟨_, ag_tup (ags_cons ag_name (ags_cons ag_name ags_nil)) rfl, ?_⟩
    · rw [List.zip_map, List.map_map]
      rfl
    · refine ae_is (ae_lst (aa_star (as := p.1.map eQ) (ae_var rfl) (aa_cons (d := eQ p.2) (ae_var rfl) aa_nil)) ?_) ?_
      · rw [List.length_append, List.length_map, sh.row _ (List.of_mem_zip hp).1]
        show n + 1 ≤ 100000
        omega
      · unfold eL
        rw [List.map_append]
        rfl
  generalize augT rows right = t at ash cd first ⊢
  have ok := gj_ok ash (Nat.le_succ n) cd
  have hai : AI K (iRng1 (tCons (tCB (rLenK K) (tCons (tVar 0) tNil)) tNil)) [.dat (eM rows), .dat (eL right), .dat (eM t), .un, .un, .un, .un, .un, .un, .un] ((List.range n).map fun (i : Nat) => RD.int (0 + i)) :=
    ai_is (ai_range1 (j := (n : Int)) (aa_cons (ae_is (ae_cb (ds := [eM rows]) (aa_cons (ae_var rfl) aa_nil) rc_lenL) (by rw [List.length_map, sh.len])) aa_nil) (by omega)) rfl
  have hx1 : ∀ i x, ((List.range n).map fun (i : Nat) => RD.int (0 + i))[i]? = some x → i < n ∧ x = .int (i : Int) := by
    intro i x hx
    have h1 := (List.getElem?_eq_some_iff.mp hx).1
    rw [List.length_map, List.length_range] at h1
    rw [List.getElem?_map, List.getElem?_range h1] at hx
    refine ⟨h1, ?_⟩
    rw [← Option.some.inj hx]
    show RD.int (0 + (i : Int)) = _
    rw [Int.zero_add]
  have turn : ∀ i u v, i < n → gj t i = some u → gj t (i + 1) = some v → ∃ p : Nat, AS K (fun c d _ H => E c d H) (tSeq
                  (tAsg
                    (tCallS (spF K 2 (R_lead_place T.C_Singular)) (fun σ => WE (fun cls d x H => E cls d H) σ)
                      (tCons (tVar 2) (tCons (tVar 5) tNil)))
                    (gName 6))
                  (tSeq
                    (tAsg
                      (tCall (spF K 2 R_scaled) [] E0
                        (tCons (tOp (rIx K) (tVar 2) (tVar 6))
                          (tCons (tOp (rIx K) (tOp (rIx K) (tVar 2) (tVar 6)) (tVar 5)) tNil)))
                      (gName 7))
                    (tSeq
                      (tAsg
                        (tOp rCat (tSl (rSlL K) (tVar 2) tNoPart (tPart (tVar 6)))
                          (tSl (rSlL K) (tVar 2) (tPart (tOp (rI0 fun i j => V.int (i + j)) (tVar 6) (tC (V.int 1))))
                            tNoPart))
                        (gName 8))
                      (tSeq
                        (tAsg
                          (tLc (iList K (tVar 8)) (gName 3) tYes
                            (tCall (spF K 3 R_cleared) [] E0 (tCons (tVar 3) (tCons (tVar 7) (tCons (tVar 5) tNil))))
                            [3])
                          (gName 9))
                        (tAsg
                          (tLst
                            (StX.tStar K (tSl (rSlL K) (tVar 9) tNoPart (tPart (tVar 5)))
                              (tCons (tVar 7) (StX.tStar K (tSl (rSlL K) (tVar 9) (tPart (tVar 5)) tNoPart) tNil))))
                          (gName 2)))))) [.dat (eM rows), .dat (eL right), .dat (eM u), .un, .un, .dat (.int (i : Int)), .un, .un, .un, .un]
        (.nx [.dat (eM rows), .dat (eL right), .dat (eM v), .un, .un, .dat (.int (i : Int)), .dat (.int (p : Int)), .dat (eL (leadT u i p)), .dat (eM (othersT u p)), .dat (eM (restT u i p))]) := by
    intro i u v hi hu hv
    obtain ⟨p, hp, rfl⟩ := gj_step hu hv
    have g := ok i (by omega) u hu
    obtain ⟨a, b, c, _⟩ := leadOf_some g.sh hp
    have bits := (bitsG_le hB i (by omega)).2 (by omega)
    have bl : ∀ r ∈ u, BL 1311 r := fun r hr => (g.cd r hr).bl.mono bits
    have hpm := (g.sh.get b).1
    have hpl := (g.sh.get b).2
    have hll := lead_len g.sh (k := i) b
    have bll : BL 1311 (leadT u i p) := (((g.cd _ hpm).scale (getD_mem (by rw [hpl]; omega)) c).bl).mono bits
    have hul := g.sh.len
    have hol := others_len g.sh b
    refine ⟨p, ?_⟩
    refine as_seq (S1 := [.dat (eM rows), .dat (eL right), .dat (eM u), .un, .un, .dat (.int (i : Int)), .dat (.int (p : Int)), .un, .un, .un]) (as_asg (ae_callS (ds := [eM u, .int (i : Int)]) (aa_cons (ae_var rfl) (aa_cons (ae_var rfl) aa_nil)) rfl (R_lead_place_ok g.sh (by omega) (by omega) (by omega) hp))) ?_
    refine as_seq (S1 := [.dat (eM rows), .dat (eL right), .dat (eM u), .un, .un, .dat (.int (i : Int)), .dat (.int (p : Int)), .dat (eL (leadT u i p)), .un, .un]) (as_asg (ae_call0 (ds := [eL (u.getD p []), eQ (En u p i)]) (aa_cons (ae_row g.sh b (ae_var rfl) (ae_var rfl)) (aa_cons (ae_en g.sh b (by omega) (ae_var rfl) (ae_var rfl) (ae_var rfl)) aa_nil)) rfl (R_scaled_mk ((bl _ hpm).mono (by decide)) ((bl _ hpm _ (getD_mem (by rw [hpl]; omega))).mono (by decide)) c (by rw [hpl]; omega)))) ?_
    refine as_seq (S1 := [.dat (eM rows), .dat (eL right), .dat (eM u), .un, .un, .dat (.int (i : Int)), .dat (.int (p : Int)), .dat (eL (leadT u i p)), .dat (eM (othersT u p)), .un]) (as_asg (ae_is (ae_op (d1 := .lst ((u.take p).map eL)) (d2 := .lst ((u.drop (p + 1)).map eL)) (ae_is (ae_slL (ds := u.map eL) (lo := none) (hi := some (p : Int)) (ae_var rfl) ao_none (ao_some (ae_var rfl))) ?_) (ae_is (ae_slL (ds := u.map eL) (lo := some ((p : Int) + 1)) (hi := none) (ae_var rfl) (ao_some (ae_op (d1 := .int (p : Int)) (d2 := .int 1) (ae_var rfl) ae_int ro_I0i)) ao_none) ?_) (ro_cat ?_)) ?_)) ?_
    · rw [cut_to (by rw [List.length_map]; omega), List.map_take]
    · rw [cut_from (p := p + 1) (by omega) (by rw [List.length_map]; omega), List.map_drop]
    · rw [List.length_map, List.length_map, List.length_take, List.length_drop]; omega
    · unfold eM othersT
      rw [List.map_append]
    refine as_seq (S1 := [.dat (eM rows), .dat (eL right), .dat (eM u), .un, .un, .dat (.int (i : Int)), .dat (.int (p : Int)), .dat (eL (leadT u i p)), .dat (eM (othersT u p)), .dat (eM (restT u i p))]) (as_asg (ae_is (d := .lst ((othersT u p).map fun r => eL (clearR r (leadT u i p) i))) (ae_lcM (l := [3]) (xs := othersT u p) (enc := eL) (ai_list (ae_var rfl)) (fun r => eL (clearR r (leadT u i p) i)) (by simp) (by omega) fun r hr => ⟨_, ag_name, ?_⟩) ?_)) ?_
    · have hr2 := others_mem hr
      have hrl2 := g.sh.row r hr2
      exact ae_call0 (ds := [eL r, eL (leadT u i p), .int (i : Int)]) (aa_cons (ae_var rfl) (aa_cons (ae_var rfl) (aa_cons (ae_var rfl) aa_nil))) rfl (R_cleared_mk (bl r hr2) bll (by rw [hrl2, hll]) (by omega) (by omega))
    · unfold eM restT
      rw [List.map_map]
      rfl
    have hrest : (restT u i p).length = n - 1 := by unfold restT; rw [List.length_map, hol]
    refine as_asg (ae_is (ae_lst (aa_star (as := ((restT u i p).take i).map eL) ?_ (aa_cons (d := eL (leadT u i p)) (ae_var rfl) (aa_star (as := ((restT u i p).drop i).map eL) ?_ aa_nil))) ?_) ?_)
    · refine ae_is (ae_slL (ds := (restT u i p).map eL) (lo := none) (hi := some (i : Int)) (ae_var rfl) ao_none (ao_some (ae_var rfl))) ?_
      rw [cut_to (by rw [List.length_map]; omega), List.map_take]
    · refine ae_is (ae_slL (ds := (restT u i p).map eL) (lo := some (i : Int)) (hi := none) (ae_var rfl) (ao_some (ae_var rfl)) ao_none) ?_
      rw [cut_from (p := i) rfl (by rw [List.length_map]; omega), List.map_drop]
    · rw [List.length_append, List.length_cons, List.length_append, List.length_map, List.length_map, List.length_take, List.length_drop]
      show _ + (_ + 0 + 1) ≤ 100000
      omega
    · rw [List.append_nil]
      unfold eM stepT
      rw [List.map_append, List.map_cons]
  have hst : ∀ m, (∀ i, i ≤ m → ∃ v, gj t i = some v) → ∀ i, i ≤ m → gj t i = some ((gj t i).getD []) := fun m h i hi => by
    obtain ⟨v, hv⟩ := h i hi
    rw [hv]
    rfl
  cases e : gj t n with
  | some u =>
    have st := hst n (fun i hi => gj_mono e i hi)
    have g := ok n (Nat.le_refl n) u e
    refine ⟨.rt (eL (lastC n u)), by unfold solveR; rw [e]; rfl, ?_⟩
    refine as_seq (S1 := [.dat (eM rows), .dat (eL right), .dat (eM t), .un, .un, .un, .un, .un, .un, .un]) (as_asg first) ?_
    refine as_seq (as_forAll (l := [5]) hai (fun i => [.dat (eM rows), .dat (eL right), .dat (eM ((gj t i).getD [])), .un, .un, .un, .un, .un, .un, .un]) rfl fun i x hx => ?_) ?_
    · obtain ⟨h1, rfl⟩ := hx1 i x hx
      obtain ⟨p, ht⟩ := turn i _ _ h1 (st i (by omega)) (st (i + 1) (by omega))
      exact ⟨_, _, ag_name, ht, by walk_at "fg"⟩
    · rw [List.length_map, List.length_range, e]
      show AS _ _ _ [.dat (eM rows), .dat (eL right), .dat (eM u), .un, .un, .un, .un, .un, .un, .un] _
      refine as_ret (ae_is (d := .lst (u.map fun r => eQ (r.getD n 0))) (ae_lcM (l := [3]) (xs := u) (enc := eL) (ai_list (ae_var rfl)) (fun r => eQ (r.getD n 0)) (by simp) (by rw [g.sh.len]; omega) fun r hr => ⟨_, ag_name, ?_⟩) ?_)
      · have hrl2 := g.sh.row r hr
        refine ae_op (d1 := eL r) (d2 := .int (-1)) (ae_var rfl) (by walk_at "ev") (ro_ixsL (atI_mapQ ?_))
        rw [atI_last hrl2, getD_get]
      · unfold eL lastC
        rw [List.map_map]
        congr 1
        apply List.ext_getElem
        · rw [List.length_map, List.length_map, List.length_range, g.sh.len]
        · intro i h1 h2
          rw [List.length_map] at h1
          simp only [List.getElem_map, List.getElem_range, Function.comp]
          have e2 : u.getD i [] = u[i] := by simp [List.getD_eq_getElem?_getD, List.getElem?_eq_getElem, h1]
          unfold En
          rw [e2]
  | none =>
    obtain ⟨m, u, hm, hu, hl0⟩ := gj_first e
    have st := hst m (fun i hi => gj_mono hu i hi)
    have g := ok m (by omega) u hu
    have hum : (gj t m).getD [] = u := by rw [hu]; rfl
    refine ⟨.ex (.ref T.C_Singular) [.dat (eM rows), .dat (eL right), .dat (eM u), .un, .un, .dat (.int (m : Int)), .un, .un, .un, .un], by unfold solveR; rw [e]; rfl, ?_⟩
    refine as_seq (S1 := [.dat (eM rows), .dat (eL right), .dat (eM t), .un, .un, .un, .un, .un, .un, .un]) (as_asg first) ?_
    refine as_stop (as_for (l := [5]) hai m (fun i => [.dat (eM rows), .dat (eL right), .dat (eM ((gj t i).getD [])), .un, .un, .un, .un, .un, .un, .un]) rfl (fun i x hi hx => ?_) (.inr ⟨.int (m : Int), _, .ex (.ref T.C_Singular) [.dat (eM rows), .dat (eL right), .dat (eM u), .un, .un, .dat (.int (m : Int)), .un, .un, .un, .un], ?_, ag_name, ?_, rfl⟩)) (fun _ z => nomatch z)
    · obtain ⟨h1, rfl⟩ := hx1 i x hx
      obtain ⟨p, ht⟩ := turn i _ _ h1 (st i (by omega)) (st (i + 1) (by omega))
      exact ⟨_, _, ag_name, ht, by walk_at "fg"⟩
    · rw [List.getElem?_map, List.getElem?_range hm]
      show some (RD.int (0 + (m : Int))) = _
      rw [Int.zero_add]
    · simp only [hum]
      exact as_stop (as_asgX (ax_callS (ds := [eM u, .int (m : Int)]) (aa_cons (ae_var rfl) (aa_cons (ae_var rfl) aa_nil)) rfl (R_lead_place_exc g.sh (by omega) (by omega) (by omega) hl0))) (fun _ z => nomatch z)
/-! ### law -/
def R_law (ds : List RD) (r : Res) : Prop := ∃ ns : List Int, ds = [.scr ns] ∧ ns.length ≤ 100 ∧ r = .ok (.bl true)
def ownM (ns : List Int) (n : Nat) : List (List Rat) := (List.range n).map fun k => ((rowsQ ns 4 n n).getD k []).set k (ownQ ((rowsQ ns 4 n n).getD k []) k (lawCell ns (41 + k)))
theorem getD_mapR {f : Nat → List Rat} {n i : Nat} (h : i < n) : ((List.range n).map f).getD i [] = f i := by
  simp [List.getD_eq_getElem?_getD, List.getElem?_range, h]
theorem mem_set {row : List Rat} {k : Nat} {v q : Rat} (h : q ∈ row.set k v) : q ∈ row ∨ q = v := List.mem_or_eq_of_mem_set h
theorem ownM_get {ns : List Int} {n i : Nat} (h : i < n) : (ownM ns n).getD i [] = ((rowsQ ns 4 n n).getD i []).set i (ownQ ((rowsQ ns 4 n n).getD i []) i (lawCell ns (41 + i))) := getD_mapR h
theorem ownM_sh (ns : List Int) (n : Nat) : Sh n n (ownM ns n) := ⟨by unfold ownM; rw [List.length_map, List.length_range], fun r hr => by
  obtain ⟨k, hk, rfl⟩ := List.mem_map.mp hr
  rw [List.length_set]
  exact ((rowsQ_sh ns 4 n).get (List.mem_range.mp hk)).2⟩
theorem ownM_e25 {ns : List Int} {n : Nat} (hn : n ≤ 6) {r : List Rat} (hr : r ∈ ownM ns n) : ∀ q ∈ r, E25 131071 q := by
  obtain ⟨k, hk, rfl⟩ := List.mem_map.mp hr
  have hg := (rowsQ_sh ns 4 n).get (List.mem_range.mp hk)
  have he := rowsQ_e25 hg.1
  intro q hq
  rcases mem_set hq with h | rfl
  · exact (he q h).mono (by decide)
  · exact ownQ_e25 _ he (by rw [hg.2]; exact hn)
theorem ownM_dom (ns : List Int) (n : Nat) : domB n (ownM ns n) = true := by
  unfold domB
  rw [List.all_eq_true]
  intro i hi
  have hi2 := List.mem_range.mp hi
  have hg := (rowsQ_sh ns 4 n).get hi2
  apply decide_eq_true
  have h := ownQ_abs ((rowsQ ns 4 n n).getD i []) i (lawCell ns (41 + i))
  unfold En
  rw [ownM_get hi2, off_set, get_set (by rw [hg.2]; exact hi2)]
  rw [hg.2] at h
  exact h
theorem weakM_sh {n : Nat} {rows : List (List Rat)} (h : Sh n n rows) (h0 : 0 < n) (c : Int) : Sh n n (weakM rows n c) := by
  refine ⟨by unfold weakM; rw [List.length_set, h.len], fun r hr => ?_⟩
  unfold weakM at hr
  rcases List.mem_or_eq_of_mem_set hr with h1 | rfl
  · exact h.row r h1
  · unfold weakRow
    rw [List.length_set]
    exact (h.get (wkAt_lt h0 c).1).2
theorem weakM_bt {n : Nat} {rows : List (List Rat)} (h : Sh n n rows) (h0 : 0 < n) (h6 : n ≤ 6) (he : ∀ r ∈ rows, ∀ q ∈ r, E25 131071 q) (c : Int) : BM 24 (weakM rows n c) := by
  intro r hr
  unfold weakM at hr
  rcases List.mem_or_eq_of_mem_set hr with h1 | rfl
  · exact (cd_e25 (he r h1)).bl.mono (by decide)
  · have hg := h.get (wkAt_lt h0 c).1
    intro q hq
    unfold weakRow at hq
    rcases mem_set hq with h2 | rfl
    · exact (bt_e25 (he _ hg.1 q h2)).mono (by decide)
    · exact wkQ_bt ((e25_off (he _ hg.1) n (by rw [hg.2]; exact Nat.le_refl _)).mono (Nat.mul_le_mul_right _ h6))
theorem weakM_dom {n : Nat} {rows : List (List Rat)} (h : Sh n n rows) (h0 : 0 < n) (c : Int) : domB n (weakM rows n c) = false := by
  cases e : domB n (weakM rows n c) with
  | false => rfl
  | true =>
    exfalso
    have hk := (wkAt_lt h0 c).1
    have hg := h.get hk
    have hlt := domB_at e hk
    have e1 : (weakM rows n c).getD (wkAt n c) [] = weakRow rows n c := by
      unfold weakM
      rw [List.getD_eq_getElem?_getD, List.getElem?_set_self (by rw [h.len]; exact hk)]
      rfl
    unfold En at hlt
    rw [e1] at hlt
    unfold weakRow at hlt
    rw [off_set, get_set (by rw [hg.2]; exact hk)] at hlt
    have := wkQ_le (c := c) (offI_nonneg (rows.getD (wkAt n c) []) (wkAt n c) n)
    grind
theorem bits17 : ∀ i, i ≤ 6 → bitsG 17 i ≤ 1151 := by decide
def rightQ (ns : List Int) (n : Nat) : List Rat := (List.range n).map fun k => smallQ (lawCell ns (48 + k))
theorem rightQ_len (ns : List Int) (n : Nat) : (rightQ ns n).length = n := by unfold rightQ; rw [List.length_map, List.length_range]
theorem rightQ_e25 {ns : List Int} {n : Nat} : ∀ q ∈ rightQ ns n, E25 15120 q := fun q hq => by
  obtain ⟨k, _, rfl⟩ := List.mem_map.mp hq
  exact small_e25 _
theorem aug_e25 {rows : List (List Rat)} {right : List Rat} (h : ∀ r ∈ rows, ∀ q ∈ r, E25 131071 q) (k : ∀ q ∈ right, E25 131071 q) : ∀ r ∈ augT rows right, ∀ q ∈ r, E25 131071 q := fun r hr q hq => by
  obtain ⟨p, hp, rfl⟩ := List.mem_map.mp hr
  rw [List.mem_append] at hq
  rcases hq with h1 | h1
  · exact h _ (List.of_mem_zip hp).1 q h1
  · rw [List.mem_singleton] at h1
    rw [h1]
    exact k _ (List.of_mem_zip hp).2
def partQ (s : Rat) : Rat := if s.num = 0 then ⟨5, 3, by decide, by decide⟩ else s
theorem partQ_bt {s : Rat} (h : Bt 4 s) : Bt 4 (partQ s) := by
  unfold partQ
  split
  · exact ⟨.of (by show (5 : Int).natAbs < 2 ^ 4; decide), .of (by show (3 : Int).natAbs < 2 ^ 4; decide)⟩
  · exact h
theorem partQ_ne (s : Rat) : partQ s ≠ 0 := by
  unfold partQ
  split
  · decide
  · rename_i h
    exact fun z => h (Rat.num_eq_zero.mpr z)
theorem ok_law (T : Txt K mg) : RunG P w K mg base (L2.CX P w) 5 T.a_law T.fd_law ["script"] (spF K 1 R_law) := by
  refine runG_ok T.F_law sc_law (spF_len rfl) (fun cdv A outer s H vs Q E hg hr h => ?_)
  refine ⟨_, (pss_cons (ps_set (i := 1) sc_law.nd rfl (Or.inl rfl) (pe_op op_add pe_int (pe_op op_mod (pe_call (ok_law_cell T) (hr.mono (by decide)) rfl T.g_law_cell T.F_law_cell.kp T.b_law_cell .nil passL (pa_cons (pv 0) (pa_cons pe_int pa_nil))) pe_int)))
      (pss_cons (ps_set (i := 2) sc_law.nd rfl (Or.inr rfl) (pe_call (ok_law_rows T) (hr.mono (by decide)) rfl T.g_law_rows T.F_law_rows.kp T.b_law_rows .nil passL (pa_cons (pv 0) (pa_cons pe_int (pa_cons (pv 1) pa_nil)))))
      (pss_cons (ps_set (i := 2) sc_law.nd rfl (Or.inr rfl) (pe_lc (own := [("k", 3)]) rfl sc_law.nd (pi_range1 rfl T.m_range (pa_cons (pv 1) pa_nil)) (blkOk_by (N := ["script", "count", "rows", "k", "right", "weak", "kept", "actual", "turn", "part", "turned", "one", "row", "turned_right", "twice"]) (sc := defScope s_law) (by decide +kernel)) (fun _ _ _ _ _ => (pg_name (i := 3) sc_law.nd rfl (Or.inl rfl))) (fun _ _ _ _ _ => pts_nil) (fun _ _ _ _ _ => (pe_call (ok_law_own T) (hr.mono (by decide)) rfl T.g_law_own T.F_law_own.kp T.b_law_own .nil passL (pa_cons (pe_ix (ix_seqK K rfl) (pv 2) (pv 3) (fun _ _ => rfl)) (pa_cons (pv 3) (pa_cons (pe_call (ok_law_cell T) (hr.mono (by decide)) rfl T.g_law_cell T.F_law_cell.kp T.b_law_cell .nil passL (pa_cons (pv 0) (pa_cons (pe_op op_add pe_int (pv 3)) pa_nil))) pa_nil)))))))
      (pss_cons (ps_setLc (i := 4) (own := [("k", 3)]) rfl sc_law.nd rfl rfl (sw_true rfl rfl rfl (by decide +kernel)) (pi_range1 rfl T.m_range (pa_cons (pv 1) pa_nil)) (blkOk_by (N := ["script", "count", "rows", "k", "right", "weak", "kept", "actual", "turn", "part", "turned", "one", "row", "turned_right", "twice"]) (sc := defScope s_law) (by decide +kernel)) (fun _ _ _ _ _ => (pg_name (i := 3) sc_law.nd rfl (Or.inl rfl))) (fun _ _ _ _ _ => pts_nil) (fun _ _ _ _ _ => (pe_call (ok_law_small T) (hr.mono (by decide)) rfl T.g_law_small T.F_law_small.kp T.b_law_small .nil passL (pa_cons (pe_call (ok_law_cell T) (hr.mono (by decide)) rfl T.g_law_cell T.F_law_cell.kp T.b_law_cell .nil passL (pa_cons (pv 0) (pa_cons (pe_op op_add pe_int (pv 3)) pa_nil))) pa_nil))))
      (pss_cons (ps_set (i := 5) sc_law.nd rfl (Or.inl rfl) (pe_call (ok_law_weak T) (hr.mono (by decide)) rfl T.g_law_weak T.F_law_weak.kp T.b_law_weak .nil passL (pa_cons (pv 2) (pa_cons (pe_call (ok_law_cell T) (hr.mono (by decide)) rfl T.g_law_cell T.F_law_cell.kp T.b_law_cell .nil passL (pa_cons (pv 0) (pa_cons pe_int pa_nil))) pa_nil))))
      (pss_cons (ps_set (i := 6) sc_law.nd rfl (Or.inl rfl) (pe_callB (call_reprK K rfl hg (room66 hr)) (by rfl) T.m_repr (by decide +kernel) (pa_cons (pe_lst (pa_cons (pv 2) (pa_cons (pv 5) (pa_cons (pv 4) pa_nil)))) pa_nil)))
      (pss_cons (ps_if (PW.pt (pw_or (pt_cmpR op_notBl (pe_call (ok_is_dominant T) (hr.mono (by decide)) rfl T.g_is_dominant T.F_is_dominant.kp T.b_is_dominant .nil passL (pa_cons (pv 2) pa_nil)) pe_bl (nomark _)) (pw_or1 (pt_cmpR op_notBl (pe_call (ok_is_dominant T) (hr.mono (by decide)) rfl T.g_is_dominant T.F_is_dominant.kp T.b_is_dominant .nil passL (pa_cons (pv 5) pa_nil)) pe_bl (nomark _))))) (pss_one (ps_ret pe_bl)) pss_nil)
      (pss_cons (ps_set (i := 7) sc_law.nd rfl (Or.inl rfl) (pe_call (ok_solve T) (hr.mono (by decide)) rfl T.g_solve T.F_solve.kp T.b_solve .nil passL (pa_cons (pv 2) (pa_cons (pv 4) pa_nil))))
      (pss_cons (ps_if (pt_cmpR op_ne (pe_callB (call_reprK K rfl hg (room66 hr)) (by rfl) T.m_repr (by decide +kernel) (pa_cons (pe_lst (pa_cons (pv 2) (pa_cons (pv 5) (pa_cons (pv 4) pa_nil)))) pa_nil)) (pv 6) (nomark _)) (pss_one (ps_ret pe_bl)) pss_nil)
      (pss_cons (ps_if (PW.pt (pw_or (pt_not (pt_val (pe_callB (call_isiK' K rfl) (by rfl) T.m_isinstance (by decide +kernel) (pa_cons (pv 7) (pa_cons (pe_bltn (v := .ty "list") (by rfl) T.m_list (by decide +kernel) rfl) pa_nil))))) (pw_or (pt_cmpR op_ne (pe_callB (call_lenK K rfl) (by rfl) T.m_len (by decide +kernel) (pa_cons (pv 7) pa_nil)) (pv 1) (nomark _)) (pw_or1 (pt_cmpR (op_neDK K rfl hr.units) (pe_call (ok_law_product T) (hr.mono (by decide)) rfl T.g_law_product T.F_law_product.kp T.b_law_product .nil passL (pa_cons (pv 2) (pa_cons (pv 7) pa_nil))) (pv 4) (nomark _)))))) (pss_one (ps_ret pe_bl)) pss_nil)
      (pss_cons (ps_if (pt_cmpR (op_neDK K rfl hr.units) (pe_call (ok_product T) (hr.mono (by decide)) rfl T.g_product T.F_product.kp T.b_product .nil passL (pa_cons (pv 2) (pa_cons (pv 7) pa_nil))) (pv 4) (nomark _)) (pss_one (ps_ret pe_bl)) pss_nil)
      (pss_cons (ps_set (i := 8) sc_law.nd rfl (Or.inl rfl) (pe_op op_mod (pe_call (ok_law_cell T) (hr.mono (by decide)) rfl T.g_law_cell T.F_law_cell.kp T.b_law_cell .nil passL (pa_cons (pv 0) (pa_cons pe_int pa_nil))) (pv 1)))
      (pss_cons (ps_set (i := 9) sc_law.nd rfl (Or.inr rfl) (pe_call (ok_law_small T) (hr.mono (by decide)) rfl T.g_law_small T.F_law_small.kp T.b_law_small .nil passL (pa_cons (pe_call (ok_law_cell T) (hr.mono (by decide)) rfl T.g_law_cell T.F_law_cell.kp T.b_law_cell .nil passL (pa_cons (pv 0) (pa_cons pe_int pa_nil))) pa_nil)))
      (pss_cons (ps_if (pt_cmpR op_eq (pe_ix (ix_seqK K rfl) (pv 9) pe_int (fun _ _ => rfl)) pe_int (nomark _)) (pss_one (ps_set (i := 9) sc_law.nd rfl (Or.inr rfl) (pe_tup (pa_cons pe_int (pa_cons pe_int pa_nil))))) pss_nil)
      (pss_cons (ps_setLc (i := 10) (own := [("row", 12)]) rfl sc_law.nd rfl rfl (sw_true rfl rfl rfl (by decide +kernel)) (pi_listK K rfl (pe_op op_cat (pe_slice (sl_listK K rfl) (pv 2) (po_some (pv 8)) po_none) (pe_slice (sl_listK K rfl) (pv 2) po_none (po_some (pv 8))))) (blkOk_by (N := ["script", "count", "rows", "k", "right", "weak", "kept", "actual", "turn", "part", "turned", "one", "row", "turned_right", "twice"]) (sc := defScope s_law) (by decide +kernel)) (fun _ _ _ _ _ => (pg_name (i := 12) sc_law.nd rfl (Or.inl rfl))) (fun _ _ _ _ _ => pts_nil) (fun _ _ _ _ _ => (pe_lc (own := [("one", 11)]) rfl sc_law.nd (pi_listK K rfl (pv 12)) (blkOk_by (N := ["script", "count", "rows", "k", "right", "weak", "kept", "actual", "turn", "part", "turned", "one", "row", "turned_right", "twice"]) (sc := (relS ({
                    kind := PySem.ScopeKind.function,
                    names := [
                      (PySem.Str.ofString ".0", PySem.NameKind.local),
                      (PySem.Str.ofString "row", PySem.NameKind.local),
                      (PySem.Str.ofString "part", PySem.NameKind.free)],
                    isGenerator := false,
                    isCoroutine := false,
                    more := [] : PySem.Scope }) (defScope s_law))) (by decide +kernel)) (fun _ _ _ _ _ => (pg_name (i := 11) sc_law.nd rfl (Or.inl rfl))) (fun _ _ _ _ _ => pts_nil) (fun _ _ _ _ _ => (pe_call (ok_law_times T) (hr.mono (by decide)) rfl T.g_law_times T.F_law_times.kp T.b_law_times .nil passL (pa_cons (pv 9) (pa_cons (pv 11) pa_nil)))))))
      (pss_cons (ps_setLc (i := 13) (own := [("one", 11)]) rfl sc_law.nd rfl rfl (sw_true rfl rfl rfl (by decide +kernel)) (pi_listK K rfl (pe_op op_cat (pe_slice (sl_listK K rfl) (pv 4) (po_some (pv 8)) po_none) (pe_slice (sl_listK K rfl) (pv 4) po_none (po_some (pv 8))))) (blkOk_by (N := ["script", "count", "rows", "k", "right", "weak", "kept", "actual", "turn", "part", "turned", "one", "row", "turned_right", "twice"]) (sc := defScope s_law) (by decide +kernel)) (fun _ _ _ _ _ => (pg_name (i := 11) sc_law.nd rfl (Or.inl rfl))) (fun _ _ _ _ _ => pts_nil) (fun _ _ _ _ _ => (pe_call (ok_law_times T) (hr.mono (by decide)) rfl T.g_law_times T.F_law_times.kp T.b_law_times .nil passL (pa_cons (pv 9) (pa_cons (pv 11) pa_nil)))))
      (pss_cons (ps_if (pt_cmpR (op_neDK K rfl hr.units) (pe_call (ok_solve T) (hr.mono (by decide)) rfl T.g_solve T.F_solve.kp T.b_solve .nil passL (pa_cons (pv 10) (pa_cons (pv 13) pa_nil))) (pv 7) (nomark _)) (pss_one (ps_ret pe_bl)) pss_nil)
      (pss_cons (ps_set (i := 14) sc_law.nd rfl (Or.inl rfl) (pe_call (ok_solve T) (hr.mono (by decide)) rfl T.g_solve T.F_solve.kp T.b_solve .nil passL (pa_cons (pv 2) (pa_cons (pe_lc (own := [("one", 11)]) rfl sc_law.nd (pi_listK K rfl (pv 4)) (blkOk_by (N := ["script", "count", "rows", "k", "right", "weak", "kept", "actual", "turn", "part", "turned", "one", "row", "turned_right", "twice"]) (sc := defScope s_law) (by decide +kernel)) (fun _ _ _ _ _ => (pg_name (i := 11) sc_law.nd rfl (Or.inl rfl))) (fun _ _ _ _ _ => pts_nil) (fun _ _ _ _ _ => (pe_call (ok_law_times T) (hr.mono (by decide)) rfl T.g_law_times T.F_law_times.kp T.b_law_times .nil passL (pa_cons (pe_tup (pa_cons pe_int (pa_cons pe_int pa_nil))) (pa_cons (pv 11) pa_nil))))) pa_nil))))
      (pss_one (ps_ret (pe_and (pe_cmpR (op_eqDK K rfl hr.units) (pv 14) (pe_lc (own := [("one", 11)]) rfl sc_law.nd (pi_listK K rfl (pv 7)) (blkOk_by (N := ["script", "count", "rows", "k", "right", "weak", "kept", "actual", "turn", "part", "turned", "one", "row", "turned_right", "twice"]) (sc := defScope s_law) (by decide +kernel)) (fun _ _ _ _ _ => (pg_name (i := 11) sc_law.nd rfl (Or.inl rfl))) (fun _ _ _ _ _ => pts_nil) (fun _ _ _ _ _ => (pe_call (ok_law_times T) (hr.mono (by decide)) rfl T.g_law_times T.F_law_times.kp T.b_law_times .nil passL (pa_cons (pe_tup (pa_cons pe_int (pa_cons pe_int pa_nil))) (pa_cons (pv 11) pa_nil))))) (nomark _)) (pe_one (pe_cmpR op_eq (pe_callB (call_reprK K rfl hg (room66 hr)) (by rfl) T.m_repr (by decide +kernel) (pa_cons (pe_lst (pa_cons (pv 2) (pa_cons (pv 5) (pa_cons (pv 4) pa_nil)))) pa_nil)) (pv 6) (nomark _)))))))))))))))))))))))), ?_⟩
  refine body_run h (fun ds r hl hR => ?_)
  obtain ⟨ns, rfl, hns, rfl⟩ := hR
  refine ⟨.rt (.bl true), rfl, ?_⟩
  obtain ⟨n, hn⟩ : ∃ n : Nat, 1 + lawCell ns 0 % 6 = (n : Int) := ⟨(1 + lawCell ns 0 % 6).toNat, by omega⟩
  have h0 : 0 < n := by omega
  have h6 : n ≤ 6 := by omega
  refine as_seq (S1 := [.dat (.scr ns), .dat (.int n), .un, .un, .un, .un, .un, .un, .un, .un, .un, .un, .un, .un, .un]) (as_asg (ae_is (d := .int (1 + lawCell ns 0 % 6)) (by walk_at "ev") (by rw [hn]))) ?_
  refine as_seq (S1 := [.dat (.scr ns), .dat (.int n), .dat (eM (rowsQ ns 4 n n)), .un, .un, .un, .un, .un, .un, .un, .un, .un, .un, .un, .un]) (as_asg (ae_call0 (ds := [.scr ns, .int ((4 : Nat) : Int), .int (n : Int)]) (aa_cons (ae_var rfl) (aa_cons (ae_is (d := .int 4) ae_int rfl) (aa_cons (ae_var rfl) aa_nil))) rfl (R_law_rows_mk hns (by decide) h6))) ?_
  refine as_seq (S1 := [.dat (.scr ns), .dat (.int n), .dat (eM (ownM ns n)), .un, .un, .un, .un, .un, .un, .un, .un, .un, .un, .un, .un]) (as_asg ?_) ?_
  · refine ae_is (d := .lst ((List.range n).map fun k => eL (((rowsQ ns 4 n n).getD k []).set k (ownQ ((rowsQ ns 4 n n).getD k []) k (lawCell ns (41 + k)))))) (ae_lcM (l := [3]) (xs := List.range n) (enc := fun (k : Nat) => .int (0 + (k : Int))) (ai_is (ai_range1 (j := (n : Int)) (by walk_at "ev") (by omega)) rfl) (fun k => eL (((rowsQ ns 4 n n).getD k []).set k (ownQ ((rowsQ ns 4 n n).getD k []) k (lawCell ns (41 + k))))) (by simp) (by simp; omega) fun k hk => ⟨_, ag_name, ?_⟩) (by unfold eM ownM; rw [List.map_map]; rfl)
    have hk2 := List.mem_range.mp hk
    have hg := (rowsQ_sh ns 4 n).get hk2
    have hb : BL 4 ((rowsQ ns 4 n n).getD k []) := fun q hq => by
      obtain ⟨i, _, e⟩ := List.mem_map.mp hg.1
      rw [← e] at hq
      obtain ⟨j, _, rfl⟩ := List.mem_map.mp hq
      exact smallQ_bt _
    refine ae_call0 (ds := [eL ((rowsQ ns 4 n n).getD k []), .int (k : Int), .int (lawCell ns (41 + k))]) (aa_cons (ae_row (rowsQ_sh ns 4 n) hk2 (ae_var rfl) (ae_is (d := .int (0 + (k : Int))) (ae_var rfl) (by rw [Int.zero_add]))) (aa_cons (ae_is (d := .int (0 + (k : Int))) (ae_var rfl) (by rw [Int.zero_add])) (aa_cons (ae_call0 (ds := [.scr ns, .int (41 + (0 + (k : Int)))]) (by walk_at "ev") rfl (R_law_cell_mk hns (41 + k) (by omega) (by omega))) aa_nil))) rfl (R_law_own_mk hb (by rw [hg.2]; exact hk2) (by rw [hg.2]; exact h6))
  have sh := ownM_sh ns n
  have he := fun r (hr : r ∈ ownM ns n) => ownM_e25 h6 hr
  have hd := ownM_dom ns n
  generalize ownM ns n = rows at sh he hd ⊢
  refine as_seq (S1 := [.dat (.scr ns), .dat (.int n), .dat (eM rows), .un, .dat (eL (rightQ ns n)), .un, .un, .un, .un, .un, .un, .un, .un, .un, .un]) (as_asg ?_) ?_
  · refine ae_is (d := .lst ((List.range n).map fun k => eQ (smallQ (lawCell ns (48 + k))))) (ae_lcM (l := [3]) (xs := List.range n) (enc := fun (k : Nat) => .int (0 + (k : Int))) (ai_is (ai_range1 (j := (n : Int)) (by walk_at "ev") (by omega)) rfl) (fun k => eQ (smallQ (lawCell ns (48 + k)))) (by simp) (by simp; omega) fun k hk => ⟨_, ag_name, ?_⟩) (by unfold eL rightQ; rw [List.map_map]; rfl)
    have hk2 := List.mem_range.mp hk
    exact ae_call0 (ds := [.int (lawCell ns (48 + k))]) (aa_cons (ae_call0 (ds := [.scr ns, .int (48 + (0 + (k : Int)))]) (by walk_at "ev") rfl (R_law_cell_mk hns (48 + k) (by omega) (by omega))) aa_nil) rfl R_law_small_mk
  have hrl := rightQ_len ns n
  have hre := fun q hq => rightQ_e25 (ns := ns) (n := n) q hq
  generalize rightQ ns n = right at hrl hre ⊢
  have hre2 : ∀ q ∈ right, E25 131071 q := fun q hq => (hre q hq).mono (by decide)
  refine as_seq (S1 := [.dat (.scr ns), .dat (.int n), .dat (eM rows), .un, .dat (eL right), .dat (eM (weakM rows n (lawCell ns 1))), .un, .un, .un, .un, .un, .un, .un, .un, .un]) (as_asg (ae_call0 (ds := [eM rows, .int (lawCell ns 1)]) (aa_cons (ae_var rfl) (aa_cons (ae_call0 (ds := [.scr ns, .int 1]) (by walk_at "ev") rfl (R_law_cell_mk hns 1 rfl (by decide))) aa_nil)) rfl (R_law_weak_mk sh h0 h6 he))) ?_
  have wsh := weakM_sh sh h0 (lawCell ns 1)
  have wbt := weakM_bt sh h0 h6 he (lawCell ns 1)
  have wd := weakM_dom sh h0 (lawCell ns 1)
  generalize weakM rows n (lawCell ns 1) = weak at wsh wbt wd ⊢
  have rbt : BM 24 rows := fun r hr => (cd_e25 (he r hr)).bl.mono (by decide)
  have rrl : BL 24 right := (cd_e25 hre2).bl.mono (by decide)
  have hrep : Rep 100000 4 (.list [pM rows, pM weak, pL right]) := by
    have hl1 : ∀ r ∈ rows, r.length ≤ 6 := fun r hr => by rw [sh.row r hr]; exact h6
    have hl2 : ∀ r ∈ weak, r.length ≤ 6 := fun r hr => by rw [wsh.row r hr]; exact h6
    refine (rep_lst (W := 6 * (6 * 81 + 1)) (D := 3) (ps := [pM rows, pM weak, pL right]) fun p hp => ?_).mono (Nat.le_of_ble_eq_true rfl) (by decide)
    simp only [List.mem_cons, List.not_mem_nil, or_false] at hp
    rcases hp with rfl | rfl | rfl
    · exact rep_pM (fun r hr => (rbt r hr).mono (by decide)) hl1 (by rw [sh.len]; exact h6)
    · exact rep_pM (fun r hr => (wbt r hr).mono (by decide)) hl2 (by rw [wsh.len]; exact h6)
    · exact (rep_pL (n := 6) (rrl.mono (by decide)) (by rw [hrl]; exact h6)).mono (by decide) (by decide)
  have hpy : RD.py (.lst [eM rows, eM weak, eL right]) = some (.list [pM rows, pM weak, pL right]) := by
    show (RD.pys [eM rows, eM weak, eL right]).map _ = _
    simp only [RD.pys, eM_py, eL_py]
    rfl
  generalize hP : PyData.list [pM rows, pM weak, pL right] = P0 at hrep hpy
  have hrr : RC K (rRepr K) [.lst [eM rows, eM weak, eL right]] (.str P0.shown) := rc_repr hpy hrep (by decide) (by decide)
  refine as_seq (S1 := [.dat (.scr ns), .dat (.int n), .dat (eM rows), .un, .dat (eL right), .dat (eM weak), .dat (.str P0.shown), .un, .un, .un, .un, .un, .un, .un, .un]) (as_asg (ae_cb (ds := [.lst [eM rows, eM weak, eL right]]) (aa_cons (ae_lst (aa_cons (ae_var rfl) (aa_cons (ae_var rfl) (aa_cons (ae_var rfl) aa_nil))) (Nat.le_of_ble_eq_true rfl)) aa_nil) hrr)) ?_
  generalize P0.shown = T0 at hrr ⊢
  refine as_when (b := false) (at_is (a := (!decide (true = true)) || (!decide (false = false))) (at_or ?_ (fun _ => ?_)) rfl) (fun z => nomatch z) (fun _ => ?_)
  · refine at_test (ae_op (d1 := .bl true) (d2 := .bl true) (ae_call0 (ds := [eM rows]) (aa_cons (ae_var rfl) aa_nil) rfl ?_) ae_bl ro_notB)
    rw [← hd]
    exact R_is_dominant_mk sh (by omega) (fun r hr => (rbt r hr).mono (by decide))
  · refine at_test (ae_op (d1 := .bl false) (d2 := .bl false) (ae_call0 (ds := [eM weak]) (aa_cons (ae_var rfl) aa_nil) rfl ?_) ae_bl ro_notB)
    rw [← wd]
    exact R_is_dominant_mk wsh (by omega) (fun r hr => (wbt r hr).mono (by decide))
  have acd : ∀ r ∈ augT rows right, CD 17 r := fun r hr => cd_e25 (aug_e25 he hre2 r hr)
  have hker := dom_ker0 sh hd
  obtain ⟨u, eg, g, uniq⟩ := solve_ex sh hrl acd hker
  have xlen := lastC_len n u
  have xbl : BL 1151 (lastC n u) := fun q hq => by
    obtain ⟨i, hi, rfl⟩ := List.mem_map.mp hq
    have hg := g.sh.get (List.mem_range.mp hi)
    exact ((g.cd _ hg.1).bl _ (getD_mem (by rw [hg.2]; omega))).mono (bits17 n h6)
  have xs := (uniq _ xlen).mpr rfl
  have xz := (gj_sol g xlen).mpr rfl
  have hsol : R_solve T.C_Singular [eM rows, eL right] (.ok (eL (lastC n u))) := R_solve_ok ⟨h6, by decide, sh, hrl, acd⟩ eg
  generalize lastC n u = x at xlen xbl xs xz hsol
  have hprod : rows.map (fun row => dot row x) = right := by
    apply List.ext_getElem
    · rw [List.length_map, sh.len, hrl]
    · intro i h1 h2
      rw [List.length_map, sh.len] at h1
      have := xs i h1
      rw [getD_get h2] at this
      rw [List.getElem_map, ← this]
      congr 1
      simp [List.getD_eq_getElem?_getD, List.getElem?_eq_getElem, show i < rows.length by rw [sh.len]; exact h1]
  have hlr : ∀ row ∈ rows, row.length = x.length := fun row h => by rw [sh.row row h, xlen]
  refine as_seq (S1 := [.dat (.scr ns), .dat (.int n), .dat (eM rows), .un, .dat (eL right), .dat (eM weak), .dat (.str T0), .dat (eL x), .un, .un, .un, .un, .un, .un, .un]) (as_asg (ae_call0 (ds := [eM rows, eL right]) (aa_cons (ae_var rfl) (aa_cons (ae_var rfl) aa_nil)) rfl hsol)) ?_
  refine as_when (b := false) (at_is (at_test (ae_op (d1 := .str T0) (d2 := .str T0) (ae_cb (ds := [.lst [eM rows, eM weak, eL right]]) (aa_cons (ae_lst (aa_cons (ae_var rfl) (aa_cons (ae_var rfl) (aa_cons (ae_var rfl) aa_nil))) (Nat.le_of_ble_eq_true rfl)) aa_nil) hrr) (ae_var rfl) (ro_ne rfl rfl rfl))) (by simp)) (fun z => nomatch z) (fun _ => ?_)
  refine as_when (b := false) (at_is (a := (!true) || (false || false)) (at_or (at_not ?_) (fun _ => at_or ?_ (fun _ => ?_))) rfl) (fun z => nomatch z) (fun _ => ?_)
  · exact at_test (ae_cb (ds := [eL x, .ty "list"]) (aa_cons (ae_var rfl) (aa_cons ae_ty aa_nil)) (rc_isi rfl (by decide +kernel)))
  · refine at_test (b := false) (ae_is (ae_op (d1 := .int (n : Int)) (d2 := .int (n : Int)) (ae_is (ae_cb (ds := [eL x]) (aa_cons (ae_var rfl) aa_nil) rc_lenL) (by rw [List.length_map, xlen])) (ae_var rfl) (ro_ne rfl rfl rfl)) (by simp))
  · refine at_test (ae_op (d1 := eL right) (d2 := eL right) (ae_is (ae_call0 (ds := [eM rows, eL x]) (aa_cons (ae_var rfl) (aa_cons (ae_var rfl) aa_nil)) rfl (R_law_product_mk (by rw [sh.len]; omega) hlr rbt (xbl.mono (by decide)) (by rw [xlen]; exact h6))) (by rw [hprod])) (ae_var rfl) ro_neL)
  refine as_when (b := false) (at_test (ae_op (d1 := eL right) (d2 := eL right) (ae_is (ae_call0 (ds := [eM rows, eL x]) (aa_cons (ae_var rfl) (aa_cons (ae_var rfl) aa_nil)) rfl (R_product_mk (by rw [sh.len]; omega) hlr (fun r hr => (rbt r hr).mono (by decide)) (xbl.mono (by decide)) (by rw [xlen]; exact h6))) (by rw [hprod])) (ae_var rfl) ro_neL)) (fun z => nomatch z) (fun _ => ?_)
  obtain ⟨t, ht⟩ : ∃ t : Nat, lawCell ns 2 % (n : Int) = (t : Int) := ⟨(lawCell ns 2 % (n : Int)).toNat, by
    have := Int.emod_nonneg (lawCell ns 2) (show (n : Int) ≠ 0 by omega)
    omega⟩
  have htn : t < n := by
    have := Int.emod_lt_of_pos (lawCell ns 2) (show (0 : Int) < (n : Int) by omega)
    omega
  refine as_seq (S1 := [.dat (.scr ns), .dat (.int n), .dat (eM rows), .un, .dat (eL right), .dat (eM weak), .dat (.str T0), .dat (eL x), .dat (.int (t : Int)), .un, .un, .un, .un, .un, .un]) (as_asg (ae_is (d := .int (lawCell ns 2 % (n : Int))) ?_ (by rw [ht]))) ?_
  · walk_at "ev"
    show (0 : Int) < (n : Int)
    omega
  refine as_seq (S1 := [.dat (.scr ns), .dat (.int n), .dat (eM rows), .un, .dat (eL right), .dat (eM weak), .dat (.str T0), .dat (eL x), .dat (.int (t : Int)), .dat (eQ (smallQ (lawCell ns 3))), .un, .un, .un, .un, .un]) (as_asg (ae_call0 (ds := [.int (lawCell ns 3)]) (aa_cons (ae_call0 (ds := [.scr ns, .int 3]) (by walk_at "ev") rfl (R_law_cell_mk hns 3 rfl (by decide))) aa_nil) rfl R_law_small_mk)) ?_
  have sb := smallQ_bt (lawCell ns 3)
  generalize smallQ (lawCell ns 3) = s0 at sb ⊢
  refine as_ifset (b := decide (V.int s0.num = V.int 0)) (d := eQ (partQ s0)) (by walk_at "ev") (fun hb => ?_) (fun hb => ?_) ?_
  · unfold partQ
    rw [if_pos (V.int.inj (of_decide_eq_true hb))]
    exact ae_is (d := .tup [.int 5, .int 3]) (by walk_at "ev") rfl
  · unfold partQ
    rw [if_neg (fun z => of_decide_eq_false hb (by rw [z]))]
    rfl
  have pb := partQ_bt sb
  have pz := partQ_ne s0
  generalize partQ s0 = part at pb pz ⊢
  have hrot : ∀ {S : Sg}, S[2]? = some (.dat (eM rows)) → S[8]? = some (.dat (.int (t : Int))) → AE K (tOp rCat (tSl (rSlL K) (tVar 2) (tPart (tVar 8)) tNoPart) (tSl (rSlL K) (tVar 2) tNoPart (tPart (tVar 8)))) S (.lst ((rotT t rows).map eL)) := fun {S} s2 s8 => by
    refine ae_is (ae_op (d1 := .lst ((rows.drop t).map eL)) (d2 := .lst ((rows.take t).map eL)) (ae_is (ae_slL (ds := rows.map eL) (lo := some (t : Int)) (hi := none) (ae_var s2) (ao_some (ae_var s8)) ao_none) ?_) (ae_is (ae_slL (ds := rows.map eL) (lo := none) (hi := some (t : Int)) (ae_var s2) ao_none (ao_some (ae_var s8))) ?_) (ro_cat ?_)) ?_
    · rw [cut_from (p := t) rfl (by rw [List.length_map, sh.len]; omega), List.map_drop]
    · rw [cut_to (by rw [List.length_map, sh.len]; omega), List.map_take]
    · rw [List.length_map, List.length_map, List.length_take, List.length_drop, sh.len]; omega
    · unfold rotT; rw [List.map_append]
  have hrotR : ∀ {S : Sg}, S[4]? = some (.dat (eL right)) → S[8]? = some (.dat (.int (t : Int))) → AE K (tOp rCat (tSl (rSlL K) (tVar 4) (tPart (tVar 8)) tNoPart) (tSl (rSlL K) (tVar 4) tNoPart (tPart (tVar 8)))) S (.lst ((rotT t right).map eQ)) := fun {S} s2 s8 => by
    refine ae_is (ae_op (d1 := .lst ((right.drop t).map eQ)) (d2 := .lst ((right.take t).map eQ)) (ae_is (ae_slL (ds := right.map eQ) (lo := some (t : Int)) (hi := none) (ae_var s2) (ao_some (ae_var s8)) ao_none) ?_) (ae_is (ae_slL (ds := right.map eQ) (lo := none) (hi := some (t : Int)) (ae_var s2) ao_none (ao_some (ae_var s8))) ?_) (ro_cat ?_)) ?_
    · rw [cut_from (p := t) rfl (by rw [List.length_map, hrl]; omega), List.map_drop]
    · rw [cut_to (by rw [List.length_map, hrl]; omega), List.map_take]
    · rw [List.length_map, List.length_map, List.length_take, List.length_drop, hrl]; omega
    · unfold rotT; rw [List.map_append]
  have hrl2 : (rotT t rows).length = n := by rw [rotT_len, sh.len]
  have hrr2 : (rotT t right).length = n := by rw [rotT_len, hrl]
  refine as_seq (S1 := [.dat (.scr ns), .dat (.int n), .dat (eM rows), .un, .dat (eL right), .dat (eM weak), .dat (.str T0), .dat (eL x), .dat (.int (t : Int)), .dat (eQ part), .dat (eM ((rotT t rows).map (mulL part))), .un, .un, .un, .un]) (as_asg (ae_is (d := .lst ((rotT t rows).map fun row => eL (mulL part row))) (ae_lcM (l := [12]) (xs := rotT t rows) (enc := eL) (ai_list (hrot rfl rfl)) (fun row => eL (mulL part row)) (by simp) (by omega) fun row hrow => ⟨_, ag_name, ?_⟩) (by unfold eM; rw [List.map_map]; rfl))) ?_
  · have hr1 := rotT_mem.mp hrow
    refine ae_is (d := .lst (row.map fun v => eQ (part * v))) (ae_lcM (l := [11]) (xs := row) (enc := eQ) (ai_list (ae_var rfl)) (fun v => eQ (part * v)) (by simp) (by rw [sh.row row hr1]; omega) fun v hv => ⟨_, ag_name, ?_⟩) (by unfold eL mulL; rw [List.map_map]; rfl)
    exact ae_call0 (ds := [eQ part, eQ v]) (aa_cons (ae_var rfl) (aa_cons (ae_var rfl) aa_nil)) rfl (R_law_times_mk (pb.mono (by decide)) ((rbt row hr1 v hv).mono (by decide)))
  refine as_seq (S1 := [.dat (.scr ns), .dat (.int n), .dat (eM rows), .un, .dat (eL right), .dat (eM weak), .dat (.str T0), .dat (eL x), .dat (.int (t : Int)), .dat (eQ part), .dat (eM ((rotT t rows).map (mulL part))), .un, .un, .dat (eL (mulL part (rotT t right))), .un]) (as_asg (ae_is (d := .lst ((rotT t right).map fun v => eQ (part * v))) (ae_lcM (l := [11]) (xs := rotT t right) (enc := eQ) (ai_list (hrotR rfl rfl)) (fun v => eQ (part * v)) (by simp) (by omega) fun v hv => ⟨_, ag_name, ?_⟩) (by unfold eL mulL; rw [List.map_map]; rfl))) ?_
  · exact ae_call0 (ds := [eQ part, eQ v]) (aa_cons (ae_var rfl) (aa_cons (ae_var rfl) aa_nil)) rfl (R_law_times_mk (pb.mono (by decide)) ((rrl v (rotT_mem.mp hv)).mono (by decide)))
  have sh2 : Sh n n ((rotT t rows).map (mulL part)) := ⟨by rw [List.length_map]; exact hrl2, fun r hr => by
    obtain ⟨s, hs, rfl⟩ := List.mem_map.mp hr
    rw [mulL_len, sh.row s (rotT_mem.mp hs)]⟩
  have eaug := aug_turn (t := t) (p := part) (rows := rows) (right := right) (by rw [sh.len, hrl])
  have cd2 : ∀ r ∈ augT ((rotT t rows).map (mulL part)) (mulL part (rotT t right)), CD 21 r := fun r hr => by
    rw [eaug] at hr
    obtain ⟨s, hs, rfl⟩ := List.mem_map.mp hr
    exact cd_mulL (aug_e25 he hre2 s (rotT_mem.mp hs)) pb
  have ker2 : Ker0 n ((rotT t rows).map (mulL part)) := fun y hy hz => hker y hy fun r hr => by
    have := hz (mulL part r) (List.mem_map.mpr ⟨r, rotT_mem.mpr hr, rfl⟩)
    rw [dot_mulL] at this
    rcases Rat.mul_eq_zero.mp this with h | h
    · exact absurd h pz
    · exact h
  have hrm : (mulL part (rotT t right)).length = n := by rw [mulL_len]; exact hrr2
  obtain ⟨u2, eg2, g2, _⟩ := solve_ex sh2 hrm cd2 ker2
  have ex2 : x = lastC n u2 := (gj_sol g2 xlen).mp fun r hr => by
    rw [eaug] at hr
    obtain ⟨s, hs, rfl⟩ := List.mem_map.mp hr
    rw [dot_mulL, xz s (rotT_mem.mp hs)]
    grind
  have hsol2 : R_solve T.C_Singular [eM ((rotT t rows).map (mulL part)), eL (mulL part (rotT t right))] (.ok (eL x)) := by
    rw [ex2]
    exact R_solve_ok ⟨h6, by decide, sh2, hrm, cd2⟩ eg2
  refine as_when (b := false) (at_test (ae_op (d1 := eL x) (d2 := eL x) (ae_call0 (ds := [eM ((rotT t rows).map (mulL part)), eL (mulL part (rotT t right))]) (aa_cons (ae_var rfl) (aa_cons (ae_var rfl) aa_nil)) rfl hsol2) (ae_var rfl) ro_neL)) (fun z => nomatch z) (fun _ => ?_)
  have he3 : ∀ q ∈ mulL 2 right, E25 131071 q := fun q hq => by
    obtain ⟨v, hv, rfl⟩ := List.mem_map.mp hq
    have e : (2 : Rat) * v = v + v := by grind
    rw [e]
    exact ((hre v hv).add (hre v hv)).mono (by decide)
  have hr3 : (mulL 2 right).length = n := by rw [mulL_len]; exact hrl
  have cd3 : ∀ r ∈ augT rows (mulL 2 right), CD 17 r := fun r hr => cd_e25 (aug_e25 he he3 r hr)
  obtain ⟨u3, eg3, g3, uniq3⟩ := solve_ex sh hr3 cd3 hker
  have ex3 : mulL 2 x = lastC n u3 := (uniq3 _ (by rw [mulL_len, xlen])).mp fun i hi => by
    rw [dot_mulR, xs i hi, getD_mulL (by rw [hrl]; exact hi)]
  have hsol3 : R_solve T.C_Singular [eM rows, eL (mulL 2 right)] (.ok (eL (mulL 2 x))) := by
    rw [ex3]
    exact R_solve_ok ⟨h6, by decide, sh, hr3, cd3⟩ eg3
  have two : ∀ {S : Sg}, AE K (tTup (tCons (tC (.int 2)) (tCons (tC (.int 1)) tNil))) S (eQ 2) := fun {S} => ae_is (d := .tup [.int 2, .int 1]) (ae_tup (aa_cons ae_int (aa_cons ae_int aa_nil)) (Nat.le_of_ble_eq_true rfl)) rfl
  have twoB : Bt 4000 (2 : Rat) := ⟨Bd.mono (B := 2) (.of (by decide)) (by decide), one_bd (by decide)⟩
  refine as_seq (S1 := [.dat (.scr ns), .dat (.int n), .dat (eM rows), .un, .dat (eL right), .dat (eM weak), .dat (.str T0), .dat (eL x), .dat (.int (t : Int)), .dat (eQ part), .dat (eM ((rotT t rows).map (mulL part))), .un, .un, .dat (eL (mulL part (rotT t right))), .dat (eL (mulL 2 x))]) (as_asg (ae_call0 (ds := [eM rows, eL (mulL 2 right)]) (aa_cons (ae_var rfl) (aa_cons (ae_is (d := .lst (right.map fun v => eQ (2 * v))) (ae_lcM (l := [11]) (xs := right) (enc := eQ) (ai_list (ae_var rfl)) (fun v => eQ (2 * v)) (by simp) (by omega) fun v hv => ⟨_, ag_name, ?_⟩) (by unfold eL mulL; rw [List.map_map]; rfl)) aa_nil)) rfl hsol3)) ?_
  · exact ae_call0 (ds := [eQ 2, eQ v]) (aa_cons two (aa_cons (ae_var rfl) aa_nil)) rfl (R_law_times_mk twoB ((rrl v hv).mono (by decide)))
  refine as_ret (ae_is (ae_andV (a := true) (b := true) (ae_op (d1 := eL (mulL 2 x)) (d2 := eL (mulL 2 x)) (ae_var rfl) (ae_is (d := .lst (x.map fun v => eQ (2 * v))) (ae_lcM (l := [11]) (xs := x) (enc := eQ) (ai_list (ae_var rfl)) (fun v => eQ (2 * v)) (by simp) (by omega) fun v hv => ⟨_, ag_name, ?_⟩) (by unfold eL mulL; rw [List.map_map]; rfl)) ro_eqL) (fun _ => ae_is (ae_op (d1 := .str T0) (d2 := .str T0) (ae_cb (ds := [.lst [eM rows, eM weak, eL right]]) (aa_cons (ae_lst (aa_cons (ae_var rfl) (aa_cons (ae_var rfl) (aa_cons (ae_var rfl) aa_nil))) (Nat.le_of_ble_eq_true rfl)) aa_nil) hrr) (ae_var rfl) (ro_eq rfl rfl rfl)) (by simp))) rfl)
  exact ae_call0 (ds := [eQ 2, eQ v]) (aa_cons two (aa_cons (ae_var rfl) aa_nil)) rfl (R_law_times_mk twoB ((xbl v hv).mono (by decide)))
end
theorem all_mk {l : PySem.W.OpenLaw} {w : World} {K : PySem.W.Frag} {h : Heap} {mg : Str → Option Value} {fa : Addr} (X : K.In h) (G : h.Ns mainGlobals mg) (hfa : mg "law" = some (.ref fa))
    {f_law_cell : Addr} {oc_law_cell kV_law_cell dc_law_cell pm_law_cell cd_law_cell ct_law_cell : Value} {od_law_cell an_law_cell : Option Addr} {sl_law_cell : Array (Option Value)}
    (a_law_cell : PySem.W.nsIn K mainGlobals "_law_cell" = some (some (.ref f_law_cell))) (l_law_cell : K.lookup f_law_cell = some ⟨oc_law_cell, od_law_cell, .func (PySem.W.fnOf "_law_cell" "_law_cell" (defArgs s_law_cell) (defBody s_law_cell) (defScope s_law_cell) .none kV_law_cell dc_law_cell pm_law_cell an_law_cell cd_law_cell ct_law_cell), sl_law_cell⟩) (c_law_cell : PySem.W.codeIn K cd_law_cell "_law_cell" = true) (k_law_cell : PySem.W.keepIn K (.ref f_law_cell) = true)
    {f_law_low : Addr} {oc_law_low kV_law_low dc_law_low pm_law_low cd_law_low ct_law_low : Value} {od_law_low an_law_low : Option Addr} {sl_law_low : Array (Option Value)}
    (a_law_low : PySem.W.nsIn K mainGlobals "_law_low" = some (some (.ref f_law_low))) (l_law_low : K.lookup f_law_low = some ⟨oc_law_low, od_law_low, .func (PySem.W.fnOf "_law_low" "_law_low" (defArgs s_law_low) (defBody s_law_low) (defScope s_law_low) .none kV_law_low dc_law_low pm_law_low an_law_low cd_law_low ct_law_low), sl_law_low⟩) (c_law_low : PySem.W.codeIn K cd_law_low "_law_low" = true) (k_law_low : PySem.W.keepIn K (.ref f_law_low) = true)
    {f_law_sum : Addr} {oc_law_sum kV_law_sum dc_law_sum pm_law_sum cd_law_sum ct_law_sum : Value} {od_law_sum an_law_sum : Option Addr} {sl_law_sum : Array (Option Value)}
    (a_law_sum : PySem.W.nsIn K mainGlobals "_law_sum" = some (some (.ref f_law_sum))) (l_law_sum : K.lookup f_law_sum = some ⟨oc_law_sum, od_law_sum, .func (PySem.W.fnOf "_law_sum" "_law_sum" (defArgs s_law_sum) (defBody s_law_sum) (defScope s_law_sum) .none kV_law_sum dc_law_sum pm_law_sum an_law_sum cd_law_sum ct_law_sum), sl_law_sum⟩) (c_law_sum : PySem.W.codeIn K cd_law_sum "_law_sum" = true) (k_law_sum : PySem.W.keepIn K (.ref f_law_sum) = true)
    {f_law_own : Addr} {oc_law_own kV_law_own dc_law_own pm_law_own cd_law_own ct_law_own : Value} {od_law_own an_law_own : Option Addr} {sl_law_own : Array (Option Value)}
    (a_law_own : PySem.W.nsIn K mainGlobals "_law_own" = some (some (.ref f_law_own))) (l_law_own : K.lookup f_law_own = some ⟨oc_law_own, od_law_own, .func (PySem.W.fnOf "_law_own" "_law_own" (defArgs s_law_own) (defBody s_law_own) (defScope s_law_own) .none kV_law_own dc_law_own pm_law_own an_law_own cd_law_own ct_law_own), sl_law_own⟩) (c_law_own : PySem.W.codeIn K cd_law_own "_law_own" = true) (k_law_own : PySem.W.keepIn K (.ref f_law_own) = true)
    {f_law_times : Addr} {oc_law_times kV_law_times dc_law_times pm_law_times cd_law_times ct_law_times : Value} {od_law_times an_law_times : Option Addr} {sl_law_times : Array (Option Value)}
    (a_law_times : PySem.W.nsIn K mainGlobals "_law_times" = some (some (.ref f_law_times))) (l_law_times : K.lookup f_law_times = some ⟨oc_law_times, od_law_times, .func (PySem.W.fnOf "_law_times" "_law_times" (defArgs s_law_times) (defBody s_law_times) (defScope s_law_times) .none kV_law_times dc_law_times pm_law_times an_law_times cd_law_times ct_law_times), sl_law_times⟩) (c_law_times : PySem.W.codeIn K cd_law_times "_law_times" = true) (k_law_times : PySem.W.keepIn K (.ref f_law_times) = true)
    {f_law_product : Addr} {oc_law_product kV_law_product dc_law_product pm_law_product cd_law_product ct_law_product : Value} {od_law_product an_law_product : Option Addr} {sl_law_product : Array (Option Value)}
    (a_law_product : PySem.W.nsIn K mainGlobals "_law_product" = some (some (.ref f_law_product))) (l_law_product : K.lookup f_law_product = some ⟨oc_law_product, od_law_product, .func (PySem.W.fnOf "_law_product" "_law_product" (defArgs s_law_product) (defBody s_law_product) (defScope s_law_product) .none kV_law_product dc_law_product pm_law_product an_law_product cd_law_product ct_law_product), sl_law_product⟩) (c_law_product : PySem.W.codeIn K cd_law_product "_law_product" = true) (k_law_product : PySem.W.keepIn K (.ref f_law_product) = true)
    {f_law_small : Addr} {oc_law_small kV_law_small dc_law_small pm_law_small cd_law_small ct_law_small : Value} {od_law_small an_law_small : Option Addr} {sl_law_small : Array (Option Value)}
    (a_law_small : PySem.W.nsIn K mainGlobals "_law_small" = some (some (.ref f_law_small))) (l_law_small : K.lookup f_law_small = some ⟨oc_law_small, od_law_small, .func (PySem.W.fnOf "_law_small" "_law_small" (defArgs s_law_small) (defBody s_law_small) (defScope s_law_small) .none kV_law_small dc_law_small pm_law_small an_law_small cd_law_small ct_law_small), sl_law_small⟩) (c_law_small : PySem.W.codeIn K cd_law_small "_law_small" = true) (k_law_small : PySem.W.keepIn K (.ref f_law_small) = true)
    {f_law_rows : Addr} {oc_law_rows kV_law_rows dc_law_rows pm_law_rows cd_law_rows ct_law_rows : Value} {od_law_rows an_law_rows : Option Addr} {sl_law_rows : Array (Option Value)}
    (a_law_rows : PySem.W.nsIn K mainGlobals "_law_rows" = some (some (.ref f_law_rows))) (l_law_rows : K.lookup f_law_rows = some ⟨oc_law_rows, od_law_rows, .func (PySem.W.fnOf "_law_rows" "_law_rows" (defArgs s_law_rows) (defBody s_law_rows) (defScope s_law_rows) .none kV_law_rows dc_law_rows pm_law_rows an_law_rows cd_law_rows ct_law_rows), sl_law_rows⟩) (c_law_rows : PySem.W.codeIn K cd_law_rows "_law_rows" = true) (k_law_rows : PySem.W.keepIn K (.ref f_law_rows) = true)
    {f_law_weak : Addr} {oc_law_weak kV_law_weak dc_law_weak pm_law_weak cd_law_weak ct_law_weak : Value} {od_law_weak an_law_weak : Option Addr} {sl_law_weak : Array (Option Value)}
    (a_law_weak : PySem.W.nsIn K mainGlobals "_law_weak" = some (some (.ref f_law_weak))) (l_law_weak : K.lookup f_law_weak = some ⟨oc_law_weak, od_law_weak, .func (PySem.W.fnOf "_law_weak" "_law_weak" (defArgs s_law_weak) (defBody s_law_weak) (defScope s_law_weak) .none kV_law_weak dc_law_weak pm_law_weak an_law_weak cd_law_weak ct_law_weak), sl_law_weak⟩) (c_law_weak : PySem.W.codeIn K cd_law_weak "_law_weak" = true) (k_law_weak : PySem.W.keepIn K (.ref f_law_weak) = true)
    {f_size : Addr} {oc_size kV_size dc_size pm_size cd_size ct_size : Value} {od_size an_size : Option Addr} {sl_size : Array (Option Value)}
    (a_size : PySem.W.nsIn K mainGlobals "_size" = some (some (.ref f_size))) (l_size : K.lookup f_size = some ⟨oc_size, od_size, .func (PySem.W.fnOf "_size" "_size" (defArgs s_size) (defBody s_size) (defScope s_size) .none kV_size dc_size pm_size an_size cd_size ct_size), sl_size⟩) (c_size : PySem.W.codeIn K cd_size "_size" = true) (k_size : PySem.W.keepIn K (.ref f_size) = true)
    {f_lowest : Addr} {oc_lowest kV_lowest dc_lowest pm_lowest cd_lowest ct_lowest : Value} {od_lowest an_lowest : Option Addr} {sl_lowest : Array (Option Value)}
    (a_lowest : PySem.W.nsIn K mainGlobals "_lowest" = some (some (.ref f_lowest))) (l_lowest : K.lookup f_lowest = some ⟨oc_lowest, od_lowest, .func (PySem.W.fnOf "_lowest" "_lowest" (defArgs s_lowest) (defBody s_lowest) (defScope s_lowest) .none kV_lowest dc_lowest pm_lowest an_lowest cd_lowest ct_lowest), sl_lowest⟩) (c_lowest : PySem.W.codeIn K cd_lowest "_lowest" = true) (k_lowest : PySem.W.keepIn K (.ref f_lowest) = true)
    {f_add : Addr} {oc_add kV_add dc_add pm_add cd_add ct_add : Value} {od_add an_add : Option Addr} {sl_add : Array (Option Value)}
    (a_add : PySem.W.nsIn K mainGlobals "add" = some (some (.ref f_add))) (l_add : K.lookup f_add = some ⟨oc_add, od_add, .func (PySem.W.fnOf "add" "add" (defArgs s_add) (defBody s_add) (defScope s_add) .none kV_add dc_add pm_add an_add cd_add ct_add), sl_add⟩) (c_add : PySem.W.codeIn K cd_add "add" = true) (k_add : PySem.W.keepIn K (.ref f_add) = true)
    {f_less : Addr} {oc_less kV_less dc_less pm_less cd_less ct_less : Value} {od_less an_less : Option Addr} {sl_less : Array (Option Value)}
    (a_less : PySem.W.nsIn K mainGlobals "less" = some (some (.ref f_less))) (l_less : K.lookup f_less = some ⟨oc_less, od_less, .func (PySem.W.fnOf "less" "less" (defArgs s_less) (defBody s_less) (defScope s_less) .none kV_less dc_less pm_less an_less cd_less ct_less), sl_less⟩) (c_less : PySem.W.codeIn K cd_less "less" = true) (k_less : PySem.W.keepIn K (.ref f_less) = true)
    {f_leads : Addr} {oc_leads kV_leads dc_leads pm_leads cd_leads ct_leads : Value} {od_leads an_leads : Option Addr} {sl_leads : Array (Option Value)}
    (a_leads : PySem.W.nsIn K mainGlobals "_leads" = some (some (.ref f_leads))) (l_leads : K.lookup f_leads = some ⟨oc_leads, od_leads, .func (PySem.W.fnOf "_leads" "_leads" (defArgs s_leads) (defBody s_leads) (defScope s_leads) .none kV_leads dc_leads pm_leads an_leads cd_leads ct_leads), sl_leads⟩) (c_leads : PySem.W.codeIn K cd_leads "_leads" = true) (k_leads : PySem.W.keepIn K (.ref f_leads) = true)
    {f_is_dominant : Addr} {oc_is_dominant kV_is_dominant dc_is_dominant pm_is_dominant cd_is_dominant ct_is_dominant : Value} {od_is_dominant an_is_dominant : Option Addr} {sl_is_dominant : Array (Option Value)}
    (a_is_dominant : PySem.W.nsIn K mainGlobals "is_dominant" = some (some (.ref f_is_dominant))) (l_is_dominant : K.lookup f_is_dominant = some ⟨oc_is_dominant, od_is_dominant, .func (PySem.W.fnOf "is_dominant" "is_dominant" (defArgs s_is_dominant) (defBody s_is_dominant) (defScope s_is_dominant) .none kV_is_dominant dc_is_dominant pm_is_dominant an_is_dominant cd_is_dominant ct_is_dominant), sl_is_dominant⟩) (c_is_dominant : PySem.W.codeIn K cd_is_dominant "is_dominant" = true) (k_is_dominant : PySem.W.keepIn K (.ref f_is_dominant) = true)
    {f_times : Addr} {oc_times kV_times dc_times pm_times cd_times ct_times : Value} {od_times an_times : Option Addr} {sl_times : Array (Option Value)}
    (a_times : PySem.W.nsIn K mainGlobals "times" = some (some (.ref f_times))) (l_times : K.lookup f_times = some ⟨oc_times, od_times, .func (PySem.W.fnOf "times" "times" (defArgs s_times) (defBody s_times) (defScope s_times) .none kV_times dc_times pm_times an_times cd_times ct_times), sl_times⟩) (c_times : PySem.W.codeIn K cd_times "times" = true) (k_times : PySem.W.keepIn K (.ref f_times) = true)
    {f_along : Addr} {oc_along kV_along dc_along pm_along cd_along ct_along : Value} {od_along an_along : Option Addr} {sl_along : Array (Option Value)}
    (a_along : PySem.W.nsIn K mainGlobals "along" = some (some (.ref f_along))) (l_along : K.lookup f_along = some ⟨oc_along, od_along, .func (PySem.W.fnOf "along" "along" (defArgs s_along) (defBody s_along) (defScope s_along) .none kV_along dc_along pm_along an_along cd_along ct_along), sl_along⟩) (c_along : PySem.W.codeIn K cd_along "along" = true) (k_along : PySem.W.keepIn K (.ref f_along) = true)
    {f_product : Addr} {oc_product kV_product dc_product pm_product cd_product ct_product : Value} {od_product an_product : Option Addr} {sl_product : Array (Option Value)}
    (a_product : PySem.W.nsIn K mainGlobals "product" = some (some (.ref f_product))) (l_product : K.lookup f_product = some ⟨oc_product, od_product, .func (PySem.W.fnOf "product" "product" (defArgs s_product) (defBody s_product) (defScope s_product) .none kV_product dc_product pm_product an_product cd_product ct_product), sl_product⟩) (c_product : PySem.W.codeIn K cd_product "product" = true) (k_product : PySem.W.keepIn K (.ref f_product) = true)
    {f_sub : Addr} {oc_sub kV_sub dc_sub pm_sub cd_sub ct_sub : Value} {od_sub an_sub : Option Addr} {sl_sub : Array (Option Value)}
    (a_sub : PySem.W.nsIn K mainGlobals "sub" = some (some (.ref f_sub))) (l_sub : K.lookup f_sub = some ⟨oc_sub, od_sub, .func (PySem.W.fnOf "sub" "sub" (defArgs s_sub) (defBody s_sub) (defScope s_sub) .none kV_sub dc_sub pm_sub an_sub cd_sub ct_sub), sl_sub⟩) (c_sub : PySem.W.codeIn K cd_sub "sub" = true) (k_sub : PySem.W.keepIn K (.ref f_sub) = true)
    {f_cleared : Addr} {oc_cleared kV_cleared dc_cleared pm_cleared cd_cleared ct_cleared : Value} {od_cleared an_cleared : Option Addr} {sl_cleared : Array (Option Value)}
    (a_cleared : PySem.W.nsIn K mainGlobals "_cleared" = some (some (.ref f_cleared))) (l_cleared : K.lookup f_cleared = some ⟨oc_cleared, od_cleared, .func (PySem.W.fnOf "_cleared" "_cleared" (defArgs s_cleared) (defBody s_cleared) (defScope s_cleared) .none kV_cleared dc_cleared pm_cleared an_cleared cd_cleared ct_cleared), sl_cleared⟩) (c_cleared : PySem.W.codeIn K cd_cleared "_cleared" = true) (k_cleared : PySem.W.keepIn K (.ref f_cleared) = true)
    {f_sign : Addr} {oc_sign kV_sign dc_sign pm_sign cd_sign ct_sign : Value} {od_sign an_sign : Option Addr} {sl_sign : Array (Option Value)}
    (a_sign : PySem.W.nsIn K mainGlobals "sign" = some (some (.ref f_sign))) (l_sign : K.lookup f_sign = some ⟨oc_sign, od_sign, .func (PySem.W.fnOf "sign" "sign" (defArgs s_sign) (defBody s_sign) (defScope s_sign) .none kV_sign dc_sign pm_sign an_sign cd_sign ct_sign), sl_sign⟩) (c_sign : PySem.W.codeIn K cd_sign "sign" = true) (k_sign : PySem.W.keepIn K (.ref f_sign) = true)
    {f_lead_place : Addr} {oc_lead_place kV_lead_place dc_lead_place pm_lead_place cd_lead_place ct_lead_place : Value} {od_lead_place an_lead_place : Option Addr} {sl_lead_place : Array (Option Value)}
    (a_lead_place : PySem.W.nsIn K mainGlobals "_lead_place" = some (some (.ref f_lead_place))) (l_lead_place : K.lookup f_lead_place = some ⟨oc_lead_place, od_lead_place, .func (PySem.W.fnOf "_lead_place" "_lead_place" (defArgs s_lead_place) (defBody s_lead_place) (defScope s_lead_place) .none kV_lead_place dc_lead_place pm_lead_place an_lead_place cd_lead_place ct_lead_place), sl_lead_place⟩) (c_lead_place : PySem.W.codeIn K cd_lead_place "_lead_place" = true) (k_lead_place : PySem.W.keepIn K (.ref f_lead_place) = true)
    {f_over : Addr} {oc_over kV_over dc_over pm_over cd_over ct_over : Value} {od_over an_over : Option Addr} {sl_over : Array (Option Value)}
    (a_over : PySem.W.nsIn K mainGlobals "over" = some (some (.ref f_over))) (l_over : K.lookup f_over = some ⟨oc_over, od_over, .func (PySem.W.fnOf "over" "over" (defArgs s_over) (defBody s_over) (defScope s_over) .none kV_over dc_over pm_over an_over cd_over ct_over), sl_over⟩) (c_over : PySem.W.codeIn K cd_over "over" = true) (k_over : PySem.W.keepIn K (.ref f_over) = true)
    {f_scaled : Addr} {oc_scaled kV_scaled dc_scaled pm_scaled cd_scaled ct_scaled : Value} {od_scaled an_scaled : Option Addr} {sl_scaled : Array (Option Value)}
    (a_scaled : PySem.W.nsIn K mainGlobals "_scaled" = some (some (.ref f_scaled))) (l_scaled : K.lookup f_scaled = some ⟨oc_scaled, od_scaled, .func (PySem.W.fnOf "_scaled" "_scaled" (defArgs s_scaled) (defBody s_scaled) (defScope s_scaled) .none kV_scaled dc_scaled pm_scaled an_scaled cd_scaled ct_scaled), sl_scaled⟩) (c_scaled : PySem.W.codeIn K cd_scaled "_scaled" = true) (k_scaled : PySem.W.keepIn K (.ref f_scaled) = true)
    {f_solve : Addr} {oc_solve kV_solve dc_solve pm_solve cd_solve ct_solve : Value} {od_solve an_solve : Option Addr} {sl_solve : Array (Option Value)}
    (a_solve : PySem.W.nsIn K mainGlobals "solve" = some (some (.ref f_solve))) (l_solve : K.lookup f_solve = some ⟨oc_solve, od_solve, .func (PySem.W.fnOf "solve" "solve" (defArgs s_solve) (defBody s_solve) (defScope s_solve) .none kV_solve dc_solve pm_solve an_solve cd_solve ct_solve), sl_solve⟩) (c_solve : PySem.W.codeIn K cd_solve "solve" = true) (k_solve : PySem.W.keepIn K (.ref f_solve) = true)
    {f_law : Addr} {oc_law kV_law dc_law pm_law cd_law ct_law : Value} {od_law an_law : Option Addr} {sl_law : Array (Option Value)}
    (a_law : PySem.W.nsIn K mainGlobals "law" = some (some (.ref f_law))) (l_law : K.lookup f_law = some ⟨oc_law, od_law, .func (PySem.W.fnOf "law" "law" (defArgs s_law) (defBody s_law) (defScope s_law) .none kV_law dc_law pm_law an_law cd_law ct_law), sl_law⟩) (c_law : PySem.W.codeIn K cd_law "law" = true) (k_law : PySem.W.keepIn K (.ref f_law) = true)
    (z_abs : PySem.W.nsIn K mainGlobals "abs" = some none)
    (z_all : PySem.W.nsIn K mainGlobals "all" = some none)
    (z_bool : PySem.W.nsIn K mainGlobals "bool" = some none)
    (z_enumerate : PySem.W.nsIn K mainGlobals "enumerate" = some none)
    (z_int : PySem.W.nsIn K mainGlobals "int" = some none)
    (z_isinstance : PySem.W.nsIn K mainGlobals "isinstance" = some none)
    (z_len : PySem.W.nsIn K mainGlobals "len" = some none)
    (z_list : PySem.W.nsIn K mainGlobals "list" = some none)
    (z_range : PySem.W.nsIn K mainGlobals "range" = some none)
    (z_repr : PySem.W.nsIn K mainGlobals "repr" = some none)
    (z_tuple : PySem.W.nsIn K mainGlobals "tuple" = some none)
    (z_zip : PySem.W.nsIn K mainGlobals "zip" = some none)
    (i_gcd : PySem.W.nsIn K mainGlobals "gcd" = some (some (.builtin "math.gcd")))
    {z_ZERO : Addr} {dd_ZERO : Option Addr} {n_ZERO : Nat} {sl_ZERO : Array (Option Value)} {u_ZERO_0 : Tok} {u_ZERO_1 : Tok} (c_ZERO : PySem.W.nsIn K mainGlobals "ZERO" = some (some (.ref z_ZERO))) (y_ZERO : K.lookup z_ZERO = some ⟨.type "tuple", dd_ZERO, .seq #[.int 0 u_ZERO_0, .int 1 u_ZERO_1] n_ZERO, sl_ZERO⟩)
    {C_InvalidRatio : Addr} (gC_InvalidRatio : PySem.W.nsIn K mainGlobals "InvalidRatio" = some (some (.ref C_InvalidRatio)))
    (x_InvalidRatio : PySem.W.excIn K C_InvalidRatio [.type "ValueError", .type "Exception", .type "BaseException", .type "object"] "ValueError.__new__" = true) (k_InvalidRatio : PySem.W.keepIn K (.ref C_InvalidRatio) = true) (b_InvalidRatio : PySem.W.subIn K (.ref C_InvalidRatio) (.type "BaseException") = some true) (t_InvalidRatio : PySem.W.typeIn K (.ref C_InvalidRatio) = some (.type "type")) (i_InvalidRatio : PySem.W.isClsIn K C_InvalidRatio = true) (e_InvalidRatio : PySem.W.subIn K (.ref C_InvalidRatio) (.ref C_InvalidRatio) = some true)
    {C_Singular : Addr} (gC_Singular : PySem.W.nsIn K mainGlobals "Singular" = some (some (.ref C_Singular)))
    (x_Singular : PySem.W.excIn K C_Singular [.type "ValueError", .type "Exception", .type "BaseException", .type "object"] "ValueError.__new__" = true) (k_Singular : PySem.W.keepIn K (.ref C_Singular) = true) (b_Singular : PySem.W.subIn K (.ref C_Singular) (.type "BaseException") = some true) (t_Singular : PySem.W.typeIn K (.ref C_Singular) = some (.type "type")) (i_Singular : PySem.W.isClsIn K C_Singular = true) (e_Singular : PySem.W.subIn K (.ref C_Singular) (.ref C_Singular) = some true)
    : ∃ fd : FuncData, (∀ (s : Shared) (v : Value), BindsTo s fd ⟨[v], []⟩ [("script", v)]) ∧ ∀ base : Heap, K.In base → base.Ns mainGlobals mg → RunG l.prog w K mg base (L2.CX l.prog w) 5 fa fd ["script"] (spF K 1 R_law) := by
  have e := hfa.symm.trans (PySem.W.mg_of X G a_law)
  cases e
  let T : Txt K mg := {
    a_law_cell := f_law_cell
    fd_law_cell := _
    F_law_cell := fun_mk (st := s_law_cell) l_law_cell c_law_cell k_law_cell
    g_law_cell := PySem.W.mg_of X G a_law_cell
    b_law_cell := (fun_mk (st := s_law_cell) l_law_cell c_law_cell k_law_cell).binds (ps := ["script", "k"]) (fun _ _ _ _ _ _ us hl => match us, hl with | [_, _], _ => rfl)
    a_law_low := f_law_low
    fd_law_low := _
    F_law_low := fun_mk (st := s_law_low) l_law_low c_law_low k_law_low
    g_law_low := PySem.W.mg_of X G a_law_low
    b_law_low := (fun_mk (st := s_law_low) l_law_low c_law_low k_law_low).binds (ps := ["n", "d"]) (fun _ _ _ _ _ _ us hl => match us, hl with | [_, _], _ => rfl)
    a_law_sum := f_law_sum
    fd_law_sum := _
    F_law_sum := fun_mk (st := s_law_sum) l_law_sum c_law_sum k_law_sum
    g_law_sum := PySem.W.mg_of X G a_law_sum
    b_law_sum := (fun_mk (st := s_law_sum) l_law_sum c_law_sum k_law_sum).binds (ps := ["parts"]) (fun _ _ _ _ _ _ us hl => match us, hl with | [_], _ => rfl)
    a_law_own := f_law_own
    fd_law_own := _
    F_law_own := fun_mk (st := s_law_own) l_law_own c_law_own k_law_own
    g_law_own := PySem.W.mg_of X G a_law_own
    b_law_own := (fun_mk (st := s_law_own) l_law_own c_law_own k_law_own).binds (ps := ["row", "at", "cell"]) (fun _ _ _ _ _ _ us hl => match us, hl with | [_, _, _], _ => rfl)
    a_law_times := f_law_times
    fd_law_times := _
    F_law_times := fun_mk (st := s_law_times) l_law_times c_law_times k_law_times
    g_law_times := PySem.W.mg_of X G a_law_times
    b_law_times := (fun_mk (st := s_law_times) l_law_times c_law_times k_law_times).binds (ps := ["a", "b"]) (fun _ _ _ _ _ _ us hl => match us, hl with | [_, _], _ => rfl)
    a_law_product := f_law_product
    fd_law_product := _
    F_law_product := fun_mk (st := s_law_product) l_law_product c_law_product k_law_product
    g_law_product := PySem.W.mg_of X G a_law_product
    b_law_product := (fun_mk (st := s_law_product) l_law_product c_law_product k_law_product).binds (ps := ["rows", "values"]) (fun _ _ _ _ _ _ us hl => match us, hl with | [_, _], _ => rfl)
    a_law_small := f_law_small
    fd_law_small := _
    F_law_small := fun_mk (st := s_law_small) l_law_small c_law_small k_law_small
    g_law_small := PySem.W.mg_of X G a_law_small
    b_law_small := (fun_mk (st := s_law_small) l_law_small c_law_small k_law_small).binds (ps := ["cell"]) (fun _ _ _ _ _ _ us hl => match us, hl with | [_], _ => rfl)
    a_law_rows := f_law_rows
    fd_law_rows := _
    F_law_rows := fun_mk (st := s_law_rows) l_law_rows c_law_rows k_law_rows
    g_law_rows := PySem.W.mg_of X G a_law_rows
    b_law_rows := (fun_mk (st := s_law_rows) l_law_rows c_law_rows k_law_rows).binds (ps := ["script", "at", "count"]) (fun _ _ _ _ _ _ us hl => match us, hl with | [_, _, _], _ => rfl)
    a_law_weak := f_law_weak
    fd_law_weak := _
    F_law_weak := fun_mk (st := s_law_weak) l_law_weak c_law_weak k_law_weak
    g_law_weak := PySem.W.mg_of X G a_law_weak
    b_law_weak := (fun_mk (st := s_law_weak) l_law_weak c_law_weak k_law_weak).binds (ps := ["rows", "cell"]) (fun _ _ _ _ _ _ us hl => match us, hl with | [_, _], _ => rfl)
    a_size := f_size
    fd_size := _
    F_size := fun_mk (st := s_size) l_size c_size k_size
    g_size := PySem.W.mg_of X G a_size
    b_size := (fun_mk (st := s_size) l_size c_size k_size).binds (ps := ["value"]) (fun _ _ _ _ _ _ us hl => match us, hl with | [_], _ => rfl)
    a_lowest := f_lowest
    fd_lowest := _
    F_lowest := fun_mk (st := s_lowest) l_lowest c_lowest k_lowest
    g_lowest := PySem.W.mg_of X G a_lowest
    b_lowest := (fun_mk (st := s_lowest) l_lowest c_lowest k_lowest).binds (ps := ["n", "d"]) (fun _ _ _ _ _ _ us hl => match us, hl with | [_, _], _ => rfl)
    a_add := f_add
    fd_add := _
    F_add := fun_mk (st := s_add) l_add c_add k_add
    g_add := PySem.W.mg_of X G a_add
    b_add := (fun_mk (st := s_add) l_add c_add k_add).binds (ps := ["a", "b"]) (fun _ _ _ _ _ _ us hl => match us, hl with | [_, _], _ => rfl)
    a_less := f_less
    fd_less := _
    F_less := fun_mk (st := s_less) l_less c_less k_less
    g_less := PySem.W.mg_of X G a_less
    b_less := (fun_mk (st := s_less) l_less c_less k_less).binds (ps := ["a", "b"]) (fun _ _ _ _ _ _ us hl => match us, hl with | [_, _], _ => rfl)
    a_leads := f_leads
    fd_leads := _
    F_leads := fun_mk (st := s_leads) l_leads c_leads k_leads
    g_leads := PySem.W.mg_of X G a_leads
    b_leads := (fun_mk (st := s_leads) l_leads c_leads k_leads).binds (ps := ["row", "at"]) (fun _ _ _ _ _ _ us hl => match us, hl with | [_, _], _ => rfl)
    a_is_dominant := f_is_dominant
    fd_is_dominant := _
    F_is_dominant := fun_mk (st := s_is_dominant) l_is_dominant c_is_dominant k_is_dominant
    g_is_dominant := PySem.W.mg_of X G a_is_dominant
    b_is_dominant := (fun_mk (st := s_is_dominant) l_is_dominant c_is_dominant k_is_dominant).binds (ps := ["rows"]) (fun _ _ _ _ _ _ us hl => match us, hl with | [_], _ => rfl)
    a_times := f_times
    fd_times := _
    F_times := fun_mk (st := s_times) l_times c_times k_times
    g_times := PySem.W.mg_of X G a_times
    b_times := (fun_mk (st := s_times) l_times c_times k_times).binds (ps := ["a", "b"]) (fun _ _ _ _ _ _ us hl => match us, hl with | [_, _], _ => rfl)
    a_along := f_along
    fd_along := _
    F_along := fun_mk (st := s_along) l_along c_along k_along
    g_along := PySem.W.mg_of X G a_along
    b_along := (fun_mk (st := s_along) l_along c_along k_along).binds (ps := ["row", "values"]) (fun _ _ _ _ _ _ us hl => match us, hl with | [_, _], _ => rfl)
    a_product := f_product
    fd_product := _
    F_product := fun_mk (st := s_product) l_product c_product k_product
    g_product := PySem.W.mg_of X G a_product
    b_product := (fun_mk (st := s_product) l_product c_product k_product).binds (ps := ["rows", "values"]) (fun _ _ _ _ _ _ us hl => match us, hl with | [_, _], _ => rfl)
    a_sub := f_sub
    fd_sub := _
    F_sub := fun_mk (st := s_sub) l_sub c_sub k_sub
    g_sub := PySem.W.mg_of X G a_sub
    b_sub := (fun_mk (st := s_sub) l_sub c_sub k_sub).binds (ps := ["a", "b"]) (fun _ _ _ _ _ _ us hl => match us, hl with | [_, _], _ => rfl)
    a_cleared := f_cleared
    fd_cleared := _
    F_cleared := fun_mk (st := s_cleared) l_cleared c_cleared k_cleared
    g_cleared := PySem.W.mg_of X G a_cleared
    b_cleared := (fun_mk (st := s_cleared) l_cleared c_cleared k_cleared).binds (ps := ["row", "lead", "at"]) (fun _ _ _ _ _ _ us hl => match us, hl with | [_, _, _], _ => rfl)
    a_sign := f_sign
    fd_sign := _
    F_sign := fun_mk (st := s_sign) l_sign c_sign k_sign
    g_sign := PySem.W.mg_of X G a_sign
    b_sign := (fun_mk (st := s_sign) l_sign c_sign k_sign).binds (ps := ["a"]) (fun _ _ _ _ _ _ us hl => match us, hl with | [_], _ => rfl)
    a_lead_place := f_lead_place
    fd_lead_place := _
    F_lead_place := fun_mk (st := s_lead_place) l_lead_place c_lead_place k_lead_place
    g_lead_place := PySem.W.mg_of X G a_lead_place
    b_lead_place := (fun_mk (st := s_lead_place) l_lead_place c_lead_place k_lead_place).binds (ps := ["table", "at"]) (fun _ _ _ _ _ _ us hl => match us, hl with | [_, _], _ => rfl)
    a_over := f_over
    fd_over := _
    F_over := fun_mk (st := s_over) l_over c_over k_over
    g_over := PySem.W.mg_of X G a_over
    b_over := (fun_mk (st := s_over) l_over c_over k_over).binds (ps := ["a", "b"]) (fun _ _ _ _ _ _ us hl => match us, hl with | [_, _], _ => rfl)
    a_scaled := f_scaled
    fd_scaled := _
    F_scaled := fun_mk (st := s_scaled) l_scaled c_scaled k_scaled
    g_scaled := PySem.W.mg_of X G a_scaled
    b_scaled := (fun_mk (st := s_scaled) l_scaled c_scaled k_scaled).binds (ps := ["row", "part"]) (fun _ _ _ _ _ _ us hl => match us, hl with | [_, _], _ => rfl)
    a_solve := f_solve
    fd_solve := _
    F_solve := fun_mk (st := s_solve) l_solve c_solve k_solve
    g_solve := PySem.W.mg_of X G a_solve
    b_solve := (fun_mk (st := s_solve) l_solve c_solve k_solve).binds (ps := ["rows", "right"]) (fun _ _ _ _ _ _ us hl => match us, hl with | [_, _], _ => rfl)
    a_law := fa
    fd_law := _
    F_law := fun_mk (st := s_law) l_law c_law k_law
    g_law := PySem.W.mg_of X G a_law
    b_law := (fun_mk (st := s_law) l_law c_law k_law).binds (ps := ["script"]) (fun _ _ _ _ _ _ us hl => match us, hl with | [_], _ => rfl)
    m_abs := PySem.W.mg_none_of X G z_abs
    m_all := PySem.W.mg_none_of X G z_all
    m_bool := PySem.W.mg_none_of X G z_bool
    m_enumerate := PySem.W.mg_none_of X G z_enumerate
    m_int := PySem.W.mg_none_of X G z_int
    m_isinstance := PySem.W.mg_none_of X G z_isinstance
    m_len := PySem.W.mg_none_of X G z_len
    m_list := PySem.W.mg_none_of X G z_list
    m_range := PySem.W.mg_none_of X G z_range
    m_repr := PySem.W.mg_none_of X G z_repr
    m_tuple := PySem.W.mg_none_of X G z_tuple
    m_zip := PySem.W.mg_none_of X G z_zip
    g_gcd := PySem.W.mg_of X G i_gcd
    z_ZERO := z_ZERO
    c_ZERO := PySem.W.mg_of X G c_ZERO
    s_ZERO := fun _ => .inr ⟨_, _, _, y_ZERO, rfl, rfl, Nat.le_of_ble_eq_true rfl, (.cons ⟨_, rfl⟩ (.cons ⟨_, rfl⟩ .nil))⟩
    C_InvalidRatio := C_InvalidRatio
    gC_InvalidRatio := PySem.W.mg_of X G gC_InvalidRatio
    x_InvalidRatio := x_InvalidRatio
    k_InvalidRatio := k_InvalidRatio
    b_InvalidRatio := b_InvalidRatio
    t_InvalidRatio := t_InvalidRatio
    i_InvalidRatio := i_InvalidRatio
    e_InvalidRatio := e_InvalidRatio
    C_Singular := C_Singular
    gC_Singular := PySem.W.mg_of X G gC_Singular
    x_Singular := x_Singular
    k_Singular := k_Singular
    b_Singular := b_Singular
    t_Singular := t_Singular
    i_Singular := i_Singular
    e_Singular := e_Singular }
  exact ⟨PySem.W.fnOf "law" "law" (defArgs s_law) (defBody s_law) (defScope s_law) .none kV_law dc_law pm_law an_law cd_law ct_law, fun s v => .of_eq rfl, fun base _ _ => ok_law T⟩
end RPk16
open PySem PySem.W PyProof.Rows
set_option maxHeartbeats 0 in
theorem PySem.Challenge.cw_rivalprices_k16_dominant_equations_have_holds : PySem.Challenge.rw_rivalprices_k16_dominant_equations_have.Holds := by
  w_on; o_law; k_head; (case hw => w_witness2)
  k_fill
  refine RP.walk_ofG (l := PySem.Challenge.rw_rivalprices_k16_dominant_equations_have) (n := 63) (k := 5) (x := "script") (CX := fun w => L2.CX PySem.Challenge.pw_rivalprices_k16_dominant_equations_have w) (sp := fun w => RP.spF _ 1 RPk16.R_law) rfl (by decide) rfl ⟨rfl, by decide, by decide⟩ (fun w h Y => PySem.W.kIn_of Y) ?F (fun _ H a ns hl _ hS => ⟨H, [.scr ns], .ok (.bl true), rfl, Evl.Ex.refl H, .cons (.scr hS) .nil, ⟨ns, rfl, Nat.le_trans hl (by decide), rfl⟩, fun v _ _ _ r => r.bl_inv⟩) (fun _ _ _ _ _ h => by obtain ⟨_, _, _, _, _, _, _, _, _, _, _, _, z⟩ := h; exact z.elim)
  case F =>
    intro w mg fa h KX G hmg
    refine' RPk16.all_mk KX G hmg ?a_law_cell ?l_law_cell ?c_law_cell ?k_law_cell ?a_law_low ?l_law_low ?c_law_low ?k_law_low ?a_law_sum ?l_law_sum ?c_law_sum ?k_law_sum ?a_law_own ?l_law_own ?c_law_own ?k_law_own ?a_law_times ?l_law_times ?c_law_times ?k_law_times ?a_law_product ?l_law_product ?c_law_product ?k_law_product ?a_law_small ?l_law_small ?c_law_small ?k_law_small ?a_law_rows ?l_law_rows ?c_law_rows ?k_law_rows ?a_law_weak ?l_law_weak ?c_law_weak ?k_law_weak ?a_size ?l_size ?c_size ?k_size ?a_lowest ?l_lowest ?c_lowest ?k_lowest ?a_add ?l_add ?c_add ?k_add ?a_less ?l_less ?c_less ?k_less ?a_leads ?l_leads ?c_leads ?k_leads ?a_is_dominant ?l_is_dominant ?c_is_dominant ?k_is_dominant ?a_times ?l_times ?c_times ?k_times ?a_along ?l_along ?c_along ?k_along ?a_product ?l_product ?c_product ?k_product ?a_sub ?l_sub ?c_sub ?k_sub ?a_cleared ?l_cleared ?c_cleared ?k_cleared ?a_sign ?l_sign ?c_sign ?k_sign ?a_lead_place ?l_lead_place ?c_lead_place ?k_lead_place ?a_over ?l_over ?c_over ?k_over ?a_scaled ?l_scaled ?c_scaled ?k_scaled ?a_solve ?l_solve ?c_solve ?k_solve ?a_law ?l_law ?c_law ?k_law ?z_abs ?z_all ?z_bool ?z_enumerate ?z_int ?z_isinstance ?z_len ?z_list ?z_range ?z_repr ?z_tuple ?z_zip ?i_gcd ?c_ZERO ?y_ZERO ?gC_InvalidRatio ?x_InvalidRatio ?k_InvalidRatio ?b_InvalidRatio ?t_InvalidRatio ?i_InvalidRatio ?e_InvalidRatio ?gC_Singular ?x_Singular ?k_Singular ?b_Singular ?t_Singular ?i_Singular ?e_Singular
    (case a_law_cell => k_is); (case l_law_cell => k_is); (case c_law_cell => k_is); (case k_law_cell => k_is); (case a_law_low => k_is); (case l_law_low => k_is); (case c_law_low => k_is); (case k_law_low => k_is); (case a_law_sum => k_is); (case l_law_sum => k_is); (case c_law_sum => k_is); (case k_law_sum => k_is); (case a_law_own => k_is); (case l_law_own => k_is); (case c_law_own => k_is); (case k_law_own => k_is); (case a_law_times => k_is); (case l_law_times => k_is); (case c_law_times => k_is); (case k_law_times => k_is); (case a_law_product => k_is); (case l_law_product => k_is); (case c_law_product => k_is); (case k_law_product => k_is); (case a_law_small => k_is); (case l_law_small => k_is); (case c_law_small => k_is); (case k_law_small => k_is); (case a_law_rows => k_is); (case l_law_rows => k_is); (case c_law_rows => k_is); (case k_law_rows => k_is); (case a_law_weak => k_is); (case l_law_weak => k_is); (case c_law_weak => k_is); (case k_law_weak => k_is); (case a_size => k_is); (case l_size => k_is); (case c_size => k_is); (case k_size => k_is); (case a_lowest => k_is); (case l_lowest => k_is); (case c_lowest => k_is); (case k_lowest => k_is); (case a_add => k_is); (case l_add => k_is); (case c_add => k_is); (case k_add => k_is); (case a_less => k_is); (case l_less => k_is); (case c_less => k_is); (case k_less => k_is); (case a_leads => k_is); (case l_leads => k_is); (case c_leads => k_is); (case k_leads => k_is); (case a_is_dominant => k_is); (case l_is_dominant => k_is); (case c_is_dominant => k_is); (case k_is_dominant => k_is); (case a_times => k_is); (case l_times => k_is); (case c_times => k_is); (case k_times => k_is); (case a_along => k_is); (case l_along => k_is); (case c_along => k_is); (case k_along => k_is); (case a_product => k_is); (case l_product => k_is); (case c_product => k_is); (case k_product => k_is); (case a_sub => k_is); (case l_sub => k_is); (case c_sub => k_is); (case k_sub => k_is); (case a_cleared => k_is); (case l_cleared => k_is); (case c_cleared => k_is); (case k_cleared => k_is); (case a_sign => k_is); (case l_sign => k_is); (case c_sign => k_is); (case k_sign => k_is); (case a_lead_place => k_is); (case l_lead_place => k_is); (case c_lead_place => k_is); (case k_lead_place => k_is); (case a_over => k_is); (case l_over => k_is); (case c_over => k_is); (case k_over => k_is); (case a_scaled => k_is); (case l_scaled => k_is); (case c_scaled => k_is); (case k_scaled => k_is); (case a_solve => k_is); (case l_solve => k_is); (case c_solve => k_is); (case k_solve => k_is); (case a_law => k_is); (case l_law => k_is); (case c_law => k_is); (case k_law => k_is); (case z_abs => k_is); (case z_all => k_is); (case z_bool => k_is); (case z_enumerate => k_is); (case z_int => k_is); (case z_isinstance => k_is); (case z_len => k_is); (case z_list => k_is); (case z_range => k_is); (case z_repr => k_is); (case z_tuple => k_is); (case z_zip => k_is); (case i_gcd => k_is); (case c_ZERO => k_is); (case y_ZERO => k_is); (case gC_InvalidRatio => k_is); (case x_InvalidRatio => k_exc); (case k_InvalidRatio => k_is); (case b_InvalidRatio => k_is); (case t_InvalidRatio => k_is); (case i_InvalidRatio => k_is); (case e_InvalidRatio => first | rfl | k_is); (case gC_Singular => k_is); (case x_Singular => k_exc); (case k_Singular => k_is); (case b_Singular => k_is); (case t_Singular => k_is); (case i_Singular => k_is); (case e_Singular => first | rfl | k_is)
