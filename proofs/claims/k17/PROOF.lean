import PyProof.Rows.All
import Wide.All
import OpenK.AllK
import Wide.FinOn
import HandS.ForMost
import HandS.ForExc
import HandS.Evl
import HandS.Wide
import HandS.Gcd
import HandS.IsInst
import HandS.Zip
import HandS.ExcIs
import HandS.RaiseMore
import HandS.TryMany
import HandS.Defaults
import PySem.Challenge.RW_rivalprices_k17_products_of_rows
set_option Elab.async false
set_option linter.all false
set_option maxRecDepth 100000
set_option maxHeartbeats 2000000
namespace RP
open PySem PySem.Spec PyProof.Rows L2

/-! ### data: what a value stands for -/
inductive RD where
  | non | bl (b : Bool) | int (i : Int) | str (x : Str)
  | tup (ds : List RD) | lst (ds : List RD)
  | dk (ks : List Key) (ds : List RD)
  | dt (ks : List (List Key)) (ds : List RD)
  | obj (C : Addr) (fs : List Str) (ds : List RD)
  | ty (n : String) | cls (C : Addr)
  | scr (ns : List Int)
instance : Inhabited RD := ⟨.non⟩
mutual
inductive Rp (K : PySem.W.Frag) (G : Hp) : V → RD → Prop
  | non : Rp K G .non .non
  | bl (b : Bool) : Rp K G (.bl b) (.bl b)
  | int (i : Int) : Rp K G (.int i) (.int i)
  | str (x : Str) : Rp K G (.str x) (.str x)
  | tup {a : Addr} {xs : List V} {ds : List RD} : SqT K G a xs → RpAll K G xs ds → Rp K G (.ref a) (.tup ds)
  | lst {a : Addr} {xs : List V} {ds : List RD} : G a = some (.lst xs) → RpAll K G xs ds → Rp K G (.ref a) (.lst ds)
  | scr {a : Addr} {ns : List Int} : SqL K G a (ns.map V.int) → Rp K G (.ref a) (.scr ns)
  | dk {a : Addr} {kvs : List (Key × V)} {ks : List Key} {xs : List V} {ds : List RD} : G a = some (.dK kvs) → kvs = ks.zip xs → ks.length = xs.length → RpAll K G xs ds → Rp K G (.ref a) (.dk ks ds)
  | dt {a : Addr} {kvs : List (List Key × V)} {ks : List (List Key)} {xs : List V} {ds : List RD} : G a = some (.dT kvs) → kvs = ks.zip xs → ks.length = xs.length → RpAll K G xs ds → Rp K G (.ref a) (.dt ks ds)
  | obj {a C dx : Addr} {fvs : List (Str × V)} {fs : List Str} {xs : List V} {ds : List RD} : G a = some (.ins C dx fvs) → fvs = fs.zip xs → fs.length = xs.length → RpAll K G xs ds → Rp K G (.ref a) (.obj C fs ds)
  | ty (n : String) : Rp K G (.ty n) (.ty n)
  | cls (C : Addr) : Rp K G (.ref C) (.cls C)
inductive RpAll (K : PySem.W.Frag) (G : Hp) : List V → List RD → Prop
  | nil : RpAll K G [] []
  | cons {v : V} {vs : List V} {d : RD} {ds : List RD} : Rp K G v d → RpAll K G vs ds → RpAll K G (v :: vs) (d :: ds)
end

abbrev Ex := @Evl.Ex
section
variable {K : PySem.W.Frag} {G G' : Hp}
mutual
theorem Rp.mono (e : Evl.Ex G G') : ∀ {v : V} {d : RD}, Rp K G v d → Rp K G' v d
  | _, _, .non => .non
  | _, _, .bl b => .bl b
  | _, _, .int i => .int i
  | _, _, .str x => .str x
  | _, _, .tup h r => .tup (Evl.ex_t e h) (RpAll.mono e r)
  | _, _, .lst h r => .lst (e _ _ h) (RpAll.mono e r)
  | _, _, .scr h => .scr (Evl.ex_l e h)
  | _, _, .dk h a b r => .dk (e _ _ h) a b (RpAll.mono e r)
  | _, _, .dt h a b r => .dt (e _ _ h) a b (RpAll.mono e r)
  | _, _, .obj h a b r => .obj (e _ _ h) a b (RpAll.mono e r)
  | _, _, .ty n => .ty n
  | _, _, .cls C => .cls C
theorem RpAll.mono (e : Evl.Ex G G') : ∀ {vs : List V} {ds : List RD}, RpAll K G vs ds → RpAll K G' vs ds
  | _, _, .nil => .nil
  | _, _, .cons a b => .cons (Rp.mono e a) (RpAll.mono e b)
end
theorem RpAll.length {vs : List V} {ds : List RD} : RpAll K G vs ds → vs.length = ds.length
  | .nil => rfl
  | .cons _ b => congrArg (· + 1) (RpAll.length b)
theorem RpAll.get : ∀ {vs : List V} {ds : List RD} {i : Nat} {d : RD}, RpAll K G vs ds → ds[i]? = some d → ∃ v, vs[i]? = some v ∧ Rp K G v d
  | _, _, 0, d, .cons a b, h => ⟨_, rfl, by cases h; exact a⟩
  | _, _, i + 1, d, .cons a b, h => RpAll.get (i := i) b h
theorem RpAll.getV : ∀ {vs : List V} {ds : List RD} {i : Nat} {v : V}, RpAll K G vs ds → vs[i]? = some v → ∃ d, ds[i]? = some d ∧ Rp K G v d
  | _, _, 0, d, .cons a b, h => ⟨_, rfl, by cases h; exact a⟩
  | _, _, i + 1, d, .cons a b, h => RpAll.getV (i := i) b h
theorem RpAll.append : ∀ {vs us : List V} {ds es : List RD}, RpAll K G vs ds → RpAll K G us es → RpAll K G (vs ++ us) (ds ++ es)
  | _, _, _, _, .nil, h => h
  | _, _, _, _, .cons a b, h => .cons a (RpAll.append b h)
theorem RpAll.take : ∀ {vs : List V} {ds : List RD} (n : Nat), RpAll K G vs ds → RpAll K G (vs.take n) (ds.take n)
  | _, _, 0, _ => by rw [List.take_zero, List.take_zero]; exact .nil
  | _, _, n + 1, .nil => .nil
  | _, _, n + 1, .cons a b => .cons a (RpAll.take n b)
theorem RpAll.drop : ∀ {vs : List V} {ds : List RD} (n : Nat), RpAll K G vs ds → RpAll K G (vs.drop n) (ds.drop n)
  | _, _, 0, h => h
  | _, _, n + 1, .nil => .nil
  | _, _, n + 1, .cons a b => RpAll.drop n b
theorem RpAll.set : ∀ {vs : List V} {ds : List RD} (i : Nat) {v : V} {d : RD}, RpAll K G vs ds → Rp K G v d → RpAll K G (vs.set i v) (ds.set i d)
  | _, _, _, _, _, .nil, _ => .nil
  | _, _, 0, _, _, .cons a b, h => .cons h b
  | _, _, i + 1, _, _, .cons a b, h => .cons a (RpAll.set i b h)
theorem RpAll.ints : ∀ (ns : List Int), RpAll K G (ns.map V.int) (ns.map RD.int)
  | [] => .nil
  | n :: r => .cons (.int n) (RpAll.ints r)
theorem Rp.int_inv {v : V} {i : Int} (h : Rp K G v (.int i)) : v = .int i := by cases h; rfl
theorem Rp.bl_inv {v : V} {b : Bool} (h : Rp K G v (.bl b)) : v = .bl b := by cases h; rfl
theorem Rp.str_inv {v : V} {x : Str} (h : Rp K G v (.str x)) : v = .str x := by cases h; rfl
theorem Rp.non_inv {v : V} (h : Rp K G v .non) : v = .non := by cases h; rfl
theorem Rp.tup_inv {v : V} {ds : List RD} (h : Rp K G v (.tup ds)) : ∃ a xs, v = .ref a ∧ SqT K G a xs ∧ RpAll K G xs ds := by
  cases h with
  | tup a b => exact ⟨_, _, rfl, a, b⟩
theorem Rp.lst_inv {v : V} {ds : List RD} (h : Rp K G v (.lst ds)) : ∃ a xs, v = .ref a ∧ G a = some (.lst xs) ∧ RpAll K G xs ds := by
  cases h with
  | lst a b => exact ⟨_, _, rfl, a, b⟩
end

/-! ### steps of the heap: H the heap, G the part of it that data lean on -/
structure Sx (G H G' H' : Hp) : Prop where
  h : Evl.Ex H H'
  g : Evl.Ex G G'
  s : Evl.Ex G' H'
  n : ∀ a, G' a ≠ none → G a ≠ none ∨ H a = none
theorem Sx.refl {G H : Hp} (e : Evl.Ex G H) : Sx G H G H := ⟨Evl.Ex.refl H, Evl.Ex.refl G, e, fun _ h => .inl h⟩
theorem Sx.trans {G H G1 H1 G2 H2 : Hp} (a : Sx G H G1 H1) (b : Sx G1 H1 G2 H2) : Sx G H G2 H2 :=
  ⟨a.h.trans b.h, a.g.trans b.g, b.s, fun x hx => by
    rcases b.n x hx with h | h
    · exact a.n x h
    · exact .inr (Evl.fresh_back a.h h)⟩
/-- a new object that data may lean on -/
theorem Sx.new {G H : Hp} {p : Addr} {o : HO} (e : Evl.Ex G H) (hp : H p = none) : Sx G H (upd G p o) (upd H p o) :=
  ⟨Evl.Ex.new hp, Evl.Ex.new (Evl.fresh_back e hp), fun a u ha => by
    by_cases h : a = p
    · subst h; rw [upd_same] at ha ⊢; exact ha
    · rw [upd_ne h] at ha ⊢; exact e a u ha,
   fun a ha => by
    by_cases h : a = p
    · subst h; exact .inr hp
    · rw [upd_ne h] at ha; exact .inl ha⟩
/-- a new object of one's own -/
theorem Sx.newH {G H : Hp} {p : Addr} {o : HO} (e : Evl.Ex G H) (hp : H p = none) : Sx G H G (upd H p o) :=
  ⟨Evl.Ex.new hp, Evl.Ex.refl G, e.trans (Evl.Ex.new hp), fun _ ha => .inl ha⟩

/-! ### the slots by what they stand for -/
inductive SV where
  | un | dat (d : RD) | own (ds : List RD)
abbrev Sg := List SV
structure Abs (K : PySem.W.Frag) (G0 H0 G H : Hp) (σ : L2.St) (S : Sg) : Prop where
  sx : Sx G0 H0 G H
  len : σ.length = S.length
  dat : ∀ (i : Nat) (d : RD), S[i]? = some (.dat d) → ∃ v, σ[i]? = some (some v) ∧ Rp K G v d
  own : ∀ (i : Nat) (ds : List RD), S[i]? = some (.own ds) → ∃ a vs, σ[i]? = some (some (.ref a)) ∧ H a = some (.lst vs) ∧ G a = none ∧ H0 a = none ∧ RpAll K G vs ds
  sep : ∀ (i j : Nat) (ds es : List RD) (a : Addr), S[i]? = some (.own ds) → S[j]? = some (.own es) → σ[i]? = some (some (.ref a)) → σ[j]? = some (some (.ref a)) → i = j
section
variable {K : PySem.W.Frag} {G0 H0 G H G' H' : Hp} {σ : L2.St} {S : Sg}
theorem Abs.gh (A : Abs K G0 H0 G H σ S) : Evl.Ex G H := A.sx.s
theorem Sx.stay_none {a : Addr} {o : HO} (s : Sx G H G' H') (ha : H a = some o) (g : G a = none) : G' a = none := by
  cases e : G' a with
  | none => rfl
  | some u =>
    rcases s.n a (by rw [e]; simp) with h | h
    · exact absurd g h
    · rw [ha] at h; cases h
theorem Abs.ext (A : Abs K G0 H0 G H σ S) (s : Sx G H G' H') : Abs K G0 H0 G' H' σ S :=
  ⟨A.sx.trans s, A.len, fun i d h => by
    obtain ⟨v, h1, h2⟩ := A.dat i d h
    exact ⟨v, h1, h2.mono s.g⟩,
   fun i ds h => by
    obtain ⟨a, vs, h1, h2, h3, h4, h5⟩ := A.own i ds h
    exact ⟨a, vs, h1, s.h a _ h2, s.stay_none h2 h3, h4, h5.mono s.g⟩, A.sep⟩
/-- what a slot holds: data -/
theorem Abs.setD {i : Nat} {v : V} {d : RD} (A : Abs K G0 H0 G H σ S) (h : Rp K G v d) : Abs K G0 H0 G H (σ.set i (some v)) (S.set i (.dat d)) := by
  refine ⟨A.sx, by rw [List.length_set, List.length_set]; exact A.len, fun j e hj => ?_, fun j ds hj => ?_, fun j k ds es a hj hk ej ek => ?_⟩
  · by_cases hij : i = j
    · subst hij
      have hl : i < S.length := by
        have := (List.getElem?_eq_some_iff.mp hj).1
        rw [List.length_set] at this; exact this
      rw [List.getElem?_set_self hl] at hj
      cases hj
      exact ⟨v, List.getElem?_set_self (by rw [A.len]; exact hl), h⟩
    · rw [List.getElem?_set_ne hij] at hj
      obtain ⟨u, h1, h2⟩ := A.dat j e hj
      exact ⟨u, by rw [List.getElem?_set_ne hij]; exact h1, h2⟩
  · by_cases hij : i = j
    · subst hij
      have hl : i < S.length := by
        have := (List.getElem?_eq_some_iff.mp hj).1
        rw [List.length_set] at this; exact this
      rw [List.getElem?_set_self hl] at hj
      cases hj
    · rw [List.getElem?_set_ne hij] at hj
      obtain ⟨a, vs, h1, h2⟩ := A.own j ds hj
      exact ⟨a, vs, by rw [List.getElem?_set_ne hij]; exact h1, h2⟩
  · have nj : i ≠ j := fun z => by
      subst z
      have hl : i < S.length := by
        have := (List.getElem?_eq_some_iff.mp hj).1
        rw [List.length_set] at this; exact this
      rw [List.getElem?_set_self hl] at hj; cases hj
    have nk : i ≠ k := fun z => by
      subst z
      have hl : i < S.length := by
        have := (List.getElem?_eq_some_iff.mp hk).1
        rw [List.length_set] at this; exact this
      rw [List.getElem?_set_self hl] at hk; cases hk
    rw [List.getElem?_set_ne nj] at hj ej
    rw [List.getElem?_set_ne nk] at hk ek
    exact A.sep j k ds es a hj hk ej ek
end

/-! ### what readings give -/
section
variable (K : PySem.W.Frag)
def AE (te : TE) (S : Sg) (d : RD) : Prop := ∀ G0 H0 G H σ, Abs K G0 H0 G H σ S → ∀ Q : VK, (∀ v G' H', Sx G H G' H' → Rp K G' v d → Q v H') → te σ H Q
def AT (tt : TT) (S : Sg) (b : Bool) : Prop := ∀ G0 H0 G H σ, Abs K G0 H0 G H σ S → ∀ Q : Bool → Hp → Prop, (∀ G' H', Sx G H G' H' → Q b H') → tt σ H Q
def AA (ta : TA) (S : Sg) (ds : List RD) : Prop := ∀ G0 H0 G H σ, Abs K G0 H0 G H σ S → ∀ Q : List V → Hp → Prop, (∀ vs G' H', Sx G H G' H' → RpAll K G' vs ds → Q vs H') → ta σ H Q
def AO (to : TO) (S : Sg) (o : Option Int) : Prop := ∀ G0 H0 G H σ, Abs K G0 H0 G H σ S → ∀ Q : Option Int → Hp → Prop, (∀ G' H', Sx G H G' H' → Q o H') → to σ H Q
/-- an operation on two values; a call on values -/
def RO (r : R2) (d1 d2 d : RD) : Prop := ∀ G H x y, Evl.Ex G H → Rp K G x d1 → Rp K G y d2 → ∀ Q : VK, (∀ v G' H', Sx G H G' H' → Rp K G' v d → Q v H') → r x y H Q
def RU (r : V → Hp → VK → Prop) (d1 d : RD) : Prop := ∀ G H x, Evl.Ex G H → Rp K G x d1 → ∀ Q : VK, (∀ v G' H', Sx G H G' H' → Rp K G' v d → Q v H') → r x H Q
def RC (r : List V → Hp → VK → Prop) (ds : List RD) (d : RD) : Prop := ∀ G H vs, Evl.Ex G H → RpAll K G vs ds → ∀ Q : VK, (∀ v G' H', Sx G H G' H' → Rp K G' v d → Q v H') → r vs H Q
/-- a method of a built-in value -/
def RM (r : V → List V → Hp → VK → Prop) (d0 : RD) (ds : List RD) (d : RD) : Prop := ∀ G H x vs, Evl.Ex G H → Rp K G x d0 → RpAll K G vs ds → ∀ Q : VK, (∀ v G' H', Sx G H G' H' → Rp K G' v d → Q v H') → r x vs H Q
end

section
variable {K : PySem.W.Frag} {S : Sg} {ta tb te tx : TE} {t u : TT} {d d1 d2 d3 : RD} {r : R2}
theorem ae_var {i : Nat} (h : S[i]? = some (.dat d)) : AE K (tVar i) S d := fun G0 H0 G H σ A Q q => by
  obtain ⟨v, h1, h2⟩ := A.dat i d h
  exact ⟨v, h1, q v G H (.refl A.gh) h2⟩
theorem ae_c {v : V} (h : ∀ G, Rp K G v d) : AE K (tC v) S d := fun G0 H0 G H σ A Q q => q v G H (.refl A.gh) (h G)
theorem ae_int {i : Int} : AE K (tC (.int i)) S (.int i) := ae_c fun _ => .int i
theorem ae_bl {b : Bool} : AE K (tC (.bl b)) S (.bl b) := ae_c fun _ => .bl b
theorem ae_str {x : Str} : AE K (tC (.str x)) S (.str x) := ae_c fun _ => .str x
theorem ae_ty {n : String} : AE K (tC (.ty n)) S (.ty n) := ae_c fun _ => .ty n
theorem ae_non : AE K (tC .non) S .non := ae_c fun _ => .non
theorem ae_is {e : RD} (h : AE K te S d) (e1 : d = e) : AE K te S e := e1 ▸ h
theorem ae_op (ha : AE K ta S d1) (hb : AE K tb S d2) (hr : RO K r d1 d2 d) : AE K (tOp r ta tb) S d := fun G0 H0 G H σ A Q q =>
  ha G0 H0 G H σ A _ fun x G1 H1 s1 r1 => hb G0 H0 G1 H1 σ (A.ext s1) _ fun y G2 H2 s2 r2 => hr G2 H2 x y s2.s (r1.mono s2.g) r2 Q fun v G3 H3 s3 r3 => q v G3 H3 ((s1.trans s2).trans s3) r3
theorem ae_un {r : V → Hp → VK → Prop} (ha : AE K ta S d1) (hr : RU K r d1 d) : AE K (tUn r ta) S d := fun G0 H0 G H σ A Q q =>
  ha G0 H0 G H σ A _ fun x G1 H1 s1 r1 => hr G1 H1 x s1.s r1 Q fun v G3 H3 s3 r3 => q v G3 H3 (s1.trans s3) r3
theorem aa_nil : AA K tNil S [] := fun G0 H0 G H σ A Q q => q [] G H (.refl A.gh) .nil
theorem aa_cons {tr : TA} {ds : List RD} (h : AE K ta S d) (hr : AA K tr S ds) : AA K (tCons ta tr) S (d :: ds) := fun G0 H0 G H σ A Q q =>
  h G0 H0 G H σ A _ fun x G1 H1 s1 r1 => hr G0 H0 G1 H1 σ (A.ext s1) _ fun vs G2 H2 s2 r2 => q (x :: vs) G2 H2 (s1.trans s2) (.cons (r1.mono s2.g) r2)
theorem ae_tup {ta : TA} {ds : List RD} (h : AA K ta S ds) (hl : ds.length ≤ 100000) : AE K (tTup ta) S (.tup ds) := fun G0 H0 G H σ A Q q =>
  h G0 H0 G H σ A _ fun vs G1 H1 s1 r1 => ⟨Evl.sz_of (by rw [r1.length]; exact hl), fun p hp =>
    have sn := Sx.new (o := .tup vs) s1.s hp
    q (.ref p) _ _ (s1.trans sn) (.tup (Evl.st_of upd_same) (r1.mono sn.g))⟩
theorem ae_lst {ta : TA} {ds : List RD} (h : AA K ta S ds) (hl : ds.length ≤ 100000) : AE K (tLst ta) S (.lst ds) := fun G0 H0 G H σ A Q q =>
  h G0 H0 G H σ A _ fun vs G1 H1 s1 r1 => ⟨Evl.sz_of (by rw [r1.length]; exact hl), fun p hp =>
    have sn := Sx.new (o := .lst vs) s1.s hp
    q (.ref p) _ _ (s1.trans sn) (.lst upd_same (r1.mono sn.g))⟩
theorem ae_cb {r : List V → Hp → VK → Prop} {ta : TA} {ds : List RD} (h : AA K ta S ds) (hr : RC K r ds d) : AE K (tCB r ta) S d := fun G0 H0 G H σ A Q q =>
  h G0 H0 G H σ A _ fun vs G1 H1 s1 r1 => hr G1 H1 vs s1.s r1 Q fun v G2 H2 s2 r2 => q v G2 H2 (s1.trans s2) r2
theorem ae_if {b : Bool} (h : AT K t S b) (h1 : b = true → AE K ta S d) (h2 : b = false → AE K tb S d) : AE K (tIf t ta tb) S d := fun G0 H0 G H σ A Q q =>
  h G0 H0 G H σ A _ fun G1 H1 s1 => by
    cases b with
    | true => exact h1 rfl G0 H0 G1 H1 σ (A.ext s1) Q fun v G2 H2 s2 r2 => q v G2 H2 (s1.trans s2) r2
    | false => exact h2 rfl G0 H0 G1 H1 σ (A.ext s1) Q fun v G2 H2 s2 r2 => q v G2 H2 (s1.trans s2) r2
theorem ae_andV {a b : Bool} (h1 : AE K ta S (.bl a)) (h2 : a = true → AE K tb S (.bl b)) : AE K (tAndV ta tb) S (.bl (a && b)) := fun G0 H0 G H σ A Q q =>
  h1 G0 H0 G H σ A _ fun x G1 H1 s1 r1 => by
    cases r1
    refine ⟨a, rfl, ?_⟩
    cases a with
    | true => exact h2 rfl G0 H0 G1 H1 σ (A.ext s1) Q fun v G2 H2 s2 r2 => q v G2 H2 (s1.trans s2) r2
    | false => exact q _ G1 H1 s1 (.bl _)
theorem ae_orV {a b : Bool} (h1 : AE K ta S (.bl a)) (h2 : a = false → AE K tb S (.bl b)) : AE K (tOrV ta tb) S (.bl (a || b)) := fun G0 H0 G H σ A Q q =>
  h1 G0 H0 G H σ A _ fun x G1 H1 s1 r1 => by
    cases r1
    refine ⟨a, rfl, ?_⟩
    cases a with
    | false => exact h2 rfl G0 H0 G1 H1 σ (A.ext s1) Q fun v G2 H2 s2 r2 => q v G2 H2 (s1.trans s2) r2
    | true => exact q _ G1 H1 s1 (.bl _)
theorem ae_notV {a : Bool} (h1 : AE K ta S (.bl a)) : AE K (tNotV ta) S (.bl (!a)) := fun G0 H0 G H σ A Q q =>
  h1 G0 H0 G H σ A _ fun x G1 H1 s1 r1 => by
    cases r1
    exact ⟨a, rfl, q _ G1 H1 s1 (.bl _)⟩
theorem at_test {b : Bool} (h : AE K te S (.bl b)) : AT K (tTest te) S b := fun G0 H0 G H σ A Q q =>
  h G0 H0 G H σ A _ fun x G1 H1 s1 r1 => by
    cases r1
    exact ⟨b, rfl, q G1 H1 s1⟩
theorem at_B {b : Bool} (h : AE K te S (.bl b)) : AT K (tB te) S b := fun G0 H0 G H σ A Q q =>
  h G0 H0 G H σ A _ fun x G1 H1 s1 r1 => by
    cases r1
    exact ⟨b, rfl, q G1 H1 s1⟩
theorem at_and {a b : Bool} (h1 : AT K t S a) (h2 : a = true → AT K u S b) : AT K (tAnd t u) S (a && b) := fun G0 H0 G H σ A Q q =>
  h1 G0 H0 G H σ A _ fun G1 H1 s1 => by
    cases a with
    | true => exact h2 rfl G0 H0 G1 H1 σ (A.ext s1) Q fun G2 H2 s2 => q G2 H2 (s1.trans s2)
    | false => exact q G1 H1 s1
theorem at_or {a b : Bool} (h1 : AT K t S a) (h2 : a = false → AT K u S b) : AT K (tOr t u) S (a || b) := fun G0 H0 G H σ A Q q =>
  h1 G0 H0 G H σ A _ fun G1 H1 s1 => by
    cases a with
    | false => exact h2 rfl G0 H0 G1 H1 σ (A.ext s1) Q fun G2 H2 s2 => q G2 H2 (s1.trans s2)
    | true => exact q G1 H1 s1
theorem at_not {a : Bool} (h1 : AT K t S a) : AT K (tNot t) S (!a) := fun G0 H0 G H σ A Q q => h1 G0 H0 G H σ A _ fun G1 H1 s1 => q G1 H1 s1
theorem at_is {a b : Bool} (h : AT K t S a) (e : a = b) : AT K t S b := e ▸ h
theorem at_yes : AT K tYes S true := fun G0 H0 G H σ A Q q => q G H (.refl A.gh)
theorem ao_none : AO K tNoPart S none := fun G0 H0 G H σ A Q q => q G H (.refl A.gh)
theorem ao_some {i : Int} (h : AE K te S (.int i)) : AO K (tPart te) S (some i) := fun G0 H0 G H σ A Q q =>
  h G0 H0 G H σ A _ fun x G1 H1 s1 r1 => ⟨i, r1.int_inv, q G1 H1 s1⟩

/-! ### operations -/
theorem ro_I0i {g : Int → Int → Int} {i j : Int} : RO K (rI0 fun i j => .int (g i j)) (.int i) (.int j) (.int (g i j)) := fun G H x y e hx hy Q q => by
  cases hx; cases hy
  exact ⟨i, j, rfl, rfl, q _ G H (.refl e) (.int _)⟩
theorem ro_I0b {g : Int → Int → Bool} {i j : Int} : RO K (rI0 fun i j => .bl (g i j)) (.int i) (.int j) (.bl (g i j)) := fun G H x y e hx hy Q q => by
  cases hx; cases hy
  exact ⟨i, j, rfl, rfl, q _ G H (.refl e) (.bl _)⟩
theorem ro_Ii {C : Int → Int → Prop} {g : Int → Int → Int} {i j : Int} (hc : C i j) : RO K (rI C fun i j => .int (g i j)) (.int i) (.int j) (.int (g i j)) := fun G H x y e hx hy Q q => by
  cases hx; cases hy
  exact ⟨i, j, rfl, rfl, hc, q _ G H (.refl e) (.int _)⟩
theorem ru_i {g : Int → Int} {i : Int} : RU K (rU fun i => .int (g i)) (.int i) (.int (g i)) := fun G H x e hx Q q => by
  cases hx
  exact ⟨i, rfl, q _ G H (.refl e) (.int _)⟩
/-- == and != of ints, bools, texts, None -/
def scalD : RD → Option V
  | .int i => some (.int i)
  | .bl b => some (.bl b)
  | .str x => some (.str x)
  | .non => some .non
  | _ => none
theorem scalD_inv {G : Hp} {v w : V} {d : RD} (h : scalD d = some w) (r : Rp K G v d) : v = w := by
  cases r <;> simp [scalD] at h <;> exact h
theorem ro_eq {x y : V} (h1 : scalD d1 = some x) (h2 : scalD d2 = some y) (h : scal x y = true) : RO K rEq d1 d2 (.bl (decide (x = y))) := fun G H v w e hv hw Q q => by
  obtain rfl := scalD_inv h1 hv
  obtain rfl := scalD_inv h2 hw
  exact ⟨h, q _ G H (.refl e) (.bl _)⟩
theorem ro_ne {x y : V} (h1 : scalD d1 = some x) (h2 : scalD d2 = some y) (h : scal x y = true) : RO K rNe d1 d2 (.bl (!decide (x = y))) := fun G H v w e hv hw Q q => by
  obtain rfl := scalD_inv h1 hv
  obtain rfl := scalD_inv h2 hw
  exact ⟨h, q _ G H (.refl e) (.bl _)⟩
theorem ro_ltS {x y : Str} : RO K (fun a b H Q => ∃ i j : Str, a = .str i ∧ b = .str j ∧ Q (.bl (decide (i.cps.toList < j.cps.toList))) H) (.str x) (.str y) (.bl (decide (x.cps.toList < y.cps.toList))) := fun G H v w e hv hw Q q => by
  cases hv; cases hw
  exact ⟨x, y, rfl, rfl, q _ G H (.refl e) (.bl _)⟩
theorem atI_get {α : Type} {xs : List α} {i : Int} {x : α} (h : atI xs i = some x) : ∃ j, ixN xs.length i = some j ∧ xs[j]? = some x := by
  unfold atI at h
  cases e : ixN xs.length i with
  | none => rw [e] at h; cases h
  | some j => rw [e] at h; exact ⟨j, rfl, h⟩
theorem atI_vs {G : Hp} {vs : List V} {ds : List RD} {i : Int} {d : RD} (r : RpAll K G vs ds) (h : atI ds i = some d) : ∃ v, atI vs i = some v ∧ Rp K G v d := by
  obtain ⟨j, h1, h2⟩ := atI_get h
  obtain ⟨v, h3, h4⟩ := r.get h2
  refine ⟨v, ?_, h4⟩
  unfold atI
  rw [r.length, h1]
  exact h3
theorem ro_ixT {ds : List RD} {i : Int} (h : atI ds i = some d) : RO K (rIxT K) (.tup ds) (.int i) d := fun G H x y e hx hy Q q => by
  obtain ⟨a, xs, rfl, hs, ha⟩ := hx.tup_inv
  cases hy
  obtain ⟨v, h1, h2⟩ := atI_vs ha h
  exact ⟨a, xs, i, v, rfl, rfl, Evl.ex_t e hs, h1, q v G H (.refl e) h2⟩
theorem ro_ixL {ds : List RD} {i : Int} (h : atI ds i = some d) : RO K (rIxL K) (.lst ds) (.int i) d := fun G H x y e hx hy Q q => by
  obtain ⟨a, xs, rfl, hs, ha⟩ := hx.lst_inv
  cases hy
  obtain ⟨v, h1, h2⟩ := atI_vs ha h
  exact ⟨a, xs, i, v, rfl, rfl, Evl.ex_l e (Evl.sq_of hs), h1, q v G H (.refl e) h2⟩
theorem ro_ixsT {ds : List RD} {i : Int} (h : atI ds i = some d) : RO K (rIx K) (.tup ds) (.int i) d := fun G H x y e hx hy Q q => .inr (.inl (ro_ixT h G H x y e hx hy Q q))
theorem ro_ixsL {ds : List RD} {i : Int} (h : atI ds i = some d) : RO K (rIx K) (.lst ds) (.int i) d := fun G H x y e hx hy Q q => .inl (ro_ixL h G H x y e hx hy Q q)

/-! ### calls of defs -/
inductive Res where
  | ok (d : RD) | exc (c : Value)
/-- a promise over data: R, what the arguments' data give -/
def spF (K : PySem.W.Frag) (n : Nat) (R : List RD → Res → Prop) : Sp := fun vs H Q E => ∃ G ds r, vs.length = n ∧ Evl.Ex G H ∧ RpAll K G vs ds ∧ R ds r ∧
  match r with
  | .ok d => ∀ v G' H', Sx G H G' H' → Rp K G' v d → Q v H'
  | .exc c => ∀ H', Evl.Ex H H' → E c none H'
theorem ae_call {n : Nat} {R : List RD → Res → Prop} {dvs : List V} {E : XK} {ta : TA} {ds es : List RD} (h : AA K ta S ds) (hd : ∀ G, RpAll K G dvs es) (hn : (ds ++ es).length = n) (hR : R (ds ++ es) (.ok d)) : AE K (tCall (spF K n R) dvs E ta) S d := fun G0 H0 G H σ A Q q =>
  h G0 H0 G H σ A _ fun vs G1 H1 s1 r1 =>
    have ra := r1.append (hd G1)
    ⟨G1, ds ++ es, .ok d, by rw [ra.length]; exact hn, s1.s, ra, hR, fun v G2 H2 s2 r2 => q v G2 H2 (s1.trans s2) r2⟩
theorem ae_call0 {n : Nat} {R : List RD → Res → Prop} {E : XK} {ta : TA} {ds : List RD} (h : AA K ta S ds) (hn : ds.length = n) (hR : R ds (.ok d)) : AE K (tCall (spF K n R) [] E ta) S d :=
  ae_call (es := []) h (fun _ => .nil) (by rw [List.append_nil]; exact hn) (by rw [List.append_nil]; exact hR)
theorem ae_callS {n : Nat} {R : List RD → Res → Prop} {E : L2.St → XK} {ta : TA} {ds : List RD} (h : AA K ta S ds) (hn : ds.length = n) (hR : R ds (.ok d)) : AE K (tCallS (spF K n R) E ta) S d := fun G0 H0 G H σ A Q q =>
  h G0 H0 G H σ A _ fun vs G1 H1 s1 r1 =>
    ⟨G1, ds, .ok d, by rw [r1.length]; exact hn, s1.s, r1, hR, fun v G2 H2 s2 r2 => q v G2 H2 (s1.trans s2) r2⟩
end
end RP

set_option Elab.async false
set_option linter.all false
set_option maxRecDepth 100000
set_option maxHeartbeats 2000000
namespace RP
open PySem PySem.Spec PyProof.Rows L2

/-! ### statements -/
inductive Out where
  | nx (S : Sg) | rt (d : RD) | bk (S : Sg) | ct (S : Sg) | ex (c : Value) (S : Sg)
def Fin (K : PySem.W.Frag) (W : WX) (D : Ends) (G0 H0 G : Hp) : Out → Prop
  | .nx S => ∀ G' H' σ', Evl.Ex G G' → Abs K G0 H0 G' H' σ' S → D.nx σ' H'
  | .rt d => ∀ v G' H', Evl.Ex G G' → Sx G0 H0 G' H' → Rp K G' v d → D.rt v H'
  | .bk S => ∀ G' H' σ', Evl.Ex G G' → Abs K G0 H0 G' H' σ' S → D.bk σ' H'
  | .ct S => ∀ G' H' σ', Evl.Ex G G' → Abs K G0 H0 G' H' σ' S → D.ct σ' H'
  | .ex c S => ∀ G' H' σ', Evl.Ex G G' → Abs K G0 H0 G' H' σ' S → W c none σ' H'
def AS (K : PySem.W.Frag) (W : WX) (ts : TS) (S : Sg) (o : Out) : Prop := ∀ G0 H0 G H σ, Abs K G0 H0 G H σ S → ∀ D, Fin K W D G0 H0 G o → ts D σ H
/-- an expression that raises -/
def AX (K : PySem.W.Frag) (W : WX) (te : TE) (S : Sg) (c : Value) : Prop := ∀ G0 H0 G H σ, Abs K G0 H0 G H σ S → (∀ G' H', Sx G H G' H' → W c none σ H') → ∀ Q, te σ H Q
/-- what is known is forgotten in part -/
inductive Fg : Sg → Sg → Prop
  | nil : Fg [] []
  | keep {x : SV} {S T : Sg} (h : Fg S T) : Fg (x :: S) (x :: T)
  | drop {x : SV} {S T : Sg} (h : Fg S T) : Fg (x :: S) (.un :: T)
theorem Fg.refl : ∀ S, Fg S S
  | [] => .nil
  | x :: S => .keep (Fg.refl S)
theorem Fg.len {S T : Sg} (f : Fg S T) : S.length = T.length := by
  induction f with
  | nil => rfl
  | keep _ ih => exact congrArg (· + 1) ih
  | drop _ ih => exact congrArg (· + 1) ih
theorem Fg.at {S T : Sg} (f : Fg S T) : ∀ {i : Nat} {x : SV}, T[i]? = some x → x ≠ .un → S[i]? = some x := by
  induction f with
  | nil => intro i x h; simp at h
  | keep _ ih =>
    intro i x h hx
    cases i with
    | zero => exact h
    | succ i => exact ih (i := i) h hx
  | drop _ ih =>
    intro i x h hx
    cases i with
    | zero => cases h; exact absurd rfl hx
    | succ i => exact ih (i := i) h hx
theorem Abs.fg {K : PySem.W.Frag} {G0 H0 G H : Hp} {σ : L2.St} {S T : Sg} (A : Abs K G0 H0 G H σ S) (f : Fg S T) : Abs K G0 H0 G H σ T :=
  ⟨A.sx, A.len.trans f.len, fun i d h => A.dat i d (f.at h fun z => nomatch z), fun i ds h => A.own i ds (f.at h fun z => nomatch z),
   fun i j ds es a h k => A.sep i j ds es a (f.at h fun z => nomatch z) (f.at k fun z => nomatch z)⟩
def Out.goes : Out → Sg → Prop
  | .nx S, T => Fg S T
  | .ct S, T => Fg S T
  | _, _ => False
/-- what a turn's end that leaves the loop makes of the loop -/
def Out.leaves : Out → Out → Prop
  | .rt d, o => o = .rt d
  | .ex c S, o => o = .ex c S
  | .bk S, o => o = .nx S
  | _, _ => False
/-- neither next nor break nor continue -/
def Out.hard : Out → Bool
  | .rt _ => true
  | .ex _ _ => true
  | _ => false
section
variable {K : PySem.W.Frag} {W : WX} {S S1 S2 : Sg} {te ta tb : TE} {tt : TT} {t u : TS} {d : RD} {o : Out} {c : Value}
theorem Fin.mono {D : Ends} {G0 H0 G G' : Hp} (e : Evl.Ex G G') (f : Fin K W D G0 H0 G o) : Fin K W D G0 H0 G' o := by
  cases o with
  | nx S => exact fun G2 H2 σ2 e2 => f G2 H2 σ2 (e.trans e2)
  | rt d => exact fun v G2 H2 e2 => f v G2 H2 (e.trans e2)
  | bk S => exact fun G2 H2 σ2 e2 => f G2 H2 σ2 (e.trans e2)
  | ct S => exact fun G2 H2 σ2 e2 => f G2 H2 σ2 (e.trans e2)
  | ex c S => exact fun G2 H2 σ2 e2 => f G2 H2 σ2 (e.trans e2)
theorem as_next : AS K W tNext S (.nx S) := fun G0 H0 G H σ A D f => f G H σ (Evl.Ex.refl G) A
theorem as_seq (h1 : AS K W t S (.nx S1)) (h2 : AS K W u S1 o) : AS K W (tSeq t u) S o := fun G0 H0 G H σ A D f =>
  h1 G0 H0 G H σ A { D with nx := u D } fun G1 H1 σ1 e1 A1 => h2 G0 H0 G1 H1 σ1 A1 D (f.mono e1)
theorem as_stop (h1 : AS K W t S o) (ho : ∀ T, o ≠ .nx T) : AS K W (tSeq t u) S o := fun G0 H0 G H σ A D f =>
  h1 G0 H0 G H σ A { D with nx := u D } (by
    cases o with
    | nx T => exact absurd rfl (ho T)
    | rt d => exact f
    | bk T => exact f
    | ct T => exact f
    | ex c T => exact f)
theorem as_asg {i : Nat} (h : AE K te S d) : AS K W (tAsg te (gName i)) S (.nx (S.set i (.dat d))) := fun G0 H0 G H σ A D f =>
  h G0 H0 G H σ A _ fun v G1 H1 s1 r1 => f G1 H1 _ s1.g ((A.ext s1).setD r1)
theorem as_ret (h : AE K te S d) : AS K W (tRet te) S (.rt d) := fun G0 H0 G H σ A D f =>
  h G0 H0 G H σ A _ fun v G1 H1 s1 r1 => f v G1 H1 s1.g (A.sx.trans s1) r1
theorem as_retN : AS K W tRetN S (.rt .non) := fun G0 H0 G H σ A D f => f .non G H (Evl.Ex.refl G) A.sx .non
theorem as_drop (h : AE K te S d) : AS K W (tDrop te) S (.nx S) := fun G0 H0 G H σ A D f =>
  h G0 H0 G H σ A _ fun v G1 H1 s1 r1 => f G1 H1 _ s1.g (A.ext s1)
theorem as_if {b : Bool} (h : AT K tt S b) (h1 : b = true → AS K W t S o) (h2 : b = false → AS K W u S o) : AS K W (tIfS tt t u) S o := fun G0 H0 G H σ A D f =>
  h G0 H0 G H σ A _ fun G1 H1 s1 => by
    cases b with
    | true => exact h1 rfl G0 H0 G1 H1 σ (A.ext s1) D (f.mono s1.g)
    | false => exact h2 rfl G0 H0 G1 H1 σ (A.ext s1) D (f.mono s1.g)
theorem as_brk : AS K W tBreak S (.bk S) := fun G0 H0 G H σ A D f => f G H σ (Evl.Ex.refl G) A
theorem as_cont : AS K W tCont S (.ct S) := fun G0 H0 G H σ A D f => f G H σ (Evl.Ex.refl G) A
theorem as_raise {C : Addr} : AS K W (fun _ σ H => W (.ref C) none σ H) S (.ex (.ref C) S) := fun G0 H0 G H σ A D f => f G H σ (Evl.Ex.refl G) A
theorem as_par {i j : Nat} {ta : TA} {d1 d2 : RD} (h : AA K ta S [d1, d2]) : AS K W (tPar i j ta) S (.nx ((S.set i (.dat d1)).set j (.dat d2))) := fun G0 H0 G H σ A D f =>
  h G0 H0 G H σ A _ fun vs G1 H1 s1 r1 => by
    cases r1 with
    | cons a r => cases r with
      | cons b r => cases r with
        | nil => exact ⟨_, _, rfl, f G1 H1 _ s1.g (((A.ext s1).setD a).setD b)⟩
theorem as_aug {i : Nat} {g : Int → Int → Int} {a b : Int} (hx : S[i]? = some (.dat (.int a))) (h : AE K te S (.int b)) : AS K W (tAug i te (ipI g)) S (.nx (S.set i (.dat (.int (g a b))))) := fun G0 H0 G H σ A D f => by
  obtain ⟨v, h1, h2⟩ := A.dat i _ hx
  cases h2
  refine ⟨_, h1, h G0 H0 G H σ A _ fun v G1 H1 s1 r1 => ?_⟩
  cases r1
  exact ⟨a, b, rfl, rfl, f G1 H1 _ s1.g ((A.ext s1).setD (.int _))⟩
theorem as_is {o' : Out} (h : AS K W t S o) (e : o = o') : AS K W t S o' := e ▸ h
/-- calls that raise -/
theorem ax_callS {n : Nat} {R : List RD → Res → Prop} {ta : TA} {ds : List RD} (h : AA K ta S ds) (hn : ds.length = n) (hR : R ds (.exc c)) : AX K W (tCallS (spF K n R) (WE W) ta) S c := fun G0 H0 G H σ A f Q =>
  h G0 H0 G H σ A _ fun vs G1 H1 s1 r1 =>
    ⟨G1, ds, .exc c, by rw [r1.length]; exact hn, s1.s, r1, hR, fun H2 e2 => f G1 H2 (s1.trans ⟨e2, Evl.Ex.refl G1, s1.s.trans e2, fun _ h => .inl h⟩)⟩
theorem as_asgX {g : TG} (h : AX K W te S c) : AS K W (tAsg te g) S (.ex c S) := fun G0 H0 G H σ A D f =>
  h G0 H0 G H σ A (fun G1 H1 s1 => f G1 H1 σ s1.g (A.ext s1)) _
theorem as_dropX (h : AX K W te S c) : AS K W (tDrop te) S (.ex c S) := fun G0 H0 G H σ A D f =>
  h G0 H0 G H σ A (fun G1 H1 s1 => f G1 H1 σ s1.g (A.ext s1)) _
theorem as_retX (h : AX K W te S c) : AS K W (tRet te) S (.ex c S) := fun G0 H0 G H σ A D f =>
  h G0 H0 G H σ A (fun G1 H1 s1 => f G1 H1 σ s1.g (A.ext s1)) _
end

section
variable {K : PySem.W.Frag} {W : WX} {S : Sg} {tt : TT} {t u v : TS} {o : Out}
theorem as_fg {T : Sg} (f : Fg S T) (h : AS K W t T o) : AS K W t S o := fun G0 H0 G H σ A D q => h G0 H0 G H σ (A.fg f) D q
/-- if .., without else, and what follows -/
theorem as_when {b : Bool} (h : AT K tt S b) (h1 : b = true → AS K W (tSeq t u) S o) (h2 : b = false → AS K W u S o) : AS K W (tSeq (tIfS tt t tNext) u) S o := fun G0 H0 G H σ A D f =>
  h G0 H0 G H σ A _ fun G1 H1 s1 => by
    cases b with
    | true => exact h1 rfl G0 H0 G1 H1 σ (A.ext s1) D (f.mono s1.g)
    | false => exact h2 rfl G0 H0 G1 H1 σ (A.ext s1) D (f.mono s1.g)
/-- both ways meet in what Z says of the slots -/
theorem as_whenQ {b : Bool} (Z : Sg → Prop) (h : AT K tt S b) (h1 : b = true → ∃ S1 S2, AS K W t S (.nx S1) ∧ Fg S1 S2 ∧ Z S2) (h2 : b = false → ∃ S2, Fg S S2 ∧ Z S2) (k : ∀ S1, Z S1 → AS K W u S1 o) : AS K W (tSeq (tIfS tt t tNext) u) S o :=
  as_when h (fun hb => by
    obtain ⟨S1, S2, a, f, z⟩ := h1 hb
    exact as_seq a (as_fg f (k S2 z))) (fun hb => by
    obtain ⟨S2, f, z⟩ := h2 hb
    exact as_fg f (k S2 z))
theorem as_when2 {b : Bool} (h : AT K tt S b) (h1 : b = true → AS K W (tSeq t u) S o) (h2 : b = false → AS K W (tSeq v u) S o) : AS K W (tSeq (tIfS tt t v) u) S o := fun G0 H0 G H σ A D f =>
  h G0 H0 G H σ A _ fun G1 H1 s1 => by
    cases b with
    | true => exact h1 rfl G0 H0 G1 H1 σ (A.ext s1) D (f.mono s1.g)
    | false => exact h2 rfl G0 H0 G1 H1 σ (A.ext s1) D (f.mono s1.g)
theorem set_self {i : Nat} {x : SV} (h : S[i]? = some x) : S.set i x = S := by
  apply List.ext_getElem?
  intro j
  by_cases hij : i = j
  · subst hij
    rw [List.getElem?_set_self (List.getElem?_eq_some_iff.mp h).1, h]
  · rw [List.getElem?_set_ne hij]
/-- if ..: x = e, by what x holds behind it -/
theorem as_ifset {b : Bool} {te : TE} {d : RD} {i : Nat} (h : AT K tt S b) (h1 : b = true → AE K te S d) (h2 : b = false → S[i]? = some (.dat d)) (k : AS K W u (S.set i (.dat d)) o) : AS K W (tSeq (tIfS tt (tAsg te (gName i)) tNext) u) S o :=
  as_when h (fun hb => as_seq (as_asg (h1 hb)) k) (fun hb => by rw [set_self (h2 hb)] at k; exact k)
theorem as_rets {te : TE} {d : RD} (h : AE K te S d) : AS K W (tSeq (tRet te) u) S (.rt d) := as_stop (as_ret h) fun _ z => nomatch z
end
/-! ### targets -/
/-- l: the slots that the target may write -/
def AG (K : PySem.W.Frag) (g : TG) (l : List Nat) (d : RD) (S S' : Sg) : Prop := ∀ G0 H0 G H σ v, Abs K G0 H0 G H σ S → Rp K G v d → ∀ Q : L2.St → Hp → Prop,
  (∀ σ', Abs K G0 H0 G H σ' S' → σ'.length = σ.length → (∀ k, k ∉ l → σ'[k]? = σ[k]?) → Q σ' H) → g v σ H Q
def AGs (K : PySem.W.Frag) (g : TGs) (l : List Nat) (ds : List RD) (S S' : Sg) : Prop := ∀ G0 H0 G H σ vs, Abs K G0 H0 G H σ S → RpAll K G vs ds → ∀ Q : L2.St → Hp → Prop,
  (∀ σ', Abs K G0 H0 G H σ' S' → σ'.length = σ.length → (∀ k, k ∉ l → σ'[k]? = σ[k]?) → Q σ' H) → g vs σ H Q
section
variable {K : PySem.W.Frag} {W : WX} {S S1 S2 S' : Sg} {te ta tb : TE} {tt : TT} {t u : TS} {d : RD} {ds : List RD} {o : Out} {g : TG} {gs : TGs} {l l' : List Nat}
theorem ag_name {i : Nat} : AG K (gName i) [i] d S (S.set i (.dat d)) := fun G0 H0 G H σ v A r Q q =>
  q _ (A.setD r) (List.length_set ..) fun k hk => List.getElem?_set_ne (fun e => hk (by rw [e]; exact List.mem_cons_self))
theorem ags_nil : AGs K gNil [] [] S S := fun G0 H0 G H σ vs A r Q q => by
  cases r
  exact ⟨rfl, q σ A rfl fun _ _ => rfl⟩
theorem ags_cons (h : AG K g l d S S1) (hr : AGs K gs l' ds S1 S2) : AGs K (gCons g gs) (l ++ l') (d :: ds) S S2 := fun G0 H0 G H σ vs A r Q q => by
  cases r with
  | cons a b =>
    refine ⟨_, _, rfl, h G0 H0 G H σ _ A a _ fun σ1 A1 l1 k1 => hr G0 H0 G H σ1 _ A1 b Q fun σ2 A2 l2 k2 => q σ2 A2 (l2.trans l1) fun k hk => ?_⟩
    rw [List.mem_append] at hk
    rw [k2 k fun z => hk (.inr z), k1 k fun z => hk (.inl z)]
theorem ag_tup {n : Nat} (h : AGs K gs l ds S S1) (hn : ds.length = n) : AG K (gTup K n gs) l (.tup ds) S S1 := fun G0 H0 G H σ v A r Q q => by
  obtain ⟨a, xs, rfl, hs, ha⟩ := r.tup_inv
  exact ⟨a, xs, rfl, Evl.ex_t A.gh hs, by rw [ha.length, hn], h G0 H0 G H σ xs A ha Q q⟩
end
theorem wipe_congr {σ τ : L2.St} : ∀ (vs : List Nat), σ.length = τ.length → (∀ k, k ∉ vs → σ[k]? = τ[k]?) → wipe σ vs = wipe τ vs := by
  intro vs hl hk
  apply List.ext_getElem?
  intro i
  by_cases hi : i ∈ vs
  · have f : ∀ (ρ : L2.St), i < ρ.length → (wipe ρ vs)[i]? = some none := fun ρ h => by
      have hl : i < (wipe ρ vs).length := by rw [wipe_length]; exact h
      have e := List.getElem?_eq_getElem hl
      cases z : (wipe ρ vs)[i] with
      | none => rw [e, z]
      | some x => rw [z] at e; exact absurd hi (wipe_some e).2
    by_cases h : i < σ.length
    · rw [f σ h, f τ (hl ▸ h)]
    · rw [List.getElem?_eq_none (by rw [wipe_length]; omega), List.getElem?_eq_none (by rw [wipe_length]; omega)]
  · rw [wipe_out hi, wipe_out hi]
    exact hk i hi
def wipeS (S : Sg) : List Nat → Sg
  | [] => S
  | v :: vs => (wipeS S vs).set v .un
theorem Abs.setU {K : PySem.W.Frag} {G0 H0 G H : Hp} {σ : L2.St} {S : Sg} {i : Nat} {z : Option V} (A : Abs K G0 H0 G H σ S) : Abs K G0 H0 G H (σ.set i z) (S.set i .un) := by
  have key : ∀ {j : Nat} {x : SV}, (S.set i .un)[j]? = some x → x ≠ .un → i ≠ j ∧ S[j]? = some x := fun {j x} h hx => by
    by_cases hij : i = j
    · subst hij
      have hl : i < S.length := by
        have := (List.getElem?_eq_some_iff.mp h).1
        rw [List.length_set] at this; exact this
      rw [List.getElem?_set_self hl] at h
      cases h; exact absurd rfl hx
    · exact ⟨hij, by rw [List.getElem?_set_ne hij] at h; exact h⟩
  refine ⟨A.sx, by rw [List.length_set, List.length_set]; exact A.len, fun j e hj => ?_, fun j ds hj => ?_, fun j k ds es a hj hk ej ek => ?_⟩
  · obtain ⟨n, hj⟩ := key hj (fun z => nomatch z)
    obtain ⟨v, h1, h2⟩ := A.dat j e hj
    exact ⟨v, by rw [List.getElem?_set_ne n]; exact h1, h2⟩
  · obtain ⟨n, hj⟩ := key hj (fun z => nomatch z)
    obtain ⟨a, vs, h1, h2⟩ := A.own j ds hj
    exact ⟨a, vs, by rw [List.getElem?_set_ne n]; exact h1, h2⟩
  · obtain ⟨n1, hj⟩ := key hj (fun z => nomatch z)
    obtain ⟨n2, hk⟩ := key hk (fun z => nomatch z)
    rw [List.getElem?_set_ne n1] at ej
    rw [List.getElem?_set_ne n2] at ek
    exact A.sep j k ds es a hj hk ej ek
theorem Abs.wipe {K : PySem.W.Frag} {G0 H0 G H : Hp} {σ : L2.St} {S : Sg} (A : Abs K G0 H0 G H σ S) : ∀ vs, Abs K G0 H0 G H (L2.wipe σ vs) (wipeS S vs)
  | [] => A
  | v :: vs => (A.wipe vs).setU

/-! ### what is walked -/
def Walks (K : PySem.W.Frag) (J : It) (G1 : Hp) (ds : List RD) : Prop := ∀ G H, Evl.Ex G1 G → Evl.Ex G H →
  (∀ i, i < ds.length → J.go i H ∧ ∀ x H', J.yld i H x H' → ∃ G' d, ds[i]? = some d ∧ Sx G H G' H' ∧ Rp K G' x d) ∧ J.stop ds.length H
def AI (K : PySem.W.Frag) (wi : TI) (S : Sg) (ds : List RD) : Prop := ∀ G0 H0 G H σ, Abs K G0 H0 G H σ S → ∀ R : It → Hp → Prop,
  (∀ J G1 H1, Sx G H G1 H1 → Walks K J G1 ds → R J H1) → wi σ H R
section
variable {K : PySem.W.Frag} {W : WX} {S S1 S2 S' : Sg} {te ta tb : TE} {tt : TT} {t u : TS} {d : RD} {ds : List RD} {o : Out} {g : TG}
theorem ai_list {tl : TE} (h : AE K tl S (.lst ds)) : AI K (iList K tl) S ds := fun G0 H0 G H σ A R q =>
  h G0 H0 G H σ A _ fun v G1 H1 s1 r1 => by
    obtain ⟨a, xs, rfl, hs', ha⟩ := r1.lst_inv
    have hs := Evl.sq_of (K := K) hs'
    refine ⟨a, rfl, ⟨xs, Evl.ex_l s1.s hs⟩, q _ G1 H1 s1 fun G2 H2 e1 e2 => ⟨fun i hi => ⟨?_, fun x H' hy => ?_⟩, xs, Evl.ex_l (e1.trans e2) hs, by rw [ha.length]; exact Nat.le_refl _⟩⟩
    · obtain ⟨v, h1, _⟩ := ha.get (List.getElem?_eq_getElem hi)
      exact ⟨xs, v, Evl.ex_l (e1.trans e2) hs, h1⟩
    · obtain ⟨rfl, hx⟩ := hy
      obtain ⟨d, h1, h2⟩ := ha.getV (hx xs (Evl.ex_l (e1.trans e2) hs))
      exact ⟨G2, d, h1, .refl e2, h2.mono e1⟩
theorem ai_tup {tl : TE} (h : AE K tl S (.tup ds)) : AI K (iTup K tl) S ds := fun G0 H0 G H σ A R q =>
  h G0 H0 G H σ A _ fun v G1 H1 s1 r1 => by
    obtain ⟨a, xs, rfl, hs, ha⟩ := r1.tup_inv
    refine ⟨a, rfl, ⟨xs, Evl.ex_t s1.s hs⟩, q _ G1 H1 s1 fun G2 H2 e1 e2 => ⟨fun i hi => ⟨?_, fun x H' hy => ?_⟩, xs, Evl.ex_t (e1.trans e2) hs, by rw [ha.length]; exact Nat.le_refl _⟩⟩
    · obtain ⟨v, h1, _⟩ := ha.get (List.getElem?_eq_getElem hi)
      exact ⟨xs, v, Evl.ex_t (e1.trans e2) hs, h1⟩
    · obtain ⟨rfl, hx⟩ := hy
      obtain ⟨d, h1, h2⟩ := ha.getV (hx xs (Evl.ex_t (e1.trans e2) hs))
      exact ⟨G2, d, h1, .refl e2, h2.mono e1⟩
theorem walks_range {lo : Int} {n : Nat} {G : Hp} : Walks K (Itr lo n) G ((List.range n).map fun (i : Nat) => RD.int (lo + i)) := fun G2 H2 e1 e2 => by
  refine ⟨fun i hi => ?_, by rw [List.length_map, List.length_range]; exact Nat.le_refl _⟩
  rw [List.length_map, List.length_range] at hi
  refine ⟨hi, fun x H' hy => ?_⟩
  obtain ⟨rfl, rfl⟩ := hy
  exact ⟨G2, .int (lo + i), by rw [List.getElem?_map, List.getElem?_range hi]; rfl, .refl e2, .int _⟩
theorem ai_range1 {ta : TA} {j : Int} (h : AA K ta S [.int j]) (hj : -1000000000 ≤ j ∧ j ≤ 1000000000) : AI K (iRng1 ta) S ((List.range j.toNat).map fun (i : Nat) => RD.int (0 + i)) := fun G0 H0 G H σ A R q =>
  h G0 H0 G H σ A _ fun vs G1 H1 s1 r1 => by
    cases r1 with
    | cons a r => cases r; cases a; exact ⟨j, rfl, by omega, by omega, q _ G1 H1 s1 walks_range⟩
theorem ai_range2 {ta : TA} {i j : Int} (h : AA K ta S [.int i, .int j]) (hi : -1000000000 ≤ i ∧ i ≤ 1000000000) (hj : -1000000000 ≤ j ∧ j ≤ 1000000000) : AI K (iRng2 ta) S ((List.range (j - i).toNat).map fun (k : Nat) => RD.int (i + k)) := fun G0 H0 G H σ A R q =>
  h G0 H0 G H σ A _ fun vs G1 H1 s1 r1 => by
    cases r1 with
    | cons a r => cases r with
      | cons b r => cases r; cases a; cases b; exact ⟨i, j, rfl, ⟨by omega, by omega, by omega, by omega⟩, q _ G1 H1 s1 walks_range⟩
theorem ai_zip {ta : TA} {as bs : List RD} (h : AA K ta S [.lst as, .lst bs]) : AI K (iZip K ta) S ((as.zip bs).map fun p => RD.tup [p.1, p.2]) := fun G0 H0 G H σ A R q =>
  h G0 H0 G H σ A _ fun vs G1 H1 s1 r1 => by
    cases r1 with
    | cons a r => cases r with
      | cons b r =>
        cases r
        obtain ⟨x, xs, rfl, hx', ax⟩ := a.lst_inv
        obtain ⟨y, ys, rfl, hy', ay⟩ := b.lst_inv
        have hx := Evl.sq_of (K := K) hx'
        have hy := Evl.sq_of (K := K) hy'
        refine ⟨x, y, xs, ys, rfl, Evl.ex_l s1.s hx, Evl.ex_l s1.s hy, q _ G1 H1 s1 fun G2 H2 e1 e2 => ?_⟩
        have hx2 := Evl.ex_l (e1.trans e2) hx
        have hy2 := Evl.ex_l (e1.trans e2) hy
        refine ⟨fun i hi => ?_, xs, ys, hx2, hy2, ?_⟩
        · rw [List.length_map, List.length_zip] at hi
          obtain ⟨u, h1, h2⟩ := ax.get (List.getElem?_eq_getElem (show i < as.length by omega))
          obtain ⟨v, h3, h4⟩ := ay.get (List.getElem?_eq_getElem (show i < bs.length by omega))
          refine ⟨⟨xs, ys, u, v, hx2, hy2, h1, h3⟩, fun p H' hp => ?_⟩
          obtain ⟨T, p1, p2, rfl, nT, rfl, f1, f2⟩ := hp
          have e3 : p1 = u := Option.some.inj ((f1 xs hx2).symm.trans h1)
          have e4 : p2 = v := Option.some.inj ((f2 ys hy2).symm.trans h3)
          subst e3 e4
          have sn := Sx.new (o := .tup [p1, p2]) e2 nT
          refine ⟨_, _, ?_, sn, .tup (Evl.st_of upd_same) (.cons (h2.mono (e1.trans sn.g)) (.cons (h4.mono (e1.trans sn.g)) .nil))⟩
          have ea := List.getElem?_eq_getElem (show i < as.length by omega)
          have eb := List.getElem?_eq_getElem (show i < bs.length by omega)
          rw [List.getElem?_map, List.getElem?_zip_eq_some (z := (as[i], bs[i])) |>.mpr ⟨ea, eb⟩] <;> rfl
        · rw [List.length_map, List.length_zip, ax.length, ay.length]
          omega
theorem ai_enum {ta : TA} {as : List RD} (h : AA K ta S [.lst as]) : AI K (iEnum K ta) S ((List.range as.length).map fun (i : Nat) => RD.tup [.int i, as.getD i .non]) := fun G0 H0 G H σ A R q =>
  h G0 H0 G H σ A _ fun vs G1 H1 s1 r1 => by
    cases r1 with
    | cons a r =>
      cases r
      obtain ⟨x, xs, rfl, hx', ax⟩ := a.lst_inv
      have hx := Evl.sq_of (K := K) hx'
      refine ⟨x, xs, rfl, Evl.ex_l s1.s hx, q _ G1 H1 s1 fun G2 H2 e1 e2 => ?_⟩
      have hx2 := Evl.ex_l (e1.trans e2) hx
      refine ⟨fun i hi => ?_, xs, hx2, by rw [List.length_map, List.length_range, ax.length]; exact Nat.le_refl _⟩
      rw [List.length_map, List.length_range] at hi
      obtain ⟨u, h1, h2⟩ := ax.get (List.getElem?_eq_getElem hi)
      refine ⟨⟨xs, u, hx2, h1⟩, fun p H' hp => ?_⟩
      obtain ⟨T, p1, rfl, nT, rfl, f1⟩ := hp
      have e3 : p1 = u := Option.some.inj ((f1 xs hx2).symm.trans h1)
      subst e3
      have sn := Sx.new (o := .tup [.int (i : Nat), p1]) e2 nT
      refine ⟨_, _, ?_, sn, .tup (Evl.st_of upd_same) (.cons (.int _) (.cons (h2.mono (e1.trans sn.g)) .nil))⟩
      rw [List.getElem?_map, List.getElem?_range hi, Option.map_some, List.getD_eq_getElem?_getD, List.getElem?_eq_getElem hi] <;> rfl
theorem ai_is {wi : TI} {es : List RD} (h : AI K wi S ds) (e : ds = es) : AI K wi S es := e ▸ h

/-! ### for -/
/-- m turns to their end; then the walk's end, or a turn that leaves -/
theorem as_for {wi : TI} {l : List Nat} (h : AI K wi S ds) (m : Nat) (T : Nat → Sg) (h0 : T 0 = S)
    (hs : ∀ i x, i < m → ds[i]? = some x → ∃ U o', AG K g l x (T i) U ∧ AS K W t U o' ∧ o'.goes (T (i + 1)))
    (he : (m = ds.length ∧ o = .nx (T m)) ∨ (∃ x U o', ds[m]? = some x ∧ AG K g l x (T m) U ∧ AS K W t U o' ∧ o'.leaves o)) : AS K W (tFor wi g t) S o := fun G0 H0 G H σ A D f =>
  h G0 H0 G H σ A _ fun J G1 H1 s1 hw => by
    have hm : m ≤ ds.length := by
      rcases he with ⟨e, _⟩ | ⟨x, _, _, hx, _⟩
      · omega
      · exact Nat.le_of_lt (List.getElem?_eq_some_iff.mp hx).1
    refine ⟨fun i k σ' H' => k = m - i ∧ i ≤ m ∧ ∃ G', Evl.Ex G1 G' ∧ Abs K G0 H0 G' H' σ' (T i), ⟨m, by omega, Nat.zero_le _, G1, Evl.Ex.refl _, by rw [h0]; exact A.ext s1⟩, ?_⟩
    rintro i k σ' H' ⟨rfl, hi, G', e', A'⟩
    obtain ⟨hgo, hstop⟩ := hw G' H' e' A'.gh
    by_cases hlt : i < m
    · obtain ⟨hg, hy⟩ := hgo i (by omega)
      refine .inr ⟨hg, fun σ2 H2 => ∃ G2, Evl.Ex G1 G2 ∧ Abs K G0 H0 G2 H2 σ2 (T (i + 1)), fun σ2 H2 ⟨G2, e2, A2⟩ => ⟨m - (i + 1), by omega, rfl, by omega, G2, e2, A2⟩, fun x H2 hx => ?_⟩
      obtain ⟨G2, d, hd, s2, r2⟩ := hy x H2 hx
      obtain ⟨U, o', ag, as, og⟩ := hs i d hlt hd
      refine ag G0 H0 G2 H2 σ' x (A'.ext s2) r2 _ fun σ3 A3 _ _ => as G0 H0 G2 H2 σ3 A3 _ ?_
      cases o' with
      | nx S' => exact fun G3 H3 σ4 e3 A4 => ⟨G3, (e'.trans s2.g).trans e3, A4.fg og⟩
      | ct S' => exact fun G3 H3 σ4 e3 A4 => ⟨G3, (e'.trans s2.g).trans e3, A4.fg og⟩
      | rt d => cases og
      | bk S' => cases og
      | ex c S' => cases og
    · have him : i = m := by omega
      subst him
      rcases he with ⟨e, rfl⟩ | ⟨x, U, o', hx, ag, as, ol⟩
      · subst e
        exact .inl ⟨hstop, f G' H' σ' (s1.g.trans e') A'⟩
      · have hil : i < ds.length := (List.getElem?_eq_some_iff.mp hx).1
        obtain ⟨hg, hy⟩ := hgo i hil
        refine .inr ⟨hg, fun _ _ => False, fun _ _ z => z.elim, fun y H2 hyl => ?_⟩
        obtain ⟨G2, d, hd, s2, r2⟩ := hy y H2 hyl
        rw [hx] at hd
        cases hd
        have e12 := (s1.g.trans e').trans s2.g
        refine ag G0 H0 G2 H2 σ' y (A'.ext s2) r2 _ fun σ3 A3 _ _ => as G0 H0 G2 H2 σ3 A3 _ ?_
        cases o' with
        | nx S' => cases ol
        | ct S' => cases ol
        | rt d => cases ol; exact fun v G3 H3 e3 => f v G3 H3 (e12.trans e3)
        | bk S' => cases ol; exact fun G3 H3 σ4 e3 => f G3 H3 σ4 (e12.trans e3)
        | ex c S' => cases ol; exact fun G3 H3 σ4 e3 => f G3 H3 σ4 (e12.trans e3)
/-- the whole walk -/
theorem as_forAll {wi : TI} {l : List Nat} (h : AI K wi S ds) (T : Nat → Sg) (h0 : T 0 = S)
    (hs : ∀ i x, ds[i]? = some x → ∃ U o', AG K g l x (T i) U ∧ AS K W t U o' ∧ o'.goes (T (i + 1))) : AS K W (tFor wi g t) S (.nx (T ds.length)) :=
  as_for h ds.length T h0 (fun i x _ hx => hs i x hx) (.inl ⟨rfl, rfl⟩)
/-- each turn leaves what is known as it is -/
theorem as_forK {wi : TI} {l : List Nat} (h : AI K wi S ds) (hs : ∀ x ∈ ds, ∃ U o', AG K g l x S U ∧ AS K W t U o' ∧ o'.goes S) : AS K W (tFor wi g t) S (.nx S) :=
  as_forAll h (fun _ => S) rfl fun i x hx => hs x (List.mem_of_getElem? hx)
/-! ### while -/
theorem as_while (m : Nat) (T : Nat → Sg) (h0 : T 0 = S) (hs : ∀ i, i < m → AT K tt (T i) true ∧ ∃ o', AS K W t (T i) o' ∧ o'.goes (T (i + 1)))
    (he : (AT K tt (T m) false ∧ o = .nx (T m)) ∨ (AT K tt (T m) true ∧ ∃ o', AS K W t (T m) o' ∧ o'.leaves o)) : AS K W (tWhile tt t) S o := fun G0 H0 G H σ A D f => by
  refine ⟨fun k σ' H' => ∃ i G', k = m - i ∧ i ≤ m ∧ Evl.Ex G G' ∧ Abs K G0 H0 G' H' σ' (T i), ⟨m, 0, G, by omega, Nat.zero_le _, Evl.Ex.refl _, by rw [h0]; exact A⟩, ?_⟩
  rintro k σ' H' ⟨i, G', rfl, hi, e', A'⟩
  by_cases hlt : i < m
  · obtain ⟨ht, o', as, og⟩ := hs i hlt
    refine ht G0 H0 G' H' σ' A' _ fun G2 H2 s2 => iteT ⟨fun σ2 H2 => ∃ G2, Evl.Ex G G2 ∧ Abs K G0 H0 G2 H2 σ2 (T (i + 1)), fun σ2 H2 ⟨G2, e2, A2⟩ => ⟨m - (i + 1), by omega, i + 1, G2, rfl, by omega, e2, A2⟩, as G0 H0 G2 H2 σ' (A'.ext s2) _ ?_⟩
    cases o' with
    | nx S' => exact fun G3 H3 σ4 e3 A4 => ⟨G3, (e'.trans s2.g).trans e3, A4.fg og⟩
    | ct S' => exact fun G3 H3 σ4 e3 A4 => ⟨G3, (e'.trans s2.g).trans e3, A4.fg og⟩
    | rt d => cases og
    | bk S' => cases og
    | ex c S' => cases og
  · have him : i = m := by omega
    subst him
    rcases he with ⟨ht, rfl⟩ | ⟨ht, o', as, ol⟩
    · exact ht G0 H0 G' H' σ' A' _ fun G2 H2 s2 => iteF (f G2 H2 σ' (e'.trans s2.g) (A'.ext s2))
    · refine ht G0 H0 G' H' σ' A' _ fun G2 H2 s2 => iteT ⟨fun _ _ => False, fun _ _ z => z.elim, as G0 H0 G2 H2 σ' (A'.ext s2) _ ?_⟩
      have e12 := e'.trans s2.g
      cases o' with
      | nx S' => cases ol
      | ct S' => cases ol
      | rt d => cases ol; exact fun v G3 H3 e3 => f v G3 H3 (e12.trans e3)
      | bk S' => cases ol; exact fun G3 H3 σ4 e3 => f G3 H3 σ4 (e12.trans e3)
      | ex c S' => cases ol; exact fun G3 H3 σ4 e3 => f G3 H3 σ4 (e12.trans e3)

/-- by a word that falls -/
theorem as_whileW {Se : Sg} (Wd : Nat → Sg → Prop) (m0 : Nat) (h0 : Wd m0 S)
    (hs : ∀ m T, Wd m T → ∃ b, AT K tt T b ∧ (b = true → ∃ o' T' m', AS K W t T o' ∧ o'.goes T' ∧ m' < m ∧ Wd m' T') ∧ (b = false → T = Se)) : AS K W (tWhile tt t) S (.nx Se) := fun G0 H0 G H σ A D f => by
  refine ⟨fun k σ' H' => ∃ T G', Wd k T ∧ Evl.Ex G G' ∧ Abs K G0 H0 G' H' σ' T, ⟨m0, S, G, h0, Evl.Ex.refl _, A⟩, ?_⟩
  rintro k σ' H' ⟨T, G', hw, e', A'⟩
  obtain ⟨b, hb, h1, h2⟩ := hs k T hw
  refine hb G0 H0 G' H' σ' A' _ fun G2 H2 s2 => ?_
  cases b with
  | true =>
    obtain ⟨o', T', m', as, og, lt, hw'⟩ := h1 rfl
    refine iteT ⟨fun σ2 H2 => ∃ G2, Evl.Ex G G2 ∧ Abs K G0 H0 G2 H2 σ2 T', fun σ2 H2 ⟨G2, e2, A2⟩ => ⟨m', lt, T', G2, hw', e2, A2⟩, as G0 H0 G2 H2 σ' (A'.ext s2) _ ?_⟩
    cases o' with
    | nx S' => exact fun G3 H3 σ4 e3 A4 => ⟨G3, (e'.trans s2.g).trans e3, A4.fg og⟩
    | ct S' => exact fun G3 H3 σ4 e3 A4 => ⟨G3, (e'.trans s2.g).trans e3, A4.fg og⟩
    | rt d => cases og
    | bk S' => cases og
    | ex c S' => cases og
  | false =>
    cases h2 rfl
    exact iteF (f G2 H2 σ' (e'.trans s2.g) (A'.ext s2))

/-! ### list comprehensions -/
/-- p: which turns give; f: what they give -/
theorem ae_lc {wi : TI} {te : TE} {vs l : List Nat} (h : AI K wi S ds) (p : Nat → Bool) (f : Nat → RD) (hl : ∀ k ∈ l, k ∈ vs) (hz : ds.length ≤ 100000)
    (hs : ∀ i x, ds[i]? = some x → ∃ U, AG K g l x (wipeS S vs) U ∧ AT K tt U (p i) ∧ (p i = true → AE K te U (f i))) :
    AE K (tLc wi g tt te vs) S (.lst (((List.range ds.length).filter p).map f)) := fun G0 H0 G H σ A Q q =>
  h G0 H0 G H σ A _ fun J G1 H1 s1 hw L hL => by
    have key : ∀ n, (((List.range n).filter p).map f).length ≤ n := fun n => by
      rw [List.length_map]
      have := List.length_filter_le p (List.range n)
      rw [List.length_range] at this
      exact this
    have A1 := (A.ext s1).wipe vs
    have gL : G1 L = none := Evl.fresh_back s1.s hL
    refine ⟨fun i k H' => k = ds.length - i ∧ i ≤ ds.length ∧ ∃ G' acc, Sx G1 H1 G' H' ∧ G' L = none ∧ H' L = some (.lst acc) ∧ RpAll K G' acc (((List.range i).filter p).map f), ⟨ds.length, by omega, Nat.zero_le _, G1, [], Sx.newH s1.s hL, gL, upd_same, .nil⟩, ?_⟩
    rintro i k H' ⟨rfl, hi, G', acc, s', gl, hl', ra⟩
    obtain ⟨hgo, hstop⟩ := hw G' H' s'.g s'.s
    by_cases hlt : i < ds.length
    · obtain ⟨hg, hy⟩ := hgo i hlt
      refine .inr ⟨hg, fun H2 => ∃ G2 acc, Sx G1 H1 G2 H2 ∧ G2 L = none ∧ H2 L = some (.lst acc) ∧ RpAll K G2 acc (((List.range (i + 1)).filter p).map f), fun H2 ⟨G2, acc, w⟩ => ⟨ds.length - (i + 1), by omega, rfl, by omega, G2, acc, w⟩, fun x H2 hx => ?_⟩
      obtain ⟨G2, d, hd, s2, r2⟩ := hy x H2 hx
      obtain ⟨U, ag, at', ae⟩ := hs i d hd
      have s12 := s'.trans s2
      refine ag G0 H0 G2 H2 (wipe σ vs) x (A1.ext s12) r2 _ fun σ3 A3 l3 k3 => ⟨?_, ?_⟩
      · rw [wipe_congr vs l3 fun k hk => k3 k fun z => hk (hl k z)]
        have e0 : wipe (wipe σ vs) vs = wipe σ vs := wipe_congr vs (wipe_length _ _) fun k hk => wipe_out hk
        exact e0
      · refine at' G0 H0 G2 H2 σ3 A3 _ fun G3 H3 s3 => ?_
        have s23 := s2.trans s3
        have n3 := s23.stay_none hl' gl
        cases hp : p i with
        | true =>
          refine iteT (ae hp G0 H0 G3 H3 σ3 (A3.ext s3) _ fun y G4 H4 s4 r4 => ?_)
          have s24 := s23.trans s4
          have n4 := s24.stay_none hl' gl
          refine ⟨acc, s24.h L _ hl', Evl.sz_lt (by rw [ra.length]; have := key i; omega), G4, acc ++ [y], ?_, n4, upd_same, ?_⟩
          · have sx := s'.trans s24
            refine ⟨Evl.Ex.mut sx.h hL, sx.g, fun a u ha => ?_, sx.n⟩
            have hne : a ≠ L := fun z => by subst z; rw [n4] at ha; cases ha
            rw [upd_ne hne]
            exact sx.s a u ha
          · rw [List.range_succ, List.filter_append, List.map_append, List.filter_cons, if_pos hp]
            exact (ra.mono s24.g).append (.cons r4 .nil)
        | false =>
          refine iteF ⟨G3, acc, s'.trans s23, n3, s23.h L _ hl', ?_⟩
          rw [List.range_succ, List.filter_append, List.map_append, List.filter_cons, if_neg (by rw [hp]; decide)]
          show RpAll K G3 acc (_ ++ [])
          rw [List.append_nil]
          exact ra.mono s23.g
    · have him : i = ds.length := by omega
      subst him
      refine .inl ⟨hstop, q (.ref L) (upd G' L (.lst acc)) H' ?_ (.lst upd_same (ra.mono (Evl.Ex.new gl)))⟩
      have sx := s1.trans s'
      refine ⟨sx.h, sx.g.trans (Evl.Ex.new gl), fun a u ha => ?_, fun a ha => ?_⟩
      · by_cases hne : a = L
        · subst hne; rw [upd_same] at ha; cases ha; exact hl'
        · rw [upd_ne hne] at ha; exact s'.s a u ha
      · by_cases hne : a = L
        · subst hne; exact .inr (Evl.fresh_back s1.h hL)
        · rw [upd_ne hne] at ha; exact sx.n a ha
/-- over items told by a list: which give (p), what they give (f) -/
theorem ae_lcF {wi : TI} {te : TE} {vs l : List Nat} {α : Type} {xs : List α} {enc : α → RD} (h : AI K wi S (xs.map enc)) (p : α → Bool) (f : α → RD) (hl : ∀ k ∈ l, k ∈ vs) (hz : xs.length ≤ 100000)
    (hs : ∀ x ∈ xs, ∃ U, AG K g l (enc x) (wipeS S vs) U ∧ AT K tt U (p x) ∧ (p x = true → AE K te U (f x))) :
    AE K (tLc wi g tt te vs) S (.lst ((xs.filter p).map f)) := by
  have q := ae_lc (tt := tt) h (fun i => (xs[i]?.map p).getD false) (fun i => (xs[i]?.map f).getD .non) hl (by rw [List.length_map]; exact hz) fun i x hx => by
    rw [List.getElem?_map] at hx
    cases e : xs[i]? with
    | none => rw [e] at hx; cases hx
    | some y =>
      rw [e] at hx
      cases hx
      exact hs y (List.mem_of_getElem? e)
  have key : ∀ (ys : List α), ((List.range ys.length).filter fun i => (ys[i]?.map p).getD false).map (fun i => (ys[i]?.map f).getD .non) = (ys.filter p).map f := by
    intro ys
    induction ys with
    | nil => rfl
    | cons y r ih =>
      rw [List.length_cons, List.range_succ_eq_map, List.filter_cons, List.filter_cons, List.filter_map]
      have e1 : (((y :: r)[0]?).map p).getD false = p y := rfl
      have e2 : ((fun i => (((y :: r)[i]?).map p).getD false) ∘ Nat.succ) = fun i => ((r[i]?).map p).getD false := by funext i; simp
      have e3 : ((fun i => (((y :: r)[i]?).map f).getD .non) ∘ Nat.succ) = fun i => ((r[i]?).map f).getD .non := by funext i; simp
      rw [e1, e2]
      cases p y with
      | true =>
        simp only [if_true, List.map_cons, List.map_map, e3]
        rw [ih]
        rfl
      | false =>
        simp only [Bool.false_eq_true, if_false, List.map_map, e3]
        exact ih
  rw [List.length_map, key xs] at q
  exact q
/-- without a test -/
theorem ae_lcM {wi : TI} {te : TE} {vs l : List Nat} {α : Type} {xs : List α} {enc : α → RD} (h : AI K wi S (xs.map enc)) (f : α → RD) (hl : ∀ k ∈ l, k ∈ vs) (hz : xs.length ≤ 100000)
    (hs : ∀ x ∈ xs, ∃ U, AG K g l (enc x) (wipeS S vs) U ∧ AE K te U (f x)) : AE K (tLc wi g tYes te vs) S (.lst (xs.map f)) := by
  have q := ae_lcF (tt := tYes) h (fun _ => true) f hl hz fun x hx => by
    obtain ⟨U, a, b⟩ := hs x hx
    exact ⟨U, a, at_yes, fun _ => b⟩
  rw [List.filter_eq_self.mpr fun _ _ => rfl] at q
  exact q
end

/-! ### lists of one's own -/
section
variable {K : PySem.W.Frag} {W : WX} {S : Sg} {te : TE} {d : RD} {ds : List RD}
theorem Abs.setO {G0 H0 G H : Hp} {σ : L2.St} {i : Nat} {p : Addr} {xs : List V} (A : Abs K G0 H0 G H σ S) (hp : H p = none) (r : RpAll K G xs ds) : Abs K G0 H0 G (upd H p (.lst xs)) (σ.set i (some (.ref p))) (S.set i (.own ds)) := by
  have gp : G p = none := Evl.fresh_back A.gh hp
  have A1 := A.ext (Sx.newH (o := .lst xs) A.gh hp)
  have key : ∀ {j : Nat} {x : SV}, (S.set i (.own ds))[j]? = some x → i ≠ j → S[j]? = some x := fun {j x} h hij => by rw [List.getElem?_set_ne hij] at h; exact h
  have self : ∀ {x : SV}, (S.set i (.own ds))[i]? = some x → i < S.length ∧ x = .own ds := fun {x} h => by
    have hl : i < S.length := by
      have := (List.getElem?_eq_some_iff.mp h).1
      rw [List.length_set] at this; exact this
    rw [List.getElem?_set_self hl] at h
    exact ⟨hl, (Option.some.inj h).symm⟩
  refine ⟨A1.sx, by rw [List.length_set, List.length_set]; exact A.len, fun j e hj => ?_, fun j es hj => ?_, fun j k es fs a hj hk ej ek => ?_⟩
  · by_cases hij : i = j
    · subst hij; obtain ⟨_, z⟩ := self hj; cases z
    · obtain ⟨v, h1, h2⟩ := A.dat j e (key hj hij)
      exact ⟨v, by rw [List.getElem?_set_ne hij]; exact h1, h2⟩
  · by_cases hij : i = j
    · subst hij
      obtain ⟨hl, z⟩ := self hj
      cases z
      exact ⟨p, xs, List.getElem?_set_self (by rw [A.len]; exact hl), upd_same, gp, Evl.fresh_back A.sx.h hp, r⟩
    · obtain ⟨a, vs, h1, h2, h3⟩ := A1.own j es (key hj hij)
      exact ⟨a, vs, by rw [List.getElem?_set_ne hij]; exact h1, h2, h3⟩
  · have fresh : ∀ {n : Nat} {gs : List RD}, S[n]? = some (.own gs) → σ[n]? ≠ some (some (.ref p)) := fun {n gs} h z => by
      obtain ⟨b, ws, h1, h2, _⟩ := A.own n gs h
      rw [z] at h1; cases h1
      rw [hp] at h2; cases h2
    by_cases hij : i = j
    · by_cases hik : i = k
      · exact hij.symm.trans hik
      · subst hij
        obtain ⟨hl, _⟩ := self hj
        rw [List.getElem?_set_self (by rw [A.len]; exact hl)] at ej
        cases ej
        rw [List.getElem?_set_ne hik] at ek
        exact absurd ek (fresh (key hk hik))
    · by_cases hik : i = k
      · subst hik
        obtain ⟨hl, _⟩ := self hk
        rw [List.getElem?_set_self (by rw [A.len]; exact hl)] at ek
        cases ek
        rw [List.getElem?_set_ne hij] at ej
        exact absurd ej (fresh (key hj hij))
      · rw [List.getElem?_set_ne hij] at ej
        rw [List.getElem?_set_ne hik] at ek
        exact A.sep j k es fs a (key hj hij) (key hk hik) ej ek
/-- x = [..]: a list of one's own -/
theorem as_own {i : Nat} {ta : TA} (h : AA K ta S ds) (hl : ds.length ≤ 100000) : AS K W (tAsg (tLst ta) (gName i)) S (.nx (S.set i (.own ds))) := fun G0 H0 G H σ A D f =>
  h G0 H0 G H σ A _ fun vs G1 H1 s1 r1 => ⟨Evl.sz_of (by rw [r1.length]; exact hl), fun p hp => f G1 _ _ s1.g ((A.ext s1).setO hp r1)⟩
/-- what an own slot's list becomes -/
theorem Abs.putO {G0 H0 G H : Hp} {σ : L2.St} {i : Nat} {a : Addr} {xs ys : List V} {es : List RD} (A : Abs K G0 H0 G H σ S) (hS : S[i]? = some (.own ds)) (hσ : σ[i]? = some (some (.ref a))) (r : RpAll K G ys es) : Abs K G0 H0 G (upd H a (.lst ys)) σ (S.set i (.own es)) := by
  obtain ⟨b, ws, h1, h2, h3, h4, h5⟩ := A.own i ds hS
  rw [hσ] at h1
  cases h1
  have hl : i < S.length := (List.getElem?_eq_some_iff.mp hS).1
  refine ⟨⟨Evl.Ex.mut A.sx.h h4, A.sx.g, fun b u hb => ?_, A.sx.n⟩, by rw [List.length_set]; exact A.len, fun j e hj => ?_, fun j fs hj => ?_, fun j k fs gs b hj hk ej ek => ?_⟩
  · have hne : b ≠ a := fun z => by subst z; rw [h3] at hb; cases hb
    rw [upd_ne hne]; exact A.gh b u hb
  · by_cases hij : i = j
    · subst hij; rw [List.getElem?_set_self hl] at hj; cases hj
    · rw [List.getElem?_set_ne hij] at hj
      exact A.dat j e hj
  · by_cases hij : i = j
    · subst hij
      rw [List.getElem?_set_self hl] at hj
      cases hj
      exact ⟨a, ys, hσ, upd_same, h3, h4, r⟩
    · rw [List.getElem?_set_ne hij] at hj
      obtain ⟨b, vs, q1, q2, q3⟩ := A.own j fs hj
      have hne : b ≠ a := fun z => by
        subst z
        exact hij (A.sep i j _ _ _ hS hj hσ q1)
      exact ⟨b, vs, q1, by rw [upd_ne hne]; exact q2, q3⟩
  · have back : ∀ {n : Nat} {hs : List RD}, (S.set i (.own es))[n]? = some (.own hs) → ∃ hs', S[n]? = some (.own hs') := fun {n hs} h => by
      by_cases hin : i = n
      · subst hin; exact ⟨_, hS⟩
      · rw [List.getElem?_set_ne hin] at h; exact ⟨_, h⟩
    obtain ⟨_, e1⟩ := back hj
    obtain ⟨_, e2⟩ := back hk
    exact A.sep j k _ _ b e1 e2 ej ek
/-- x.append(e) -/
theorem as_app {i : Nat} (hS : S[i]? = some (.own ds)) (h : AE K te S d) (hl : ds.length < 100000) : AS K W (tDrop (tBM K "list" rAppend (tVar i) (tCons te tNil))) S (.nx (S.set i (.own (ds ++ [d])))) := fun G0 H0 G H σ A D f => by
  obtain ⟨a, vs, h1, h2, h3, h4, h5⟩ := A.own i ds hS
  refine ⟨_, h1, Or.inl ⟨rfl, vs, Evl.sq_of h2⟩, h G0 H0 G H σ A _ fun v G1 H1 s1 r1 => ?_⟩
  have A1 := A.ext s1
  refine ⟨a, vs, v, rfl, rfl, s1.h a _ h2, Evl.sz_lt (by rw [h5.length]; exact hl), f G1 _ _ s1.g ?_⟩
  exact A1.putO (xs := vs) hS h1 ((h5.mono s1.g).append (.cons r1 .nil))
/-- an own list becomes data for good -/
theorem Abs.freeze {G0 H0 G H : Hp} {σ : L2.St} {i : Nat} (A : Abs K G0 H0 G H σ S) (hS : S[i]? = some (.own ds)) : ∃ G', Evl.Ex G G' ∧ Abs K G0 H0 G' H σ (S.set i (.dat (.lst ds))) := by
  obtain ⟨a, vs, h1, h2, h3, h4, h5⟩ := A.own i ds hS
  have hl : i < S.length := (List.getElem?_eq_some_iff.mp hS).1
  have eg : Evl.Ex G (upd G a (.lst vs)) := Evl.Ex.new h3
  have gh : Evl.Ex (upd G a (.lst vs)) H := fun b u hb => by
    by_cases hne : b = a
    · subst hne; rw [upd_same] at hb; cases hb; exact h2
    · rw [upd_ne hne] at hb; exact A.gh b u hb
  have nn : ∀ b, upd G a (.lst vs) b ≠ none → G0 b ≠ none ∨ H0 b = none := fun b hb => by
    by_cases hne : b = a
    · subst hne; exact .inr h4
    · rw [upd_ne hne] at hb; exact A.sx.n b hb
  refine ⟨upd G a (.lst vs), eg, ⟨A.sx.h, A.sx.g.trans eg, gh, nn⟩, by rw [List.length_set]; exact A.len, fun j e hj => ?_, fun j fs hj => ?_, fun j k fs gs b hj hk ej ek => ?_⟩
  · by_cases hij : i = j
    · subst hij; rw [List.getElem?_set_self hl] at hj; cases hj
      exact ⟨_, h1, .lst upd_same (h5.mono eg)⟩
    · rw [List.getElem?_set_ne hij] at hj
      obtain ⟨v, q1, q2⟩ := A.dat j e hj
      exact ⟨v, q1, q2.mono eg⟩
  · by_cases hij : i = j
    · subst hij; rw [List.getElem?_set_self hl] at hj; cases hj
    · rw [List.getElem?_set_ne hij] at hj
      obtain ⟨b, ws, q1, q2, q3, q4, q5⟩ := A.own j fs hj
      have hne : b ≠ a := fun z => by
        subst z
        exact hij (A.sep i j _ _ _ hS hj h1 q1)
      exact ⟨b, ws, q1, q2, by rw [upd_ne hne]; exact q3, q4, q5.mono eg⟩
  · have back : ∀ {n : Nat} {hs : List RD}, (S.set i (.dat (.lst ds)))[n]? = some (.own hs) → S[n]? = some (.own hs) := fun {n hs} h => by
      by_cases hin : i = n
      · subst hin; rw [List.getElem?_set_self hl] at h; cases h
      · rw [List.getElem?_set_ne hin] at h; exact h
    exact A.sep j k _ _ b (back hj) (back hk) ej ek
theorem as_frz {t : TS} {o : Out} {i : Nat} (hS : S[i]? = some (.own ds)) (h : AS K W t (S.set i (.dat (.lst ds))) o) : AS K W t S o := fun G0 H0 G H σ A D f => by
  obtain ⟨G', e, A'⟩ := A.freeze hS
  exact h G0 H0 G' H σ A' D (f.mono e)
end

/-! ### try -/
section
variable {K : PySem.W.Frag} {W : WX} {S S1 S2 : Sg} {o : Out} {tb : WX → TS} {ts : Addr → Value → Option Addr → TS} {Wout : WX} {c cls : Value} {i : Nat}
/-- the body raises nothing -/
theorem as_tryAs0 (hb : ∀ W', AS K W' (tb W') S o) (ho : ∀ c' T, o ≠ .ex c' T) : AS K W (fun D σ H => tb (wAs K c i ts Wout D) D σ H) S o := fun G0 H0 G H σ A D f =>
  hb _ G0 H0 G H σ A D (by
    cases o with
    | nx T => exact f
    | rt d => exact f
    | bk T => exact f
    | ct T => exact f
    | ex c' T => exact absurd rfl (ho c' T))
/-- the body raises, the clause takes it and returns -/
theorem as_tryAsR {d : RD} (hb : ∀ W', AS K W' (tb W') S (.ex cls S1)) (he : PySem.W.exmOne K cls c = some true) (hs : ∀ a W', AS K W' (ts a cls none) (S1.set i (.dat (.cls a))) (.rt d)) : AS K W (fun D σ H => tb (wAs K c i ts Wout D) D σ H) S (.rt d) := fun G0 H0 G H σ A D f =>
  hb _ G0 H0 G H σ A D fun G1 H1 σ1 e1 A1 => ⟨true, he, fun _ a ha => hs a W G0 H0 G1 H1 _ (A1.setD (.cls a)) _ fun v G2 H2 e2 => f v G2 H2 (e1.trans e2), fun z => nomatch z⟩
/-- .. and goes on -/
theorem as_tryAsN (hb : ∀ W', AS K W' (tb W') S (.ex cls S1)) (he : PySem.W.exmOne K cls c = some true) (hs : ∀ a W', AS K W' (ts a cls none) (S1.set i (.dat (.cls a))) (.nx S2)) : AS K W (fun D σ H => tb (wAs K c i ts Wout D) D σ H) S (.nx (S2.set i .un)) := fun G0 H0 G H σ A D f =>
  hb _ G0 H0 G H σ A D fun G1 H1 σ1 e1 A1 => ⟨true, he, fun _ a ha => hs a W G0 H0 G1 H1 _ (A1.setD (.cls a)) _ fun G2 H2 σ2 e2 A2 => f G2 H2 _ (e1.trans e2) A2.setU, fun z => nomatch z⟩
/-- .. without a name -/
theorem as_tryO0 (hb : ∀ W', AS K W' (tb W') S o) (ho : ∀ c' T, o ≠ .ex c' T) : AS K W (fun D σ H => tb (wOnly K c ts Wout D) D σ H) S o := fun G0 H0 G H σ A D f =>
  hb _ G0 H0 G H σ A D (by
    cases o with
    | nx T => exact f
    | rt d => exact f
    | bk T => exact f
    | ct T => exact f
    | ex c' T => exact absurd rfl (ho c' T))
theorem as_tryO (hb : ∀ W', AS K W' (tb W') S (.ex cls S1)) (he : PySem.W.exmOne K cls c = some true) (hs : ∀ a W', AS K W' (ts a cls none) S1 o) (ho : ∀ c' T, o ≠ .ex c' T) : AS K W (fun D σ H => tb (wOnly K c ts Wout D) D σ H) S o := fun G0 H0 G H σ A D f =>
  hb _ G0 H0 G H σ A D fun G1 H1 σ1 e1 A1 => ⟨true, he, fun _ a ha => hs a W G0 H0 G1 H1 _ A1 _ (f.mono e1), fun z => nomatch z⟩
end

/-! ### a def's body -/
def Gives : Out → Res → Prop
  | .rt d, .ok e => d = e
  | .nx _, .ok e => e = .non
  | .ex c _, .exc c' => c = c'
  | _, _ => False
def startS (n : Nat) (ds : List RD) : Sg := ds.map .dat ++ List.replicate (n - ds.length) .un
theorem abs_start {K : PySem.W.Frag} {G H : Hp} {vs : List V} {ds : List RD} {N : List Str} (e : Evl.Ex G H) (r : RpAll K G vs ds) : Abs K G H G H (L2.start N vs) (startS N.length ds) := by
  have hl := r.length
  refine ⟨.refl e, ?_, fun i d h => ?_, fun i es h => ?_, fun i j es fs a h => ?_⟩
  · unfold L2.start startS
    rw [List.length_append, List.length_append, List.length_map, List.length_map, List.length_replicate, List.length_replicate, hl]
  · unfold startS at h
    by_cases hi : i < ds.length
    · rw [List.getElem?_append_left (by rw [List.length_map]; exact hi), List.getElem?_map] at h
      cases e1 : ds[i]? with
      | none => rw [e1] at h; cases h
      | some x =>
        rw [e1] at h
        cases h
        obtain ⟨v, h1, h2⟩ := r.get e1
        refine ⟨v, ?_, h2⟩
        unfold L2.start
        rw [List.getElem?_append_left (by rw [List.length_map, hl]; exact hi), List.getElem?_map, h1] <;> rfl
    · rw [List.getElem?_append_right (by rw [List.length_map]; omega), List.getElem?_replicate] at h
      split at h <;> cases h
  · exfalso
    unfold startS at h
    by_cases hi : i < ds.length
    · rw [List.getElem?_append_left (by rw [List.length_map]; exact hi), List.getElem?_map] at h
      cases e1 : ds[i]? with
      | none => rw [e1] at h; cases h
      | some x => rw [e1] at h; cases h
    · rw [List.getElem?_append_right (by rw [List.length_map]; omega), List.getElem?_replicate] at h
      split at h <;> cases h
  · exfalso
    unfold startS at h
    by_cases hi : i < ds.length
    · rw [List.getElem?_append_left (by rw [List.length_map]; exact hi), List.getElem?_map] at h
      cases e1 : ds[i]? with
      | none => rw [e1] at h; cases h
      | some x => rw [e1] at h; cases h
    · rw [List.getElem?_append_right (by rw [List.length_map]; omega), List.getElem?_replicate] at h
      split at h <;> cases h
theorem body_run {K : PySem.W.Frag} {t : TS} {n : Nat} {R : List RD → Res → Prop} {vs : List V} {H : Hp} {Q : VK} {E : XK} {N : List Str} (h : spF K n R vs H Q E)
    (hA : ∀ ds r, ds.length = n → R ds r → ∃ o, Gives o r ∧ AS K (fun c d _ H => E c d H) t (startS N.length ds) o) : t { nx := fun _ H' => Q .non H', rt := Q } (L2.start N vs) H := by
  obtain ⟨G, ds, r, hn, e, ra, hR, q⟩ := h
  obtain ⟨o, hg, ha⟩ := hA ds r (by rw [← ra.length]; exact hn) hR
  refine ha G H G H _ (abs_start e ra) _ ?_
  cases o with
  | rt d => cases r with
    | ok e' => cases hg; exact fun v G' H' _ s r => q v G' H' s r
    | exc c => cases hg
  | nx S => cases r with
    | ok e' => cases hg; exact fun G' H' σ' _ A => q .non G' H' A.sx .non
    | exc c => cases hg
  | ex c S => cases r with
    | ok e' => cases hg
    | exc c' => cases hg; exact fun G' H' σ' _ A => q H' A.sx.h
  | bk S => cases r <;> cases hg
  | ct S => cases r <;> cases hg
theorem spF_len {K : PySem.W.Frag} {n : Nat} {R : List RD → Res → Prop} {ps : List Str} (hp : n = ps.length) : ∀ vs H Q E, spF K n R vs H Q E → vs.length = ps.length := fun vs H Q E h => by
  obtain ⟨G, ds, r, hn, _⟩ := h
  exact hn.trans hp
end RP

set_option Elab.async false
set_option linter.all false
set_option maxRecDepth 100000
set_option maxHeartbeats 2000000
namespace RP
open PySem PySem.Spec PyProof.Rows L2

/-! ### the layer's rules, the written part by name (a block's own context has the same) -/
section
variable {X : Cx} (K : PySem.W.Frag)
theorem ix_seqK (h : X.K = K) : IxR X (rIx K) := by subst h; exact ix_seq
theorem sl_listK (h : X.K = K) : SlR X (rSlL K) := by subst h; exact sl_list
theorem sl_tupK (h : X.K = K) : SlR X (rSlT K) := by subst h; exact sl_tup
theorem op_inK (h : X.K = K) : OpR X (compareOp .In) (rIn K false) := by subst h; exact op_in_seq
theorem op_notInK (h : X.K = K) : OpR X (compareOp .NotIn) (rIn K true) := by subst h; exact op_notIn_seq
theorem op_eqDK (h : X.K = K) (hu : X.A.units + 64 < cLine) : OpR X (compareOp .Eq) (rEqD K) := by subst h; exact op_eqD hu
theorem op_neDK (h : X.K = K) (hu : X.A.units + 64 < cLine) : OpR X (compareOp .NotEq) (rNeD K) := by subst h; exact op_neD hu
theorem op_catTK (h : X.K = K) : OpR X (binaryOp .Add) (rCatT K) := by subst h; exact op_catT
def rLenK (K : PySem.W.Frag) : List V → Hp → VK → Prop := fun xs H Q => ∃ p ys, xs = [.ref p] ∧ (SqL K H p ys ∨ SqT K H p ys) ∧ Q (.int ys.length) H
theorem call_lenK (h : X.K = K) : CallR X (.builtin "len") (rLenK K) := by subst h; exact call_len_seq
theorem call_isiK' (h : X.K = K) : CallR X (.builtin "isinstance") (rIsi K) := by subst h; exact call_isi
def rListK (K : PySem.W.Frag) : List V → Hp → VK → Prop := fun xs H Q => ∃ p ys, xs = [.ref p] ∧ (SqL K H p ys ∨ SqT K H p ys) ∧ ∀ l, H l = none → Q (.ref l) (upd H l (.lst ys))
theorem call_listK (h : X.K = K) : CallR X (.type "list") (rListK K) := by subst h; exact call_list_of
theorem call_allK (h : X.K = K) (hc : X.calm = true) : CallR X (.builtin "all") (rAll K) := by subst h; exact cr_all hc
theorem call_anyK (h : X.K = K) (hc : X.calm = true) : CallR X (.builtin "any") (rAny K) := by subst h; exact cr_any hc
theorem call_sortedSK (h : X.K = K) : CallR X (.builtin "sorted") (rSortedS K) := by subst h; exact cr_sortedS
theorem pi_listK {tg l : Expr} {tl : TE} (h : X.K = K) (hl : PE X l tl) : PI X tg l (iList K tl) := by subst h; exact pi_list hl
theorem pi_tupK {tg l : Expr} {tl : TE} (h : X.K = K) (hl : PE X l tl) : PI X tg l (iTup K tl) := by subst h; exact pi_tup hl
theorem pi_zipK {e e2 : Expr} {ta : TA} {p pos tpos : Pos} {elts : List Expr} {kk : Nat} (h : X.K = K) (hg : Gl X "zip") (hm : X.mg "zip" = none) (ha : PA X [e, e2] ta)
    (hs : starEach [e, e2] X.env = (false, eval e X.env) :: starEach [e2] X.env := by rfl) (hpl : (backTo pos (starEach [e2] X.env)).any (·.1) = false := by rfl) :
    PI X (.Tuple elts kk tpos) (.Call (.Name "zip" p) [e, e2] [] pos) (iZip K ta) := by subst h; exact pi_zip hg hm ha hs hpl
theorem pi_enumK {e : Expr} {ta : TA} {p pos tpos : Pos} {elts : List Expr} {kk : Nat} (h : X.K = K) (hg : Gl X "enumerate") (hm : X.mg "enumerate" = none) (ha : PA X [e] ta) (hs : starEach [e] X.env = [(false, eval e X.env)] := by rfl) :
    PI X (.Tuple elts kk tpos) (.Call (.Name "enumerate" p) [e] [] pos) (iEnum K ta) := by subst h; exact pi_enum hg hm ha hs
theorem pg_tupK {es : List Expr} {k : Nat} {t : TGs} {n : Nat} {pos : Pos} (h : X.K = K) (hc : X.calm = true) (hp : PGs X es t)
    (hn : (assignEach es X.env).length = n := by rfl) (hst : (assignEach es X.env).findIdx? (·.1) = none := by rfl) : PG X (.Tuple es k pos) (gTup K n t) := by subst h; exact pg_tup hc hp hn hst
end
/-! ### data as PyData, for == -/
mutual
def RD.py : RD → Option PyData
  | .non => some .none
  | .bl b => some (.bool b)
  | .int i => some (.int i)
  | .str x => some (.str x)
  | .tup ds => (RD.pys ds).map .tuple
  | .lst ds => (RD.pys ds).map .list
  | .dk _ _ => none
  | .dt _ _ => none
  | .obj _ _ _ => none
  | .ty _ => none
  | .cls _ => none
  | .scr _ => none
def RD.pys : List RD → Option (List PyData)
  | [] => some []
  | d :: ds => match RD.py d, RD.pys ds with
    | some p, some ps => some (p :: ps)
    | _, _ => none
end
section
variable {K : PySem.W.Frag} {G H : Hp}
mutual
theorem Rp.dp : ∀ {v : V} {d : RD} {p : PyData}, Rp K G v d → RD.py d = some p → Dp K G v p
  | _, _, _, .non, h => by cases h; exact .non
  | _, _, _, .bl b, h => by cases h; exact .bl b
  | _, _, _, .int i, h => by cases h; exact .int i
  | _, _, _, .str x, h => by cases h; exact .str x
  | _, .tup ds, p, .tup s r, h => by
    simp only [RD.py] at h
    cases e : RD.pys ds with
    | none => rw [e] at h; cases h
    | some ps => rw [e] at h; cases h; exact .tup s (RpAll.dp r e)
  | _, .lst ds, p, .lst s r, h => by
    simp only [RD.py] at h
    cases e : RD.pys ds with
    | none => rw [e] at h; cases h
    | some ps => rw [e] at h; cases h; exact .lst (Evl.sq_of s) (RpAll.dp r e)
  | _, _, _, .dk _ _ _ _, h => by cases h
  | _, _, _, .dt _ _ _ _, h => by cases h
  | _, _, _, .obj _ _ _ _, h => by cases h
  | _, _, _, .ty _, h => by cases h
  | _, _, _, .cls _, h => by cases h
  | _, _, _, .scr _, h => by cases h
theorem RpAll.dp : ∀ {vs : List V} {ds : List RD} {ps : List PyData}, RpAll K G vs ds → RD.pys ds = some ps → DpAll K G vs ps
  | _, _, _, .nil, h => by cases h; exact .nil
  | _, d :: ds, ps, .cons a b, h => by
    simp only [RD.pys] at h
    cases e1 : RD.py d with
    | none => rw [e1] at h; cases h
    | some q => cases e2 : RD.pys ds with
      | none => rw [e1, e2] at h; cases h
      | some qs => rw [e1, e2] at h; cases h; exact .cons (Rp.dp a e1) (RpAll.dp b e2)
end
end
section
variable {K : PySem.W.Frag} {S : Sg} {te ta : TE} {d d1 d2 : RD}
theorem dp_ex {G H : Hp} {v : V} {p : PyData} {d : RD} (e : Evl.Ex G H) (r : Rp K G v d) (h : RD.py d = some p) : Dp K H v p := (r.mono e).dp h
theorem ro_eqD {p q : PyData} {b : Bool} (h1 : RD.py d1 = some p) (h2 : RD.py d2 = some q) (s1 : SeqAt.shaped p = true) (s2 : SeqAt.shaped q = true) (hb : PyData.eqv p q = b) : RO K (rEqD K) d1 d2 (.bl b) := fun G H x y e hx hy Q k =>
  ⟨p, q, dp_ex e hx h1, dp_ex e hy h2, s1, s2, by rw [hb]; exact k _ G H (.refl e) (.bl _)⟩
theorem ro_neD {p q : PyData} {b : Bool} (h1 : RD.py d1 = some p) (h2 : RD.py d2 = some q) (s1 : SeqAt.shaped p = true) (s2 : SeqAt.shaped q = true) (hb : PyData.eqv p q = b) : RO K (rNeD K) d1 d2 (.bl (!b)) := fun G H x y e hx hy Q k =>
  ⟨p, q, dp_ex e hx h1, dp_ex e hy h2, s1, s2, by rw [hb]; exact k _ G H (.refl e) (.bl _)⟩

theorem ro_eqS {p : PyData} (h1 : RD.py d = some p) (s1 : SeqAt.shaped p = true) : RO K (rEqD K) d d (.bl true) := ro_eqD h1 h1 s1 s1 (SeqAt.eqv_refl _ (SeqAt.canLay_of_shaped s1))
theorem ro_neS {p : PyData} (h1 : RD.py d = some p) (s1 : SeqAt.shaped p = true) : RO K (rNeD K) d d (.bl false) := ro_neD (b := true) h1 h1 s1 s1 (SeqAt.eqv_refl _ (SeqAt.canLay_of_shaped s1))
theorem ae_dnew : AE K tDNewK S (.dk [] []) := fun G0 H0 G H σ A Q q p hp =>
  have sn := Sx.new (o := .dK []) A.gh hp
  q (.ref p) _ _ sn (.dk (kvs := []) (xs := []) upd_same rfl rfl .nil)
/-! ### built-in calls -/
theorem rc_abs {i : Int} : RC K (fun xs H Q => ∃ i, xs = [.int i] ∧ Q (.int (if i < 0 then -i else i)) H) [.int i] (.int (i.natAbs : Int)) := fun G H vs e r Q q => by
  cases r with
  | cons a r => cases r; cases a; exact ⟨i, rfl, by
      have h : (if i < 0 then -i else i) = (i.natAbs : Int) := by split <;> omega
      rw [h]; exact q _ G H (.refl e) (.int _)⟩
theorem rc_int {i : Int} : RC K (fun xs H Q => (∃ i, xs = [.int i] ∧ Q (.int i) H) ∨ ∃ k, xs = [.bl k] ∧ Q (.int (if k then 1 else 0)) H) [.int i] (.int i) := fun G H vs e r Q q => by
  cases r with
  | cons a r => cases r; cases a; exact .inl ⟨i, rfl, q _ G H (.refl e) (.int _)⟩
theorem rc_lenL {ds : List RD} : RC K (rLenK K) [.lst ds] (.int (ds.length : Int)) := fun G H vs e r Q q => by
  cases r with
  | cons a r =>
    cases r
    obtain ⟨p, xs, rfl, hs, ha⟩ := a.lst_inv
    exact ⟨p, xs, rfl, .inl (Evl.sq_of (e _ _ hs)), by rw [ha.length]; exact q _ G H (.refl e) (.int _)⟩
theorem rc_lenT {ds : List RD} : RC K (rLenK K) [.tup ds] (.int (ds.length : Int)) := fun G H vs e r Q q => by
  cases r with
  | cons a r =>
    cases r
    obtain ⟨p, xs, rfl, hs, ha⟩ := a.tup_inv
    exact ⟨p, xs, rfl, .inr (Evl.ex_t e hs), by rw [ha.length]; exact q _ G H (.refl e) (.int _)⟩
theorem rc_gcd {a b : Int} : RC K rGcd [.int a, .int b] (.int (Nat.gcd a.natAbs b.natAbs : Nat)) := fun G H vs e r Q q => by
  cases r with
  | cons x r => cases r with
    | cons y r => cases r; cases x; cases y; exact ⟨a, b, rfl, q _ G H (.refl e) (.int _)⟩
/-- the kind of a datum, by Python's name -/
def RD.kind : RD → Option String
  | .non => some "NoneType"
  | .bl _ => some "bool"
  | .int _ => some "int"
  | .str _ => some "str"
  | .tup _ => some "tuple"
  | .lst _ => some "list"
  | .dk _ _ => some "dict"
  | .dt _ _ => some "dict"
  | _ => none
theorem tyx_seqL {H : Hp} {a : Addr} {xs : List V} (h : SqL K H a xs) : TyX K H (.ref a) (.type "list") := by
  rcases h with (h | ⟨o, h⟩) | ⟨o, its, n, h, hc, _⟩
  · exact .base (.lst h)
  · exact .base (.frz h)
  · exact .kList h hc
theorem tyx_seqT {H : Hp} {a : Addr} {xs : List V} (h : SqT K H a xs) : TyX K H (.ref a) (.type "tuple") := by
  rcases h with (h | ⟨o, h⟩) | ⟨o, its, n, h, hc, _⟩
  · exact .base (.tup h)
  · exact .fTuple h
  · exact .kTuple h hc
theorem tyx_of {G H : Hp} {v : V} {n : String} (e : Evl.Ex G H) (r : Rp K G v d) (h : d.kind = some n) : TyX K H v (.type n) := by
  cases r with
  | non => cases h; exact .base .non
  | bl b => cases h; exact .base (.bl b)
  | int i => cases h; exact .base (.int i)
  | str x => cases h; exact .base (.str x)
  | tup s _ => cases h; exact tyx_seqT (Evl.ex_t e s)
  | lst s _ => cases h; exact tyx_seqL (Evl.sq_of (e _ _ s))
  | dk s _ _ _ => cases h; exact .base (.dK (e _ _ s))
  | dt s _ _ _ => cases h; exact .base (.dT (e _ _ s))
  | obj _ _ _ _ => cases h
  | ty _ => cases h
  | cls _ => cases h
  | scr _ => cases h
theorem rc_isi {n m : String} {b : Bool} (hk : d.kind = some n) (hb : kitB n m = some b) : RC K (rIsi K) [d, .ty m] (.bl b) := fun G H vs e r Q q => by
  cases r with
  | cons x r => cases r with
    | cons y r => cases r; cases y; exact ⟨_, _, _, _, b, rfl, .ty m, tyx_of e x hk, kit_ty hb, q _ G H (.refl e) (.bl _)⟩
/-! ### slices, sums of lists and tuples -/
def cutD (ds : List RD) (lo hi : Option Int) : List RD := (ds.drop (HT.sIx ds.length 0 lo)).take (HT.sIx ds.length ds.length hi - HT.sIx ds.length 0 lo)
theorem cut_all {G : Hp} {vs : List V} {ds : List RD} {lo hi : Option Int} (r : RpAll K G vs ds) : RpAll K G (cutV vs lo hi) (cutD ds lo hi) := by
  unfold cutV cutD
  rw [r.length]
  exact (r.drop _).take _
theorem ae_slL {tl th : TO} {ds : List RD} {lo hi : Option Int} (h : AE K te S (.lst ds)) (h1 : AO K tl S lo) (h2 : AO K th S hi) : AE K (tSl (rSlL K) te tl th) S (.lst (cutD ds lo hi)) := fun G0 H0 G H σ A Q q =>
  h G0 H0 G H σ A _ fun v G1 H1 s1 r1 => h1 G0 H0 G1 H1 σ (A.ext s1) _ fun G2 H2 s2 => h2 G0 H0 G2 H2 σ (A.ext (s1.trans s2)) _ fun G3 H3 s3 => by
    obtain ⟨a, xs, rfl, hs, ha⟩ := r1.lst_inv
    have s23 := s2.trans s3
    refine ⟨a, xs, rfl, Evl.sq_of ((s1.s.trans s23.h) _ _ hs), fun p hp => ?_⟩
    have sn := Sx.new (o := .lst (cutV xs lo hi)) s3.s hp
    exact q _ _ _ ((s1.trans s23).trans sn) (.lst upd_same ((cut_all ha).mono (s23.g.trans sn.g)))
theorem ro_cat {as bs : List RD} (hl : as.length + bs.length ≤ 100000) : RO K rCat (.lst as) (.lst bs) (.lst (as ++ bs)) := fun G H x y e hx hy Q q => by
  obtain ⟨a, xs, rfl, h1, r1⟩ := hx.lst_inv
  obtain ⟨b, ys, rfl, h2, r2⟩ := hy.lst_inv
  refine ⟨a, b, xs, ys, rfl, rfl, e _ _ h1, e _ _ h2, Evl.sz_of (by rw [r1.length, r2.length]; exact hl), fun p hp => ?_⟩
  have sn := Sx.new (o := .lst (xs ++ ys)) e hp
  exact q _ _ _ sn (.lst upd_same ((r1.append r2).mono sn.g))
/-! ### isinstance of a caught error -/
def rIsEx (K : PySem.W.Frag) (cls : Value) (dd : Option Addr) (a : Addr) : List V → Hp → VK → Prop := fun xs H Q => ∃ D, cls = .ref D ∧ dd = none ∧ ExcC K D ∧ rIsE K D a xs H Q
theorem call_isEx {X : Cx} {a : Addr} {cls : Value} {dd : Option Addr} {oe : Obj} {pn : List (Addr × Obj)} (hz : Zc cls dd oe) (hf : ∃ vs, oe.data = .fields vs) : CallR (X.suite a ((a, oe) :: pn)) (.builtin "isinstance") (rIsEx X.K cls dd a) := by
  intro pins s σ H xs us Q I r h
  obtain ⟨D, rfl, rfl, C, h⟩ := h
  exact call_isE C hz hf pins s σ H xs us Q I r h
theorem rc_isEt {D a : Addr} {n : String} {b : Bool} (C : ExcC K D) (hk : PySem.W.kitOne K (.ref D) (.type n) = some b) : RC K (rIsEx K (.ref D) none a) [.cls a, .ty n] (.bl b) := fun G H vs e r Q q => by
  cases r with
  | cons x r => cases r with
    | cons y r => cases r; cases x; cases y; exact ⟨D, rfl, rfl, C, _, _, b, rfl, fun u h => h, hk, q _ G H (.refl e) (.bl _)⟩
theorem rc_isEc {D D2 a : Addr} {b : Bool} (C : ExcC K D) (hk : PySem.W.kitOne K (.ref D) (.ref D2) = some b) : RC K (rIsEx K (.ref D) none a) [.cls a, .cls D2] (.bl b) := fun G H vs e r Q q => by
  cases r with
  | cons x r => cases r with
    | cons y r => cases r; cases x; cases y; exact ⟨D, rfl, rfl, C, _, _, b, rfl, fun u h => h, hk, q _ G H (.refl e) (.bl _)⟩
theorem ae_cls {C : Addr} : AE K (tC (.ref C)) S (.cls C) := ae_c fun _ => .cls C
/-! ### the script -/
theorem rc_lenS {ns : List Int} : RC K (rLenK K) [.scr ns] (.int (ns.length : Int)) := fun G H vs e r Q q => by
  cases r with
  | cons a r =>
    cases r
    cases a with
    | scr hs => exact ⟨_, _, rfl, .inl (Evl.ex_l e hs), by rw [List.length_map]; exact q _ G H (.refl e) (.int _)⟩
theorem atI_map {α β : Type} {f : α → β} {xs : List α} {i : Int} {x : α} (h : atI xs i = some x) : atI (xs.map f) i = some (f x) := by
  obtain ⟨j, h1, h2⟩ := atI_get h
  unfold atI
  rw [List.length_map, h1]
  show (xs.map f)[j]? = some (f x)
  rw [List.getElem?_map, h2]
  rfl
theorem ro_ixS {ns : List Int} {i n : Int} (h : atI ns i = some n) : RO K (rIx K) (.scr ns) (.int i) (.int n) := fun G H x y e hx hy Q q => by
  cases hx with
  | scr hs =>
    cases hy
    exact .inl ⟨_, _, i, .int n, rfl, rfl, Evl.ex_l e hs, atI_map h, q _ G H (.refl e) (.int _)⟩
end
end RP

set_option Elab.async false
set_option linter.all false
set_option maxRecDepth 100000
set_option maxHeartbeats 2000000
namespace RP
open PySem PySem.Spec PyProof.Rows L2
/-! ### ratios -/
abbrev Q2 := Int × Int
def eR (a : Q2) : RD := .tup [.int a.1, .int a.2]
/-- the lowest form; g divides exactly -/
def lowR (n d : Int) : Q2 := (n / (Nat.gcd n.natAbs d.natAbs : Nat), d / (Nat.gcd n.natAbs d.natAbs : Nat))
def lawLow (n d : Int) : Q2 := if d < 0 then (0 - n / (Nat.gcd n.natAbs d.natAbs : Nat), 0 - d / (Nat.gcd n.natAbs d.natAbs : Nat)) else lowR n d
/-- a ratio in the one form -/
structure IsR (a : Q2) : Prop where
  pos : 0 < a.2
  cop : Nat.gcd a.1.natAbs a.2.natAbs = 1
/-- small enough -/
@[irreducible] def Bd (B : Nat) (x : Int) : Prop := x.natAbs < 2 ^ B
theorem Bd.lt {B : Nat} {x : Int} (h : Bd B x) : x.natAbs < 2 ^ B := by unfold Bd at h; exact h
theorem Bd.of {B : Nat} {x : Int} (h : x.natAbs < 2 ^ B) : Bd B x := by unfold Bd; exact h
theorem bd_zero {B : Nat} : Bd B 0 := .of (Nat.two_pow_pos _)
theorem Bd.mono {B C : Nat} {x : Int} (h : Bd B x) (l : B ≤ C) : Bd C x := .of (Nat.lt_of_lt_of_le h.lt (Nat.pow_le_pow_right (by decide) l))
theorem Bd.mul {B C : Nat} {x y : Int} (h : Bd B x) (k : Bd C y) : Bd (B + C) (x * y) := .of (L2.wide_lt h.lt k.lt)
theorem Bd.add {B : Nat} {x y : Int} (h : Bd B x) (k : Bd B y) : Bd (B + 1) (x + y) := by
  unfold Bd at *
  rw [Nat.pow_succ]
  omega
theorem Bd.sub {B : Nat} {x y : Int} (h : Bd B x) (k : Bd B y) : Bd (B + 1) (x - y) := by
  unfold Bd at *
  rw [Nat.pow_succ]
  omega
theorem Bd.neg {B : Nat} {x : Int} (h : Bd B x) : Bd B (-x) := by unfold Bd at *; omega
theorem Bd.wmul {B C : Nat} {x y : Int} (h : Bd B x) (k : Bd C y) (hB : 0 < B) (hC : 0 < C) (l : B + C ≤ 1000000) : CMulW x y := L2.wide_mul h.lt k.lt hB hC l
theorem gcd_pos_of {n d : Int} (h : d ≠ 0) : 0 < Nat.gcd n.natAbs d.natAbs := Nat.gcd_pos_of_pos_right _ (by omega)
theorem gcd_le_of {n d : Int} (h : d ≠ 0) : Nat.gcd n.natAbs d.natAbs ≤ d.natAbs := Nat.gcd_le_right _ (by omega)
theorem gcd_wdiv {n d x : Int} {B : Nat} (h : d ≠ 0) (hb : Bd B d) (h0 : 0 < B) (h9 : B ≤ 9000) : CDivW x (Nat.gcd n.natAbs d.natAbs : Nat) := by
  refine L2.wide_div (b := B) ?_ ?_ h0 h9
  · have := gcd_pos_of (n := n) h
    omega
  · rw [Int.natAbs_natCast]
    exact Nat.lt_of_le_of_lt (gcd_le_of h) hb.lt
theorem lowR_dvd (n d : Int) : ((Nat.gcd n.natAbs d.natAbs : Nat) : Int) ∣ n ∧ ((Nat.gcd n.natAbs d.natAbs : Nat) : Int) ∣ d := by
  refine ⟨Int.ofNat_dvd_left.mpr (Nat.gcd_dvd_left _ _), Int.ofNat_dvd_left.mpr (Nat.gcd_dvd_right _ _)⟩
theorem lowR_mul (n d : Int) : n = (lowR n d).1 * (Nat.gcd n.natAbs d.natAbs : Nat) ∧ d = (lowR n d).2 * (Nat.gcd n.natAbs d.natAbs : Nat) :=
  ⟨(Int.ediv_mul_cancel (lowR_dvd n d).1).symm, (Int.ediv_mul_cancel (lowR_dvd n d).2).symm⟩
theorem lowR_isR {n d : Int} (h : 0 < d) : IsR (lowR n d) := by
  have hg := gcd_pos_of (n := n) (d := d) (by omega)
  obtain ⟨e1, e2⟩ := lowR_mul n d
  constructor
  · exact Int.ediv_pos_of_pos_of_dvd h (by omega) (lowR_dvd n d).2
  · show Nat.gcd (n / (Nat.gcd n.natAbs d.natAbs : Nat)).natAbs (d / (Nat.gcd n.natAbs d.natAbs : Nat)).natAbs = 1
    rw [Int.natAbs_ediv_of_dvd (lowR_dvd n d).1, Int.natAbs_ediv_of_dvd (lowR_dvd n d).2, Int.natAbs_natCast]
    exact Nat.gcd_div_gcd_div_gcd_of_pos_right (by omega)
/-- the cross product is kept -/
theorem lowR_cross (n d : Int) : (lowR n d).1 * d = n * (lowR n d).2 := by
  obtain ⟨e1, e2⟩ := lowR_mul n d
  generalize (Nat.gcd n.natAbs d.natAbs : Nat) = g at e1 e2
  generalize lowR n d = p at e1 e2 ⊢
  subst e1 e2
  rw [Int.mul_assoc, Int.mul_comm p.2]
/-- two ratios in the one form with one cross product are one -/
theorem IsR.ext {a b : Q2} (ha : IsR a) (hb : IsR b) (h : a.1 * b.2 = b.1 * a.2) : a = b := by
  have e2 : a.2.natAbs = b.2.natAbs := by
    have h' : a.1.natAbs * b.2.natAbs = b.1.natAbs * a.2.natAbs := by rw [← Int.natAbs_mul, ← Int.natAbs_mul, h]
    refine Nat.dvd_antisymm ?_ ?_
    · have : a.2.natAbs ∣ a.1.natAbs * b.2.natAbs := ⟨b.1.natAbs, by rw [h', Nat.mul_comm]⟩
      exact Nat.Coprime.dvd_of_dvd_mul_left (Nat.Coprime.symm ha.cop) this
    · have : b.2.natAbs ∣ b.1.natAbs * a.2.natAbs := ⟨a.1.natAbs, by rw [← h', Nat.mul_comm]⟩
      exact Nat.Coprime.dvd_of_dvd_mul_left (Nat.Coprime.symm hb.cop) this
  have p1 := ha.pos
  have p2 := hb.pos
  have e3 : a.2 = b.2 := by omega
  have e4 : a.1 = b.1 := by
    rw [e3] at h
    exact Int.eq_of_mul_eq_mul_right (by omega) h
  exact Prod.ext e4 e3
theorem lowR_eq {a : Q2} {n d : Int} (ha : IsR a) (hd : 0 < d) (h : a.1 * d = n * a.2) : lowR n d = a := by
  refine IsR.ext (lowR_isR hd) ha ?_
  have c := lowR_cross n d
  -- (lowR).1 * d = n * (lowR).2 and a.1 * d = n * a.2
  have : ((lowR n d).1 * a.2) * d = (a.1 * (lowR n d).2) * d := by
    calc ((lowR n d).1 * a.2) * d = ((lowR n d).1 * d) * a.2 := by rw [Int.mul_right_comm]
      _ = (n * (lowR n d).2) * a.2 := by rw [c]
      _ = (n * a.2) * (lowR n d).2 := by rw [Int.mul_right_comm]
      _ = (a.1 * d) * (lowR n d).2 := by rw [h]
      _ = (a.1 * (lowR n d).2) * d := by rw [Int.mul_right_comm]
  exact Int.eq_of_mul_eq_mul_right (by omega) this
theorem lowR_self {a : Q2} (ha : IsR a) : lowR a.1 a.2 = a := lowR_eq ha ha.pos rfl
theorem lowR_bd {n d : Int} {B : Nat} (hn : Bd B n) : Bd B (lowR n d).1 := by
  refine .of ?_
  unfold lowR
  rw [Int.natAbs_ediv_of_dvd (lowR_dvd n d).1, Int.natAbs_natCast]
  exact Nat.lt_of_le_of_lt (Nat.div_le_self _ _) hn.lt
theorem lowR_bd2 {n d : Int} {B : Nat} (hd : Bd B d) : Bd B (lowR n d).2 := by
  refine .of ?_
  unfold lowR
  rw [Int.natAbs_ediv_of_dvd (lowR_dvd n d).2, Int.natAbs_natCast]
  exact Nat.lt_of_le_of_lt (Nat.div_le_self _ _) hd.lt
theorem lawLow_pos {n d : Int} (h : 0 < d) : lawLow n d = lowR n d := if_neg (by omega)
theorem eR_py (a : Q2) : RD.py (eR a) = some (.tuple [.int a.1, .int a.2]) := rfl
theorem lowR_scale {n d f : Int} (hd : 0 < d) (hf : 0 < f) : lowR (n * f) (d * f) = lowR n d := by
  refine lowR_eq (lowR_isR hd) (Int.mul_pos hd hf) ?_
  have c := lowR_cross n d
  rw [← Int.mul_assoc, c, Int.mul_right_comm]
theorem lowR_one (n : Int) : lowR n 1 = (n, 1) := by
  refine lowR_eq ⟨Int.one_pos, ?_⟩ (by decide) (by rfl)
  exact Nat.gcd_one_right _
theorem lowR_zero {d : Int} (hd : 0 < d) : lowR 0 d = (0, 1) := by
  refine lowR_eq ⟨by decide, by decide⟩ hd ?_
  rw [Int.zero_mul, Int.zero_mul]
theorem IsR.low {a : Q2} (h : IsR a) : lawLow a.1 a.2 = a := by rw [lawLow_pos h.pos, lowR_self h]
/-- sums, differences, products, quotients -/
def addR (a b : Q2) : Q2 := lowR (a.1 * b.2 + b.1 * a.2) (a.2 * b.2)
def subR (a b : Q2) : Q2 := lowR (a.1 * b.2 - b.1 * a.2) (a.2 * b.2)
def mulR (a b : Q2) : Q2 := lowR (a.1 * b.1) (a.2 * b.2)
def divR (a b : Q2) : Q2 := if b.1 < 0 then lowR (-a.1 * b.2) (a.2 * -b.1) else lowR (a.1 * b.2) (a.2 * b.1)
theorem addR_isR {a b : Q2} (ha : IsR a) (hb : IsR b) : IsR (addR a b) := lowR_isR (Int.mul_pos ha.pos hb.pos)
theorem subR_isR {a b : Q2} (ha : IsR a) (hb : IsR b) : IsR (subR a b) := lowR_isR (Int.mul_pos ha.pos hb.pos)
theorem mulR_isR {a b : Q2} (ha : IsR a) (hb : IsR b) : IsR (mulR a b) := lowR_isR (Int.mul_pos ha.pos hb.pos)
theorem divR_isR {a b : Q2} (ha : IsR a) (hb : IsR b) (h : b.1 ≠ 0) : IsR (divR a b) := by
  unfold divR
  split
  · exact lowR_isR (Int.mul_pos ha.pos (by omega))
  · exact lowR_isR (Int.mul_pos ha.pos (by omega))
theorem Bd.low {n d : Int} {B C : Nat} (hn : Bd B n) (hd : Bd C d) : Bd B (lowR n d).1 ∧ Bd C (lowR n d).2 := ⟨lowR_bd hn, lowR_bd2 hd⟩
/-- bounds of both parts -/
def Bq (B : Nat) (a : Q2) : Prop := Bd B a.1 ∧ Bd B a.2
theorem Bq.mono {B C : Nat} {a : Q2} (h : Bq B a) (l : B ≤ C) : Bq C a := ⟨h.1.mono l, h.2.mono l⟩
/-- a ratio whose parts are small enough to be reckoned with -/
def Sm (a : Q2) : Prop := Bd 4000 a.1 ∧ Bd 4000 a.2
theorem sm_mul {a b : Q2} (ha : Sm a) (hb : Sm b) : CMulW a.1 b.2 ∧ CMulW b.1 a.2 := ⟨ha.1.wmul hb.2 (by decide) (by decide) (by decide), hb.1.wmul ha.2 (by decide) (by decide) (by decide)⟩
theorem Bq.sm {B : Nat} {a : Q2} (h : Bq B a) (l : B ≤ 4000) : Sm a := h.mono l
theorem addR_bq {a b : Q2} {B C : Nat} (ha : Bq B a) (hb : Bq C b) : Bq (B + C + 1) (addR a b) :=
  ⟨lowR_bd ((ha.1.mul hb.2).add (Nat.add_comm C B ▸ hb.1.mul ha.2)), lowR_bd2 ((ha.2.mul hb.2).mono (Nat.le_succ _))⟩
theorem subR_bq {a b : Q2} {B C : Nat} (ha : Bq B a) (hb : Bq C b) : Bq (B + C + 1) (subR a b) :=
  ⟨lowR_bd ((ha.1.mul hb.2).sub (Nat.add_comm C B ▸ hb.1.mul ha.2)), lowR_bd2 ((ha.2.mul hb.2).mono (Nat.le_succ _))⟩
theorem mulR_bq {a b : Q2} {B C : Nat} (ha : Bq B a) (hb : Bq C b) : Bq (B + C) (mulR a b) := ⟨lowR_bd (ha.1.mul hb.1), lowR_bd2 (ha.2.mul hb.2)⟩
theorem one_bd {B : Nat} (h : 1 ≤ B) : Bd B 1 := Bd.mono (B := 1) (by unfold Bd; decide) h
end RP

set_option Elab.async false
set_option linter.all false
set_option maxRecDepth 100000
set_option maxHeartbeats 2000000
namespace RP
open PySem PySem.Spec PyProof.Rows L2
/-! ### ratios as Rat -/
def ofQ (q : Rat) : Q2 := (q.num, (q.den : Int))
def eQ (q : Rat) : RD := .tup [.int q.num, .int (q.den : Int)]
theorem eQ_eR (q : Rat) : eQ q = eR (ofQ q) := rfl
theorem ofQ_isR (q : Rat) : IsR (ofQ q) := ⟨by show (0 : Int) < (q.den : Int); have := q.den_pos; omega, by show Nat.gcd q.num.natAbs (q.den : Int).natAbs = 1; rw [Int.natAbs_natCast]; exact q.reduced⟩
theorem low_ofQ {n d : Int} (h : 0 < d) : lowR n d = ofQ (Rat.divInt n d) := by
  refine lowR_eq (ofQ_isR _) h ?_
  have e : Rat.divInt (Rat.divInt n d).num ((Rat.divInt n d).den : Int) = Rat.divInt n d := by
    rw [Rat.divInt_ofNat, Rat.mkRat_self]
  have hz := (Rat.divInt n d).den_nz
  rw [Rat.divInt_eq_divInt_iff (by omega) (by omega)] at e
  exact e
theorem eQ_low {n d : Int} (h : 0 < d) : eR (lowR n d) = eQ (Rat.divInt n d) := by rw [low_ofQ h]; rfl
theorem eQ_lawLow {n d : Int} (h : 0 < d) : eR (lawLow n d) = eQ (Rat.divInt n d) := by rw [lawLow_pos h, eQ_low h]
/-- bounds of both parts -/
def Bt (B : Nat) (q : Rat) : Prop := Bd B q.num ∧ Bd B (q.den : Int)
theorem Bt.mono {B C : Nat} {q : Rat} (h : Bt B q) (l : B ≤ C) : Bt C q := ⟨h.1.mono l, h.2.mono l⟩
theorem bt_low {n d : Int} {B : Nat} (h : 0 < d) (hn : Bd B n) (hd : Bd B d) : Bt B (Rat.divInt n d) := by
  have e := low_ofQ (n := n) h
  have h1 := lowR_bd (d := d) hn
  have h2 := lowR_bd2 (n := n) hd
  rw [e] at h1 h2
  exact ⟨h1, h2⟩
theorem den_ne (q : Rat) : (q.den : Int) ≠ 0 := by have := q.den_nz; omega
theorem den_pos' (q : Rat) : (0 : Int) < (q.den : Int) := by have := q.den_pos; omega
theorem num_den (q : Rat) : Rat.divInt q.num (q.den : Int) = q := by rw [Rat.divInt_ofNat, Rat.mkRat_self]
theorem add_divInt (a b : Rat) : Rat.divInt (a.num * b.den + b.num * a.den) (a.den * b.den) = a + b := by
  conv => rhs; rw [← num_den a, ← num_den b, Rat.divInt_add_divInt _ _ (den_ne a) (den_ne b)]
theorem sub_divInt (a b : Rat) : Rat.divInt (a.num * b.den - b.num * a.den) (a.den * b.den) = a - b := by
  conv => rhs; rw [← num_den a, ← num_den b, Rat.divInt_sub_divInt _ _ (den_ne a) (den_ne b)]
theorem mul_divInt (a b : Rat) : Rat.divInt (a.num * b.num) (a.den * b.den) = a * b := by
  conv => rhs; rw [← num_den a, ← num_den b, Rat.divInt_mul_divInt]
theorem div_divInt (a b : Rat) : Rat.divInt (a.num * b.den) (a.den * b.num) = a / b := by
  conv => rhs; rw [Rat.div_def, ← num_den a, ← num_den b, Rat.inv_divInt, Rat.divInt_mul_divInt]
theorem lt_iff' (a b : Rat) : (a.num * b.den < b.num * a.den) = (a < b) := propext (Rat.lt_iff a b).symm
theorem le_iff' (a b : Rat) : (a.num * b.den ≤ b.num * a.den) = (a ≤ b) := propext (Rat.le_iff a b).symm
theorem Bt.add {a b : Rat} {B C : Nat} (ha : Bt B a) (hb : Bt C b) : Bt (B + C + 1) (a + b) := by
  rw [← add_divInt]
  exact bt_low (Int.mul_pos (den_pos' a) (den_pos' b)) ((ha.1.mul hb.2).add (Nat.add_comm C B ▸ hb.1.mul ha.2)) ((ha.2.mul hb.2).mono (Nat.le_succ _))
theorem Bt.sub {a b : Rat} {B C : Nat} (ha : Bt B a) (hb : Bt C b) : Bt (B + C + 1) (a - b) := by
  rw [← sub_divInt]
  exact bt_low (Int.mul_pos (den_pos' a) (den_pos' b)) ((ha.1.mul hb.2).sub (Nat.add_comm C B ▸ hb.1.mul ha.2)) ((ha.2.mul hb.2).mono (Nat.le_succ _))
theorem Bt.mul {a b : Rat} {B C : Nat} (ha : Bt B a) (hb : Bt C b) : Bt (B + C) (a * b) := by
  rw [← mul_divInt]
  exact bt_low (Int.mul_pos (den_pos' a) (den_pos' b)) (ha.1.mul hb.1) (ha.2.mul hb.2)
theorem eQ_py (q : Rat) : RD.py (eQ q) = some (.tuple [.int q.num, .int (q.den : Int)]) := rfl
/-- small enough to be reckoned with -/
abbrev Sq (q : Rat) : Prop := Bt 4000 q
theorem Sq.wmul {a b : Rat} (ha : Sq a) (hb : Sq b) : CMulW a.num b.num ∧ CMulW a.num b.den ∧ CMulW a.den b.num ∧ CMulW a.den b.den :=
  ⟨ha.1.wmul hb.1 (by decide) (by decide) (by decide), ha.1.wmul hb.2 (by decide) (by decide) (by decide), ha.2.wmul hb.1 (by decide) (by decide) (by decide), ha.2.wmul hb.2 (by decide) (by decide) (by decide)⟩
theorem Sq.dd {a b : Rat} (ha : Sq a) (hb : Sq b) : (a.den : Int) * (b.den : Int) ≠ 0 ∧ Bd 9000 ((a.den : Int) * (b.den : Int)) := by
  refine ⟨?_, (ha.2.mul hb.2).mono (by decide)⟩
  have := Int.mul_pos (den_pos' a) (den_pos' b)
  omega
theorem bt_int {B : Nat} {n : Int} (h : Bd B n) (hB : 1 ≤ B) : Bt B (n : Rat) := ⟨h, by show Bd B (((n : Rat).den : Nat) : Int); exact one_bd hB⟩
theorem eQ_int (n : Int) : eQ (n : Rat) = .tup [.int n, .int 1] := rfl
end RP

set_option Elab.async false
set_option linter.all false
set_option maxRecDepth 100000
set_option maxHeartbeats 2000000
namespace RP
open PySem PySem.Spec PyProof.Rows L2
/-! ### lists and rows of ratios -/
def eL (qs : List Rat) : RD := .lst (qs.map eQ)
def eM (rows : List (List Rat)) : RD := .lst (rows.map eL)
def pQ (q : Rat) : PyData := .tuple [.int q.num, .int (q.den : Int)]
def pL (qs : List Rat) : PyData := .list (qs.map pQ)
def pM (rows : List (List Rat)) : PyData := .list (rows.map pL)
theorem pys_map {α : Type} {e : α → RD} {p : α → PyData} (h : ∀ x, RD.py (e x) = some (p x)) : ∀ xs : List α, RD.pys (xs.map e) = some (xs.map p)
  | [] => rfl
  | x :: r => by
    simp only [List.map_cons, RD.pys, h x, pys_map h r]
theorem eQ_pQ (q : Rat) : RD.py (eQ q) = some (pQ q) := rfl
theorem eL_py (qs : List Rat) : RD.py (eL qs) = some (pL qs) := by
  show (RD.pys (qs.map eQ)).map _ = _
  rw [pys_map eQ_pQ]
  rfl
theorem eM_py (rows : List (List Rat)) : RD.py (eM rows) = some (pM rows) := by
  show (RD.pys (rows.map eL)).map _ = _
  rw [pys_map eL_py]
  rfl
/-- data that may be laid, of a depth -/
def Shp (n : Nat) (p : PyData) : Prop := p.canLay0 = true ∧ p.depth ≤ n
theorem Shp.shaped {n : Nat} {p : PyData} (h : Shp n p) (hn : n ≤ 64) : SeqAt.shaped p = true := by
  unfold SeqAt.shaped
  rw [h.1, decide_eq_true (Nat.le_trans h.2 hn)]
  rfl
theorem canLayAll_map {α : Type} {p : α → PyData} : ∀ (xs : List α), (∀ x ∈ xs, (p x).canLay0 = true) → PyData.canLayAll0 (xs.map p) = true
  | [], _ => rfl
  | x :: r, h => by
    show ((p x).canLay0 && PyData.canLayAll0 (r.map p)) = true
    rw [h x List.mem_cons_self, canLayAll_map r fun y hy => h y (List.mem_cons_of_mem _ hy)]
    rfl
theorem depthAll_map {α : Type} {p : α → PyData} {n : Nat} : ∀ (xs : List α), (∀ x ∈ xs, (p x).depth ≤ n) → PyData.depthAll (xs.map p) ≤ n
  | [], _ => Nat.zero_le _
  | x :: r, h => by
    show max (p x).depth (PyData.depthAll (r.map p)) ≤ n
    have h1 := h x List.mem_cons_self
    have h2 := depthAll_map r fun y hy => h y (List.mem_cons_of_mem _ hy)
    omega
theorem shp_list {α : Type} {p : α → PyData} {n : Nat} {xs : List α} (h : ∀ x ∈ xs, Shp n (p x)) : Shp (n + 1) (.list (xs.map p)) :=
  ⟨canLayAll_map xs fun x hx => (h x hx).1, Nat.succ_le_succ (depthAll_map xs fun x hx => (h x hx).2)⟩
theorem shp_pQ (q : Rat) : Shp 1 (pQ q) := ⟨rfl, Nat.le_refl _⟩
theorem shp_pL (qs : List Rat) : Shp 2 (pL qs) := shp_list fun q _ => shp_pQ q
theorem shp_pM (rows : List (List Rat)) : Shp 3 (pM rows) := shp_list fun r _ => shp_pL r
theorem shp_pair {n : Nat} {p q : PyData} (h : Shp n p) (k : Shp n q) : Shp (n + 1) (.tuple [p, q]) := by
  refine ⟨?_, ?_⟩
  · show (p.canLay0 && (q.canLay0 && true)) = true
    rw [h.1, k.1]; rfl
  · show max p.depth (max q.depth 0) + 1 ≤ n + 1
    have h1 := h.2
    have h2 := k.2
    omega
section
variable {K : PySem.W.Frag} {S : Sg} {d : RD}
theorem ro_eqL {qs : List Rat} : RO K (rEqD K) (eL qs) (eL qs) (.bl true) := ro_eqS (eL_py qs) ((shp_pL qs).shaped (by decide))
theorem ro_neL {qs : List Rat} : RO K (rNeD K) (eL qs) (eL qs) (.bl false) := ro_neS (eL_py qs) ((shp_pL qs).shaped (by decide))
theorem rc_listL {ds : List RD} : RC K (rListK K) [.lst ds] (.lst ds) := fun G H vs e r Q q => by
  cases r with
  | cons a r =>
    cases r
    obtain ⟨p, xs, rfl, hs, ha⟩ := a.lst_inv
    refine ⟨p, xs, rfl, .inl (Evl.sq_of (e _ _ hs)), fun l hl => ?_⟩
    have sn := Sx.new (o := .lst xs) e hl
    exact q _ _ _ sn (.lst upd_same (ha.mono sn.g))
end
theorem atI_nat' {α : Type} {xs : List α} {i : Nat} (h : i < xs.length) : atI xs (i : Int) = some xs[i] := atI_nat (List.getElem?_eq_getElem h)
theorem atI_mapQ {xs : List Rat} {i : Int} {q : Rat} (h : atI xs i = some q) : atI (xs.map eQ) i = some (eQ q) := atI_map h
/-- all within a bound -/
def BL (B : Nat) (qs : List Rat) : Prop := ∀ q ∈ qs, Bt B q
def BM (B : Nat) (rows : List (List Rat)) : Prop := ∀ r ∈ rows, BL B r
theorem BL.mono {B C : Nat} {qs : List Rat} (h : BL B qs) (l : B ≤ C) : BL C qs := fun q hq => (h q hq).mono l
/-- products of rows -/
def dot (row vs : List Rat) : Rat := ((row.zip vs).map fun p => p.1 * p.2).sum
theorem bt_zero {B : Nat} (h : 1 ≤ B) : Bt B (0 : Rat) := ⟨bd_zero, one_bd h⟩
theorem sum_take {qs : List Rat} {i : Nat} (h : i < qs.length) : (qs.take (i + 1)).sum = (qs.take i).sum + qs[i] := by
  rw [List.take_add_one, List.sum_append, List.getElem?_eq_getElem h]
  show (qs.take i).sum + [qs[i]].sum = _
  rw [List.sum_cons, List.sum_nil, Rat.add_zero]
theorem bt_sum {B : Nat} (hB : 1 ≤ B) : ∀ {qs : List Rat}, BL B qs → Bt (qs.length * (B + 1) + 1) qs.sum
  | [], _ => bt_zero (by omega)
  | q :: r, h => by
    rw [List.sum_cons]
    refine ((h q List.mem_cons_self).add (bt_sum hB fun x hx => h x (List.mem_cons_of_mem _ hx))).mono ?_
    rw [List.length_cons, Nat.add_mul]
    omega
end RP


set_option Elab.async false
set_option linter.all false
set_option maxRecDepth 100000
set_option maxHeartbeats 4000000

namespace RPk17
open PySem PySem.Spec PyProof.Rows L2 RP


local macro_rules | `(tactic| walk_at "fn") => `(tactic| fail)
local macro_rules | `(tactic| walk_at "side") => `(tactic| first | rfl | (show (0 : Int) < _; decide) | exact ⟨by decide, by decide⟩ | exact ⟨by decide, by decide, by decide⟩)
local macro_rules | `(tactic| walk_at "ro") => `(tactic| ((with_reducible show RO _ _ _ _ _); first
  | (with_reducible exact ro_I0i) | (with_reducible exact ro_I0b) | ((with_reducible apply ro_Ii); try walk_at "side") | ((with_reducible apply ro_eq) <;> rfl) | ((with_reducible apply ro_ne) <;> rfl)
  | exact ro_ixsT rfl | exact ro_ixsL rfl | apply ro_ixsT | apply ro_ixsL | apply ro_ixS | walk_at "ro2"))
local macro_rules | `(tactic| walk_at "ro2") => `(tactic| fail)
local macro_rules | `(tactic| walk_at "rc") => `(tactic| ((with_reducible show RC _ _ _ _); first
  | (with_reducible exact rc_abs) | (with_reducible exact rc_int) | (with_reducible exact rc_gcd) | exact rc_lenL | exact rc_lenT | exact rc_lenS | exact rc_isi rfl (by decide +kernel) | walk_at "rc2"))
local macro_rules | `(tactic| walk_at "rc2") => `(tactic| fail)
local macro_rules | `(tactic| walk_at "ae") => `(tactic| ((with_reducible show AE _ _ _ _); first
  | (with_reducible exact ae_int) | (with_reducible exact ae_bl) | (with_reducible exact ae_str) | (with_reducible exact ae_non) | (with_reducible exact ae_ty) | (with_reducible exact ae_cls) | (with_reducible exact ae_dnew) | ((with_reducible apply ae_var); rfl)
  | (with_reducible apply ae_op) | (with_reducible apply ae_un) | (with_reducible apply ae_call0) | (with_reducible apply ae_cb) | (with_reducible apply ae_tup) | (with_reducible apply ae_lst)
  | (with_reducible apply ae_andV) | (with_reducible apply ae_orV) | (with_reducible apply ae_notV) | walk_at "ae2"))
local macro_rules | `(tactic| walk_at "ae2") => `(tactic| fail)
local macro_rules | `(tactic| walk_at "ev") => `(tactic| repeat' (first
  | walk_at "ae" | (with_reducible exact aa_nil) | (with_reducible apply aa_cons)
  | walk_at "ro" | walk_at "rc" | ((with_reducible show RU _ _ _ _); exact ru_i) | walk_at "fn"
  | ((with_reducible show AT _ _ _ _); first | (with_reducible apply at_test) | (with_reducible apply at_B) | (with_reducible apply at_and) | (with_reducible apply at_or) | (with_reducible apply at_not) | (with_reducible exact at_yes))
  | ((with_reducible show List.length _ ≤ 100000); exact Nat.le_of_ble_eq_true rfl) | ((with_reducible show List.length _ = _); rfl) | (with_reducible intro _)))
local macro_rules | `(tactic| walk_at "fg") => `(tactic| repeat (first | exact Fg.nil | apply Fg.keep | apply Fg.drop))

def topS (i : Nat) : Stmt := PySem.Challenge.pw_rivalprices_k17_products_of_rows.main.body.getD i (.Pass ⟨0, 0, 0, 0⟩)
abbrev s_law_cell : Stmt := topS 10
theorem sc_law_cell : FnScope ["script", "k"] ["script", "k"] (defScope s_law_cell) := ⟨rfl, rfl, rfl, by decide +kernel, rfl, by decide +kernel, by decide +kernel⟩
abbrev s_law_low : Stmt := topS 11
theorem sc_law_low : FnScope ["n", "d", "a", "b"] ["n", "d"] (defScope s_law_low) := ⟨rfl, rfl, rfl, by decide +kernel, rfl, by decide +kernel, by decide +kernel⟩
abbrev s_law_is_ratio : Stmt := topS 12
theorem sc_law_is_ratio : FnScope ["actual", "part"] ["actual"] (defScope s_law_is_ratio) := ⟨rfl, rfl, rfl, by decide +kernel, rfl, by decide +kernel, by decide +kernel⟩
abbrev s_law_sum : Stmt := topS 15
theorem sc_law_sum : FnScope ["parts", "n", "d", "part"] ["parts"] (defScope s_law_sum) := ⟨rfl, rfl, rfl, by decide +kernel, rfl, by decide +kernel, by decide +kernel⟩
abbrev s_law_times : Stmt := topS 16
theorem sc_law_times : FnScope ["a", "b"] ["a", "b"] (defScope s_law_times) := ⟨rfl, rfl, rfl, by decide +kernel, rfl, by decide +kernel, by decide +kernel⟩
abbrev s_law_product : Stmt := topS 17
theorem sc_law_product : FnScope ["rows", "values", "k", "row"] ["rows", "values"] (defScope s_law_product) := ⟨rfl, rfl, rfl, by decide +kernel, rfl, by decide +kernel, by decide +kernel⟩
abbrev s_law_small : Stmt := topS 13
theorem sc_law_small : FnScope ["cell"] ["cell"] (defScope s_law_small) := ⟨rfl, rfl, rfl, by decide +kernel, rfl, by decide +kernel, by decide +kernel⟩
abbrev s_lowest : Stmt := topS 3
theorem sc_lowest : FnScope ["n", "d", "part"] ["n", "d"] (defScope s_lowest) := ⟨rfl, rfl, rfl, by decide +kernel, rfl, by decide +kernel, by decide +kernel⟩
abbrev s_add : Stmt := topS 4
theorem sc_add : FnScope ["a", "b"] ["a", "b"] (defScope s_add) := ⟨rfl, rfl, rfl, by decide +kernel, rfl, by decide +kernel, by decide +kernel⟩
abbrev s_times : Stmt := topS 5
theorem sc_times : FnScope ["a", "b"] ["a", "b"] (defScope s_times) := ⟨rfl, rfl, rfl, by decide +kernel, rfl, by decide +kernel, by decide +kernel⟩
abbrev s_along : Stmt := topS 7
theorem sc_along : FnScope ["row", "values", "total", "part", "value"] ["row", "values"] (defScope s_along) := ⟨rfl, rfl, rfl, by decide +kernel, rfl, by decide +kernel, by decide +kernel⟩
abbrev s_product : Stmt := topS 8
theorem sc_product : FnScope ["rows", "values", "row"] ["rows", "values"] (defScope s_product) := ⟨rfl, rfl, rfl, by decide +kernel, rfl, by decide +kernel, by decide +kernel⟩
abbrev s_law : Stmt := topS 18
theorem sc_law : FnScope ["script", "width", "height", "rows", "i", "j", "values", "k", "others", "kept", "row", "actual", "value", "both"] ["script"] (defScope s_law) := ⟨rfl, rfl, rfl, by decide +kernel, rfl, by decide +kernel, by decide +kernel⟩
structure Txt (K : PySem.W.Frag) (mg : Str → Option Value) where
  a_law_cell : Addr
  fd_law_cell : FuncData
  F_law_cell : Fun K "_law_cell" "_law_cell" s_law_cell a_law_cell fd_law_cell
  g_law_cell : mg "_law_cell" = some (.ref a_law_cell)
  b_law_cell : Binds K fd_law_cell ["script", "k"] []
  a_law_low : Addr
  fd_law_low : FuncData
  F_law_low : Fun K "_law_low" "_law_low" s_law_low a_law_low fd_law_low
  g_law_low : mg "_law_low" = some (.ref a_law_low)
  b_law_low : Binds K fd_law_low ["n", "d"] []
  a_law_is_ratio : Addr
  fd_law_is_ratio : FuncData
  F_law_is_ratio : Fun K "_law_is_ratio" "_law_is_ratio" s_law_is_ratio a_law_is_ratio fd_law_is_ratio
  g_law_is_ratio : mg "_law_is_ratio" = some (.ref a_law_is_ratio)
  b_law_is_ratio : Binds K fd_law_is_ratio ["actual"] []
  a_law_sum : Addr
  fd_law_sum : FuncData
  F_law_sum : Fun K "_law_sum" "_law_sum" s_law_sum a_law_sum fd_law_sum
  g_law_sum : mg "_law_sum" = some (.ref a_law_sum)
  b_law_sum : Binds K fd_law_sum ["parts"] []
  a_law_times : Addr
  fd_law_times : FuncData
  F_law_times : Fun K "_law_times" "_law_times" s_law_times a_law_times fd_law_times
  g_law_times : mg "_law_times" = some (.ref a_law_times)
  b_law_times : Binds K fd_law_times ["a", "b"] []
  a_law_product : Addr
  fd_law_product : FuncData
  F_law_product : Fun K "_law_product" "_law_product" s_law_product a_law_product fd_law_product
  g_law_product : mg "_law_product" = some (.ref a_law_product)
  b_law_product : Binds K fd_law_product ["rows", "values"] []
  a_law_small : Addr
  fd_law_small : FuncData
  F_law_small : Fun K "_law_small" "_law_small" s_law_small a_law_small fd_law_small
  g_law_small : mg "_law_small" = some (.ref a_law_small)
  b_law_small : Binds K fd_law_small ["cell"] []
  a_lowest : Addr
  fd_lowest : FuncData
  F_lowest : Fun K "_lowest" "_lowest" s_lowest a_lowest fd_lowest
  g_lowest : mg "_lowest" = some (.ref a_lowest)
  b_lowest : Binds K fd_lowest ["n", "d"] []
  a_add : Addr
  fd_add : FuncData
  F_add : Fun K "add" "add" s_add a_add fd_add
  g_add : mg "add" = some (.ref a_add)
  b_add : Binds K fd_add ["a", "b"] []
  a_times : Addr
  fd_times : FuncData
  F_times : Fun K "times" "times" s_times a_times fd_times
  g_times : mg "times" = some (.ref a_times)
  b_times : Binds K fd_times ["a", "b"] []
  a_along : Addr
  fd_along : FuncData
  F_along : Fun K "along" "along" s_along a_along fd_along
  g_along : mg "along" = some (.ref a_along)
  b_along : Binds K fd_along ["row", "values"] []
  a_product : Addr
  fd_product : FuncData
  F_product : Fun K "product" "product" s_product a_product fd_product
  g_product : mg "product" = some (.ref a_product)
  b_product : Binds K fd_product ["rows", "values"] []
  a_law : Addr
  fd_law : FuncData
  F_law : Fun K "law" "law" s_law a_law fd_law
  g_law : mg "law" = some (.ref a_law)
  b_law : Binds K fd_law ["script"] []
  m_abs : mg "abs" = none
  m_bool : mg "bool" = none
  m_int : mg "int" = none
  m_isinstance : mg "isinstance" = none
  m_len : mg "len" = none
  m_list : mg "list" = none
  m_range : mg "range" = none
  m_tuple : mg "tuple" = none
  m_zip : mg "zip" = none
  g_gcd : mg "gcd" = some (.builtin "math.gcd")
  z_ZERO : Addr
  c_ZERO : mg "ZERO" = some (.ref z_ZERO)
  s_ZERO : ∀ G : Hp, SqT K G z_ZERO [V.int 0, V.int 1]
section
variable {P : Program} {w : World} {K : PySem.W.Frag} {mg : Str → Option Value} {base : Heap}
/-! ### _law_cell -/
def lawCell (ns : List Int) (k : Nat) : Int := if h : k < ns.length then ns[k] else 13 * (k : Int) + 2
def R_law_cell (ds : List RD) (r : Res) : Prop := ∃ (ns : List Int) (k : Nat), ds = [.scr ns, .int (k : Int)] ∧ (ns.length ≤ 100 ∧ k ≤ 1000) ∧ r = .ok (.int (lawCell ns k))
theorem R_law_cell_mk {ns : List Int} {z : Int} (hn : ns.length ≤ 100) (k : Nat) (hz : z = (k : Int)) (hk : k ≤ 1000) : R_law_cell [.scr ns, .int z] (.ok (.int (lawCell ns k))) := ⟨ns, k, by rw [hz], ⟨hn, hk⟩, rfl⟩
local macro_rules | `(tactic| walk_at "fn") => `(tactic| ((with_reducible show R_law_cell _ _); (refine R_law_cell_mk (by first | assumption | omega) _ (by first | rfl | assumption | omega) (by first | decide | omega))))
theorem ok_law_cell (T : Txt K mg) : FnOk P w K mg base (L2.CX P w) 1 T.a_law_cell T.fd_law_cell ["script", "k"] (spF K 2 R_law_cell) := by
  refine T.F_law_cell.okX sc_law_cell (spF_len rfl) (fun cdv A outer s H vs Q E hr h => ?_)
  refine ⟨_, (pss_cons (ps_if (pt_cmpR op_lt (pv 1) (pe_callB (call_lenK K rfl) (by rfl) T.m_len (by decide +kernel) (pa_cons (pv 0) pa_nil)) (nomark _)) (pss_one (ps_ret (pe_callTy (call_int1) (by rfl) T.m_int (by decide +kernel) (pa_cons (pe_ix (ix_seqK K rfl) (pv 0) (pv 1) (fun _ _ => rfl)) pa_nil)))) pss_nil)
      (pss_one (ps_ret (pe_op op_add (pe_op op_mulW pe_int (pv 1)) pe_int)))), ?_⟩
  refine body_run h (fun ds r hl hR => ?_)
  obtain ⟨ns, k, rfl, ⟨hn, hk⟩, rfl⟩ := hR
  refine ⟨.rt (.int (lawCell ns k)), rfl, ?_⟩
  refine as_when (b := decide ((k : Int) < (ns.length : Int))) (by walk_at "ev") (fun hb => as_rets ?_) (fun hb => as_ret ?_)
  · have h := of_decide_eq_true hb
    have hk2 : k < ns.length := by omega
    refine ae_is (d := .int ns[k]) ?_ (by unfold lawCell; rw [dif_pos hk2])
    walk_at "ev"
    exact atI_nat (List.getElem?_eq_getElem hk2)
  · have h := of_decide_eq_false hb
    refine ae_is (d := .int (13 * (k : Int) + 2)) ?_ (by unfold lawCell; rw [dif_neg (by omega)])
    walk_at "ev"
    exact L2.wide_mul (a := 10) (b := 10) (by decide) (by rw [Int.natAbs_natCast]; omega) (by decide) (by decide) (by decide)
/-! ### _law_low -/
def R_law_low (ds : List RD) (r : Res) : Prop := ∃ n d : Int, ds = [.int n, .int d] ∧ (d ≠ 0 ∧ Bd 9000 d) ∧ r = .ok (eR (lawLow n d))
theorem R_law_low_mk {n d : Int} (h : d ≠ 0) (hb : Bd 9000 d) : R_law_low [.int n, .int d] (.ok (eR (lawLow n d))) := ⟨n, d, rfl, ⟨h, hb⟩, rfl⟩
local macro_rules | `(tactic| walk_at "fn") => `(tactic| (with_reducible refine R_law_low_mk ?_ ?_))
theorem ok_law_low (T : Txt K mg) : FnOk P w K mg base (L2.CX P w) 1 T.a_law_low T.fd_law_low ["n", "d"] (spF K 2 R_law_low) := by
  refine T.F_law_low.okX sc_law_low (spF_len rfl) (fun cdv A outer s H vs Q E hr h => ?_)
  refine ⟨_, (pss_cons (ps_set (i := 2) sc_law_low.nd rfl (Or.inl rfl) (pe_callB (call_abs) (by rfl) T.m_abs (by decide +kernel) (pa_cons (pv 0) pa_nil)))
      (pss_cons (ps_set (i := 3) sc_law_low.nd rfl (Or.inl rfl) (pe_callB (call_abs) (by rfl) T.m_abs (by decide +kernel) (pa_cons (pv 1) pa_nil)))
      (pss_cons (ps_while (passes_of rfl) (pt_cmpR op_gt (pv 3) pe_int (nomark _)) (pss_one (ps_par (i := 2) (j := 3) (by rfl) sc_law_low.nd rfl rfl (by decide) rfl rfl (pa_cons (pv 3) (pa_cons (pe_op op_mod (pe_callTy (call_int1) (by rfl) T.m_int (by decide +kernel) (pa_cons (pv 2) pa_nil)) (pv 3)) pa_nil)) (by rfl))))
      (pss_cons (ps_if (pt_cmpR op_lt (pv 1) pe_int (nomark _)) (pss_one (ps_ret (pe_tup (pa_cons (pe_op op_sub pe_int (pe_op op_fdivW (pv 0) (pv 2))) (pa_cons (pe_op op_sub pe_int (pe_op op_fdivW (pv 1) (pv 2))) pa_nil))))) pss_nil)
      (pss_one (ps_ret (pe_tup (pa_cons (pe_op op_fdivW (pv 0) (pv 2)) (pa_cons (pe_op op_fdivW (pv 1) (pv 2)) pa_nil))))))))), ?_⟩
  refine body_run h (fun ds r hl hR => ?_)
  obtain ⟨n, d, rfl, ⟨hd, hb⟩, rfl⟩ := hR
  have wd : ∀ x : Int, CDivW x (Nat.gcd n.natAbs d.natAbs : Nat) := fun x => gcd_wdiv hd hb (by decide) (by decide)
  refine ⟨.rt (eR (lawLow n d)), rfl, ?_⟩
  refine as_seq (S1 := [.dat (.int n), .dat (.int d), .dat (.int (n.natAbs : Int)), .un]) (as_asg (by walk_at "ev")) ?_
  refine as_seq (S1 := [.dat (.int n), .dat (.int d), .dat (.int (n.natAbs : Int)), .dat (.int (d.natAbs : Int))]) (as_asg (by walk_at "ev")) ?_
  refine as_seq (S1 := [.dat (.int n), .dat (.int d), .dat (.int (Nat.gcd n.natAbs d.natAbs : Nat)), .dat (.int 0)])
    (as_whileW (fun m T => ∃ a b : Nat, m = b ∧ Nat.gcd a b = Nat.gcd n.natAbs d.natAbs ∧ T = [.dat (.int n), .dat (.int d), .dat (.int a), .dat (.int b)]) d.natAbs ⟨_, _, rfl, rfl, rfl⟩ ?_) ?_
  · rintro m T ⟨a, b, rfl, hg, rfl⟩
    refine ⟨decide ((0 : Int) < (m : Int)), by walk_at "ev", fun hb => ?_, fun hb => ?_⟩
    · have hm : 0 < m := by have := of_decide_eq_true hb; omega
      refine ⟨_, [.dat (.int n), .dat (.int d), .dat (.int (m : Int)), .dat (.int ((a : Int) % (m : Int)))], a % m, as_par (d1 := .int (m : Int)) (d2 := .int ((a : Int) % (m : Int))) ?_, Fg.refl _, Nat.mod_lt _ hm, m, a % m, rfl, ?_, ?_⟩
      · walk_at "ev"
        show (0 : Int) < (m : Int)
        omega
      · rw [← hg, Nat.gcd_comm m (a % m), ← Nat.gcd_rec, Nat.gcd_comm]
      · rw [Int.natCast_emod]
    · have hm : m = 0 := by have := of_decide_eq_false hb; omega
      subst hm
      rw [Nat.gcd_zero_right] at hg
      rw [hg]
      rfl
  · refine as_when (b := decide (d < 0)) (by walk_at "ev") (fun hb => as_rets ?_) (fun hb => as_ret ?_)
    · refine ae_is (d := .tup [.int (0 - n / (Nat.gcd n.natAbs d.natAbs : Nat)), .int (0 - d / (Nat.gcd n.natAbs d.natAbs : Nat))]) ?_ (by unfold lawLow; rw [if_pos (of_decide_eq_true hb)]; rfl)
      walk_at "ev"
      all_goals exact wd _
    · refine ae_is (d := .tup [.int (n / (Nat.gcd n.natAbs d.natAbs : Nat)), .int (d / (Nat.gcd n.natAbs d.natAbs : Nat))]) ?_ (by unfold lawLow; rw [if_neg (of_decide_eq_false hb)]; rfl)
      walk_at "ev"
      all_goals exact wd _
/-! ### _law_is_ratio -/
def R_law_is_ratio (ds : List RD) (r : Res) : Prop := ∃ q : Rat, ds = [eQ q] ∧ Bd 9000 (q.den : Int) ∧ r = .ok (.bl true)
theorem R_law_is_ratio_mk {q : Rat} (h : Bd 9000 (q.den : Int)) : R_law_is_ratio [eQ q] (.ok (.bl true)) := ⟨q, rfl, h, rfl⟩
local macro_rules | `(tactic| walk_at "fn") => `(tactic| (with_reducible refine R_law_is_ratio_mk ?_))
theorem ok_law_is_ratio (T : Txt K mg) : FnOk P w K mg base (L2.CX P w) 2 T.a_law_is_ratio T.fd_law_is_ratio ["actual"] (spF K 1 R_law_is_ratio) := by
  refine T.F_law_is_ratio.okX sc_law_is_ratio (spF_len rfl) (fun cdv A outer s H vs Q E hr h => ?_)
  refine ⟨_, (pss_cons (ps_if (PW.pt (pw_or (pt_not (pt_val (pe_callB (call_isiK' K rfl) (by rfl) T.m_isinstance (by decide +kernel) (pa_cons (pv 0) (pa_cons (pe_bltn (v := .ty "tuple") (by rfl) T.m_tuple (by decide +kernel) rfl) pa_nil))))) (pw_or1 (pt_cmpR op_ne (pe_callB (call_lenK K rfl) (by rfl) T.m_len (by decide +kernel) (pa_cons (pv 0) pa_nil)) pe_int (nomark _))))) (pss_one (ps_ret pe_bl)) pss_nil)
      (pss_cons (ps_for (passes_of rfl) rfl (pi_tupK K rfl (pv 0)) (pg_name (i := 1) sc_law_is_ratio.nd rfl (Or.inl rfl))
      (pss_one (ps_if (PW.pt (pw_or (pt_not (pt_val (pe_callB (call_isiK' K rfl) (by rfl) T.m_isinstance (by decide +kernel) (pa_cons (pv 1) (pa_cons (pe_bltn (v := .ty "int") (by rfl) T.m_int (by decide +kernel) rfl) pa_nil))))) (pw_or1 (pt_val (pe_callB (call_isiK' K rfl) (by rfl) T.m_isinstance (by decide +kernel) (pa_cons (pv 1) (pa_cons (pe_bltn (v := .ty "bool") (by rfl) T.m_bool (by decide +kernel) rfl) pa_nil))))))) (pss_one (ps_ret pe_bl)) pss_nil)))
      (pss_one (ps_ret (pe_and (pe_cmpR op_ge (pe_ix (ix_seqK K rfl) (pv 0) pe_int (fun _ _ => rfl)) pe_int (nomark _)) (pe_one (pe_cmpR (op_eqDK K rfl hr.units) (pe_call (ok_law_low T) (hr.mono (by decide)) rfl T.g_law_low T.F_law_low.kp T.b_law_low .nil passL (pa_cons (pe_ix (ix_seqK K rfl) (pv 0) pe_int (fun _ _ => rfl)) (pa_cons (pe_ix (ix_seqK K rfl) (pv 0) pe_int (fun _ _ => rfl)) pa_nil))) (pv 0) (nomark _)))))))), ?_⟩
  refine body_run h (fun ds r hl hR => ?_)
  obtain ⟨q, rfl, hq, rfl⟩ := hR
  refine ⟨.rt (.bl true), rfl, ?_⟩
  refine as_when (b := false) ?_ (fun z => nomatch z) (fun _ => ?_)
  · refine at_is (at_or (at_not (at_test (b := true) ?_)) (fun _ => at_test (b := false) (ae_is (ae_op (d1 := .int 2) (d2 := .int 2) ?_ ?_ (ro_ne rfl rfl rfl)) rfl))) rfl
    · exact ae_cb (ds := [eQ q, .ty "tuple"]) (by walk_at "ev") (rc_isi rfl (by decide +kernel))
    · refine ae_is (ae_cb (ds := [eQ q]) (by walk_at "ev") rc_lenT) rfl
    · walk_at "ev"
  refine as_seq (as_forK (l := [1]) (ai_tup (ds := [.int q.num, .int (q.den : Int)]) (ae_var rfl)) fun x hx => ?_) (as_ret ?_)
  · have hx2 : ∃ i : Int, x = .int i := by
      simp only [List.mem_cons, List.not_mem_nil, or_false] at hx
      rcases hx with rfl | rfl <;> exact ⟨_, rfl⟩
    obtain ⟨i, rfl⟩ := hx2
    refine ⟨[.dat (eQ q), .dat (.int i)], .nx [.dat (eQ q), .dat (.int i)], ag_name, ?_, by walk_at "fg"⟩
    refine as_if (b := false) ?_ (fun z => nomatch z) (fun _ => as_next)
    refine at_is (at_or (at_not (at_test (b := true) ?_)) (fun _ => at_test (b := false) ?_)) rfl
    · exact ae_cb (ds := [.int i, .ty "int"]) (by walk_at "ev") (rc_isi rfl (by decide +kernel))
    · exact ae_cb (ds := [.int i, .ty "bool"]) (by walk_at "ev") (rc_isi rfl (by decide +kernel))
  · refine ae_is (ae_andV (a := true) (b := true) (ae_is (ae_op (d1 := .int (q.den : Int)) (d2 := .int 1) ?_ ?_ ro_I0b) ?_) (fun _ => ae_op (d1 := eQ q) (d2 := eQ q) ?_ ?_ (ro_eqS rfl rfl))) rfl
    · walk_at "ev"
    · walk_at "ev"
    · show RD.bl (decide ((1 : Int) ≤ (q.den : Int))) = _
      have := den_pos' q
      rw [decide_eq_true (by omega)]
    · refine ae_is (ae_call0 (ds := [.int q.num, .int (q.den : Int)]) (by walk_at "ev") rfl (R_law_low_mk (den_ne q) hq)) ?_
      have e := (ofQ_isR q).low
      show eR (lawLow (ofQ q).1 (ofQ q).2) = eQ q
      rw [e]
      rfl
    · walk_at "ev"
/-! ### _law_sum -/
theorem sum_bits {i n B : Nat} (h : i < n) : i * (B + 1) + 1 + B + 1 ≤ n * (B + 1) + 1 := by
  have h2 := Nat.mul_le_mul_right (B + 1) (Nat.succ_le_of_lt h)
  rw [Nat.succ_mul] at h2
  omega
/-- the parts' sum as it is reckoned: numerator and denominator behind i turns -/
def sumN (qs : List Rat) : Nat → Int × Int
  | 0 => (0, 1)
  | i + 1 => ((sumN qs i).1 * ((qs.getD i 0).den : Int) + (qs.getD i 0).num * (sumN qs i).2, (sumN qs i).2 * ((qs.getD i 0).den : Int))
theorem sumN_ok {qs : List Rat} {B : Nat} (hq : BL B qs) : ∀ i, i ≤ qs.length → 0 < (sumN qs i).2 ∧ Bd (i * (B + 1) + 1) (sumN qs i).1 ∧ Bd (i * (B + 1) + 1) (sumN qs i).2 ∧ Rat.divInt (sumN qs i).1 (sumN qs i).2 = (qs.take i).sum
  | 0, _ => ⟨Int.one_pos, bd_zero, one_bd (by omega), by show Rat.divInt 0 1 = ([] : List Rat).sum; rw [List.sum_nil]; rfl⟩
  | i + 1, hi => by
    obtain ⟨hd, bn, bd, e⟩ := sumN_ok hq i (by omega)
    have hq1 := hq qs[i] (List.getElem_mem (by omega))
    have hg : qs.getD i 0 = qs[i] := by simp [List.getD_eq_getElem?_getD, List.getElem?_eq_getElem (show i < qs.length by omega)]
    unfold sumN
    rw [hg]
    refine ⟨Int.mul_pos hd (den_pos' _), ?_, ?_, ?_⟩
    · exact ((bn.mul hq1.2).add (Nat.add_comm B _ ▸ hq1.1.mul bd)).mono (by rw [Nat.succ_mul]; omega)
    · exact (bd.mul hq1.2).mono (by rw [Nat.succ_mul]; omega)
    · rw [RP.sum_take (by omega), ← e]
      conv => rhs; rw [← num_den qs[i], Rat.divInt_add_divInt _ _ (by omega) (den_ne _)]
def R_law_sum (ds : List RD) (r : Res) : Prop := ∃ (qs : List Rat) (B : Nat), ds = [eL qs] ∧ (1 ≤ B ∧ BL B qs ∧ qs.length * (B + 1) + 1 ≤ 8000) ∧ r = .ok (eQ qs.sum)
theorem R_law_sum_mk {qs : List Rat} (B : Nat) (h1 : 1 ≤ B) (h : BL B qs) (hl : qs.length * (B + 1) + 1 ≤ 8000) : R_law_sum [eL qs] (.ok (eQ qs.sum)) := ⟨qs, B, rfl, ⟨h1, h, hl⟩, rfl⟩
theorem ok_law_sum (T : Txt K mg) : FnOk P w K mg base (L2.CX P w) 2 T.a_law_sum T.fd_law_sum ["parts"] (spF K 1 R_law_sum) := by
  refine T.F_law_sum.okX sc_law_sum (spF_len rfl) (fun cdv A outer s H vs Q E hr h => ?_)
  refine ⟨_, (pss_cons (ps_set (i := 1) sc_law_sum.nd rfl (Or.inl rfl) pe_int)
      (pss_cons (ps_set (i := 2) sc_law_sum.nd rfl (Or.inl rfl) pe_int)
      (pss_cons (ps_for (passes_of rfl) rfl (pi_listK K rfl (pv 0)) (pg_name (i := 3) sc_law_sum.nd rfl (Or.inl rfl))
      (pss_cons (ps_set (i := 1) sc_law_sum.nd rfl (Or.inl rfl) (pe_op op_add (pe_op op_mulW (pv 1) (pe_ix (ix_seqK K rfl) (pv 3) pe_int (fun _ _ => rfl))) (pe_op op_mulW (pe_ix (ix_seqK K rfl) (pv 3) pe_int (fun _ _ => rfl)) (pv 2))))
      (pss_one (ps_set (i := 2) sc_law_sum.nd rfl (Or.inl rfl) (pe_op op_mulW (pv 2) (pe_ix (ix_seqK K rfl) (pv 3) pe_int (fun _ _ => rfl)))))))
      (pss_one (ps_ret (pe_call (ok_law_low T) (hr.mono (by decide)) rfl T.g_law_low T.F_law_low.kp T.b_law_low .nil passL (pa_cons (pv 1) (pa_cons (pv 2) pa_nil)))))))), ?_⟩
  refine body_run h (fun ds r hl hR => ?_)
  obtain ⟨qs, B, rfl, ⟨hB, hq, hl2⟩, rfl⟩ := hR
  refine ⟨.rt (eQ qs.sum), rfl, ?_⟩
  have ok := sumN_ok hq
  have cb : ∀ i, i < qs.length → i * (B + 1) + 1 + B + 1 ≤ 8000 := fun i hi => Nat.le_trans (sum_bits hi) hl2
  have hlen : qs.length ≤ 8000 := by
    have := Nat.le_mul_of_pos_right qs.length (show 0 < B + 1 by omega)
    omega
  refine as_seq (S1 := [.dat (eL qs), .dat (.int 0), .un, .un]) (as_asg (by walk_at "ev")) ?_
  refine as_seq (S1 := [.dat (eL qs), .dat (.int 0), .dat (.int 1), .un]) (as_asg (by walk_at "ev")) ?_
  refine as_seq (as_forAll (l := [3]) (ds := qs.map eQ) (ai_list (ae_var rfl)) (fun i => [.dat (eL qs), .dat (.int (sumN qs i).1), .dat (.int (sumN qs i).2), .un]) rfl fun i x hx => ?_) ?_
  · rw [List.getElem?_map] at hx
    cases e : qs[i]? with
    | none => rw [e] at hx; cases hx
    | some q =>
      rw [e] at hx
      cases hx
      have hi : i < qs.length := (List.getElem?_eq_some_iff.mp e).1
      have hg : qs.getD i 0 = q := by simp [List.getD_eq_getElem?_getD, e]
      have hq1 := hq q (List.mem_of_getElem? e)
      obtain ⟨hd, bn, bd, _⟩ := ok i (by omega)
      have c := cb i hi
      have x1 : CMulW (sumN qs i).1 q.den := bn.wmul hq1.2 (by omega) (by omega) (by omega)
      have x2 : CMulW q.num (sumN qs i).2 := hq1.1.wmul bd (by omega) (by omega) (by omega)
      have x3 : CMulW (sumN qs i).2 q.den := bd.wmul hq1.2 (by omega) (by omega) (by omega)
      refine ⟨[.dat (eL qs), .dat (.int (sumN qs i).1), .dat (.int (sumN qs i).2), .dat (eQ q)], .nx [.dat (eL qs), .dat (.int (sumN qs (i + 1)).1), .dat (.int (sumN qs (i + 1)).2), .dat (eQ q)], ag_name, ?_, by walk_at "fg"⟩
      have e1 : sumN qs (i + 1) = ((sumN qs i).1 * (q.den : Int) + q.num * (sumN qs i).2, (sumN qs i).2 * (q.den : Int)) := by
        show ((sumN qs i).1 * ((qs.getD i 0).den : Int) + (qs.getD i 0).num * (sumN qs i).2, (sumN qs i).2 * ((qs.getD i 0).den : Int)) = _
        rw [hg]
      rw [e1]
      refine as_seq (S1 := [.dat (eL qs), .dat (.int ((sumN qs i).1 * (q.den : Int) + q.num * (sumN qs i).2)), .dat (.int (sumN qs i).2), .dat (eQ q)]) (as_asg (by walk_at "ev" <;> with_reducible assumption)) (as_asg (by walk_at "ev" <;> with_reducible assumption))
  · obtain ⟨hd, bn, bd, e⟩ := ok qs.length (Nat.le_refl _)
    rw [List.length_map]
    refine as_ret (ae_is (d := eR (lawLow (sumN qs qs.length).1 (sumN qs qs.length).2)) (ae_call0 (ds := [.int (sumN qs qs.length).1, .int (sumN qs qs.length).2]) (by walk_at "ev") rfl (R_law_low_mk (by omega) (bd.mono (by omega)))) ?_)
    rw [eQ_lawLow hd, e, List.take_length]
/-! ### _law_times -/
def R_law_times (ds : List RD) (r : Res) : Prop := ∃ a b : Rat, ds = [eQ a, eQ b] ∧ (Sq a ∧ Sq b) ∧ r = .ok (eQ (a * b))
theorem R_law_times_mk {a b : Rat} (ha : Sq a) (hb : Sq b) : R_law_times [eQ a, eQ b] (.ok (eQ (a * b))) := ⟨a, b, rfl, ⟨ha, hb⟩, rfl⟩
local macro_rules | `(tactic| walk_at "fn") => `(tactic| (with_reducible refine R_law_times_mk ?_ ?_))
theorem ok_law_times (T : Txt K mg) : FnOk P w K mg base (L2.CX P w) 2 T.a_law_times T.fd_law_times ["a", "b"] (spF K 2 R_law_times) := by
  refine T.F_law_times.okX sc_law_times (spF_len rfl) (fun cdv A outer s H vs Q E hr h => ?_)
  refine ⟨_, (pss_one (ps_ret (pe_call (ok_law_low T) (hr.mono (by decide)) rfl T.g_law_low T.F_law_low.kp T.b_law_low .nil passL (pa_cons (pe_op op_mulW (pe_ix (ix_seqK K rfl) (pv 0) pe_int (fun _ _ => rfl)) (pe_ix (ix_seqK K rfl) (pv 1) pe_int (fun _ _ => rfl))) (pa_cons (pe_op op_mulW (pe_ix (ix_seqK K rfl) (pv 0) pe_int (fun _ _ => rfl)) (pe_ix (ix_seqK K rfl) (pv 1) pe_int (fun _ _ => rfl))) pa_nil))))), ?_⟩
  refine body_run h (fun ds r hl hR => ?_)
  obtain ⟨a, b, rfl, ⟨ha, hb⟩, rfl⟩ := hR
  obtain ⟨w1, w2, w3, w4⟩ := ha.wmul hb
  obtain ⟨z1, z2⟩ := ha.dd hb
  refine ⟨.rt (eQ (a * b)), rfl, as_ret (ae_is (d := eR (lawLow (a.num * b.num) (a.den * b.den))) ?_ ?_)⟩
  · walk_at "ev" <;> with_reducible assumption
  · rw [eQ_lawLow (Int.mul_pos (den_pos' a) (den_pos' b)), mul_divInt]
/-! ### _law_product -/
theorem range_dot {row vs : List Rat} (h : row.length = vs.length) : ((List.range vs.length).map fun k => row.getD k 0 * vs.getD k 0) = (row.zip vs).map fun p => p.1 * p.2 := by
  apply List.ext_getElem
  · simp [h]
  · intro i h1 h2
    simp at h1 h2
    have h3 : i < row.length := by omega
    simp [List.getD_eq_getElem?_getD, List.getElem?_eq_getElem, h1, h3]
def R_law_product (ds : List RD) (r : Res) : Prop := ∃ (rows : List (List Rat)) (vs : List Rat), ds = [eM rows, eL vs] ∧ (rows.length ≤ 100 ∧ (∀ row ∈ rows, row.length = vs.length) ∧ BM 150 rows ∧ BL 150 vs ∧ vs.length ≤ 10) ∧ r = .ok (eL (rows.map fun row => dot row vs))
theorem R_law_product_mk {rows : List (List Rat)} {vs : List Rat} (h1 : rows.length ≤ 100) (h2 : ∀ row ∈ rows, row.length = vs.length) (h3 : BM 150 rows) (h4 : BL 150 vs) (h5 : vs.length ≤ 10) : R_law_product [eM rows, eL vs] (.ok (eL (rows.map fun row => dot row vs))) := ⟨rows, vs, rfl, ⟨h1, h2, h3, h4, h5⟩, rfl⟩
theorem ok_law_product (T : Txt K mg) : FnOk P w K mg base (L2.CX P w) 3 T.a_law_product T.fd_law_product ["rows", "values"] (spF K 2 R_law_product) := by
  refine T.F_law_product.okX sc_law_product (spF_len rfl) (fun cdv A outer s H vs Q E hr h => ?_)
  refine ⟨_, (pss_one (ps_ret (pe_lc (own := [("row", 3)]) rfl sc_law_product.nd (pi_listK K rfl (pv 0)) (blkOk_by (N := ["rows", "values", "k", "row"]) (sc := defScope s_law_product) (by decide +kernel)) (fun _ _ _ _ _ => (pg_name (i := 3) sc_law_product.nd rfl (Or.inr rfl))) (fun _ _ _ _ _ => pts_nil) (fun _ _ _ _ _ => (pe_call (ok_law_sum T) (hr.mono (by decide)) rfl T.g_law_sum T.F_law_sum.kp T.b_law_sum .nil passL (pa_cons (pe_lc (own := [("k", 2)]) rfl sc_law_product.nd (pi_range1 rfl T.m_range (pa_cons (pe_callB (call_lenK K rfl) (by rfl) T.m_len (by decide +kernel) (pa_cons (pv 1) pa_nil)) pa_nil)) (blkOk_by (N := ["rows", "values", "k", "row"]) (sc := (relS ({
                      kind := PySem.ScopeKind.function,
                      names := [
                        (PySem.Str.ofString ".0", PySem.NameKind.local),
                        (PySem.Str.ofString "row", PySem.NameKind.cell),
                        (PySem.Str.ofString "_law_sum", PySem.NameKind.globalImplicit),
                        (PySem.Str.ofString "range", PySem.NameKind.globalImplicit),
                        (PySem.Str.ofString "len", PySem.NameKind.globalImplicit),
                        (PySem.Str.ofString "values", PySem.NameKind.free)],
                      isGenerator := false,
                      isCoroutine := false,
                      more := [] : PySem.Scope }) (defScope s_law_product))) (by decide +kernel)) (fun _ _ _ _ _ => (pg_name (i := 2) sc_law_product.nd rfl (Or.inl rfl))) (fun _ _ _ _ _ => pts_nil) (fun _ _ _ _ _ => (pe_call (ok_law_times T) (hr.mono (by decide)) rfl T.g_law_times T.F_law_times.kp T.b_law_times .nil passL (pa_cons (pe_ix (ix_seqK K rfl) (pv 3) (pv 2) (fun _ _ => rfl)) (pa_cons (pe_ix (ix_seqK K rfl) (pv 1) (pv 2) (fun _ _ => rfl)) pa_nil))))) pa_nil)))))), ?_⟩
  refine body_run h (fun ds r hl hR => ?_)
  obtain ⟨rows, vs, rfl, ⟨hr1, hlen, bm, bl, hl5⟩, rfl⟩ := hR
  refine ⟨.rt (eL (rows.map fun row => dot row vs)), rfl, as_ret ?_⟩
  have e0 : eL (rows.map fun row => dot row vs) = .lst (rows.map fun row => eQ (dot row vs)) := by
    unfold eL
    rw [List.map_map]
    rfl
  rw [e0]
  refine ae_lcM (l := [3]) (xs := rows) (enc := eL) (ai_list (ae_var rfl)) (fun row => eQ (dot row vs)) (by simp) (by omega) fun row hrow => ⟨_, ag_name, ?_⟩
  have br := bm row hrow
  have hl1 := hlen row hrow
  have e1 : dot row vs = ((List.range vs.length).map fun k => row.getD k 0 * vs.getD k 0).sum := by rw [range_dot hl1]; rfl
  rw [e1]
  refine ae_call0 (ds := [eL ((List.range vs.length).map fun k => row.getD k 0 * vs.getD k 0)]) (aa_cons (ae_is (d := .lst ((List.range vs.length).map fun k => eQ (row.getD k 0 * vs.getD k 0))) (ae_lcM (l := [2]) (xs := List.range vs.length) (enc := fun (k : Nat) => .int (0 + (k : Int))) (ai_is (ai_range1 (j := (vs.length : Int)) (aa_cons (ae_is (ae_cb (ds := [eL vs]) (aa_cons (ae_var rfl) aa_nil) rc_lenL) (by rw [List.length_map])) aa_nil) (by omega)) rfl) (fun k => eQ (row.getD k 0 * vs.getD k 0)) (by simp) (by simp; omega) fun k hk => ⟨_, ag_name, ?_⟩) ?_) aa_nil) rfl (R_law_sum_mk 300 (by decide) ?_ ?_)
  · have hk2 := List.mem_range.mp hk
    have g1 : row.getD k 0 = row[k]'(by omega) := by simp [List.getD_eq_getElem?_getD, List.getElem?_eq_getElem, hl1, hk2]
    have g2 : vs.getD k 0 = vs[k] := by simp [List.getD_eq_getElem?_getD, List.getElem?_eq_getElem, hk2]
    rw [g1, g2]
    refine ae_call0 (ds := [eQ (row[k]'(by omega)), eQ vs[k]]) (aa_cons (ae_op (d1 := eL row) (d2 := .int (0 + (k : Int))) (ae_var rfl) (ae_var rfl) (ro_ixsL ?_)) (aa_cons (ae_op (d1 := eL vs) (d2 := .int (0 + (k : Int))) (ae_var rfl) (ae_var rfl) (ro_ixsL ?_)) aa_nil)) rfl (R_law_times_mk ((br _ (List.getElem_mem _)).mono (by decide)) ((bl _ (List.getElem_mem _)).mono (by decide)))
    · rw [Int.zero_add]; exact atI_mapQ (atI_nat' (by omega))
    · rw [Int.zero_add]; exact atI_mapQ (atI_nat' hk2)
  · unfold eL; rw [List.map_map]; rfl
  · intro q hq
    obtain ⟨k, hk, rfl⟩ := List.mem_map.mp hq
    have hk2 := List.mem_range.mp hk
    have g1 : row.getD k 0 = row[k]'(by omega) := by simp [List.getD_eq_getElem?_getD, List.getElem?_eq_getElem, hl1, hk2]
    have g2 : vs.getD k 0 = vs[k] := by simp [List.getD_eq_getElem?_getD, List.getElem?_eq_getElem, hk2]
    rw [g1, g2]
    exact (br _ (List.getElem_mem _)).mul (bl _ (List.getElem_mem _))
  · rw [List.length_map, List.length_range]
    have := Nat.mul_le_mul_right 301 hl5
    omega
/-! ### _law_small -/
def smallM (c : Int) : Int := [1, 4, 9].getD (c / 60 % 3).toNat 1
theorem smallM_cases (c : Int) : smallM c = 1 ∨ smallM c = 4 ∨ smallM c = 9 := by
  have h : (c / 60 % 3).toNat = 0 ∨ (c / 60 % 3).toNat = 1 ∨ (c / 60 % 3).toNat = 2 := by omega
  unfold smallM
  rcases h with h | h | h <;> rw [h] <;> simp
theorem smallM_at (c : Int) : atI [RD.int 1, .int 4, .int 9] (c / 60 % 3) = some (.int (smallM c)) := by
  have e : (((c / 60 % 3).toNat : Nat) : Int) = c / 60 % 3 := by omega
  have h : (c / 60 % 3).toNat = 0 ∨ (c / 60 % 3).toNat = 1 ∨ (c / 60 % 3).toNat = 2 := by omega
  unfold smallM
  rw [← e]
  rcases h with h | h | h <;> rw [h] <;> rfl
def smallD (c : Int) : Int := 1 + c / 13 % smallM c
theorem smallD_pos (c : Int) : 0 < smallD c ∧ smallD c ≤ 9 := by
  unfold smallD
  rcases smallM_cases c with h | h | h <;> rw [h] <;> omega
def smallQ (c : Int) : Rat := Rat.divInt (c % 13 - 6) (smallD c)
theorem smallQ_bt (c : Int) : Bt 4 (smallQ c) := bt_low (smallD_pos c).1 (.of (by omega)) (.of (by have := smallD_pos c; omega))
def R_law_small (ds : List RD) (r : Res) : Prop := ∃ c : Int, ds = [.int c] ∧ r = .ok (eQ (smallQ c))
theorem R_law_small_mk {c : Int} : R_law_small [.int c] (.ok (eQ (smallQ c))) := ⟨c, rfl, rfl⟩
local macro_rules | `(tactic| walk_at "fn") => `(tactic| (with_reducible exact R_law_small_mk))
theorem ok_law_small (T : Txt K mg) : FnOk P w K mg base (L2.CX P w) 2 T.a_law_small T.fd_law_small ["cell"] (spF K 1 R_law_small) := by
  refine T.F_law_small.okX sc_law_small (spF_len rfl) (fun cdv A outer s H vs Q E hr h => ?_)
  refine ⟨_, (pss_one (ps_ret (pe_call (ok_law_low T) (hr.mono (by decide)) rfl T.g_law_low T.F_law_low.kp T.b_law_low .nil passL (pa_cons (pe_op op_sub (pe_op op_mod (pv 0) pe_int) pe_int) (pa_cons (pe_op op_add pe_int (pe_op op_mod (pe_op op_fdiv (pv 0) pe_int) (pe_ix (ix_seqK K rfl) (pe_lst (pa_cons pe_int (pa_cons pe_int (pa_cons pe_int pa_nil)))) (pe_op op_mod (pe_op op_fdiv (pv 0) pe_int) pe_int) (fun _ _ => rfl)))) pa_nil))))), ?_⟩
  refine body_run h (fun ds r hl hR => ?_)
  obtain ⟨c, rfl, rfl⟩ := hR
  refine ⟨.rt (eQ (smallQ c)), rfl, as_ret (ae_is (d := eR (lawLow (c % 13 - 6) (1 + c / 13 % smallM c))) ?_ (eQ_lawLow (smallD_pos c).1))⟩
  have hm := smallM_cases c
  have hd : 0 < 1 + c / 13 % smallM c ∧ 1 + c / 13 % smallM c ≤ 9 := smallD_pos c
  walk_at "ev"
  · exact smallM_at c
  · show (0 : Int) < smallM c
    omega
  · omega
  · exact (Bd.of (B := 4) (by omega)).mono (by decide)
/-! ### _lowest -/
def R_lowest (ds : List RD) (r : Res) : Prop := ∃ n d : Int, ds = [.int n, .int d] ∧ (d ≠ 0 ∧ Bd 9000 d) ∧ r = .ok (eR (lowR n d))
theorem R_lowest_mk {n d : Int} (h : d ≠ 0) (hb : Bd 9000 d) : R_lowest [.int n, .int d] (.ok (eR (lowR n d))) := ⟨n, d, rfl, ⟨h, hb⟩, rfl⟩
local macro_rules | `(tactic| walk_at "fn") => `(tactic| (with_reducible refine R_lowest_mk ?_ ?_))
theorem ok_lowest (T : Txt K mg) : FnOk P w K mg base (L2.CX P w) 1 T.a_lowest T.fd_lowest ["n", "d"] (spF K 2 R_lowest) := by
  refine T.F_lowest.okX sc_lowest (spF_len rfl) (fun cdv A outer s H vs Q E hr h => ?_)
  refine ⟨_, (pss_cons (ps_set (i := 2) sc_lowest.nd rfl (Or.inl rfl) (pe_callBfun cr_gcd rfl T.g_gcd (pa_cons (pv 0) (pa_cons (pv 1) pa_nil))))
      (pss_one (ps_ret (pe_tup (pa_cons (pe_op op_fdivW (pv 0) (pv 2)) (pa_cons (pe_op op_fdivW (pv 1) (pv 2)) pa_nil)))))), ?_⟩
  refine body_run h (fun ds r hl hR => ?_)
  obtain ⟨n, d, rfl, ⟨hd, hb⟩, rfl⟩ := hR
  have wd : ∀ x : Int, CDivW x (Nat.gcd n.natAbs d.natAbs : Nat) := fun x => gcd_wdiv hd hb (by decide) (by decide)
  refine ⟨.rt (eR (lowR n d)), rfl, ?_⟩
  refine as_seq (S1 := [.dat (.int n), .dat (.int d), .dat (.int (Nat.gcd n.natAbs d.natAbs : Nat))]) (as_asg (by walk_at "ev")) (as_ret ?_)
  unfold eR lowR
  walk_at "ev"
  all_goals exact wd _
/-! ### add -/
def R_add (ds : List RD) (r : Res) : Prop := ∃ a b : Rat, ds = [eQ a, eQ b] ∧ (Sq a ∧ Sq b) ∧ r = .ok (eQ (a + b))
theorem R_add_mk {a b : Rat} (ha : Sq a) (hb : Sq b) : R_add [eQ a, eQ b] (.ok (eQ (a + b))) := ⟨a, b, rfl, ⟨ha, hb⟩, rfl⟩
local macro_rules | `(tactic| walk_at "fn") => `(tactic| (with_reducible refine R_add_mk ?_ ?_))
theorem ok_add (T : Txt K mg) : FnOk P w K mg base (L2.CX P w) 2 T.a_add T.fd_add ["a", "b"] (spF K 2 R_add) := by
  refine T.F_add.okX sc_add (spF_len rfl) (fun cdv A outer s H vs Q E hr h => ?_)
  refine ⟨_, (pss_one (ps_ret (pe_call (ok_lowest T) (hr.mono (by decide)) rfl T.g_lowest T.F_lowest.kp T.b_lowest .nil passL (pa_cons (pe_op op_add (pe_op op_mulW (pe_ix (ix_seqK K rfl) (pv 0) pe_int (fun _ _ => rfl)) (pe_ix (ix_seqK K rfl) (pv 1) pe_int (fun _ _ => rfl))) (pe_op op_mulW (pe_ix (ix_seqK K rfl) (pv 1) pe_int (fun _ _ => rfl)) (pe_ix (ix_seqK K rfl) (pv 0) pe_int (fun _ _ => rfl)))) (pa_cons (pe_op op_mulW (pe_ix (ix_seqK K rfl) (pv 0) pe_int (fun _ _ => rfl)) (pe_ix (ix_seqK K rfl) (pv 1) pe_int (fun _ _ => rfl))) pa_nil))))), ?_⟩
  refine body_run h (fun ds r hl hR => ?_)
  obtain ⟨a, b, rfl, ⟨ha, hb⟩, rfl⟩ := hR
  obtain ⟨w1, w2, w3, w4⟩ := ha.wmul hb
  obtain ⟨v1, v2, v3, v4⟩ := hb.wmul ha
  obtain ⟨z1, z2⟩ := ha.dd hb
  refine ⟨.rt (eQ (a + b)), rfl, as_ret (ae_is (d := eR (lowR (a.num * b.den + b.num * a.den) (a.den * b.den))) ?_ ?_)⟩
  · walk_at "ev" <;> with_reducible assumption
  · rw [eQ_low (Int.mul_pos (den_pos' a) (den_pos' b)), add_divInt]
/-! ### times -/
def R_times (ds : List RD) (r : Res) : Prop := ∃ a b : Rat, ds = [eQ a, eQ b] ∧ (Sq a ∧ Sq b) ∧ r = .ok (eQ (a * b))
theorem R_times_mk {a b : Rat} (ha : Sq a) (hb : Sq b) : R_times [eQ a, eQ b] (.ok (eQ (a * b))) := ⟨a, b, rfl, ⟨ha, hb⟩, rfl⟩
local macro_rules | `(tactic| walk_at "fn") => `(tactic| (with_reducible refine R_times_mk ?_ ?_))
theorem ok_times (T : Txt K mg) : FnOk P w K mg base (L2.CX P w) 2 T.a_times T.fd_times ["a", "b"] (spF K 2 R_times) := by
  refine T.F_times.okX sc_times (spF_len rfl) (fun cdv A outer s H vs Q E hr h => ?_)
  refine ⟨_, (pss_one (ps_ret (pe_call (ok_lowest T) (hr.mono (by decide)) rfl T.g_lowest T.F_lowest.kp T.b_lowest .nil passL (pa_cons (pe_op op_mulW (pe_ix (ix_seqK K rfl) (pv 0) pe_int (fun _ _ => rfl)) (pe_ix (ix_seqK K rfl) (pv 1) pe_int (fun _ _ => rfl))) (pa_cons (pe_op op_mulW (pe_ix (ix_seqK K rfl) (pv 0) pe_int (fun _ _ => rfl)) (pe_ix (ix_seqK K rfl) (pv 1) pe_int (fun _ _ => rfl))) pa_nil))))), ?_⟩
  refine body_run h (fun ds r hl hR => ?_)
  obtain ⟨a, b, rfl, ⟨ha, hb⟩, rfl⟩ := hR
  obtain ⟨w1, w2, w3, w4⟩ := ha.wmul hb
  obtain ⟨z1, z2⟩ := ha.dd hb
  refine ⟨.rt (eQ (a * b)), rfl, as_ret (ae_is (d := eR (lowR (a.num * b.num) (a.den * b.den))) ?_ ?_)⟩
  · walk_at "ev" <;> with_reducible assumption
  · rw [eQ_low (Int.mul_pos (den_pos' a) (den_pos' b)), mul_divInt]
/-! ### along -/
def dotI (row vs : List Rat) (i : Nat) : Rat := (((row.zip vs).map fun p => p.1 * p.2).take i).sum
theorem dotI_all (row vs : List Rat) (h : row.length = vs.length) : dotI row vs row.length = dot row vs := by
  unfold dotI dot
  rw [List.take_of_length_le (by simp [h])]
theorem dotI_succ {row vs : List Rat} {i : Nat} (h : row.length = vs.length) (hi : i < row.length) : dotI row vs (i + 1) = dotI row vs i + row[i] * vs[i]'(by omega) := by
  unfold dotI
  rw [RP.sum_take (by simp [h]; omega)]
  simp
theorem dotI_bt {row vs : List Rat} {B : Nat} (h1 : BL B row) (h2 : BL B vs) (hB : 1 ≤ B) (i : Nat) (hi : i ≤ 10) : Bt (10 * (2 * B + 1) + 1) (dotI row vs i) := by
  have h : BL (2 * B) (((row.zip vs).map fun p => p.1 * p.2).take i) := by
    intro q hq
    obtain ⟨p, hp, rfl⟩ := List.mem_map.mp (List.mem_of_mem_take hq)
    have := (h1 p.1 (List.of_mem_zip hp).1).mul (h2 p.2 (List.of_mem_zip hp).2)
    exact this.mono (by omega)
  refine (bt_sum (by omega) h).mono ?_
  have hl : (((row.zip vs).map fun p => p.1 * p.2).take i).length ≤ 10 := by rw [List.length_take]; omega
  have := Nat.mul_le_mul_right (2 * B + 1) hl
  omega
def R_along (ds : List RD) (r : Res) : Prop := ∃ (row vs : List Rat) (B : Nat), ds = [eL row, eL vs] ∧ (1 ≤ B ∧ B ≤ 150 ∧ BL B row ∧ BL B vs ∧ row.length = vs.length ∧ row.length ≤ 10) ∧ r = .ok (eQ (dot row vs))
theorem R_along_mk {row vs : List Rat} (B : Nat) (h0 : 1 ≤ B) (h9 : B ≤ 150) (h1 : BL B row) (h2 : BL B vs) (h3 : row.length = vs.length) (h4 : row.length ≤ 10) : R_along [eL row, eL vs] (.ok (eQ (dot row vs))) := ⟨row, vs, B, rfl, ⟨h0, h9, h1, h2, h3, h4⟩, rfl⟩
theorem ok_along (T : Txt K mg) : FnOk P w K mg base (L2.CX P w) 3 T.a_along T.fd_along ["row", "values"] (spF K 2 R_along) := by
  refine T.F_along.okX sc_along (spF_len rfl) (fun cdv A outer s H vs Q E hr h => ?_)
  refine ⟨_, (pss_cons (ps_set (i := 2) sc_along.nd rfl (Or.inl rfl) (pe_glob (v := .ref T.z_ZERO) rfl T.c_ZERO rfl))
      (pss_cons (ps_for (passes_of rfl) rfl (pi_zipK K rfl (by rfl) T.m_zip (pa_cons (pv 0) (pa_cons (pv 1) pa_nil))) (pg_tupK K rfl rfl (pgs_cons (pg_name (i := 3) sc_along.nd rfl (Or.inl rfl)) (pgs_cons (pg_name (i := 4) sc_along.nd rfl (Or.inl rfl)) pgs_nil)))
      (pss_one (ps_set (i := 2) sc_along.nd rfl (Or.inl rfl) (pe_call (ok_add T) (hr.mono (by decide)) rfl T.g_add T.F_add.kp T.b_add .nil passL (pa_cons (pv 2) (pa_cons (pe_call (ok_times T) (hr.mono (by decide)) rfl T.g_times T.F_times.kp T.b_times .nil passL (pa_cons (pv 3) (pa_cons (pv 4) pa_nil))) pa_nil))))))
      (pss_one (ps_ret (pv 2))))), ?_⟩
  refine body_run h (fun ds r hl hR => ?_)
  obtain ⟨row, vs, B, rfl, ⟨h0, h9, b1, b2, hl1, hl2⟩, rfl⟩ := hR
  refine ⟨.rt (eQ (dot row vs)), rfl, ?_⟩
  refine as_seq (S1 := [.dat (eL row), .dat (eL vs), .dat (eQ 0), .un, .un]) (as_asg (ae_c fun G => .tup (T.s_ZERO G) (.cons (.int 0) (.cons (.int 1) .nil)))) ?_
  refine as_seq (as_forAll (l := [3, 4]) (ai_zip (as := row.map eQ) (bs := vs.map eQ) (aa_cons (ae_var rfl) (aa_cons (ae_var rfl) aa_nil))) (fun i => [.dat (eL row), .dat (eL vs), .dat (eQ (dotI row vs i)), .un, .un]) rfl fun i x hx => ?_) (as_ret (ae_var ?_))
  · have hi : i < row.length := by
      have := (List.getElem?_eq_some_iff.mp hx).1
      simp at this
      omega
    have hx2 : x = .tup [eQ row[i], eQ (vs[i]'(by omega))] := by
      rw [List.getElem?_map, List.getElem?_zip_eq_some (z := (eQ row[i], eQ (vs[i]'(by omega)))) |>.mpr ⟨by rw [List.getElem?_map, List.getElem?_eq_getElem hi]; rfl, by rw [List.getElem?_map, List.getElem?_eq_getElem (by omega)]; rfl⟩] at hx
      exact (Option.some.inj hx).symm
    subst hx2
    have q1 := b1 row[i] (List.getElem_mem _)
    have q2 := b2 (vs[i]'(by omega)) (List.getElem_mem _)
    refine ⟨[.dat (eL row), .dat (eL vs), .dat (eQ (dotI row vs i)), .dat (eQ row[i]), .dat (eQ (vs[i]'(by omega)))], .nx [.dat (eL row), .dat (eL vs), .dat (eQ (dotI row vs (i + 1))), .dat (eQ row[i]), .dat (eQ (vs[i]'(by omega)))], ag_tup (ags_cons ag_name (ags_cons ag_name ags_nil)) rfl, ?_, by walk_at "fg"⟩
    rw [dotI_succ hl1 hi]
    refine as_asg ?_
    walk_at "ev"
    · exact q1.mono (by omega)
    · exact q2.mono (by omega)
    · exact (dotI_bt b1 b2 h0 i (by omega)).mono (by omega)
    · exact (q1.mul q2).mono (by omega)
  · have e : (((row.map eQ).zip (vs.map eQ)).map fun p => RD.tup [p.1, p.2]).length = row.length := by simp [hl1]
    show _ = some (SV.dat (eQ (dot row vs)))
    rw [e, dotI_all row vs hl1]
    rfl
/-! ### product -/
def R_product (ds : List RD) (r : Res) : Prop := ∃ (rows : List (List Rat)) (vs : List Rat), ds = [eM rows, eL vs] ∧ (rows.length ≤ 100 ∧ (∀ row ∈ rows, row.length = vs.length) ∧ BM 150 rows ∧ BL 150 vs ∧ vs.length ≤ 10) ∧ r = .ok (eL (rows.map fun row => dot row vs))
theorem R_product_mk {rows : List (List Rat)} {vs : List Rat} (h1 : rows.length ≤ 100) (h2 : ∀ row ∈ rows, row.length = vs.length) (h3 : BM 150 rows) (h4 : BL 150 vs) (h5 : vs.length ≤ 10) : R_product [eM rows, eL vs] (.ok (eL (rows.map fun row => dot row vs))) := ⟨rows, vs, rfl, ⟨h1, h2, h3, h4, h5⟩, rfl⟩
theorem ok_product (T : Txt K mg) : FnOk P w K mg base (L2.CX P w) 4 T.a_product T.fd_product ["rows", "values"] (spF K 2 R_product) := by
  refine T.F_product.okX sc_product (spF_len rfl) (fun cdv A outer s H vs Q E hr h => ?_)
  refine ⟨_, (pss_one (ps_ret (pe_lc (own := [("row", 2)]) rfl sc_product.nd (pi_listK K rfl (pv 0)) (blkOk_by (N := ["rows", "values", "row"]) (sc := defScope s_product) (by decide +kernel)) (fun _ _ _ _ _ => (pg_name (i := 2) sc_product.nd rfl (Or.inl rfl))) (fun _ _ _ _ _ => pts_nil) (fun _ _ _ _ _ => (pe_call (ok_along T) (hr.mono (by decide)) rfl T.g_along T.F_along.kp T.b_along .nil passL (pa_cons (pv 2) (pa_cons (pv 1) pa_nil))))))), ?_⟩
  refine body_run h (fun ds r hl hR => ?_)
  obtain ⟨rows, vs, rfl, ⟨hr1, hlen, bm, bl, hl5⟩, rfl⟩ := hR
  refine ⟨.rt (eL (rows.map fun row => dot row vs)), rfl, as_ret ?_⟩
  have e0 : eL (rows.map fun row => dot row vs) = .lst (rows.map fun row => eQ (dot row vs)) := by
    unfold eL
    rw [List.map_map]
    rfl
  rw [e0]
  refine ae_lcM (l := [2]) (xs := rows) (enc := eL) (ai_list (ae_var rfl)) (fun row => eQ (dot row vs)) (by simp) (by omega) fun row hrow => ⟨_, ag_name, ?_⟩
  have hl1 := hlen row hrow
  exact ae_call0 (ds := [eL row, eL vs]) (aa_cons (ae_var rfl) (aa_cons (ae_var rfl) aa_nil)) rfl (R_along_mk 150 (by decide) (by decide) (bm row hrow) bl hl1 (by omega))
/-! ### law -/
def R_law (ds : List RD) (r : Res) : Prop := ∃ ns : List Int, ds = [.scr ns] ∧ ns.length ≤ 100 ∧ r = .ok (.bl true)
def rowI (ns : List Int) (w i : Nat) : List Rat := (List.range w).map fun j => smallQ (lawCell ns (1 + w * i + j))
def rowsI (ns : List Int) (w n : Nat) : List (List Rat) := (List.range n).map (rowI ns w)
def vecI (ns : List Int) (w b : Nat) : List Rat := (List.range w).map fun k => smallQ (lawCell ns (b + k))
theorem rowI_bl (ns : List Int) (w i : Nat) : BL 4 (rowI ns w i) := fun q hq => by
  obtain ⟨k, _, rfl⟩ := List.mem_map.mp hq
  exact smallQ_bt _
theorem vecI_bl (ns : List Int) (w b : Nat) : BL 4 (vecI ns w b) := fun q hq => by
  obtain ⟨k, _, rfl⟩ := List.mem_map.mp hq
  exact smallQ_bt _
theorem rowI_len (ns : List Int) (w i : Nat) : (rowI ns w i).length = w := by unfold rowI; rw [List.length_map, List.length_range]
theorem vecI_len (ns : List Int) (w b : Nat) : (vecI ns w b).length = w := by unfold vecI; rw [List.length_map, List.length_range]
theorem rowsI_len (ns : List Int) (w n : Nat) : (rowsI ns w n).length = n := by unfold rowsI; rw [List.length_map, List.length_range]
theorem rowsI_row {ns : List Int} {w n : Nat} {row : List Rat} (h : row ∈ rowsI ns w n) : row.length = w ∧ BL 4 row := by
  obtain ⟨i, _, rfl⟩ := List.mem_map.mp h
  exact ⟨rowI_len ns w i, rowI_bl ns w i⟩
def addL (vs os : List Rat) : List Rat := (List.range vs.length).map fun k => vs.getD k 0 + os.getD k 0
theorem addL_eq {vs os : List Rat} (h : vs.length = os.length) : addL vs os = List.zipWith (· + ·) vs os := by
  unfold addL
  apply List.ext_getElem
  · simp [h]
  · intro i h1 h2
    simp at h1 h2
    have h3 : i < os.length := by omega
    simp [List.getD_eq_getElem?_getD, List.getElem?_eq_getElem, h1, h3]
theorem dot_cons (a b : Rat) (r v : List Rat) : dot (a :: r) (b :: v) = a * b + dot r v := by
  unfold dot
  rw [List.zip_cons_cons, List.map_cons, List.sum_cons]
theorem dot_add : ∀ (row vs os : List Rat), row.length = vs.length → row.length = os.length → dot row (List.zipWith (· + ·) vs os) = dot row vs + dot row os
  | [], vs, os, _, _ => by
    show ([] : List Rat).sum = ([] : List Rat).sum + ([] : List Rat).sum
    rw [List.sum_nil, Rat.add_zero]
  | a :: r, [], _, h, _ => by cases h
  | a :: r, _ :: _, [], _, h => by cases h
  | a :: r, b :: v, c :: o, h1, h2 => by
    rw [List.zipWith_cons_cons, dot_cons, dot_cons, dot_cons, dot_add r v o (Nat.succ.inj h1) (Nat.succ.inj h2), Rat.mul_add]
    simp only [Rat.add_assoc, Rat.add_left_comm]
theorem dot_bt4 {row vs : List Rat} {B : Nat} (h1 : BL 4 row) (h2 : BL B vs) (hl : row.length ≤ 10) : Bt (10 * (4 + B + 1) + 1) (dot row vs) := by
  have h : BL (4 + B) ((row.zip vs).map fun p => p.1 * p.2) := by
    intro q hq
    obtain ⟨p, hp, rfl⟩ := List.mem_map.mp hq
    exact (h1 p.1 (List.of_mem_zip hp).1).mul (h2 p.2 (List.of_mem_zip hp).2)
  refine (bt_sum (by omega) h).mono ?_
  have hl : ((row.zip vs).map fun p => p.1 * p.2).length ≤ 10 := by rw [List.length_map, List.length_zip]; omega
  have := Nat.mul_le_mul_right (4 + B + 1) hl
  omega
theorem ok_law (T : Txt K mg) : FnOk P w K mg base (L2.CX P w) 5 T.a_law T.fd_law ["script"] (spF K 1 R_law) := by
  refine T.F_law.okX sc_law (spF_len rfl) (fun cdv A outer s H vs Q E hr h => ?_)
  refine ⟨_, (pss_cons (ps_set (i := 1) sc_law.nd rfl (Or.inr rfl) (pe_op op_add pe_int (pe_op op_mod (pe_call (ok_law_cell T) (hr.mono (by decide)) rfl T.g_law_cell T.F_law_cell.kp T.b_law_cell .nil passL (pa_cons (pv 0) (pa_cons pe_int pa_nil))) pe_int)))
      (pss_cons (ps_set (i := 2) sc_law.nd rfl (Or.inl rfl) (pe_op op_mod (pe_op op_fdiv (pe_call (ok_law_cell T) (hr.mono (by decide)) rfl T.g_law_cell T.F_law_cell.kp T.b_law_cell .nil passL (pa_cons (pv 0) (pa_cons pe_int pa_nil))) pe_int) pe_int))
      (pss_cons (ps_set (i := 3) sc_law.nd rfl (Or.inr rfl) (pe_lst pa_nil))
      (pss_cons (ps_for (passes_of rfl) rfl (pi_range1 rfl T.m_range (pa_cons (pv 2) pa_nil)) (pg_name (i := 4) sc_law.nd rfl (Or.inr rfl))
      (pss_one (ps_expr (pe_bm PySem.F.plainAttrs_list PySem.F.slot_list_append PySem.F.type_list_append mt_append (pv 3) (pa_cons (pe_lc (own := [("j", 5)]) rfl sc_law.nd (pi_range1 rfl T.m_range (pa_cons (pv 1) pa_nil)) (blkOk_by (N := ["script", "width", "height", "rows", "i", "j", "values", "k", "others", "kept", "row", "actual", "value", "both"]) (sc := defScope s_law) (by decide +kernel)) (fun _ _ _ _ _ => (pg_name (i := 5) sc_law.nd rfl (Or.inl rfl))) (fun _ _ _ _ _ => pts_nil) (fun _ _ _ _ _ => (pe_call (ok_law_small T) (hr.mono (by decide)) rfl T.g_law_small T.F_law_small.kp T.b_law_small .nil passL (pa_cons (pe_call (ok_law_cell T) (hr.mono (by decide)) rfl T.g_law_cell T.F_law_cell.kp T.b_law_cell .nil passL (pa_cons (pv 0) (pa_cons (pe_op op_add (pe_op op_add pe_int (pe_op op_mulW (pv 1) (pv 4))) (pv 5)) pa_nil))) pa_nil)))) pa_nil)))))
      (pss_cons (ps_set (i := 6) sc_law.nd rfl (Or.inr rfl) (pe_lc (own := [("k", 7)]) rfl sc_law.nd (pi_range1 rfl T.m_range (pa_cons (pv 1) pa_nil)) (blkOk_by (N := ["script", "width", "height", "rows", "i", "j", "values", "k", "others", "kept", "row", "actual", "value", "both"]) (sc := defScope s_law) (by decide +kernel)) (fun _ _ _ _ _ => (pg_name (i := 7) sc_law.nd rfl (Or.inl rfl))) (fun _ _ _ _ _ => pts_nil) (fun _ _ _ _ _ => (pe_call (ok_law_small T) (hr.mono (by decide)) rfl T.g_law_small T.F_law_small.kp T.b_law_small .nil passL (pa_cons (pe_call (ok_law_cell T) (hr.mono (by decide)) rfl T.g_law_cell T.F_law_cell.kp T.b_law_cell .nil passL (pa_cons (pv 0) (pa_cons (pe_op op_add pe_int (pv 7)) pa_nil))) pa_nil)))))
      (pss_cons (ps_set (i := 8) sc_law.nd rfl (Or.inr rfl) (pe_lc (own := [("k", 7)]) rfl sc_law.nd (pi_range1 rfl T.m_range (pa_cons (pv 1) pa_nil)) (blkOk_by (N := ["script", "width", "height", "rows", "i", "j", "values", "k", "others", "kept", "row", "actual", "value", "both"]) (sc := defScope s_law) (by decide +kernel)) (fun _ _ _ _ _ => (pg_name (i := 7) sc_law.nd rfl (Or.inl rfl))) (fun _ _ _ _ _ => pts_nil) (fun _ _ _ _ _ => (pe_call (ok_law_small T) (hr.mono (by decide)) rfl T.g_law_small T.F_law_small.kp T.b_law_small .nil passL (pa_cons (pe_call (ok_law_cell T) (hr.mono (by decide)) rfl T.g_law_cell T.F_law_cell.kp T.b_law_cell .nil passL (pa_cons (pv 0) (pa_cons (pe_op op_add pe_int (pv 7)) pa_nil))) pa_nil)))))
      (pss_cons (ps_set (i := 9) sc_law.nd rfl (Or.inl rfl) (pe_tup (pa_cons (pe_lc (own := [("row", 10)]) rfl sc_law.nd (pi_listK K rfl (pv 3)) (blkOk_by (N := ["script", "width", "height", "rows", "i", "j", "values", "k", "others", "kept", "row", "actual", "value", "both"]) (sc := defScope s_law) (by decide +kernel)) (fun _ _ _ _ _ => (pg_name (i := 10) sc_law.nd rfl (Or.inl rfl))) (fun _ _ _ _ _ => pts_nil) (fun _ _ _ _ _ => (pe_callTy (call_listK K rfl) (by rfl) T.m_list (by decide +kernel) (pa_cons (pv 10) pa_nil)))) (pa_cons (pe_callTy (call_listK K rfl) (by rfl) T.m_list (by decide +kernel) (pa_cons (pv 6) pa_nil)) pa_nil))))
      (pss_cons (ps_set (i := 11) sc_law.nd rfl (Or.inr rfl) (pe_call (ok_product T) (hr.mono (by decide)) rfl T.g_product T.F_product.kp T.b_product .nil passL (pa_cons (pv 3) (pa_cons (pv 6) pa_nil))))
      (pss_cons (ps_if (PW.pt (pw_or (pt_cmpR (op_neDK K rfl hr.units) (pe_tup (pa_cons (pv 3) (pa_cons (pv 6) pa_nil))) (pv 9) (nomark _)) (pw_or (pt_not (pt_val (pe_callB (call_isiK' K rfl) (by rfl) T.m_isinstance (by decide +kernel) (pa_cons (pv 11) (pa_cons (pe_bltn (v := .ty "list") (by rfl) T.m_list (by decide +kernel) rfl) pa_nil))))) (pw_or1 (pt_cmpR (op_neDK K rfl hr.units) (pv 11) (pe_call (ok_law_product T) (hr.mono (by decide)) rfl T.g_law_product T.F_law_product.kp T.b_law_product .nil passL (pa_cons (pv 3) (pa_cons (pv 6) pa_nil))) (nomark _)))))) (pss_one (ps_ret pe_bl)) pss_nil)
      (pss_cons (ps_for (passes_of rfl) rfl (pi_listK K rfl (pv 11)) (pg_name (i := 12) sc_law.nd rfl (Or.inl rfl))
      (pss_one (ps_if (pt_not (pt_val (pe_call (ok_law_is_ratio T) (hr.mono (by decide)) rfl T.g_law_is_ratio T.F_law_is_ratio.kp T.b_law_is_ratio .nil passL (pa_cons (pv 12) pa_nil)))) (pss_one (ps_ret pe_bl)) pss_nil)))
      (pss_cons (ps_set (i := 13) sc_law.nd rfl (Or.inl rfl) (pe_call (ok_product T) (hr.mono (by decide)) rfl T.g_product T.F_product.kp T.b_product .nil passL (pa_cons (pv 3) (pa_cons (pe_lc (own := [("k", 7)]) rfl sc_law.nd (pi_range1 rfl T.m_range (pa_cons (pv 1) pa_nil)) (blkOk_by (N := ["script", "width", "height", "rows", "i", "j", "values", "k", "others", "kept", "row", "actual", "value", "both"]) (sc := defScope s_law) (by decide +kernel)) (fun _ _ _ _ _ => (pg_name (i := 7) sc_law.nd rfl (Or.inl rfl))) (fun _ _ _ _ _ => pts_nil) (fun _ _ _ _ _ => (pe_call (ok_law_sum T) (hr.mono (by decide)) rfl T.g_law_sum T.F_law_sum.kp T.b_law_sum .nil passL (pa_cons (pe_lst (pa_cons (pe_ix (ix_seqK K rfl) (pv 6) (pv 7) (fun _ _ => rfl)) (pa_cons (pe_ix (ix_seqK K rfl) (pv 8) (pv 7) (fun _ _ => rfl)) pa_nil))) pa_nil)))) pa_nil))))
      (pss_one (ps_ret (pe_cmpR (op_eqDK K rfl hr.units) (pv 13) (pe_lc (own := [("k", 7)]) rfl sc_law.nd (pi_range1 rfl T.m_range (pa_cons (pv 2) pa_nil)) (blkOk_by (N := ["script", "width", "height", "rows", "i", "j", "values", "k", "others", "kept", "row", "actual", "value", "both"]) (sc := defScope s_law) (by decide +kernel)) (fun _ _ _ _ _ => (pg_name (i := 7) sc_law.nd rfl (Or.inl rfl))) (fun _ _ _ _ _ => pts_nil) (fun _ _ _ _ _ => (pe_call (ok_law_sum T) (hr.mono (by decide)) rfl T.g_law_sum T.F_law_sum.kp T.b_law_sum .nil passL (pa_cons (pe_lst (pa_cons (pe_ix (ix_seqK K rfl) (pv 11) (pv 7) (fun _ _ => rfl)) (pa_cons (pe_ix (ix_seqK K rfl) (pe_call (ok_law_product T) (hr.mono (by decide)) rfl T.g_law_product T.F_law_product.kp T.b_law_product .nil passL (pa_cons (pv 3) (pa_cons (pv 8) pa_nil))) (pv 7) (fun _ _ => rfl)) pa_nil))) pa_nil)))) (nomark _))))))))))))))), ?_⟩
  refine body_run h (fun ds r hl hR => ?_)
  obtain ⟨ns, rfl, hn, rfl⟩ := hR
  refine ⟨.rt (.bl true), rfl, ?_⟩
  obtain ⟨w, hw⟩ : ∃ w : Nat, 1 + lawCell ns 0 % 6 = (w : Int) := ⟨(1 + lawCell ns 0 % 6).toNat, by omega⟩
  obtain ⟨ht, hh⟩ : ∃ h : Nat, lawCell ns 0 / 6 % 7 = (h : Int) := ⟨(lawCell ns 0 / 6 % 7).toNat, by omega⟩
  have hw1 : 1 ≤ w ∧ w ≤ 6 := by omega
  have hh1 : ht ≤ 6 := by omega
  refine as_seq (S1 := [.dat (.scr ns), .dat (.int w), .un, .un, .un, .un, .un, .un, .un, .un, .un, .un, .un, .un]) (as_asg (ae_is (d := .int (1 + lawCell ns 0 % 6)) (by walk_at "ev") (by rw [hw]))) ?_
  refine as_seq (S1 := [.dat (.scr ns), .dat (.int w), .dat (.int ht), .un, .un, .un, .un, .un, .un, .un, .un, .un, .un, .un]) (as_asg (ae_is (d := .int (lawCell ns 0 / 6 % 7)) (by walk_at "ev") (by rw [hh]))) ?_
  refine as_seq (S1 := [.dat (.scr ns), .dat (.int w), .dat (.int ht), .own [], .un, .un, .un, .un, .un, .un, .un, .un, .un, .un]) (as_own aa_nil (by decide)) ?_
  refine as_seq (as_forAll (l := [4]) (ds := (List.range ht).map fun (i : Nat) => RD.int (0 + i)) (ai_is (ai_range1 (j := (ht : Int)) (by walk_at "ev") (by omega)) rfl) (fun n => [.dat (.scr ns), .dat (.int w), .dat (.int ht), .own ((rowsI ns w n).map eL), .un, .un, .un, .un, .un, .un, .un, .un, .un, .un]) rfl fun i x hx => ?_) ?_
  · have hi : i < ht := by
      have := (List.getElem?_eq_some_iff.mp hx).1
      simp at this
      omega
    have hx2 : x = .int (0 + (i : Int)) := by
      rw [List.getElem?_map, List.getElem?_range hi] at hx
      exact (Option.some.inj hx).symm
    subst hx2
    refine ⟨_, _, ag_name, as_app (S := [.dat (.scr ns), .dat (.int w), .dat (.int ht), .own ((rowsI ns w i).map eL), .dat (.int (0 + (i : Int))), .un, .un, .un, .un, .un, .un, .un, .un, .un]) (i := 3) (ds := (rowsI ns w i).map eL) (d := eL (rowI ns w i)) rfl ?_ (by rw [List.length_map, rowsI_len]; omega), (?_ : Out.goes (.nx [.dat (.scr ns), .dat (.int w), .dat (.int ht), .own ((rowsI ns w i).map eL ++ [eL (rowI ns w i)]), .dat (.int (0 + (i : Int))), .un, .un, .un, .un, .un, .un, .un, .un, .un]) _)⟩
    · refine ae_is (d := .lst ((List.range w).map fun j => eQ (smallQ (lawCell ns (1 + w * i + j))))) (ae_lcM (l := [5]) (xs := List.range w) (enc := fun (k : Nat) => .int (0 + (k : Int))) (ai_is (ai_range1 (j := (w : Int)) (by walk_at "ev") (by omega)) rfl) (fun j => eQ (smallQ (lawCell ns (1 + w * i + j)))) (by simp) (by simp; omega) fun k hk => ⟨_, ag_name, ?_⟩) (by unfold eL rowI; rw [List.map_map]; rfl)
      have hk2 := List.mem_range.mp hk
      have hwi : w * i ≤ 36 := Nat.le_trans (Nat.mul_le_mul hw1.2 (show i ≤ 6 by omega)) (by decide)
      refine ae_call0 (ds := [.int (lawCell ns (1 + w * i + k))]) (aa_cons (ae_call0 (ds := [.scr ns, .int (1 + (w : Int) * (0 + (i : Int)) + (0 + (k : Int)))]) ?_ rfl (R_law_cell_mk hn (1 + w * i + k) (by rw [Int.zero_add, Int.zero_add]; push_cast; rfl) (by omega))) aa_nil) rfl R_law_small_mk
      walk_at "ev"
      exact (Bd.of (B := 4) (by omega)).wmul (Bd.of (B := 4) (by omega)) (by decide) (by decide) (by decide)
    · have e : (rowsI ns w (i + 1)).map eL = (rowsI ns w i).map eL ++ [eL (rowI ns w i)] := by
        unfold rowsI
        rw [List.range_succ, List.map_append, List.map_append]
        rfl
      show Fg _ [_, _, _, .own ((rowsI ns w (i + 1)).map eL), _, _, _, _, _, _, _, _, _, _]
      rw [e]
      walk_at "fg"
  have hlen : ((List.range ht).map fun (i : Nat) => RD.int (0 + i)).length = ht := by rw [List.length_map, List.length_range]
  rw [hlen]
  refine as_frz (i := 3) (ds := (rowsI ns w ht).map eL) rfl ?_
  show AS _ _ _ [.dat (.scr ns), .dat (.int w), .dat (.int ht), .dat (eM (rowsI ns w ht)), .un, .un, .un, .un, .un, .un, .un, .un, .un, .un] _
  have hrl := rowsI_len ns w ht
  have hrr : ∀ row ∈ rowsI ns w ht, row.length = w ∧ BL 4 row := fun row h => rowsI_row h
  generalize rowsI ns w ht = rows at hrl hrr ⊢
  refine as_seq (S1 := [.dat (.scr ns), .dat (.int w), .dat (.int ht), .dat (eM rows), .un, .un, .dat (eL (vecI ns w 40)), .un, .un, .un, .un, .un, .un, .un]) (as_asg ?_) ?_
  · refine ae_is (d := .lst ((List.range w).map fun j => eQ (smallQ (lawCell ns (40 + j))))) (ae_lcM (l := [7]) (xs := List.range w) (enc := fun (k : Nat) => .int (0 + (k : Int))) (ai_is (ai_range1 (j := (w : Int)) (by walk_at "ev") (by omega)) rfl) (fun j => eQ (smallQ (lawCell ns (40 + j)))) (by simp) (by simp; omega) fun k hk => ⟨_, ag_name, ?_⟩) (by unfold eL vecI; rw [List.map_map]; rfl)
    have hk2 := List.mem_range.mp hk
    exact ae_call0 (ds := [.int (lawCell ns (40 + k))]) (aa_cons (ae_call0 (ds := [.scr ns, .int (40 + (0 + (k : Int)))]) (by walk_at "ev") rfl (R_law_cell_mk hn (40 + k) (by omega) (by omega))) aa_nil) rfl R_law_small_mk
  refine as_seq (S1 := [.dat (.scr ns), .dat (.int w), .dat (.int ht), .dat (eM rows), .un, .un, .dat (eL (vecI ns w 40)), .un, .dat (eL (vecI ns w 50)), .un, .un, .un, .un, .un]) (as_asg ?_) ?_
  · refine ae_is (d := .lst ((List.range w).map fun j => eQ (smallQ (lawCell ns (50 + j))))) (ae_lcM (l := [7]) (xs := List.range w) (enc := fun (k : Nat) => .int (0 + (k : Int))) (ai_is (ai_range1 (j := (w : Int)) (by walk_at "ev") (by omega)) rfl) (fun j => eQ (smallQ (lawCell ns (50 + j)))) (by simp) (by simp; omega) fun k hk => ⟨_, ag_name, ?_⟩) (by unfold eL vecI; rw [List.map_map]; rfl)
    have hk2 := List.mem_range.mp hk
    exact ae_call0 (ds := [.int (lawCell ns (50 + k))]) (aa_cons (ae_call0 (ds := [.scr ns, .int (50 + (0 + (k : Int)))]) (by walk_at "ev") rfl (R_law_cell_mk hn (50 + k) (by omega) (by omega))) aa_nil) rfl R_law_small_mk
  have hvl := vecI_len ns w 40
  have hol := vecI_len ns w 50
  have hvb := vecI_bl ns w 40
  have hob := vecI_bl ns w 50
  generalize vecI ns w 40 = vs at hvl hvb ⊢
  generalize vecI ns w 50 = os at hol hob ⊢
  refine as_seq (S1 := [.dat (.scr ns), .dat (.int w), .dat (.int ht), .dat (eM rows), .un, .un, .dat (eL vs), .un, .dat (eL os), .dat (.tup [eM rows, eL vs]), .un, .un, .un, .un]) (as_asg (ae_tup (aa_cons (ae_is (d := .lst (rows.map eL)) (ae_lcM (l := [10]) (xs := rows) (enc := eL) (ai_list (ae_var rfl)) eL (by simp) (by omega) fun row hrow => ⟨_, ag_name, ae_cb (ds := [eL row]) (aa_cons (ae_var rfl) aa_nil) rc_listL⟩) rfl) (aa_cons (ae_cb (ds := [eL vs]) (aa_cons (ae_var rfl) aa_nil) rc_listL) aa_nil)) (Nat.le_of_ble_eq_true rfl))) ?_
  have bm : BM 150 rows := fun row h => (hrr row h).2.mono (by decide)
  have hl : ∀ row ∈ rows, row.length = vs.length := fun row h => (hrr row h).1.trans hvl.symm
  have hl2 : ∀ row ∈ rows, row.length = os.length := fun row h => (hrr row h).1.trans hol.symm
  refine as_seq (S1 := [.dat (.scr ns), .dat (.int w), .dat (.int ht), .dat (eM rows), .un, .un, .dat (eL vs), .un, .dat (eL os), .dat (.tup [eM rows, eL vs]), .un, .dat (eL (rows.map fun row => dot row vs)), .un, .un]) (as_asg (ae_call0 (ds := [eM rows, eL vs]) (by walk_at "ev") rfl (R_product_mk (by omega) hl bm (hvb.mono (by decide)) (by omega)))) ?_
  refine as_when (b := false) ?_ (fun z => nomatch z) (fun _ => ?_)
  · have sh : SeqAt.shaped (.tuple [pM rows, pL vs]) = true := (shp_pair (n := 3) (shp_pM rows) ⟨(shp_pL vs).1, Nat.le_succ_of_le (shp_pL vs).2⟩).shaped (by decide)
    have py : RD.py (.tup [eM rows, eL vs]) = some (.tuple [pM rows, pL vs]) := by
      show (RD.pys [eM rows, eL vs]).map _ = _
      simp only [RD.pys, eM_py, eL_py]
      rfl
    refine at_is (a := false || (!true || false)) (at_or ?_ (fun _ => at_or (at_not ?_) (fun _ => ?_))) rfl
    · refine at_test (ae_op (d1 := .tup [eM rows, eL vs]) (d2 := .tup [eM rows, eL vs]) ?_ ?_ (ro_neS py sh))
      · exact ae_tup (aa_cons (ae_var rfl) (aa_cons (ae_var rfl) aa_nil)) (Nat.le_of_ble_eq_true rfl)
      · exact ae_var rfl
    · refine at_test (ae_cb (ds := [eL (rows.map fun row => dot row vs), .ty "list"]) ?_ (rc_isi rfl (by decide +kernel)))
      exact aa_cons (ae_var rfl) (aa_cons ae_ty aa_nil)
    · refine at_test (ae_op (d1 := eL (rows.map fun row => dot row vs)) (d2 := eL (rows.map fun row => dot row vs)) ?_ ?_ ro_neL)
      · exact ae_var rfl
      · refine ae_call0 (ds := [eM rows, eL vs]) ?_ rfl (R_law_product_mk (by omega) hl bm (hvb.mono (by decide)) (by omega))
        exact aa_cons (ae_var rfl) (aa_cons (ae_var rfl) aa_nil)
  refine as_seq (as_forK (l := [12]) (ds := (rows.map fun row => dot row vs).map eQ) (ai_list (ae_var rfl)) fun x hx => ?_) ?_
  · obtain ⟨q, hq, rfl⟩ := List.mem_map.mp hx
    obtain ⟨row, hrow, rfl⟩ := List.mem_map.mp hq
    have b := dot_bt4 (hrr row hrow).2 hvb (by rw [(hrr row hrow).1]; omega)
    refine ⟨_, _, ag_name, as_if (b := false) ?_ (fun z => nomatch z) (fun _ => as_next), (?_ : Out.goes (.nx [.dat (.scr ns), .dat (.int w), .dat (.int ht), .dat (eM rows), .un, .un, .dat (eL vs), .un, .dat (eL os), .dat (.tup [eM rows, eL vs]), .un, .dat (eL (rows.map fun row => dot row vs)), .dat (eQ (dot row vs)), .un]) _)⟩
    · exact at_not (a := true) (at_test (ae_call0 (ds := [eQ (dot row vs)]) (by walk_at "ev") rfl (R_law_is_ratio_mk (b.2.mono (by decide)))))
    · walk_at "fg"
  have hab : BL 9 (addL vs os) := fun q hq => by
    obtain ⟨k, hk, rfl⟩ := List.mem_map.mp hq
    have hk2 := List.mem_range.mp hk
    have g1 : vs.getD k 0 = vs[k] := by simp [List.getD_eq_getElem?_getD, List.getElem?_eq_getElem, hk2]
    have g2 : os.getD k 0 = os[k]'(by omega) := by simp [List.getD_eq_getElem?_getD, List.getElem?_eq_getElem, show k < os.length by omega]
    rw [g1, g2]
    exact (hvb _ (List.getElem_mem _)).add (hob _ (List.getElem_mem _))
  have hal : (addL vs os).length = vs.length := by unfold addL; rw [List.length_map, List.length_range]
  refine as_seq (S1 := [.dat (.scr ns), .dat (.int w), .dat (.int ht), .dat (eM rows), .un, .un, .dat (eL vs), .un, .dat (eL os), .dat (.tup [eM rows, eL vs]), .un, .dat (eL (rows.map fun row => dot row vs)), .un, .dat (eL (rows.map fun row => dot row (addL vs os)))]) (as_asg (ae_call0 (ds := [eM rows, eL (addL vs os)]) (aa_cons (ae_var rfl) (aa_cons (ae_is (d := .lst ((List.range w).map fun k => eQ (vs.getD k 0 + os.getD k 0))) (ae_lcM (l := [7]) (xs := List.range w) (enc := fun (k : Nat) => .int (0 + (k : Int))) (ai_is (ai_range1 (j := (w : Int)) (by walk_at "ev") (by omega)) rfl) (fun k => eQ (vs.getD k 0 + os.getD k 0)) (by simp) (by simp; omega) fun k hk => ⟨_, ag_name, ?_⟩) ?_) aa_nil)) rfl (R_product_mk (by omega) (fun row h => (hl row h).trans hal.symm) bm (hab.mono (by decide)) (by omega)))) ?_
  · have hk2 := List.mem_range.mp hk
    have g1 : vs.getD k 0 = vs[k] := by simp [List.getD_eq_getElem?_getD, List.getElem?_eq_getElem, hk2, hvl]
    have g2 : os.getD k 0 = os[k]'(by omega) := by simp [List.getD_eq_getElem?_getD, List.getElem?_eq_getElem, show k < os.length by omega]
    rw [g1, g2]
    refine ae_is (ae_call0 (ds := [eL [vs[k], os[k]'(by omega)]]) (aa_cons (ae_lst (aa_cons (ae_op (d1 := eL vs) (d2 := .int (0 + (k : Int))) (ae_var rfl) (ae_var rfl) (ro_ixsL ?_)) (aa_cons (ae_op (d1 := eL os) (d2 := .int (0 + (k : Int))) (ae_var rfl) (ae_var rfl) (ro_ixsL ?_)) aa_nil)) (Nat.le_of_ble_eq_true rfl)) aa_nil) rfl (R_law_sum_mk 4 (by decide) ?_ (Nat.le_of_ble_eq_true rfl))) ?_
    · rw [Int.zero_add]; exact atI_mapQ (atI_nat' (by omega))
    · rw [Int.zero_add]; exact atI_mapQ (atI_nat' (by omega))
    · intro q hq
      simp only [List.mem_cons, List.not_mem_nil, or_false] at hq
      rcases hq with rfl | rfl
      · exact hvb _ (List.getElem_mem _)
      · exact hob _ (List.getElem_mem _)
    · rw [List.sum_cons, List.sum_cons, List.sum_nil, Rat.add_zero]
  · unfold eL addL
    rw [List.map_map, hvl]
    rfl
  refine as_ret (ae_op (d1 := eL (rows.map fun row => dot row (addL vs os))) (d2 := eL (rows.map fun row => dot row (addL vs os))) (by walk_at "ev") (ae_is (d := .lst ((List.range ht).map fun k => eQ (dot (rows.getD k []) vs + dot (rows.getD k []) os))) (ae_lcM (l := [7]) (xs := List.range ht) (enc := fun (k : Nat) => .int (0 + (k : Int))) (ai_is (ai_range1 (j := (ht : Int)) (by walk_at "ev") (by omega)) rfl) (fun k => eQ (dot (rows.getD k []) vs + dot (rows.getD k []) os)) (by simp) (by simp; omega) fun k hk => ⟨_, ag_name, ?_⟩) ?_) ro_eqL)
  · have hk2 := List.mem_range.mp hk
    have hk3 : k < rows.length := by omega
    have g1 : rows.getD k [] = rows[k] := by simp [List.getD_eq_getElem?_getD, List.getElem?_eq_getElem, hk3]
    rw [g1]
    have hm := List.getElem_mem hk3
    have hrl2 : rows[k].length ≤ 10 := by rw [(hrr _ hm).1]; omega
    refine ae_is (ae_call0 (ds := [eL [dot rows[k] vs, dot rows[k] os]]) (aa_cons (ae_lst (aa_cons (ae_op (d1 := eL (rows.map fun row => dot row vs)) (d2 := .int (0 + (k : Int))) (ae_var rfl) (ae_var rfl) (ro_ixsL ?_)) (aa_cons (ae_op (d1 := eL (rows.map fun row => dot row os)) (d2 := .int (0 + (k : Int))) (ae_call0 (ds := [eM rows, eL os]) (by walk_at "ev") rfl (R_law_product_mk (by omega) hl2 bm (hob.mono (by decide)) (by omega))) (ae_var rfl) (ro_ixsL ?_)) aa_nil)) (Nat.le_of_ble_eq_true rfl)) aa_nil) rfl (R_law_sum_mk 91 (by decide) ?_ (Nat.le_of_ble_eq_true rfl))) ?_
    · rw [Int.zero_add]; exact atI_mapQ (by rw [atI_nat' (by rw [List.length_map]; exact hk3), List.getElem_map])
    · rw [Int.zero_add]; exact atI_mapQ (by rw [atI_nat' (by rw [List.length_map]; exact hk3), List.getElem_map])
    · intro q hq
      simp only [List.mem_cons, List.not_mem_nil, or_false] at hq
      rcases hq with rfl | rfl
      · exact dot_bt4 (hrr _ hm).2 hvb hrl2
      · exact dot_bt4 (hrr _ hm).2 hob hrl2
    · rw [List.sum_cons, List.sum_cons, List.sum_nil, Rat.add_zero]
  · show _ = RD.lst (((rows.map fun row => dot row (addL vs os)).map eQ))
    congr 1
    apply List.ext_getElem
    · simp [hrl]
    · intro k h1 h2
      simp at h1 h2
      have g1 : rows.getD k [] = rows[k] := by simp [List.getD_eq_getElem?_getD, List.getElem?_eq_getElem, h2]
      have hm := List.getElem_mem h2
      simp only [List.getElem_map, List.getElem_range]
      have z := dot_add _ _ _ (hl _ hm) (hl2 _ hm)
      rw [← addL_eq (hvl.trans hol.symm)] at z
      rw [g1]
      exact congrArg eQ z.symm
end
theorem all_mk {l : PySem.W.OpenLaw} {w : World} {K : PySem.W.Frag} {h : Heap} {mg : Str → Option Value} {fa : Addr} (X : K.In h) (G : h.Ns mainGlobals mg) (hfa : mg "law" = some (.ref fa))
    {f_law_cell : Addr} {oc_law_cell kV_law_cell dc_law_cell pm_law_cell cd_law_cell ct_law_cell : Value} {od_law_cell an_law_cell : Option Addr} {sl_law_cell : Array (Option Value)}
    (a_law_cell : PySem.W.nsIn K mainGlobals "_law_cell" = some (some (.ref f_law_cell))) (l_law_cell : K.lookup f_law_cell = some ⟨oc_law_cell, od_law_cell, .func (PySem.W.fnOf "_law_cell" "_law_cell" (defArgs s_law_cell) (defBody s_law_cell) (defScope s_law_cell) .none kV_law_cell dc_law_cell pm_law_cell an_law_cell cd_law_cell ct_law_cell), sl_law_cell⟩) (c_law_cell : PySem.W.codeIn K cd_law_cell "_law_cell" = true) (k_law_cell : PySem.W.keepIn K (.ref f_law_cell) = true)
    {f_law_low : Addr} {oc_law_low kV_law_low dc_law_low pm_law_low cd_law_low ct_law_low : Value} {od_law_low an_law_low : Option Addr} {sl_law_low : Array (Option Value)}
    (a_law_low : PySem.W.nsIn K mainGlobals "_law_low" = some (some (.ref f_law_low))) (l_law_low : K.lookup f_law_low = some ⟨oc_law_low, od_law_low, .func (PySem.W.fnOf "_law_low" "_law_low" (defArgs s_law_low) (defBody s_law_low) (defScope s_law_low) .none kV_law_low dc_law_low pm_law_low an_law_low cd_law_low ct_law_low), sl_law_low⟩) (c_law_low : PySem.W.codeIn K cd_law_low "_law_low" = true) (k_law_low : PySem.W.keepIn K (.ref f_law_low) = true)
    {f_law_is_ratio : Addr} {oc_law_is_ratio kV_law_is_ratio dc_law_is_ratio pm_law_is_ratio cd_law_is_ratio ct_law_is_ratio : Value} {od_law_is_ratio an_law_is_ratio : Option Addr} {sl_law_is_ratio : Array (Option Value)}
    (a_law_is_ratio : PySem.W.nsIn K mainGlobals "_law_is_ratio" = some (some (.ref f_law_is_ratio))) (l_law_is_ratio : K.lookup f_law_is_ratio = some ⟨oc_law_is_ratio, od_law_is_ratio, .func (PySem.W.fnOf "_law_is_ratio" "_law_is_ratio" (defArgs s_law_is_ratio) (defBody s_law_is_ratio) (defScope s_law_is_ratio) .none kV_law_is_ratio dc_law_is_ratio pm_law_is_ratio an_law_is_ratio cd_law_is_ratio ct_law_is_ratio), sl_law_is_ratio⟩) (c_law_is_ratio : PySem.W.codeIn K cd_law_is_ratio "_law_is_ratio" = true) (k_law_is_ratio : PySem.W.keepIn K (.ref f_law_is_ratio) = true)
    {f_law_sum : Addr} {oc_law_sum kV_law_sum dc_law_sum pm_law_sum cd_law_sum ct_law_sum : Value} {od_law_sum an_law_sum : Option Addr} {sl_law_sum : Array (Option Value)}
    (a_law_sum : PySem.W.nsIn K mainGlobals "_law_sum" = some (some (.ref f_law_sum))) (l_law_sum : K.lookup f_law_sum = some ⟨oc_law_sum, od_law_sum, .func (PySem.W.fnOf "_law_sum" "_law_sum" (defArgs s_law_sum) (defBody s_law_sum) (defScope s_law_sum) .none kV_law_sum dc_law_sum pm_law_sum an_law_sum cd_law_sum ct_law_sum), sl_law_sum⟩) (c_law_sum : PySem.W.codeIn K cd_law_sum "_law_sum" = true) (k_law_sum : PySem.W.keepIn K (.ref f_law_sum) = true)
    {f_law_times : Addr} {oc_law_times kV_law_times dc_law_times pm_law_times cd_law_times ct_law_times : Value} {od_law_times an_law_times : Option Addr} {sl_law_times : Array (Option Value)}
    (a_law_times : PySem.W.nsIn K mainGlobals "_law_times" = some (some (.ref f_law_times))) (l_law_times : K.lookup f_law_times = some ⟨oc_law_times, od_law_times, .func (PySem.W.fnOf "_law_times" "_law_times" (defArgs s_law_times) (defBody s_law_times) (defScope s_law_times) .none kV_law_times dc_law_times pm_law_times an_law_times cd_law_times ct_law_times), sl_law_times⟩) (c_law_times : PySem.W.codeIn K cd_law_times "_law_times" = true) (k_law_times : PySem.W.keepIn K (.ref f_law_times) = true)
    {f_law_product : Addr} {oc_law_product kV_law_product dc_law_product pm_law_product cd_law_product ct_law_product : Value} {od_law_product an_law_product : Option Addr} {sl_law_product : Array (Option Value)}
    (a_law_product : PySem.W.nsIn K mainGlobals "_law_product" = some (some (.ref f_law_product))) (l_law_product : K.lookup f_law_product = some ⟨oc_law_product, od_law_product, .func (PySem.W.fnOf "_law_product" "_law_product" (defArgs s_law_product) (defBody s_law_product) (defScope s_law_product) .none kV_law_product dc_law_product pm_law_product an_law_product cd_law_product ct_law_product), sl_law_product⟩) (c_law_product : PySem.W.codeIn K cd_law_product "_law_product" = true) (k_law_product : PySem.W.keepIn K (.ref f_law_product) = true)
    {f_law_small : Addr} {oc_law_small kV_law_small dc_law_small pm_law_small cd_law_small ct_law_small : Value} {od_law_small an_law_small : Option Addr} {sl_law_small : Array (Option Value)}
    (a_law_small : PySem.W.nsIn K mainGlobals "_law_small" = some (some (.ref f_law_small))) (l_law_small : K.lookup f_law_small = some ⟨oc_law_small, od_law_small, .func (PySem.W.fnOf "_law_small" "_law_small" (defArgs s_law_small) (defBody s_law_small) (defScope s_law_small) .none kV_law_small dc_law_small pm_law_small an_law_small cd_law_small ct_law_small), sl_law_small⟩) (c_law_small : PySem.W.codeIn K cd_law_small "_law_small" = true) (k_law_small : PySem.W.keepIn K (.ref f_law_small) = true)
    {f_lowest : Addr} {oc_lowest kV_lowest dc_lowest pm_lowest cd_lowest ct_lowest : Value} {od_lowest an_lowest : Option Addr} {sl_lowest : Array (Option Value)}
    (a_lowest : PySem.W.nsIn K mainGlobals "_lowest" = some (some (.ref f_lowest))) (l_lowest : K.lookup f_lowest = some ⟨oc_lowest, od_lowest, .func (PySem.W.fnOf "_lowest" "_lowest" (defArgs s_lowest) (defBody s_lowest) (defScope s_lowest) .none kV_lowest dc_lowest pm_lowest an_lowest cd_lowest ct_lowest), sl_lowest⟩) (c_lowest : PySem.W.codeIn K cd_lowest "_lowest" = true) (k_lowest : PySem.W.keepIn K (.ref f_lowest) = true)
    {f_add : Addr} {oc_add kV_add dc_add pm_add cd_add ct_add : Value} {od_add an_add : Option Addr} {sl_add : Array (Option Value)}
    (a_add : PySem.W.nsIn K mainGlobals "add" = some (some (.ref f_add))) (l_add : K.lookup f_add = some ⟨oc_add, od_add, .func (PySem.W.fnOf "add" "add" (defArgs s_add) (defBody s_add) (defScope s_add) .none kV_add dc_add pm_add an_add cd_add ct_add), sl_add⟩) (c_add : PySem.W.codeIn K cd_add "add" = true) (k_add : PySem.W.keepIn K (.ref f_add) = true)
    {f_times : Addr} {oc_times kV_times dc_times pm_times cd_times ct_times : Value} {od_times an_times : Option Addr} {sl_times : Array (Option Value)}
    (a_times : PySem.W.nsIn K mainGlobals "times" = some (some (.ref f_times))) (l_times : K.lookup f_times = some ⟨oc_times, od_times, .func (PySem.W.fnOf "times" "times" (defArgs s_times) (defBody s_times) (defScope s_times) .none kV_times dc_times pm_times an_times cd_times ct_times), sl_times⟩) (c_times : PySem.W.codeIn K cd_times "times" = true) (k_times : PySem.W.keepIn K (.ref f_times) = true)
    {f_along : Addr} {oc_along kV_along dc_along pm_along cd_along ct_along : Value} {od_along an_along : Option Addr} {sl_along : Array (Option Value)}
    (a_along : PySem.W.nsIn K mainGlobals "along" = some (some (.ref f_along))) (l_along : K.lookup f_along = some ⟨oc_along, od_along, .func (PySem.W.fnOf "along" "along" (defArgs s_along) (defBody s_along) (defScope s_along) .none kV_along dc_along pm_along an_along cd_along ct_along), sl_along⟩) (c_along : PySem.W.codeIn K cd_along "along" = true) (k_along : PySem.W.keepIn K (.ref f_along) = true)
    {f_product : Addr} {oc_product kV_product dc_product pm_product cd_product ct_product : Value} {od_product an_product : Option Addr} {sl_product : Array (Option Value)}
    (a_product : PySem.W.nsIn K mainGlobals "product" = some (some (.ref f_product))) (l_product : K.lookup f_product = some ⟨oc_product, od_product, .func (PySem.W.fnOf "product" "product" (defArgs s_product) (defBody s_product) (defScope s_product) .none kV_product dc_product pm_product an_product cd_product ct_product), sl_product⟩) (c_product : PySem.W.codeIn K cd_product "product" = true) (k_product : PySem.W.keepIn K (.ref f_product) = true)
    {f_law : Addr} {oc_law kV_law dc_law pm_law cd_law ct_law : Value} {od_law an_law : Option Addr} {sl_law : Array (Option Value)}
    (a_law : PySem.W.nsIn K mainGlobals "law" = some (some (.ref f_law))) (l_law : K.lookup f_law = some ⟨oc_law, od_law, .func (PySem.W.fnOf "law" "law" (defArgs s_law) (defBody s_law) (defScope s_law) .none kV_law dc_law pm_law an_law cd_law ct_law), sl_law⟩) (c_law : PySem.W.codeIn K cd_law "law" = true) (k_law : PySem.W.keepIn K (.ref f_law) = true)
    (z_abs : PySem.W.nsIn K mainGlobals "abs" = some none)
    (z_bool : PySem.W.nsIn K mainGlobals "bool" = some none)
    (z_int : PySem.W.nsIn K mainGlobals "int" = some none)
    (z_isinstance : PySem.W.nsIn K mainGlobals "isinstance" = some none)
    (z_len : PySem.W.nsIn K mainGlobals "len" = some none)
    (z_list : PySem.W.nsIn K mainGlobals "list" = some none)
    (z_range : PySem.W.nsIn K mainGlobals "range" = some none)
    (z_tuple : PySem.W.nsIn K mainGlobals "tuple" = some none)
    (z_zip : PySem.W.nsIn K mainGlobals "zip" = some none)
    (i_gcd : PySem.W.nsIn K mainGlobals "gcd" = some (some (.builtin "math.gcd")))
    {z_ZERO : Addr} {dd_ZERO : Option Addr} {n_ZERO : Nat} {sl_ZERO : Array (Option Value)} {u_ZERO_0 : Tok} {u_ZERO_1 : Tok} (c_ZERO : PySem.W.nsIn K mainGlobals "ZERO" = some (some (.ref z_ZERO))) (y_ZERO : K.lookup z_ZERO = some ⟨.type "tuple", dd_ZERO, .seq #[.int 0 u_ZERO_0, .int 1 u_ZERO_1] n_ZERO, sl_ZERO⟩)
    : ∃ fd : FuncData, (∀ (s : Shared) (v : Value), BindsTo s fd ⟨[v], []⟩ [("script", v)]) ∧ ∀ base : Heap, K.In base → base.Ns mainGlobals mg → FnOk l.prog w K mg base (L2.CX l.prog w) 5 fa fd ["script"] (spF K 1 R_law) := by
  have e := hfa.symm.trans (PySem.W.mg_of X G a_law)
  cases e
  let T : Txt K mg := {
    a_law_cell := f_law_cell
    fd_law_cell := _
    F_law_cell := fun_mk (st := s_law_cell) l_law_cell c_law_cell k_law_cell
    g_law_cell := PySem.W.mg_of X G a_law_cell
    b_law_cell := (fun_mk (st := s_law_cell) l_law_cell c_law_cell k_law_cell).binds (ps := ["script", "k"]) (fun _ _ _ _ _ _ us hl => match us, hl with | [_, _], _ => rfl)
    a_law_low := f_law_low
    fd_law_low := _
    F_law_low := fun_mk (st := s_law_low) l_law_low c_law_low k_law_low
    g_law_low := PySem.W.mg_of X G a_law_low
    b_law_low := (fun_mk (st := s_law_low) l_law_low c_law_low k_law_low).binds (ps := ["n", "d"]) (fun _ _ _ _ _ _ us hl => match us, hl with | [_, _], _ => rfl)
    a_law_is_ratio := f_law_is_ratio
    fd_law_is_ratio := _
    F_law_is_ratio := fun_mk (st := s_law_is_ratio) l_law_is_ratio c_law_is_ratio k_law_is_ratio
    g_law_is_ratio := PySem.W.mg_of X G a_law_is_ratio
    b_law_is_ratio := (fun_mk (st := s_law_is_ratio) l_law_is_ratio c_law_is_ratio k_law_is_ratio).binds (ps := ["actual"]) (fun _ _ _ _ _ _ us hl => match us, hl with | [_], _ => rfl)
    a_law_sum := f_law_sum
    fd_law_sum := _
    F_law_sum := fun_mk (st := s_law_sum) l_law_sum c_law_sum k_law_sum
    g_law_sum := PySem.W.mg_of X G a_law_sum
    b_law_sum := (fun_mk (st := s_law_sum) l_law_sum c_law_sum k_law_sum).binds (ps := ["parts"]) (fun _ _ _ _ _ _ us hl => match us, hl with | [_], _ => rfl)
    a_law_times := f_law_times
    fd_law_times := _
    F_law_times := fun_mk (st := s_law_times) l_law_times c_law_times k_law_times
    g_law_times := PySem.W.mg_of X G a_law_times
    b_law_times := (fun_mk (st := s_law_times) l_law_times c_law_times k_law_times).binds (ps := ["a", "b"]) (fun _ _ _ _ _ _ us hl => match us, hl with | [_, _], _ => rfl)
    a_law_product := f_law_product
    fd_law_product := _
    F_law_product := fun_mk (st := s_law_product) l_law_product c_law_product k_law_product
    g_law_product := PySem.W.mg_of X G a_law_product
    b_law_product := (fun_mk (st := s_law_product) l_law_product c_law_product k_law_product).binds (ps := ["rows", "values"]) (fun _ _ _ _ _ _ us hl => match us, hl with | [_, _], _ => rfl)
    a_law_small := f_law_small
    fd_law_small := _
    F_law_small := fun_mk (st := s_law_small) l_law_small c_law_small k_law_small
    g_law_small := PySem.W.mg_of X G a_law_small
    b_law_small := (fun_mk (st := s_law_small) l_law_small c_law_small k_law_small).binds (ps := ["cell"]) (fun _ _ _ _ _ _ us hl => match us, hl with | [_], _ => rfl)
    a_lowest := f_lowest
    fd_lowest := _
    F_lowest := fun_mk (st := s_lowest) l_lowest c_lowest k_lowest
    g_lowest := PySem.W.mg_of X G a_lowest
    b_lowest := (fun_mk (st := s_lowest) l_lowest c_lowest k_lowest).binds (ps := ["n", "d"]) (fun _ _ _ _ _ _ us hl => match us, hl with | [_, _], _ => rfl)
    a_add := f_add
    fd_add := _
    F_add := fun_mk (st := s_add) l_add c_add k_add
    g_add := PySem.W.mg_of X G a_add
    b_add := (fun_mk (st := s_add) l_add c_add k_add).binds (ps := ["a", "b"]) (fun _ _ _ _ _ _ us hl => match us, hl with | [_, _], _ => rfl)
    a_times := f_times
    fd_times := _
    F_times := fun_mk (st := s_times) l_times c_times k_times
    g_times := PySem.W.mg_of X G a_times
    b_times := (fun_mk (st := s_times) l_times c_times k_times).binds (ps := ["a", "b"]) (fun _ _ _ _ _ _ us hl => match us, hl with | [_, _], _ => rfl)
    a_along := f_along
    fd_along := _
    F_along := fun_mk (st := s_along) l_along c_along k_along
    g_along := PySem.W.mg_of X G a_along
    b_along := (fun_mk (st := s_along) l_along c_along k_along).binds (ps := ["row", "values"]) (fun _ _ _ _ _ _ us hl => match us, hl with | [_, _], _ => rfl)
    a_product := f_product
    fd_product := _
    F_product := fun_mk (st := s_product) l_product c_product k_product
    g_product := PySem.W.mg_of X G a_product
    b_product := (fun_mk (st := s_product) l_product c_product k_product).binds (ps := ["rows", "values"]) (fun _ _ _ _ _ _ us hl => match us, hl with | [_, _], _ => rfl)
    a_law := fa
    fd_law := _
    F_law := fun_mk (st := s_law) l_law c_law k_law
    g_law := PySem.W.mg_of X G a_law
    b_law := (fun_mk (st := s_law) l_law c_law k_law).binds (ps := ["script"]) (fun _ _ _ _ _ _ us hl => match us, hl with | [_], _ => rfl)
    m_abs := PySem.W.mg_none_of X G z_abs
    m_bool := PySem.W.mg_none_of X G z_bool
    m_int := PySem.W.mg_none_of X G z_int
    m_isinstance := PySem.W.mg_none_of X G z_isinstance
    m_len := PySem.W.mg_none_of X G z_len
    m_list := PySem.W.mg_none_of X G z_list
    m_range := PySem.W.mg_none_of X G z_range
    m_tuple := PySem.W.mg_none_of X G z_tuple
    m_zip := PySem.W.mg_none_of X G z_zip
    g_gcd := PySem.W.mg_of X G i_gcd
    z_ZERO := z_ZERO
    c_ZERO := PySem.W.mg_of X G c_ZERO
    s_ZERO := fun _ => .inr ⟨_, _, _, y_ZERO, rfl, rfl, Nat.le_of_ble_eq_true rfl, (.cons ⟨_, rfl⟩ (.cons ⟨_, rfl⟩ .nil))⟩ }
  exact ⟨PySem.W.fnOf "law" "law" (defArgs s_law) (defBody s_law) (defScope s_law) .none kV_law dc_law pm_law an_law cd_law ct_law, fun s v => .of_eq rfl, fun base _ _ => ok_law T⟩
end RPk17
open PySem PySem.W PyProof.Rows
set_option maxHeartbeats 0 in
theorem PySem.Challenge.cw_rivalprices_k17_products_of_rows_holds : PySem.Challenge.rw_rivalprices_k17_products_of_rows.Holds := by
  w_on; o_law; k_head; (case hw => w_witness2)
  k_fill
  refine L2.walk_of (l := PySem.Challenge.rw_rivalprices_k17_products_of_rows) (n := 63) (k := 5) (x := "script") (CX := fun w => L2.CX PySem.Challenge.pw_rivalprices_k17_products_of_rows w) (sp := fun w => RP.spF _ 1 RPk17.R_law) rfl (by decide) rfl ⟨rfl, by decide, by decide⟩ (fun w h Y => PySem.W.kIn_of Y) ?F (fun _ H a ns hl _ hS => ⟨H, [.scr ns], .ok (.bl true), rfl, Evl.Ex.refl H, .cons (.scr hS) .nil, ⟨ns, rfl, Nat.le_trans hl (by decide), rfl⟩, fun v _ _ _ r => r.bl_inv⟩) (fun _ _ _ _ _ h => by obtain ⟨_, _, _, _, _, _, _, _, _, _, _, _, z⟩ := h; exact z.elim)
  case F =>
    intro w mg fa h KX G hmg
    refine' RPk17.all_mk KX G hmg ?a_law_cell ?l_law_cell ?c_law_cell ?k_law_cell ?a_law_low ?l_law_low ?c_law_low ?k_law_low ?a_law_is_ratio ?l_law_is_ratio ?c_law_is_ratio ?k_law_is_ratio ?a_law_sum ?l_law_sum ?c_law_sum ?k_law_sum ?a_law_times ?l_law_times ?c_law_times ?k_law_times ?a_law_product ?l_law_product ?c_law_product ?k_law_product ?a_law_small ?l_law_small ?c_law_small ?k_law_small ?a_lowest ?l_lowest ?c_lowest ?k_lowest ?a_add ?l_add ?c_add ?k_add ?a_times ?l_times ?c_times ?k_times ?a_along ?l_along ?c_along ?k_along ?a_product ?l_product ?c_product ?k_product ?a_law ?l_law ?c_law ?k_law ?z_abs ?z_bool ?z_int ?z_isinstance ?z_len ?z_list ?z_range ?z_tuple ?z_zip ?i_gcd ?c_ZERO ?y_ZERO
    (case a_law_cell => k_is); (case l_law_cell => k_is); (case c_law_cell => k_is); (case k_law_cell => k_is); (case a_law_low => k_is); (case l_law_low => k_is); (case c_law_low => k_is); (case k_law_low => k_is); (case a_law_is_ratio => k_is); (case l_law_is_ratio => k_is); (case c_law_is_ratio => k_is); (case k_law_is_ratio => k_is); (case a_law_sum => k_is); (case l_law_sum => k_is); (case c_law_sum => k_is); (case k_law_sum => k_is); (case a_law_times => k_is); (case l_law_times => k_is); (case c_law_times => k_is); (case k_law_times => k_is); (case a_law_product => k_is); (case l_law_product => k_is); (case c_law_product => k_is); (case k_law_product => k_is); (case a_law_small => k_is); (case l_law_small => k_is); (case c_law_small => k_is); (case k_law_small => k_is); (case a_lowest => k_is); (case l_lowest => k_is); (case c_lowest => k_is); (case k_lowest => k_is); (case a_add => k_is); (case l_add => k_is); (case c_add => k_is); (case k_add => k_is); (case a_times => k_is); (case l_times => k_is); (case c_times => k_is); (case k_times => k_is); (case a_along => k_is); (case l_along => k_is); (case c_along => k_is); (case k_along => k_is); (case a_product => k_is); (case l_product => k_is); (case c_product => k_is); (case k_product => k_is); (case a_law => k_is); (case l_law => k_is); (case c_law => k_is); (case k_law => k_is); (case z_abs => k_is); (case z_bool => k_is); (case z_int => k_is); (case z_isinstance => k_is); (case z_len => k_is); (case z_list => k_is); (case z_range => k_is); (case z_tuple => k_is); (case z_zip => k_is); (case i_gcd => k_is); (case c_ZERO => k_is); (case y_ZERO => k_is)
