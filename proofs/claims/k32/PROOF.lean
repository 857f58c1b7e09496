import PyProof.Rows.All
import Wide.All
import OpenK.AllK
import Wide.FinOn
import HandS.ForMost
import HandS.ForExc
import HandS.Evl
import HandS.Wide
import HandS.Gcd
import HandS.IsInst
import HandS.Zip
import HandS.CallSlots
import HandS.ExcIs
import HandS.RaiseMore
import HandS.TryMany
import HandS.Defaults
import HandS.Star
import HandS.TupAny
import HandS.Text
import HandS.StrMore
import HandS.Deep
import HandS.TupLe
import PyProof.ReprLen
import PyProof.ReprReads
import HandS.TryOnly
import HandS.Style
import HandS.FStr
import PyProof.Rows.RegStrFacts
import HandS.WideBits
import HandS.ExcInit
import HandS.ExcField
import KE.KExcIs
import HandS.Codes
import HandS.DictComp
import HandS.Iter
import HandS.More
import HandS.ListItems
import KE.KDictList
import HandS.Conv
import PySem.Challenge.RW_rivalprices_k32_the_first_error_of_a_mar
set_option Elab.async false
set_option linter.all false
set_option maxRecDepth 100000
set_option maxHeartbeats 2000000
namespace RS
open PySem PySem.Spec PyProof.Rows L2
open Evl (Ex)

/-! ### data -/
inductive RD where
  | non | bl (b : Bool) | int (i : Int) | str (x : Str)
  | tup (ds : List RD) | lst (ds : List RD)
  | dk (ks : List Key) (ds : List RD)
  | dt (ks : List (List Key)) (ds : List RD)
  | obj (c : Str) (fs : List Str) (ds : List RD)
  | ty (n : String) | cls (c : Str) | fn (c : Str)
  | scr (ns : List Int)
  | loc (k : Nat)
  | fk (ks : List Key) (ds : List RD)
  | ft (ks : List (List Key)) (ds : List RD)
instance : Inhabited RD := ⟨.non⟩
/-- where the program's classes and defs stand -/
structure En where
  K : PySem.W.Frag
  cl : Str → Addr
  fa : Str → Addr
  xa : Addr := 0
  xc : Value := .none
  xd : Option Addr := none
/-- what data lean on: objects that stay for good; the cells' places -/
structure Gd where
  g : Hp
  m : List Addr
structure Gd.Le (A B : Gd) : Prop where
  g : Ex A.g B.g
  m : A.m <+: B.m
theorem Gd.Le.refl (A : Gd) : A.Le A := ⟨Ex.refl _, List.prefix_rfl⟩
theorem Gd.Le.trans {A B C : Gd} (h : A.Le B) (k : B.Le C) : A.Le C := ⟨h.g.trans k.g, h.m.trans k.m⟩
mutual
inductive Rp (E : En) (Γ : Gd) : V → RD → Prop
  | non : Rp E Γ .non .non
  | bl (b : Bool) : Rp E Γ (.bl b) (.bl b)
  | int (i : Int) : Rp E Γ (.int i) (.int i)
  | str (x : Str) : Rp E Γ (.str x) (.str x)
  | tup {a : Addr} {xs : List V} {ds : List RD} : Γ.g a = some (.tup xs) → RpAll E Γ xs ds → Rp E Γ (.ref a) (.tup ds)
  | ktup {a : Addr} {ns : List Int} : SqT E.K Γ.g a (ns.map V.int) → Rp E Γ (.ref a) (.tup (ns.map .int))
  | lst {a : Addr} {xs : List V} {ds : List RD} : Γ.g a = some (.lst xs) → RpAll E Γ xs ds → Rp E Γ (.ref a) (.lst ds)
  | scr {a : Addr} {ns : List Int} : SqL E.K Γ.g a (ns.map V.int) → Rp E Γ (.ref a) (.scr ns)
  | dk {a : Addr} {kvs : List (Key × V)} {ks : List Key} {xs : List V} {ds : List RD} : Γ.g a = some (.dK kvs) → kvs = ks.zip xs → ks.length = xs.length → RpAll E Γ xs ds → Rp E Γ (.ref a) (.dk ks ds)
  | dt {a : Addr} {kvs : List (List Key × V)} {ks : List (List Key)} {xs : List V} {ds : List RD} : Γ.g a = some (.dT kvs) → kvs = ks.zip xs → ks.length = xs.length → RpAll E Γ xs ds → Rp E Γ (.ref a) (.dt ks ds)
  | obj {a dx : Addr} {c : Str} {fvs : List (Str × V)} {fs : List Str} {xs : List V} {ds : List RD} : Γ.g a = some (.ins (E.cl c) dx fvs) → fvs = fs.zip xs → fs.length = xs.length → RpAll E Γ xs ds → Rp E Γ (.ref a) (.obj c fs ds)
  | ty (n : String) : Rp E Γ (.ty n) (.ty n)
  | cls (c : Str) : Rp E Γ (.ref (E.cl c)) (.cls c)
  | fn (c : Str) : Rp E Γ (.ref (E.fa c)) (.fn c)
  | loc {a : Addr} {k : Nat} : Γ.m[k]? = some a → Rp E Γ (.ref a) (.loc k)
  | fk {a : Addr} {o : Obj} {kvs : List (Key × V)} {ks : List Key} {xs : List V} {ds : List RD} : Γ.g a = some (.frz o (.dK kvs)) → kvs = ks.zip xs → ks.length = xs.length → RpAll E Γ xs ds → Rp E Γ (.ref a) (.fk ks ds)
  | ft {a : Addr} {o : Obj} {kvs : List (List Key × V)} {ks : List (List Key)} {xs : List V} {ds : List RD} : Γ.g a = some (.frz o (.dT kvs)) → kvs = ks.zip xs → ks.length = xs.length → RpAll E Γ xs ds → Rp E Γ (.ref a) (.ft ks ds)
inductive RpAll (E : En) (Γ : Gd) : List V → List RD → Prop
  | nil : RpAll E Γ [] []
  | cons {v : V} {vs : List V} {d : RD} {ds : List RD} : Rp E Γ v d → RpAll E Γ vs ds → RpAll E Γ (v :: vs) (d :: ds)
end
section
variable {E : En} {Γ Γ' : Gd}
theorem pre_get {α : Type} {l m : List α} (h : l <+: m) {k : Nat} {a : α} (e : l[k]? = some a) : m[k]? = some a := by
  obtain ⟨t, rfl⟩ := h
  rw [List.getElem?_append_left (List.getElem?_eq_some_iff.mp e).1]; exact e
mutual
theorem Rp.mono (e : Γ.Le Γ') : ∀ {v : V} {d : RD}, Rp E Γ v d → Rp E Γ' v d
  | _, _, .non => .non
  | _, _, .bl b => .bl b
  | _, _, .int i => .int i
  | _, _, .str x => .str x
  | _, _, .tup h r => .tup (e.g _ _ h) (RpAll.mono e r)
  | _, _, .ktup h => .ktup (Evl.ex_t e.g h)
  | _, _, .lst h r => .lst (e.g _ _ h) (RpAll.mono e r)
  | _, _, .scr h => .scr (Evl.ex_l e.g h)
  | _, _, .dk h a b r => .dk (e.g _ _ h) a b (RpAll.mono e r)
  | _, _, .dt h a b r => .dt (e.g _ _ h) a b (RpAll.mono e r)
  | _, _, .obj h a b r => .obj (e.g _ _ h) a b (RpAll.mono e r)
  | _, _, .ty n => .ty n
  | _, _, .cls c => .cls c
  | _, _, .fn c => .fn c
  | _, _, .loc h => .loc (pre_get e.m h)
  | _, _, .fk h a b r => .fk (e.g _ _ h) a b (RpAll.mono e r)
  | _, _, .ft h a b r => .ft (e.g _ _ h) a b (RpAll.mono e r)
theorem RpAll.mono (e : Γ.Le Γ') : ∀ {vs : List V} {ds : List RD}, RpAll E Γ vs ds → RpAll E Γ' vs ds
  | _, _, .nil => .nil
  | _, _, .cons a b => .cons (Rp.mono e a) (RpAll.mono e b)
end
theorem RpAll.length {vs : List V} {ds : List RD} : RpAll E Γ vs ds → vs.length = ds.length
  | .nil => rfl
  | .cons _ b => congrArg (· + 1) (RpAll.length b)
theorem RpAll.get : ∀ {vs : List V} {ds : List RD} {i : Nat} {d : RD}, RpAll E Γ vs ds → ds[i]? = some d → ∃ v, vs[i]? = some v ∧ Rp E Γ v d
  | _, _, 0, d, .cons a b, h => ⟨_, rfl, by cases h; exact a⟩
  | _, _, i + 1, d, .cons a b, h => RpAll.get (i := i) b h
theorem RpAll.getV : ∀ {vs : List V} {ds : List RD} {i : Nat} {v : V}, RpAll E Γ vs ds → vs[i]? = some v → ∃ d, ds[i]? = some d ∧ Rp E Γ v d
  | _, _, 0, d, .cons a b, h => ⟨_, rfl, by cases h; exact a⟩
  | _, _, i + 1, d, .cons a b, h => RpAll.getV (i := i) b h
theorem RpAll.append : ∀ {vs us : List V} {ds es : List RD}, RpAll E Γ vs ds → RpAll E Γ us es → RpAll E Γ (vs ++ us) (ds ++ es)
  | _, _, _, _, .nil, h => h
  | _, _, _, _, .cons a b, h => .cons a (RpAll.append b h)
theorem RpAll.take : ∀ {vs : List V} {ds : List RD} (n : Nat), RpAll E Γ vs ds → RpAll E Γ (vs.take n) (ds.take n)
  | _, _, 0, _ => by rw [List.take_zero, List.take_zero]; exact .nil
  | _, _, n + 1, .nil => .nil
  | _, _, n + 1, .cons a b => .cons a (RpAll.take n b)
theorem RpAll.drop : ∀ {vs : List V} {ds : List RD} (n : Nat), RpAll E Γ vs ds → RpAll E Γ (vs.drop n) (ds.drop n)
  | _, _, 0, h => h
  | _, _, n + 1, .nil => .nil
  | _, _, n + 1, .cons a b => RpAll.drop n b
theorem RpAll.set : ∀ {vs : List V} {ds : List RD} (i : Nat) {v : V} {d : RD}, RpAll E Γ vs ds → Rp E Γ v d → RpAll E Γ (vs.set i v) (ds.set i d)
  | _, _, _, _, _, .nil, _ => .nil
  | _, _, 0, _, _, .cons a b, h => .cons h b
  | _, _, i + 1, _, _, .cons a b, h => .cons a (RpAll.set i b h)
theorem RpAll.rev : ∀ {vs : List V} {ds : List RD}, RpAll E Γ vs ds → RpAll E Γ vs.reverse ds.reverse
  | _, _, .nil => .nil
  | _, _, .cons a b => by rw [List.reverse_cons, List.reverse_cons]; exact (RpAll.rev b).append (.cons a .nil)
theorem RpAll.ints : ∀ (ns : List Int), RpAll E Γ (ns.map V.int) (ns.map RD.int)
  | [] => .nil
  | n :: r => .cons (.int n) (RpAll.ints r)
theorem Rp.int_inv {v : V} {i : Int} (h : Rp E Γ v (.int i)) : v = .int i := by cases h; rfl
theorem Rp.bl_inv {v : V} {b : Bool} (h : Rp E Γ v (.bl b)) : v = .bl b := by cases h; rfl
theorem Rp.str_inv {v : V} {x : Str} (h : Rp E Γ v (.str x)) : v = .str x := by cases h; rfl
theorem Rp.non_inv {v : V} (h : Rp E Γ v .non) : v = .non := by cases h; rfl
theorem Rp.tup_inv {v : V} {ds : List RD} (h : Rp E Γ v (.tup ds)) : ∃ a xs, v = .ref a ∧ SqT E.K Γ.g a xs ∧ RpAll E Γ xs ds := by
  cases h with
  | tup a b => exact ⟨_, _, rfl, Evl.st_of a, b⟩
  | ktup h => exact ⟨_, _, rfl, h, RpAll.ints _⟩
/-- a tuple with a text in it is one of ours -/
theorem Rp.tup_str {v : V} {x : Str} {ds : List RD} (h : Rp E Γ v (.tup (.str x :: ds))) : ∃ a xs, v = .ref a ∧ Γ.g a = some (.tup xs) ∧ RpAll E Γ xs (.str x :: ds) := by
  generalize e : RD.tup (.str x :: ds) = d at h
  cases h with
  | tup a b => cases e; exact ⟨_, _, rfl, a, b⟩
  | @ktup a ns h =>
    cases ns with
    | nil => simp at e
    | cons n r => simp at e
  | _ => cases e
theorem Rp.lst_inv {v : V} {ds : List RD} (h : Rp E Γ v (.lst ds)) : ∃ a xs, v = .ref a ∧ Γ.g a = some (.lst xs) ∧ RpAll E Γ xs ds := by
  cases h with
  | lst a b => exact ⟨_, _, rfl, a, b⟩
end

/-! ### what may change -/
inductive Cell where
  | lst (ds : List RD) | dk (ks : List Key) (ds : List RD) | dt (ks : List (List Key)) (ds : List RD) | obj (c : Str) (fs : List Str) (ds : List RD)
def Cell.rd : Cell → RD
  | .lst ds => .lst ds
  | .dk ks ds => .dk ks ds
  | .dt ks ds => .dt ks ds
  | .obj c fs ds => .obj c fs ds
inductive CellAt (E : En) (Γ : Gd) (H : Hp) (a : Addr) : Cell → Prop
  | lst {xs : List V} {ds : List RD} : H a = some (.lst xs) → RpAll E Γ xs ds → CellAt E Γ H a (.lst ds)
  | dk {xs : List V} {ks : List Key} {ds : List RD} : H a = some (.dK (ks.zip xs)) → ks.length = xs.length → RpAll E Γ xs ds → CellAt E Γ H a (.dk ks ds)
  | dt {xs : List V} {ks : List (List Key)} {ds : List RD} : H a = some (.dT (ks.zip xs)) → ks.length = xs.length → RpAll E Γ xs ds → CellAt E Γ H a (.dt ks ds)
  | obj {dx : Addr} {xs : List V} {c : Str} {fs : List Str} {ds : List RD} : H a = some (.ins (E.cl c) dx (fs.zip xs)) → fs.length = xs.length → RpAll E Γ xs ds → CellAt E Γ H a (.obj c fs ds)
theorem CellAt.there {E : En} {Γ : Gd} {H : Hp} {a : Addr} {c : Cell} (h : CellAt E Γ H a c) : ∃ o, H a = some o := by
  cases h with
  | lst h _ => exact ⟨_, h⟩
  | dk h _ _ => exact ⟨_, h⟩
  | dt h _ _ => exact ⟨_, h⟩
  | obj h _ _ => exact ⟨_, h⟩
theorem CellAt.mono {E : En} {Γ Γ' : Gd} {H H' : Hp} {a : Addr} {c : Cell} (h : CellAt E Γ H a c) (e : Γ.Le Γ') (k : H' a = H a) : CellAt E Γ' H' a c := by
  cases h with
  | lst h r => exact .lst (k.trans h) (r.mono e)
  | dk h l r => exact .dk (k.trans h) l (r.mono e)
  | dt h l r => exact .dt (k.trans h) l (r.mono e)
  | obj h l r => exact .obj (k.trans h) l (r.mono e)
/-- an exception: its class; its own dict, where it has one -/
structure Exn where
  c : Str
  f : Option (Str × RD)
inductive SV where
  | un | dat (d : RD) | own (c : Cell) | exc
structure Sg where
  sl : List SV
  ce : List Cell
  xn : Option Exn
/-- the values of expressions: a datum; what the slot i owns; the caught exception -/
inductive PV where
  | d (d : RD) | sl (i : Nat) | exc
/-- a def's frame: the heap, the ground at its entry, what may change of it; in an except suite: the caught one -/
structure Fr where
  H : Hp
  Γ : Gd
  ex : List Addr
/-- an exception's own dict -/
def ExD (E : En) (Γ : Gd) (H : Hp) (f : Option (Str × RD)) (dd : Option Addr) : Prop := match f with
  | none => dd = none
  | some (n, r) => ∃ d v, dd = some d ∧ H d = some (.xd [(n, v)]) ∧ Γ.g d = some (.xd [(n, v)]) ∧ Rp E Γ v r
theorem ExD.mono {E : En} {Γ Γ' : Gd} {H H' : Hp} {f : Option (Str × RD)} {dd : Option Addr} (h : ExD E Γ H f dd) (e : Γ.Le Γ') (k : Ex Γ'.g H') : ExD E Γ' H' f dd := by
  cases f with
  | none => exact h
  | some p =>
    obtain ⟨d, v, h1, h2, h3, h4⟩ := h
    exact ⟨d, v, h1, k _ _ (e.g _ _ h3), e.g _ _ h3, h4.mono e⟩
structure Abs (E : En) (F : Fr) (Γ : Gd) (H : Hp) (σ : L2.St) (S : Sg) : Prop where
  fh : ∀ a o, F.H a = some o → a ∉ F.ex → H a = some o
  le : F.Γ.Le Γ
  fn : ∀ a, Γ.g a ≠ none → F.Γ.g a ≠ none ∨ F.H a = none ∨ a ∈ F.ex
  fc : ∀ a, a ∈ Γ.m → a ∈ F.ex ∨ F.H a = none
  gh : Ex Γ.g H
  nd : Γ.m.Nodup
  ml : Γ.m.length = S.ce.length
  cel : ∀ (k : Nat) (c : Cell), S.ce[k]? = some c → ∃ a, Γ.m[k]? = some a ∧ Γ.g a = none ∧ CellAt E Γ H a c
  len : σ.length = S.sl.length
  dat : ∀ (i : Nat) (d : RD), S.sl[i]? = some (.dat d) → ∃ v, σ[i]? = some (some v) ∧ Rp E Γ v d
  own : ∀ (i : Nat) (c : Cell), S.sl[i]? = some (.own c) → ∃ a, σ[i]? = some (some (.ref a)) ∧ Γ.g a = none ∧ a ∉ Γ.m ∧ (F.H a = none ∨ a ∈ F.ex) ∧ CellAt E Γ H a c
  sep : ∀ (i j : Nat) (c e : Cell) (a : Addr), S.sl[i]? = some (.own c) → S.sl[j]? = some (.own e) → σ[i]? = some (some (.ref a)) → σ[j]? = some (some (.ref a)) → i = j
  exs : ∀ (i : Nat), S.sl[i]? = some .exc → σ[i]? = some (some (.ref E.xa))
  exn : ∀ (e : Exn), S.xn = some e → E.xc = .ref (E.cl e.c) ∧ ExD E Γ H e.f E.xd
  fx : ∀ a, a ∈ F.ex → ∃ o, H a = some o
section
variable {E : En} {F : Fr} {Γ Γ' : Gd} {H H' : Hp} {σ : L2.St} {S S' : Sg}
/-- a step that changes nothing that stood -/
structure Sx (Γ : Gd) (H : Hp) (Γ' : Gd) (H' : Hp) : Prop where
  h : Ex H H'
  g : Ex Γ.g Γ'.g
  m : Γ'.m = Γ.m
  s : Ex Γ'.g H'
  n : ∀ a, Γ'.g a ≠ none → Γ.g a ≠ none ∨ H a = none
theorem Sx.le (s : Sx Γ H Γ' H') : Γ.Le Γ' := ⟨s.g, by rw [s.m]; exact List.prefix_rfl⟩
theorem Sx.refl {Γ : Gd} {H : Hp} (e : Ex Γ.g H) : Sx Γ H Γ H := ⟨Ex.refl H, Ex.refl _, rfl, e, fun _ h => .inl h⟩
theorem Sx.trans {Γ1 Γ2 Γ3 : Gd} {H1 H2 H3 : Hp} (a : Sx Γ1 H1 Γ2 H2) (b : Sx Γ2 H2 Γ3 H3) : Sx Γ1 H1 Γ3 H3 :=
  ⟨a.h.trans b.h, a.g.trans b.g, b.m.trans a.m, b.s, fun x hx => by
    rcases b.n x hx with h | h
    · exact a.n x h
    · exact .inr (Evl.fresh_back a.h h)⟩
abbrev Gd.put (Γ : Gd) (p : Addr) (o : HO) : Gd := ⟨upd Γ.g p o, Γ.m⟩
theorem Gd.le_put {p : Addr} {o : HO} (h : Γ.g p = none) : Γ.Le (Γ.put p o) := ⟨Evl.Ex.new h, List.prefix_rfl⟩
/-- a new object that data may lean on -/
theorem Sx.new {p : Addr} {o : HO} (e : Ex Γ.g H) (hp : H p = none) : Sx Γ H (Γ.put p o) (upd H p o) :=
  ⟨Evl.Ex.new hp, Evl.Ex.new (Evl.fresh_back e hp), rfl, fun a u (ha : upd Γ.g p o a = some u) => by
    by_cases h : a = p
    · subst h; rw [upd_same] at ha ⊢; exact ha
    · rw [upd_ne h] at ha ⊢; exact e a u ha,
   fun a (ha : upd Γ.g p o a ≠ none) => by
    by_cases h : a = p
    · subst h; exact .inr hp
    · rw [upd_ne h] at ha; exact .inl ha⟩
/-- a new object of one's own -/
theorem Sx.newH {p : Addr} {o : HO} (e : Ex Γ.g H) (hp : H p = none) : Sx Γ H Γ (upd H p o) :=
  ⟨Evl.Ex.new hp, Evl.Ex.refl _, rfl, e.trans (Evl.Ex.new hp), fun _ ha => .inl ha⟩
theorem Sx.stay_none {a : Addr} {o : HO} (s : Sx Γ H Γ' H') (ha : H a = some o) (g : Γ.g a = none) : Γ'.g a = none := by
  cases e : Γ'.g a with
  | none => rfl
  | some u =>
    rcases s.n a (by rw [e]; simp) with h | h
    · exact absurd g h
    · rw [ha] at h; cases h
/-- what is new to the heap is new to the entry's -/
theorem Abs.fnew (A : Abs E F Γ H σ S) {p : Addr} (hp : H p = none) : F.H p = none := by
  cases e : F.H p with
  | none => rfl
  | some o =>
    by_cases hx : p ∈ F.ex
    · obtain ⟨u, hu⟩ := A.fx p hx; rw [hp] at hu; cases hu
    · have := A.fh p o e hx; rw [hp] at this; cases this
theorem Abs.ext (A : Abs E F Γ H σ S) (s : Sx Γ H Γ' H') : Abs E F Γ' H' σ S where
  fh := fun a o h hx => s.h _ _ (A.fh a o h hx)
  le := A.le.trans s.le
  fn := fun a h => by
    rcases s.n a h with h | h
    · exact A.fn a h
    · by_cases hx : a ∈ F.ex
      · exact .inr (.inr hx)
      · refine .inr (.inl ?_)
        cases e : F.H a with
        | none => rfl
        | some o => rw [A.fh a o e hx] at h; cases h
  fc := fun a h => A.fc a (by rw [← s.m]; exact h)
  gh := s.s
  nd := by rw [s.m]; exact A.nd
  ml := by rw [s.m]; exact A.ml
  cel := fun k c h => by
    obtain ⟨a, h1, h2, h3⟩ := A.cel k c h
    obtain ⟨o, ho⟩ := h3.there
    exact ⟨a, by rw [s.m]; exact h1, s.stay_none ho h2, h3.mono s.le ((s.h _ _ ho).trans ho.symm)⟩
  len := A.len
  dat := fun i d h => by
    obtain ⟨v, h1, h2⟩ := A.dat i d h
    exact ⟨v, h1, h2.mono s.le⟩
  own := fun i c h => by
    obtain ⟨a, h1, h2, h3, h4, h5⟩ := A.own i c h
    obtain ⟨o, ho⟩ := h5.there
    exact ⟨a, h1, s.stay_none ho h2, by rw [s.m]; exact h3, h4, h5.mono s.le ((s.h _ _ ho).trans ho.symm)⟩
  sep := A.sep
  exs := A.exs
  exn := fun e h => ⟨(A.exn e h).1, (A.exn e h).2.mono s.le s.s⟩
  fx := fun a h => by obtain ⟨o, ho⟩ := A.fx a h; exact ⟨o, s.h _ _ ho⟩
end

/-! ### results -/
inductive Rr (α : Type) where
  | ok (a : α) (S : Sg) | ex (e : Exn) (S : Sg) | st
def Rr.bind {α β : Type} (r : Rr α) (f : α → Sg → Rr β) : Rr β := match r with
  | .ok a S => f a S
  | .ex e S => .ex e S
  | .st => .st
section
variable {α β γ : Type}
@[simp] theorem Rr.bind_ok {a : α} {S : Sg} {f : α → Sg → Rr β} : (Rr.ok a S).bind f = f a S := rfl
@[simp] theorem Rr.bind_ex {e : Exn} {S : Sg} {f : α → Sg → Rr β} : (Rr.ex e S : Rr α).bind f = .ex e S := rfl
@[simp] theorem Rr.bind_st {f : α → Sg → Rr β} : (Rr.st : Rr α).bind f = .st := rfl
end
/-- run: what a reading asks of a wish -/
def RunR {α β : Type} (E : En) (W : WX) (F : Fr) (Γ : Gd) (σ : L2.St) (rel : Gd → Hp → β → α → Prop) (run : (β → Hp → Prop) → Prop) : Rr α → Prop
  | .ok a S' => ∀ Q : β → Hp → Prop, (∀ b Γ' H', Γ.Le Γ' → Abs E F Γ' H' σ S' → rel Γ' H' b a → Q b H') → run Q
  | .ex e S' => (∀ Γ' H' dd, Γ.Le Γ' → Abs E F Γ' H' σ S' → ExD E Γ' H' e.f dd → W (.ref (E.cl e.c)) dd σ H') → ∀ Q, run Q
  | .st => True
/-- what expressions' values stand for -/
inductive Pp (E : En) (F : Fr) (σ : L2.St) (Γ : Gd) : V → PV → Prop
  | d {v : V} {d : RD} : Rp E Γ v d → Pp E F σ Γ v (.d d)
  | sl {v : V} {i : Nat} : σ[i]? = some (some v) → Pp E F σ Γ v (.sl i)
  | exc : Pp E F σ Γ (.ref E.xa) .exc
inductive PpAll (E : En) (F : Fr) (σ : L2.St) (Γ : Gd) : List V → List PV → Prop
  | nil : PpAll E F σ Γ [] []
  | cons {v : V} {vs : List V} {p : PV} {ps : List PV} : Pp E F σ Γ v p → PpAll E F σ Γ vs ps → PpAll E F σ Γ (v :: vs) (p :: ps)
abbrev RP1 (E : En) (F : Fr) (σ : L2.St) : Gd → Hp → V → PV → Prop := fun Γ _ v p => Pp E F σ Γ v p
abbrev RPA (E : En) (F : Fr) (σ : L2.St) : Gd → Hp → List V → List PV → Prop := fun Γ _ v p => PpAll E F σ Γ v p
abbrev ME := Sg → Rr PV
abbrev MT := Sg → Rr Bool
abbrev MA := Sg → Rr (List PV)
section
variable {E : En} {W : WX} {F : Fr} {Γ Γ' : Gd} {H H' : Hp} {σ : L2.St} {S S' : Sg}
theorem Pp.mono (e : Γ.Le Γ') {v : V} {p : PV} (h : Pp E F σ Γ v p) : Pp E F σ Γ' v p := by
  cases h with
  | d h => exact .d (h.mono e)
  | sl h => exact .sl h
  | exc => exact .exc
theorem PpAll.mono (e : Γ.Le Γ') {vs : List V} {ps : List PV} (h : PpAll E F σ Γ vs ps) : PpAll E F σ Γ' vs ps := by
  induction h with
  | nil => exact .nil
  | cons a _ ih => exact .cons (a.mono e) ih
theorem PpAll.length {vs : List V} {ps : List PV} (h : PpAll E F σ Γ vs ps) : vs.length = ps.length := by
  induction h with
  | nil => rfl
  | cons a _ ih => exact congrArg (· + 1) ih
end
def SE (E : En) (W : WX) (te : TE) (m : ME) : Prop := ∀ F Γ H σ S, Abs E F Γ H σ S → RunR E W F Γ σ (RP1 E F σ) (te σ H) (m S)
def ST (E : En) (W : WX) (tt : TT) (m : MT) : Prop := ∀ F Γ H σ S, Abs E F Γ H σ S → RunR E W F Γ σ (fun _ _ a b => a = b) (tt σ H) (m S)
def SA (E : En) (W : WX) (ta : TA) (m : MA) : Prop := ∀ F Γ H σ S, Abs E F Γ H σ S → RunR E W F Γ σ (RPA E F σ) (ta σ H) (m S)
/-- operations on values that stand already -/
abbrev M1 := PV → Sg → Rr PV
abbrev M2 := PV → PV → Sg → Rr PV
abbrev ML := List PV → Sg → Rr PV
def SO (E : En) (W : WX) (r : R2) (f : M2) : Prop := ∀ F Γ H σ S x y p q, Abs E F Γ H σ S → Pp E F σ Γ x p → Pp E F σ Γ y q → RunR E W F Γ σ (RP1 E F σ) (r x y H) (f p q S)
def SU (E : En) (W : WX) (r : V → Hp → VK → Prop) (f : M1) : Prop := ∀ F Γ H σ S x p, Abs E F Γ H σ S → Pp E F σ Γ x p → RunR E W F Γ σ (RP1 E F σ) (r x H) (f p S)
def SC (E : En) (W : WX) (r : List V → Hp → VK → Prop) (f : ML) : Prop := ∀ F Γ H σ S xs ps, Abs E F Γ H σ S → PpAll E F σ Γ xs ps → RunR E W F Γ σ (RP1 E F σ) (r xs H) (f ps S)
/-- a method of a built-in value -/
def SM (E : En) (W : WX) (r : V → List V → Hp → VK → Prop) (f : PV → ML) : Prop := ∀ F Γ H σ S x p xs ps, Abs E F Γ H σ S → Pp E F σ Γ x p → PpAll E F σ Γ xs ps → RunR E W F Γ σ (RP1 E F σ) (r x xs H) (f p ps S)
section
variable {E : En} {W : WX} {F : Fr} {Γ Γ' : Gd} {H H' : Hp} {σ : L2.St} {S S' : Sg}
theorem RunR.weak {α β : Type} {rel : Gd → Hp → β → α → Prop} {run : (β → Hp → Prop) → Prop} {r : Rr α} (e : Γ.Le Γ') (h : RunR E W F Γ' σ rel run r) : RunR E W F Γ σ rel run r := by
  cases r with
  | ok a S' => exact fun Q q => h Q fun b Γ2 H2 l A r => q b Γ2 H2 (e.trans l) A r
  | ex x S' => exact fun w => h fun Γ2 H2 dd l A r => w Γ2 H2 dd (e.trans l) A r
  | st => trivial
theorem RunR.bind {α β α' β' : Type} {rel : Gd → Hp → β → α → Prop} {rel' : Gd → Hp → β' → α' → Prop} {run : (β → Hp → Prop) → Prop} {run' : (β' → Hp → Prop) → Prop} {r : Rr α} {f : α → Sg → Rr α'}
    (k : (β' → Hp → Prop) → β → Hp → Prop) (hrun : ∀ Q, run (k Q) → run' Q) (h : RunR E W F Γ σ rel run r)
    (hk : ∀ a S' b Γ' H', r = .ok a S' → Γ.Le Γ' → Abs E F Γ' H' σ S' → rel Γ' H' b a → RunR E W F Γ' σ rel' (fun Q => k Q b H') (f a S')) : RunR E W F Γ σ rel' run' (r.bind f) := by
  cases r with
  | st => trivial
  | ex x S' => exact fun w Q => hrun Q (h w _)
  | ok a S' =>
    show RunR E W F Γ σ rel' run' (f a S')
    cases e : f a S' with
    | st => trivial
    | ok a' S2 =>
      exact fun Q q => hrun Q (h _ fun b Γ1 H1 l1 A1 r1 => by
        have z := hk a S' b Γ1 H1 rfl l1 A1 r1
        rw [e] at z
        exact z Q fun b' Γ2 H2 l2 A2 r2 => q b' Γ2 H2 (l1.trans l2) A2 r2)
    | ex x S2 =>
      exact fun w Q => hrun Q (h _ fun b Γ1 H1 l1 A1 r1 => by
        have z := hk a S' b Γ1 H1 rfl l1 A1 r1
        rw [e] at z
        exact z (fun Γ2 H2 dd l2 A2 r2 => w Γ2 H2 dd (l1.trans l2) A2 r2) Q)
/-- a result at once -/
theorem RunR.pure {α β : Type} {rel : Gd → Hp → β → α → Prop} {run : (β → Hp → Prop) → Prop} {a : α} {b : β} (A : Abs E F Γ H σ S) (r : rel Γ H b a) (h : ∀ Q : β → Hp → Prop, Q b H → run Q) : RunR E W F Γ σ rel run (.ok a S) :=
  fun Q q => h Q (q b Γ H (Gd.Le.refl _) A r)
/-- a datum by a step that changes nothing that stood -/
theorem RunR.step {run : VK → Prop} {d : RD} (A : Abs E F Γ H σ S) (h : ∀ Q : VK, (∀ v Γ' H', Sx Γ H Γ' H' → Rp E Γ' v d → Q v H') → run Q) : RunR E W F Γ σ (RP1 E F σ) run (.ok (.d d) S) :=
  fun Q q => h Q fun v Γ' H' s r => q v Γ' H' s.le (A.ext s) (.d r)
theorem RunR.val {run : VK → Prop} {d : RD} {v : V} (A : Abs E F Γ H σ S) (r : Rp E Γ v d) (h : ∀ Q : VK, Q v H → run Q) : RunR E W F Γ σ (RP1 E F σ) run (.ok (.d d) S) :=
  RunR.pure A (.d r) h
end
end RS

set_option Elab.async false
set_option linter.all false
set_option maxRecDepth 100000
set_option maxHeartbeats 2000000
namespace RS
open PySem PySem.Spec PyProof.Rows L2
open Evl (Ex)

/-! ### what a value holds, as it stands -/
def deref (S : Sg) : PV → Option RD
  | .d (.loc k) => (S.ce[k]?).map Cell.rd
  | .d d => some d
  | .sl i => match S.sl[i]? with
    | some (.own c) => some c.rd
    | _ => none
  | .exc => none
def seqOf : RD → Option (List RD)
  | .lst ds => some ds
  | .scr ns => some (ns.map .int)
  | _ => none
section
variable {E : En} {W : WX} {F : Fr} {Γ Γ' : Gd} {H H' : Hp} {σ : L2.St} {S S' : Sg} {x : V} {p : PV}
/-- the datum as it stands: frozen, or a cell's, or a slot's own -/
theorem deref_cases (A : Abs E F Γ H σ S) (r : Pp E F σ Γ x p) {d : RD} (h : deref S p = some d) : (Rp E Γ x d ∧ p = .d d) ∨ ∃ a c, x = .ref a ∧ d = c.rd ∧ CellAt E Γ H a c := by
  cases r with
  | exc => cases h
  | @sl v i e =>
    unfold deref at h
    cases q : S.sl[i]? with
    | none => simp only [q] at h; cases h
    | some s =>
      simp only [q] at h
      cases s with
      | own c =>
        cases h
        obtain ⟨a, h1, _, _, _, h5⟩ := A.own i c q
        rw [e] at h1
        cases h1
        exact .inr ⟨a, c, rfl, rfl, h5⟩
      | un => cases h
      | dat d => cases h
      | exc => cases h
  | @d v d0 r =>
    cases d0 with
    | loc k =>
      unfold deref at h
      cases q : S.ce[k]? with
      | none => simp only [q] at h; cases h
      | some c =>
        simp only [q] at h
        cases h
        obtain ⟨a, h1, _, h3⟩ := A.cel k c q
        cases r with
        | loc e =>
          rw [e] at h1
          cases h1
          exact .inr ⟨_, c, rfl, rfl, h3⟩
    | _ => cases h; exact .inl ⟨r, rfl⟩
theorem deref_lst (A : Abs E F Γ H σ S) (r : Pp E F σ Γ x p) {ds : List RD} (h : deref S p = some (.lst ds)) : ∃ a xs, x = .ref a ∧ H a = some (.lst xs) ∧ RpAll E Γ xs ds := by
  rcases deref_cases A r h with ⟨r, _⟩ | ⟨a, c, rfl, e, q⟩
  · obtain ⟨a, xs, rfl, h1, h2⟩ := r.lst_inv
    exact ⟨a, xs, rfl, A.gh _ _ h1, h2⟩
  · cases q with
    | lst h1 h2 => cases e; exact ⟨_, _, rfl, h1, h2⟩
    | dk _ _ _ => cases e
    | dt _ _ _ => cases e
    | obj _ _ _ => cases e
theorem deref_seq (A : Abs E F Γ H σ S) (r : Pp E F σ Γ x p) {d : RD} {ds : List RD} (h : deref S p = some d) (hs : seqOf d = some ds) : ∃ a xs, x = .ref a ∧ SqL E.K H a xs ∧ RpAll E Γ xs ds := by
  cases d with
  | lst es =>
    cases hs
    obtain ⟨a, xs, rfl, h1, h2⟩ := deref_lst A r h
    exact ⟨a, xs, rfl, Evl.sq_of h1, h2⟩
  | scr ns =>
    cases hs
    rcases deref_cases A r h with ⟨r, _⟩ | ⟨a, c, rfl, e, q⟩
    · cases r with
      | scr hs => exact ⟨_, _, rfl, Evl.ex_l A.gh hs, RpAll.ints ns⟩
    · cases q <;> cases e
  | _ => cases hs
theorem deref_tup (A : Abs E F Γ H σ S) (r : Pp E F σ Γ x p) {ds : List RD} (h : deref S p = some (.tup ds)) : ∃ a xs, x = .ref a ∧ SqT E.K H a xs ∧ RpAll E Γ xs ds := by
  rcases deref_cases A r h with ⟨r, _⟩ | ⟨a, c, rfl, e, q⟩
  · obtain ⟨a, xs, rfl, h1, h2⟩ := r.tup_inv
    exact ⟨a, xs, rfl, Evl.ex_t A.gh h1, h2⟩
  · cases q <;> cases e
theorem deref_dk (A : Abs E F Γ H σ S) (r : Pp E F σ Γ x p) {ks : List Key} {ds : List RD} (h : deref S p = some (.dk ks ds)) : ∃ a xs, x = .ref a ∧ H a = some (.dK (ks.zip xs)) ∧ ks.length = xs.length ∧ RpAll E Γ xs ds := by
  rcases deref_cases A r h with ⟨r, _⟩ | ⟨a, c, rfl, e, q⟩
  · cases r with
    | dk h1 e l h2 => subst e; exact ⟨_, _, rfl, A.gh _ _ h1, l, h2⟩
  · cases q with
    | dk h1 l h2 => cases e; exact ⟨_, _, rfl, h1, l, h2⟩
    | lst _ _ => cases e
    | dt _ _ _ => cases e
    | obj _ _ _ => cases e
theorem deref_dt (A : Abs E F Γ H σ S) (r : Pp E F σ Γ x p) {ks : List (List Key)} {ds : List RD} (h : deref S p = some (.dt ks ds)) : ∃ a xs, x = .ref a ∧ H a = some (.dT (ks.zip xs)) ∧ ks.length = xs.length ∧ RpAll E Γ xs ds := by
  rcases deref_cases A r h with ⟨r, _⟩ | ⟨a, c, rfl, e, q⟩
  · cases r with
    | dt h1 e l h2 => subst e; exact ⟨_, _, rfl, A.gh _ _ h1, l, h2⟩
  · cases q with
    | dt h1 l h2 => cases e; exact ⟨_, _, rfl, h1, l, h2⟩
    | lst _ _ => cases e
    | dk _ _ _ => cases e
    | obj _ _ _ => cases e
theorem deref_obj (A : Abs E F Γ H σ S) (r : Pp E F σ Γ x p) {c : Str} {fs : List Str} {ds : List RD} (h : deref S p = some (.obj c fs ds)) : ∃ a dx xs, x = .ref a ∧ H a = some (.ins (E.cl c) dx (fs.zip xs)) ∧ fs.length = xs.length ∧ RpAll E Γ xs ds := by
  rcases deref_cases A r h with ⟨r, _⟩ | ⟨a, c, rfl, e, q⟩
  · cases r with
    | obj h1 e l h2 => subst e; exact ⟨_, _, _, rfl, A.gh _ _ h1, l, h2⟩
  · cases q with
    | obj h1 l h2 => cases e; exact ⟨_, _, _, rfl, h1, l, h2⟩
    | lst _ _ => cases e
    | dk _ _ _ => cases e
    | dt _ _ _ => cases e
/-- data that are no container stand for themselves -/
def RD.flat : RD → Bool
  | .non => true | .bl _ => true | .int _ => true | .str _ => true | .ty _ => true | .cls _ => true | .fn _ => true | _ => false
theorem deref_flat (A : Abs E F Γ H σ S) (r : Pp E F σ Γ x p) {d : RD} (h : deref S p = some d) (hf : d.flat = true) : Rp E Γ x d := by
  rcases deref_cases A r h with ⟨r, _⟩ | ⟨a, c, rfl, e, q⟩
  · exact r
  · cases q <;> (subst e; cases hf)
/-- all of it on the heap as it stands -/
theorem deref_all (A : Abs E F Γ H σ S) (r : Pp E F σ Γ x p) {d : RD} (h : deref S p = some d) : Rp E ⟨H, Γ.m⟩ x d := by
  have le : Γ.Le ⟨H, Γ.m⟩ := ⟨A.gh, List.prefix_rfl⟩
  rcases deref_cases A r h with ⟨r, _⟩ | ⟨a, c, rfl, e, q⟩
  · exact r.mono le
  · cases q with
    | lst h1 h2 => subst e; exact .lst h1 (h2.mono le)
    | dk h1 l h2 => subst e; exact .dk h1 rfl l (h2.mono le)
    | dt h1 l h2 => subst e; exact .dt h1 rfl l (h2.mono le)
    | obj h1 l h2 => subst e; exact .obj h1 rfl l (h2.mono le)
end

/-! ### the judgements -/
def QE (X : Cx) (E : En) (W : WX) (e : Expr) (m : ME) : Prop := ∃ te, PE X e te ∧ SE E W te m
def QT (X : Cx) (E : En) (W : WX) (e : Expr) (m : MT) : Prop := ∃ te, PT X e te ∧ ST E W te m
def QW (X : Cx) (E : En) (W : WX) (e : Expr) (m : MT) : Prop := ∃ te, PW X e te ∧ ST E W te m
def QA (X : Cx) (E : En) (W : WX) (es : List Expr) (m : MA) : Prop := ∃ ta, PA X es ta ∧ SA E W ta m

/-! ### the ways to reckon -/
def mVar (i : Nat) : ME := fun S => match S.sl[i]? with
  | some (.dat d) => .ok (.d d) S
  | some (.own _) => .ok (.sl i) S
  | some .exc => .ok .exc S
  | _ => .st
def mC (d : RD) : ME := fun S => .ok (.d d) S
def mOp (f : M2) (a b : ME) : ME := fun S => (a S).bind fun p S1 => (b S1).bind fun q S2 => f p q S2
def mUn (f : M1) (a : ME) : ME := fun S => (a S).bind fun p S1 => f p S1
def mIf (t : MT) (a b : ME) : ME := fun S => (t S).bind fun c S1 => if c = true then a S1 else b S1
def toBl : PV → Sg → Rr Bool
  | .d (.bl b), S => .ok b S
  | _, _ => .st
def mAndV (a b : ME) : ME := fun S => (a S).bind fun p S1 => (toBl p S1).bind fun c S2 => if c = true then b S2 else .ok (.d (.bl false)) S2
def mOrV (a b : ME) : ME := fun S => (a S).bind fun p S1 => (toBl p S1).bind fun c S2 => if c = true then .ok (.d (.bl true)) S2 else b S2
def mNotV (a : ME) : ME := fun S => (a S).bind fun p S1 => (toBl p S1).bind fun c S2 => .ok (.d (.bl (!c))) S2
def mTest (a : ME) : MT := fun S => (a S).bind fun p S1 => toBl p S1
def mAnd (a b : MT) : MT := fun S => (a S).bind fun c S1 => if c = true then b S1 else .ok false S1
def mOr (a b : MT) : MT := fun S => (a S).bind fun c S1 => if c = true then .ok true S1 else b S1
def mNot (a : MT) : MT := fun S => (a S).bind fun c S1 => .ok (!c) S1
def mChain (f g : M2) (a b c : ME) : ME := fun S => (a S).bind fun p S1 => (b S1).bind fun q S2 => (f p q S2).bind fun z S3 => (toBl z S3).bind fun k S4 => if k = true then (c S4).bind fun r S5 => g q r S5 else .ok (.d (.bl false)) S4
def aNil : MA := fun S => .ok [] S
def aCons (a : ME) (r : MA) : MA := fun S => (a S).bind fun p S1 => (r S1).bind fun ps S2 => .ok (p :: ps) S2
/-- the datum of a value that is handed on: what a slot owns is given away for good -/
def toD : PV → Sg → Rr RD
  | .d d, S => .ok d S
  | .sl i, S => match S.sl[i]? with
    | some (.own c) => .ok c.rd { S with sl := S.sl.set i (.dat c.rd) }
    | some (.dat d) => .ok d S
    | _ => .st
  | .exc, _ => .st
def toDs : List PV → Sg → Rr (List RD)
  | [], S => .ok [] S
  | p :: ps, S => (toD p S).bind fun d S1 => (toDs ps S1).bind fun ds S2 => .ok (d :: ds) S2
def mTup (a : MA) : ME := fun S => (a S).bind fun ps S1 => (toDs ps S1).bind fun ds S2 => if ds.length ≤ 100000 then .ok (.d (.tup ds)) S2 else .st
def mLst (a : MA) : ME := fun S => (a S).bind fun ps S1 => (toDs ps S1).bind fun ds S2 => if ds.length ≤ 100000 then .ok (.d (.lst ds)) S2 else .st
/-- a list that others may change -/
def mLstC (a : MA) : ME := fun S => (a S).bind fun ps S1 => (toDs ps S1).bind fun ds S2 => if ds.length ≤ 100000 then .ok (.d (.loc S2.ce.length)) { S2 with ce := S2.ce ++ [.lst ds] } else .st
def aStar (a : ME) (r : MA) : MA := fun S => (a S).bind fun p S1 => match deref S1 p with
  | some (.tup ds) => (r S1).bind fun ps S2 => .ok (ds.map .d ++ ps) S2
  | some d => match seqOf d with
    | some ds => (r S1).bind fun ps S2 => .ok (ds.map .d ++ ps) S2
    | none => .st
  | none => .st
def mCB (f : ML) (a : MA) : ME := fun S => (a S).bind fun ps S1 => f ps S1

section
variable {E : En} {W : WX} {ta tb tc te : TE} {t u : TT} {a b c : ME} {A1 : MT} {B1 : MT}
theorem PpAll.ds {E : En} {F : Fr} {σ : L2.St} {Γ : Gd} {vs : List V} {ds : List RD} (h : RpAll E Γ vs ds) : PpAll E F σ Γ vs (ds.map .d) := by
  induction ds generalizing vs with
  | nil => cases h; exact .nil
  | cons d r ih => cases h with
    | cons x y => exact .cons (.d x) (ih y)
theorem PpAll.append {E : En} {F : Fr} {σ : L2.St} {Γ : Gd} {vs us : List V} {ps qs : List PV} (h : PpAll E F σ Γ vs ps) (k : PpAll E F σ Γ us qs) : PpAll E F σ Γ (vs ++ us) (ps ++ qs) := by
  induction h with
  | nil => exact k
  | cons x _ ih => exact .cons x ih
theorem se_var {i : Nat} : SE E W (tVar i) (mVar i) := fun F Γ H σ S A => by
  unfold mVar
  cases q : S.sl[i]? with
  | none => trivial
  | some s =>
    cases s with
    | un => trivial
    | dat d =>
      obtain ⟨v, h1, h2⟩ := A.dat i d q
      exact RunR.val A h2 fun Q k => ⟨v, h1, k⟩
    | own c =>
      obtain ⟨a, h1, _⟩ := A.own i c q
      exact RunR.pure A (.sl h1) fun Q k => ⟨_, h1, k⟩
    | exc => exact RunR.pure A .exc fun Q k => ⟨_, A.exs i q, k⟩
theorem se_c {v : V} {d : RD} (h : ∀ Γ, Rp E Γ v d) : SE E W (tC v) (mC d) := fun F Γ H σ S A => RunR.val A (h Γ) fun Q k => k
theorem se_op {r : R2} {f : M2} (ho : SO E W r f) (ha : SE E W ta a) (hb : SE E W tb b) : SE E W (tOp r ta tb) (mOp f a b) := fun F Γ H σ S A =>
  RunR.bind (fun Q x H1 => tb σ H1 fun y H2 => r x y H2 Q) (fun Q h => h) (ha F Γ H σ S A) fun p S1 x Γ1 H1 _ l1 A1 r1 =>
    RunR.bind (fun Q y H2 => r x y H2 Q) (fun Q h => h) (hb F Γ1 H1 σ S1 A1) fun q S2 y Γ2 H2 _ l2 A2 r2 => ho F Γ2 H2 σ S2 x y p q A2 (r1.mono l2) r2
theorem se_un {r : V → Hp → VK → Prop} {f : M1} (ho : SU E W r f) (ha : SE E W ta a) : SE E W (tUn r ta) (mUn f a) := fun F Γ H σ S A =>
  RunR.bind (fun Q x H1 => r x H1 Q) (fun Q h => h) (ha F Γ H σ S A) fun p S1 x Γ1 H1 _ l1 A1 r1 => ho F Γ1 H1 σ S1 x p A1 r1
theorem se_if (hc : ST E W t A1) (ha : SE E W ta a) (hb : SE E W tb b) : SE E W (tIf t ta tb) (mIf A1 a b) := fun F Γ H σ S A =>
  RunR.bind (fun Q c H1 => if c = true then ta σ H1 Q else tb σ H1 Q) (fun Q h => h) (hc F Γ H σ S A) fun c S1 c' Γ1 H1 _ l1 A1 r1 => by
    cases r1
    cases c with
    | true => exact ha F Γ1 H1 σ S1 A1
    | false => exact hb F Γ1 H1 σ S1 A1
theorem RunR.imp {α β : Type} {F : Fr} {Γ : Gd} {σ : L2.St} {rel : Gd → Hp → β → α → Prop} {run run' : (β → Hp → Prop) → Prop} {r : Rr α} (h : ∀ Q, run Q → run' Q) (k : RunR E W F Γ σ rel run r) : RunR E W F Γ σ rel run' r := by
  cases r with
  | ok a S => exact fun Q q => h Q (k Q q)
  | ex e S => exact fun w Q => h Q (k w Q)
  | st => trivial
theorem bl_cases {F : Fr} {Γ : Gd} {σ : L2.St} {x : V} {p : PV} (r : Pp E F σ Γ x p) : (∃ c, p = .d (.bl c) ∧ x = .bl c) ∨ ∀ S, toBl p S = .st := by
  cases r with
  | d r => cases r with
    | bl b => exact .inl ⟨b, rfl, rfl⟩
    | _ => exact .inr fun S => rfl
  | sl _ => exact .inr fun S => rfl
  | exc => exact .inr fun S => rfl
theorem se_andV (ha : SE E W ta a) (hb : SE E W tb b) : SE E W (tAndV ta tb) (mAndV a b) := fun F Γ H σ S A =>
  RunR.bind (fun Q x H1 => ∃ c, x = .bl c ∧ if c = true then tb σ H1 Q else Q (.bl false) H1) (fun Q h => h) (ha F Γ H σ S A) fun p S1 x Γ1 H1 _ l1 A1 r1 => by
    rcases bl_cases r1 with ⟨c, rfl, rfl⟩ | h
    · cases c with
      | true => exact RunR.imp (fun Q q => ⟨true, rfl, q⟩) (hb F Γ1 H1 σ S1 A1)
      | false => exact RunR.val A1 (.bl false) fun Q q => ⟨false, rfl, q⟩
    · show RunR _ _ _ _ _ _ _ ((toBl p S1).bind _)
      rw [h]; trivial
theorem se_orV (ha : SE E W ta a) (hb : SE E W tb b) : SE E W (tOrV ta tb) (mOrV a b) := fun F Γ H σ S A =>
  RunR.bind (fun Q x H1 => ∃ c, x = .bl c ∧ if c = true then Q (.bl true) H1 else tb σ H1 Q) (fun Q h => h) (ha F Γ H σ S A) fun p S1 x Γ1 H1 _ l1 A1 r1 => by
    rcases bl_cases r1 with ⟨c, rfl, rfl⟩ | h
    · cases c with
      | false => exact RunR.imp (fun Q q => ⟨false, rfl, q⟩) (hb F Γ1 H1 σ S1 A1)
      | true => exact RunR.val A1 (.bl true) fun Q q => ⟨true, rfl, q⟩
    · show RunR _ _ _ _ _ _ _ ((toBl p S1).bind _)
      rw [h]; trivial
theorem se_notV (ha : SE E W ta a) : SE E W (tNotV ta) (mNotV a) := fun F Γ H σ S A =>
  RunR.bind (fun Q x H1 => ∃ c, x = .bl c ∧ Q (.bl (!c)) H1) (fun Q h => h) (ha F Γ H σ S A) fun p S1 x Γ1 H1 _ l1 A1 r1 => by
    rcases bl_cases r1 with ⟨c, rfl, rfl⟩ | h
    · exact RunR.val A1 (.bl (!c)) fun Q q => ⟨c, rfl, q⟩
    · show RunR _ _ _ _ _ _ _ ((toBl p S1).bind _)
      rw [h]; trivial
theorem st_test (ha : SE E W te a) : ST E W (tTest te) (mTest a) := fun F Γ H σ S A =>
  RunR.bind (fun Q x H1 => ∃ k, x = .bl k ∧ Q k H1) (fun Q h => h) (ha F Γ H σ S A) fun p S1 x Γ1 H1 _ l1 A1 r1 => by
    rcases bl_cases r1 with ⟨c, rfl, rfl⟩ | h
    · exact RunR.pure A1 rfl fun Q q => ⟨c, rfl, q⟩
    · rw [h]; trivial
theorem st_B (ha : SE E W te a) : ST E W (tB te) (mTest a) := st_test ha
theorem st_and {m n : MT} (ha : ST E W t m) (hb : ST E W u n) : ST E W (tAnd t u) (mAnd m n) := fun F Γ H σ S A =>
  RunR.bind (fun Q c H1 => if c = true then u σ H1 Q else Q false H1) (fun Q h => h) (ha F Γ H σ S A) fun c S1 c' Γ1 H1 _ l1 A1 r1 => by
    cases r1
    cases c with
    | true => exact hb F Γ1 H1 σ S1 A1
    | false => exact RunR.pure A1 rfl fun Q q => q
theorem st_or {m n : MT} (ha : ST E W t m) (hb : ST E W u n) : ST E W (tOr t u) (mOr m n) := fun F Γ H σ S A =>
  RunR.bind (fun Q c H1 => if c = true then Q true H1 else u σ H1 Q) (fun Q h => h) (ha F Γ H σ S A) fun c S1 c' Γ1 H1 _ l1 A1 r1 => by
    cases r1
    cases c with
    | false => exact hb F Γ1 H1 σ S1 A1
    | true => exact RunR.pure A1 rfl fun Q q => q
theorem st_not {m : MT} (ha : ST E W t m) : ST E W (tNot t) (mNot m) := fun F Γ H σ S A =>
  RunR.bind (fun Q c H1 => Q (!c) H1) (fun Q h => h) (ha F Γ H σ S A) fun c S1 c' Γ1 H1 _ l1 A1 r1 => by
    cases r1
    exact RunR.pure A1 rfl fun Q q => q
theorem sa_nil : SA E W tNil aNil := fun F Γ H σ S A => RunR.pure A .nil fun Q q => q
theorem sa_cons {tr : TA} {r : MA} (ha : SE E W ta a) (hr : SA E W tr r) : SA E W (tCons ta tr) (aCons a r) := fun F Γ H σ S A =>
  RunR.bind (fun Q x H1 => tr σ H1 fun xs H2 => Q (x :: xs) H2) (fun Q h => h) (ha F Γ H σ S A) fun p S1 x Γ1 H1 _ l1 A1 r1 =>
    RunR.bind (fun Q xs H2 => Q (x :: xs) H2) (fun Q h => h) (hr F Γ1 H1 σ S1 A1) fun ps S2 xs Γ2 H2 _ l2 A2 r2 => RunR.pure A2 (.cons (r1.mono l2) r2) fun Q q => q
theorem se_chain {r r' : R2} {f g : M2} (ho : SO E W r f) (ho' : SO E W r' g) (ha : SE E W ta a) (hb : SE E W tb b) (hc : SE E W tc c) : SE E W (tChain r r' ta tb tc) (mChain f g a b c) := fun F Γ H σ S A =>
  RunR.bind (fun Q x H1 => tb σ H1 fun y H2 => r x y H2 fun z H3 => ∃ k, z = .bl k ∧ if k = true then tc σ H3 fun w H4 => r' y w H4 Q else Q (.bl false) H3) (fun Q h => h) (ha F Γ H σ S A) fun p S1 x Γ1 H1 _ l1 A1 r1 =>
  RunR.bind (fun Q y H2 => r x y H2 fun z H3 => ∃ k, z = .bl k ∧ if k = true then tc σ H3 fun w H4 => r' y w H4 Q else Q (.bl false) H3) (fun Q h => h) (hb F Γ1 H1 σ S1 A1) fun q S2 y Γ2 H2 _ l2 A2 r2 =>
  RunR.bind (fun Q z H3 => ∃ k, z = .bl k ∧ if k = true then tc σ H3 fun w H4 => r' y w H4 Q else Q (.bl false) H3) (fun Q h => h) (ho F Γ2 H2 σ S2 x y p q A2 (r1.mono l2) r2) fun z S3 w Γ3 H3 _ l3 A3 r3 => by
    rcases bl_cases r3 with ⟨k, rfl, rfl⟩ | h
    · cases k with
      | true =>
        show RunR _ _ _ _ _ _ _ ((c S3).bind fun r S5 => g q r S5)
        exact RunR.imp (fun Q q => ⟨true, rfl, q⟩) (RunR.bind (fun Q w H4 => r' y w H4 Q) (fun Q h => h) (hc F Γ3 H3 σ S3 A3) fun s S4 w Γ4 H4 _ l4 A4 r4 => ho' F Γ4 H4 σ S4 y w q s A4 ((r2.mono l3).mono l4) r4)
      | false => exact RunR.val A3 (.bl false) fun Q q => ⟨false, rfl, q⟩
    · show RunR _ _ _ _ _ _ _ ((toBl z S3).bind _)
      rw [h]; trivial
theorem se_cb {r : List V → Hp → VK → Prop} {f : ML} {ta : TA} {m : MA} (ha : SA E W ta m) (hr : SC E W r f) : SE E W (tCB r ta) (mCB f m) := fun F Γ H σ S A =>
  RunR.bind (fun Q vs H1 => r vs H1 Q) (fun Q h => h) (ha F Γ H σ S A) fun ps S1 vs Γ1 H1 _ l1 A1 r1 => hr F Γ1 H1 σ S1 vs ps A1 r1
end

/-! ### what a slot owns is given away -/
section
variable {E : En} {F : Fr} {Γ Γ' : Gd} {H H' : Hp} {σ : L2.St} {S S' : Sg}
/-- the object that stands there -/
theorem CellAt.obj_rp {a : Addr} {c : Cell} (h : CellAt E Γ H a c) : ∃ o, H a = some o ∧ ∀ Γ2 : Gd, Γ.Le Γ2 → Γ2.g a = some o → Rp E Γ2 (.ref a) c.rd := by
  cases h with
  | lst h r => exact ⟨_, h, fun Γ2 l e => .lst e (r.mono l)⟩
  | dk h n r => exact ⟨_, h, fun Γ2 l e => .dk e rfl n (r.mono l)⟩
  | dt h n r => exact ⟨_, h, fun Γ2 l e => .dt e rfl n (r.mono l)⟩
  | obj h n r => exact ⟨_, h, fun Γ2 l e => .obj e rfl n (r.mono l)⟩
theorem Abs.give {i : Nat} {c : Cell} (A : Abs E F Γ H σ S) (hS : S.sl[i]? = some (.own c)) : ∃ Γ' a, Γ.Le Γ' ∧ σ[i]? = some (some (.ref a)) ∧ Rp E Γ' (.ref a) c.rd ∧ Abs E F Γ' H σ { S with sl := S.sl.set i (.dat c.rd) } := by
  obtain ⟨a, h1, h2, h3, h4, h5⟩ := A.own i c hS
  obtain ⟨o, ho, hr⟩ := h5.obj_rp
  have hl : i < S.sl.length := (List.getElem?_eq_some_iff.mp hS).1
  have le : Γ.Le (Γ.put a o) := Gd.le_put h2
  have ra := hr (Γ.put a o) le upd_same
  have gne : ∀ b, b ≠ a → (Γ.put a o).g b = Γ.g b := fun b hb => upd_ne hb
  refine ⟨Γ.put a o, a, le, h1, ra, ?_⟩
  refine ⟨A.fh, A.le.trans le, fun b hb => ?_, A.fc, fun b u (hb : upd Γ.g a o b = some u) => ?_, A.nd, A.ml, fun k e h => ?_, by rw [List.length_set]; exact A.len, fun j d hj => ?_, fun j e hj => ?_, fun j k e f b hj hk => ?_, fun j hj => ?_, fun e h => ⟨(A.exn e h).1, ?_⟩, A.fx⟩
  · by_cases hne : b = a
    · subst hne; exact .inr h4
    · rw [gne b hne] at hb; exact A.fn b hb
  · by_cases hne : b = a
    · subst hne; rw [upd_same] at hb; cases hb; exact ho
    · rw [upd_ne hne] at hb; exact A.gh b u hb
  · obtain ⟨b, q1, q2, q3⟩ := A.cel k e h
    have hne : b ≠ a := fun z => h3 (by rw [← z]; exact List.mem_of_getElem? q1)
    exact ⟨b, q1, by rw [gne b hne]; exact q2, q3.mono le rfl⟩
  · by_cases hij : i = j
    · subst hij; rw [List.getElem?_set_self hl] at hj; cases hj
      exact ⟨_, h1, ra⟩
    · rw [List.getElem?_set_ne hij] at hj
      obtain ⟨v, q1, q2⟩ := A.dat j d hj
      exact ⟨v, q1, q2.mono le⟩
  · by_cases hij : i = j
    · subst hij; rw [List.getElem?_set_self hl] at hj; cases hj
    · rw [List.getElem?_set_ne hij] at hj
      obtain ⟨b, q1, q2, q3, q4, q5⟩ := A.own j e hj
      have hne : b ≠ a := fun z => by subst z; exact hij (A.sep i j _ _ _ hS hj h1 q1)
      exact ⟨b, q1, by rw [gne b hne]; exact q2, q3, q4, q5.mono le rfl⟩
  · have back : ∀ {n : Nat} {x : Cell}, (S.sl.set i (.dat c.rd))[n]? = some (.own x) → S.sl[n]? = some (.own x) := fun {n x} h => by
      by_cases hin : i = n
      · subst hin; rw [List.getElem?_set_self hl] at h; cases h
      · rw [List.getElem?_set_ne hin] at h; exact h
    exact A.sep j k _ _ b (back hj) (back hk)
  · by_cases hij : i = j
    · subst hij; rw [List.getElem?_set_self hl] at hj; cases hj
    · rw [List.getElem?_set_ne hij] at hj; exact A.exs j hj
  · refine (A.exn e h).2.mono le fun b u (hb : upd Γ.g a o b = some u) => ?_
    by_cases hne : b = a
    · subst hne; rw [upd_same] at hb; cases hb; exact ho
    · rw [upd_ne hne] at hb; exact A.gh b u hb
/-- one value becomes a datum -/
theorem toD_run {v : V} {p : PV} {d : RD} {S' : Sg} (A : Abs E F Γ H σ S) (r : Pp E F σ Γ v p) (e : toD p S = .ok d S') : ∃ Γ', Γ.Le Γ' ∧ Abs E F Γ' H σ S' ∧ Rp E Γ' v d := by
  cases r with
  | exc => cases e
  | d r => cases e; exact ⟨Γ, Gd.Le.refl _, A, r⟩
  | @sl _ i h =>
    unfold toD at e
    cases q : S.sl[i]? with
    | none => simp only [q] at e; cases e
    | some s =>
      simp only [q] at e
      cases s with
      | own c =>
        cases e
        obtain ⟨Γ', a, l, h1, r1, A1⟩ := A.give q
        rw [h] at h1
        cases h1
        exact ⟨Γ', l, A1, r1⟩
      | dat d =>
        cases e
        obtain ⟨u, h1, h2⟩ := A.dat i d q
        rw [h] at h1
        cases h1
        exact ⟨Γ, Gd.Le.refl _, A, h2⟩
      | un => cases e
      | exc => cases e
theorem toD_noex {p : PV} {e : Exn} {S' : Sg} : toD p S ≠ .ex e S' := fun h => by
  unfold toD at h
  split at h
  · cases h
  · split at h <;> cases h
  · cases h
theorem toDs_run : ∀ {vs : List V} {ps : List PV} {ds : List RD} {Γ : Gd} {S S' : Sg}, Abs E F Γ H σ S → PpAll E F σ Γ vs ps → toDs ps S = .ok ds S' → ∃ Γ', Γ.Le Γ' ∧ Abs E F Γ' H σ S' ∧ RpAll E Γ' vs ds
  | _, [], _, Γ, _, _, A, .nil, e => by cases e; exact ⟨Γ, Gd.Le.refl _, A, .nil⟩
  | _, p :: ps, ds, Γ, S, S', A, .cons r rs, e => by
    unfold toDs at e
    cases e1 : toD p S with
    | st => rw [e1] at e; cases e
    | ex x S1 => exact absurd e1 toD_noex
    | ok d S1 =>
      rw [e1, Rr.bind_ok] at e
      cases e2 : toDs ps S1 with
      | st => rw [e2] at e; cases e
      | ex x S2 => rw [e2] at e; cases e
      | ok es S2 =>
        rw [e2, Rr.bind_ok] at e
        cases e
        obtain ⟨Γ1, l1, A1, r1⟩ := toD_run A r e1
        obtain ⟨Γ2, l2, A2, r2⟩ := toDs_run A1 (rs.mono l1) e2
        exact ⟨Γ2, l1.trans l2, A2, .cons (r1.mono l2) r2⟩
theorem toDs_noex : ∀ {ps : List PV} {S : Sg} {e : Exn} {S' : Sg}, toDs ps S ≠ .ex e S'
  | [], _, _, _, h => by cases h
  | p :: ps, S, e, S', h => by
    unfold toDs at h
    cases e1 : toD p S with
    | st => rw [e1] at h; cases h
    | ex x S1 => exact absurd e1 toD_noex
    | ok d S1 =>
      rw [e1, Rr.bind_ok] at h
      cases e2 : toDs ps S1 with
      | st => rw [e2] at h; cases h
      | ex x S2 => exact absurd e2 toDs_noex
      | ok es S2 => rw [e2] at h; cases h
/-- all of them, then what follows -/
theorem toDs_bind {α β : Type} {W : WX} {rel : Gd → Hp → β → α → Prop} {run : (β → Hp → Prop) → Prop} {vs : List V} {ps : List PV} {f : List RD → Sg → Rr α} (A : Abs E F Γ H σ S) (r : PpAll E F σ Γ vs ps)
    (h : ∀ ds S' Γ', Γ.Le Γ' → Abs E F Γ' H σ S' → RpAll E Γ' vs ds → RunR E W F Γ' σ rel run (f ds S')) : RunR E W F Γ σ rel run ((toDs ps S).bind f) := by
  cases e : toDs ps S with
  | st => trivial
  | ex x S1 => exact absurd e toDs_noex
  | ok ds S1 =>
    obtain ⟨Γ', l, A', r'⟩ := toDs_run A r e
    exact RunR.weak l (h ds S1 Γ' l A' r')
end
section
variable {E : En} {W : WX} {ta : TA} {m : MA}
theorem se_tup (ha : SA E W ta m) : SE E W (tTup ta) (mTup m) := fun F Γ H σ S A =>
  RunR.bind (fun Q xs H1 => xs.length ≤ sizeLine ∧ ∀ p, H1 p = none → Q (.ref p) (upd H1 p (.tup xs))) (fun Q h => h) (ha F Γ H σ S A) fun ps S1 vs Γ1 H1 _ l1 A1 r1 =>
    toDs_bind A1 r1 fun ds S2 Γ2 l2 A2 r2 => by
      split
      · rename_i hl
        refine RunR.step A2 fun Q q => ⟨Evl.sz_of (by rw [r2.length]; exact hl), fun p hp => ?_⟩
        have sn := Sx.new (o := .tup vs) A2.gh hp
        exact q _ _ _ sn (.tup upd_same (r2.mono sn.le))
      · trivial
theorem se_lst (ha : SA E W ta m) : SE E W (tLst ta) (mLst m) := fun F Γ H σ S A =>
  RunR.bind (fun Q xs H1 => xs.length ≤ sizeLine ∧ ∀ p, H1 p = none → Q (.ref p) (upd H1 p (.lst xs))) (fun Q h => h) (ha F Γ H σ S A) fun ps S1 vs Γ1 H1 _ l1 A1 r1 =>
    toDs_bind A1 r1 fun ds S2 Γ2 l2 A2 r2 => by
      split
      · rename_i hl
        refine RunR.step A2 fun Q q => ⟨Evl.sz_of (by rw [r2.length]; exact hl), fun p hp => ?_⟩
        have sn := Sx.new (o := .lst vs) A2.gh hp
        exact q _ _ _ sn (.lst upd_same (r2.mono sn.le))
      · trivial
/-- a new cell -/
theorem Abs.cell {F : Fr} {Γ : Gd} {H : Hp} {σ : L2.St} {S : Sg} {p : Addr} {o : HO} {c : Cell} (A : Abs E F Γ H σ S) (hp : H p = none) (hc : CellAt E Γ (upd H p o) p c) : Γ.Le ⟨Γ.g, Γ.m ++ [p]⟩ ∧ Abs E F ⟨Γ.g, Γ.m ++ [p]⟩ (upd H p o) σ { S with ce := S.ce ++ [c] } := by
  have le : Γ.Le ⟨Γ.g, Γ.m ++ [p]⟩ := ⟨Evl.Ex.refl _, List.prefix_append ..⟩
  have gp : Γ.g p = none := Evl.fresh_back A.gh hp
  have ne : ∀ {b : Addr} {u : HO}, H b = some u → b ≠ p := fun h z => by subst z; rw [hp] at h; cases h
  have key : ∀ {b : Addr} {c : Cell}, CellAt E Γ H b c → b ≠ p ∧ CellAt E ⟨Γ.g, Γ.m ++ [p]⟩ (upd H p o) b c := fun {b c} h => by
    obtain ⟨u, hu⟩ := h.there
    exact ⟨ne hu, h.mono le (upd_ne (ne hu))⟩
  have hm : p ∉ Γ.m := fun h => by
    obtain ⟨k, hk, e⟩ := List.mem_iff_getElem.mp h
    have hk2 : k < S.ce.length := by rw [← A.ml]; exact hk
    obtain ⟨a, h1, _, h3⟩ := A.cel k _ (List.getElem?_eq_getElem hk2)
    rw [List.getElem?_eq_getElem hk, e] at h1
    cases h1
    exact (key h3).1 rfl
  refine ⟨le, fun a u h hx => ?_, A.le.trans le, A.fn, fun a h => ?_, fun b u h => ?_, ?_, by simp [A.ml], fun k c' h => ?_, A.len, fun i d h => ?_, fun i c' h => ?_, A.sep, A.exs, fun e h => ⟨(A.exn e h).1, (A.exn e h).2.mono le fun b u h => ?_⟩, fun a h => ?_⟩
  · have q := A.fh a u h hx
    rw [upd_ne (ne q)]; exact q
  · rcases List.mem_append.mp h with h | h
    · exact A.fc a h
    · rw [List.mem_singleton] at h
      subst h
      by_cases hx : a ∈ F.ex
      · exact .inl hx
      · refine .inr ?_
        cases e : F.H a with
        | none => rfl
        | some u => rw [A.fh a u e hx] at hp; cases hp
  · have q := A.gh b u h
    rw [upd_ne (ne q)]; exact q
  · rw [List.nodup_append]
    exact ⟨A.nd, by simp, fun a ha b hb => by rw [List.mem_singleton] at hb; subst hb; exact fun z => hm (by rw [← z]; exact ha)⟩
  · by_cases hk : k < S.ce.length
    · rw [List.getElem?_append_left hk] at h
      obtain ⟨a, h1, h2, h3⟩ := A.cel k c' h
      exact ⟨a, pre_get le.m h1, h2, (key h3).2⟩
    · rw [List.getElem?_append_right (by omega)] at h
      have hk0 : k - S.ce.length = 0 := by
        have := (List.getElem?_eq_some_iff.mp h).1
        simp at this; omega
      rw [hk0] at h
      cases h
      have hk1 : k = Γ.m.length := by rw [A.ml]; omega
      refine ⟨p, ?_, gp, hc.mono le rfl⟩
      subst hk1
      show (Γ.m ++ [p])[Γ.m.length]? = some p
      simp
  · obtain ⟨v, h1, h2⟩ := A.dat i d h
    exact ⟨v, h1, h2.mono le⟩
  · obtain ⟨a, h1, h2, h3, h4, h5⟩ := A.own i c' h
    refine ⟨a, h1, h2, fun h => ?_, h4, (key h5).2⟩
    rcases List.mem_append.mp h with h | h
    · exact h3 h
    · rw [List.mem_singleton] at h; exact (key h5).1 h
  · have q := A.gh b u h
    rw [upd_ne (ne q)]; exact q
  · obtain ⟨u, hu⟩ := A.fx a h
    exact ⟨u, by rw [upd_ne (ne hu)]; exact hu⟩
theorem se_lstC (ha : SA E W ta m) : SE E W (tLst ta) (mLstC m) := fun F Γ H σ S A =>
  RunR.bind (fun Q xs H1 => xs.length ≤ sizeLine ∧ ∀ p, H1 p = none → Q (.ref p) (upd H1 p (.lst xs))) (fun Q h => h) (ha F Γ H σ S A) fun ps S1 vs Γ1 H1 _ l1 A1 r1 =>
    toDs_bind A1 r1 fun ds S2 Γ2 l2 A2 r2 => by
      split
      · rename_i hl
        refine fun Q q => ⟨Evl.sz_of (by rw [r2.length]; exact hl), fun p hp => ?_⟩
        obtain ⟨l3, A3⟩ := A2.cell (o := .lst vs) hp (.lst upd_same r2)
        refine q _ _ _ l3 A3 (.d (.loc ?_))
        rw [← A2.ml]
        simp
      · trivial
theorem sa_star {te : TE} {a : ME} {tr : TA} {r : MA} (ha : SE E W te a) (hr : SA E W tr r) : SA E W (StX.tStar E.K te tr) (aStar a r) := fun F Γ H σ S A =>
  RunR.bind (fun Q x H1 => ∃ p xs, x = V.ref p ∧ (SqT E.K H1 p xs ∨ SqL E.K H1 p xs) ∧ tr σ H1 fun ys H2 => Q (xs ++ ys) H2) (fun Q h => h) (ha F Γ H σ S A) fun p S1 x Γ1 H1 _ l1 A1 r1 => by
    have go : ∀ {b : Addr} {xs : List V} {ds : List RD}, x = .ref b → (SqT E.K H1 b xs ∨ SqL E.K H1 b xs) → RpAll E Γ1 xs ds →
        RunR E W F Γ1 σ (RPA E F σ) (fun Q => ∃ p xs, x = V.ref p ∧ (SqT E.K H1 p xs ∨ SqL E.K H1 p xs) ∧ tr σ H1 fun ys H2 => Q (xs ++ ys) H2) ((r S1).bind fun ps S2 => .ok (ds.map .d ++ ps) S2) := fun {b xs ds} e h ra =>
      RunR.bind (fun Q ys H2 => Q (xs ++ ys) H2) (fun Q q => ⟨b, xs, e, h, q⟩) (hr F Γ1 H1 σ S1 A1) fun ps S2 ys Γ2 H2 _ l2 A2 r2 => RunR.pure A2 ((PpAll.ds (ra.mono l2)).append r2) fun Q q => q
    split
    · rename_i ds e
      obtain ⟨b, xs, rfl, h1, h2⟩ := deref_tup A1 r1 e
      exact go rfl (.inl h1) h2
    · rename_i d _ e
      split
      · rename_i ds es
        obtain ⟨b, xs, rfl, h1, h2⟩ := deref_seq A1 r1 e es
        exact go rfl (.inr h1) h2
      · trivial
    · trivial
end
end RS

set_option Elab.async false
set_option linter.all false
set_option maxRecDepth 100000
set_option maxHeartbeats 2000000
namespace RS
open PySem PySem.Spec PyProof.Rows L2
open Evl (Ex)

/-! ### operations by the data as they stand -/
def retO (o : Option RD) (S : Sg) : Rr PV := match o with
  | some d => .ok (.d d) S
  | none => .st
def lift1 (f : RD → Option RD) : M1 := fun p S => match deref S p with
  | some a => retO (f a) S
  | none => .st
def lift2 (f : RD → RD → Option RD) : M2 := fun p q S => match deref S p, deref S q with
  | some a, some b => retO (f a b) S
  | _, _ => .st
def derefs (S : Sg) : List PV → Option (List RD)
  | [] => some []
  | p :: ps => match deref S p, derefs S ps with
    | some a, some r => some (a :: r)
    | _, _ => none
def liftL (f : List RD → Option RD) : ML := fun ps S => match derefs S ps with
  | some as => retO (f as) S
  | none => .st
/-- what stands where, of a value as it is -/
structure At (E : En) (F : Fr) (Γ : Gd) (H : Hp) (σ : L2.St) (S : Sg) (x : V) (p : PV) (a : RD) : Prop where
  A : Abs E F Γ H σ S
  r : Pp E F σ Γ x p
  e : deref S p = some a
inductive AtAll (E : En) (F : Fr) (Γ : Gd) (H : Hp) (σ : L2.St) (S : Sg) : List V → List PV → List RD → Prop
  | nil : AtAll E F Γ H σ S [] [] []
  | cons {x : V} {p : PV} {a : RD} {xs : List V} {ps : List PV} {as : List RD} : At E F Γ H σ S x p a → AtAll E F Γ H σ S xs ps as → AtAll E F Γ H σ S (x :: xs) (p :: ps) (a :: as)
abbrev Wish (E : En) (Γ : Gd) (H : Hp) (d : RD) (Q : VK) : Prop := ∀ v Γ' H', Sx Γ H Γ' H' → Rp E Γ' v d → Q v H'
section
variable {E : En} {W : WX} {F : Fr} {Γ : Gd} {H : Hp} {σ : L2.St} {S : Sg} {x : V} {p : PV} {a : RD}
theorem At.int {i : Int} (h : At E F Γ H σ S x p (.int i)) : x = .int i := (deref_flat h.A h.r h.e rfl).int_inv
theorem At.bl {i : Bool} (h : At E F Γ H σ S x p (.bl i)) : x = .bl i := (deref_flat h.A h.r h.e rfl).bl_inv
theorem At.str {i : Str} (h : At E F Γ H σ S x p (.str i)) : x = .str i := (deref_flat h.A h.r h.e rfl).str_inv
theorem At.non (h : At E F Γ H σ S x p .non) : x = .non := (deref_flat h.A h.r h.e rfl).non_inv
theorem At.ty {n : String} (h : At E F Γ H σ S x p (.ty n)) : x = .ty n := by cases deref_flat h.A h.r h.e rfl; rfl
theorem At.cls {n : Str} (h : At E F Γ H σ S x p (.cls n)) : x = .ref (E.cl n) := by cases deref_flat h.A h.r h.e rfl; rfl
theorem At.lst {ds : List RD} (h : At E F Γ H σ S x p (.lst ds)) : ∃ a xs, x = .ref a ∧ H a = some (.lst xs) ∧ RpAll E Γ xs ds := deref_lst h.A h.r h.e
theorem At.seq {d : RD} {ds : List RD} (h : At E F Γ H σ S x p d) (hs : seqOf d = some ds) : ∃ a xs, x = .ref a ∧ SqL E.K H a xs ∧ RpAll E Γ xs ds := deref_seq h.A h.r h.e hs
theorem At.tup {ds : List RD} (h : At E F Γ H σ S x p (.tup ds)) : ∃ a xs, x = .ref a ∧ SqT E.K H a xs ∧ RpAll E Γ xs ds := deref_tup h.A h.r h.e
theorem At.scr {ns : List Int} (h : At E F Γ H σ S x p (.scr ns)) : ∃ a, x = .ref a ∧ SqL E.K H a (ns.map V.int) := by
  rcases deref_cases h.A h.r h.e with ⟨r, _⟩ | ⟨a, c, rfl, e, q⟩
  · cases r with
    | scr hs => exact ⟨_, rfl, Evl.ex_l h.A.gh hs⟩
  · cases q <;> cases e
theorem At.flat (h : At E F Γ H σ S x p a) (hf : a.flat = true) : Rp E Γ x a := deref_flat h.A h.r h.e hf
theorem su_lift {r : V → Hp → VK → Prop} {f : RD → Option RD} (h : ∀ {F Γ H σ S x p a d}, At E F Γ H σ S x p a → f a = some d → ∀ Q : VK, Wish E Γ H d Q → r x H Q) : SU E W r (lift1 f) := fun F Γ H σ S x p A r1 => by
  unfold lift1
  cases e : deref S p with
  | none => trivial
  | some a =>
    show RunR _ _ _ _ _ _ _ (retO (f a) S)
    cases e1 : f a with
    | none => trivial
    | some d => exact RunR.step A (h ⟨A, r1, e⟩ e1)
theorem so_lift {r : R2} {f : RD → RD → Option RD} (h : ∀ {F Γ H σ S x y p q a b d}, At E F Γ H σ S x p a → At E F Γ H σ S y q b → f a b = some d → ∀ Q : VK, Wish E Γ H d Q → r x y H Q) : SO E W r (lift2 f) := fun F Γ H σ S x y p q A r1 r2 => by
  unfold lift2
  cases e1 : deref S p with
  | none => trivial
  | some a =>
    cases e2 : deref S q with
    | none => trivial
    | some b =>
      show RunR _ _ _ _ _ _ _ (retO (f a b) S)
      cases e3 : f a b with
      | none => trivial
      | some d => exact RunR.step A (h ⟨A, r1, e1⟩ ⟨A, r2, e2⟩ e3)
theorem derefs_at (A : Abs E F Γ H σ S) : ∀ {xs : List V} {ps : List PV} {as : List RD}, PpAll E F σ Γ xs ps → derefs S ps = some as → AtAll E F Γ H σ S xs ps as
  | _, [], _, .nil, e => by cases e; exact .nil
  | _, p :: ps, as, .cons r rs, e => by
    unfold derefs at e
    cases e1 : deref S p with
    | none => rw [e1] at e; cases e
    | some a =>
      cases e2 : derefs S ps with
      | none => rw [e1, e2] at e; cases e
      | some r => rw [e1, e2] at e; cases e; exact .cons ⟨A, by assumption, e1⟩ (derefs_at A rs e2)
theorem sc_lift {r : List V → Hp → VK → Prop} {f : List RD → Option RD} (h : ∀ {F Γ H σ S xs ps as d}, Abs E F Γ H σ S → AtAll E F Γ H σ S xs ps as → f as = some d → ∀ Q : VK, Wish E Γ H d Q → r xs H Q) : SC E W r (liftL f) := fun F Γ H σ S xs ps A r1 => by
  unfold liftL
  cases e : derefs S ps with
  | none => trivial
  | some as =>
    show RunR _ _ _ _ _ _ _ (retO (f as) S)
    cases e1 : f as with
    | none => trivial
    | some d => exact RunR.step A (h A (derefs_at A r1 e) e1)
/-- answers that need no new object -/
theorem Wish.val {v : V} {d : RD} {Q : VK} (A : Abs E F Γ H σ S) (q : Wish E Γ H d Q) (r : Rp E Γ v d) : Q v H := q v Γ H (Sx.refl A.gh) r
theorem Wish.lst {xs : List V} {ds : List RD} {Q : VK} (A : Abs E F Γ H σ S) (q : Wish E Γ H (.lst ds) Q) (r : RpAll E Γ xs ds) (p : Addr) (hp : H p = none) : Q (.ref p) (upd H p (.lst xs)) :=
  have sn := Sx.new (o := .lst xs) A.gh hp
  q _ _ _ sn (.lst upd_same (r.mono sn.le))
theorem Wish.tup {xs : List V} {ds : List RD} {Q : VK} (A : Abs E F Γ H σ S) (q : Wish E Γ H (.tup ds) Q) (r : RpAll E Γ xs ds) (p : Addr) (hp : H p = none) : Q (.ref p) (upd H p (.tup xs)) :=
  have sn := Sx.new (o := .tup xs) A.gh hp
  q _ _ _ sn (.tup upd_same (r.mono sn.le))
end
/-! ### the operators -/
def OpQ (X : Cx) (E : En) (W : WX) (f : Value → Value → Sem Value) (g : M2) : Prop := ∃ r, OpR X f r ∧ SO E W r g
def fAdd : RD → RD → Option RD
  | .int i, .int j => some (.int (i + j))
  | .str x, .str y => if x.length + y.length ≤ 100000 then some (.str (x ++ y)) else none
  | .lst a, .lst b => if a.length + b.length ≤ 100000 then some (.lst (a ++ b)) else none
  | .tup a, .tup b => if a.length + b.length ≤ 100000 then some (.tup (a ++ b)) else none
  | _, _ => none
def fSub : RD → RD → Option RD
  | .int i, .int j => some (.int (i - j))
  | _, _ => none
/-- how large the factors may be -/
def okMul (i j : Int) : Prop := i.natAbs.log2 + j.natAbs.log2 < 134000000
instance (i j : Int) : Decidable (okMul i j) := inferInstanceAs (Decidable (_ < _))
def okDiv (j : Int) : Prop := 0 < j ∧ j.natAbs.log2 < 9000
instance (j : Int) : Decidable (okDiv j) := inferInstanceAs (Decidable (_ ∧ _))
def fMul : RD → RD → Option RD
  | .int i, .int j => if okMul i j then some (.int (i * j)) else none
  | _, _ => none
def fDiv : RD → RD → Option RD
  | .int i, .int j => if okDiv j then some (.int (i / j)) else none
  | _, _ => none
def fMod : RD → RD → Option RD
  | .int i, .int j => if 0 < j then some (.int (i % j)) else none
  | _, _ => none
def fPow : RD → RD → Option RD
  | .int i, .int j => if 0 ≤ j ∧ j ≤ 1000000 ∧ i.natAbs < 2 ^ 64 then some (.int (i ^ j.toNat)) else none
  | _, _ => none
def strLt (x y : Str) : Bool := decide (x.cps.toList < y.cps.toList)
def fLt : RD → RD → Option RD
  | .int i, .int j => some (.bl (decide (i < j)))
  | .str i, .str j => some (.bl (strLt i j))
  | _, _ => none
def fLe : RD → RD → Option RD
  | .int i, .int j => some (.bl (decide (i ≤ j)))
  | .str i, .str j => some (.bl (!strLt j i))
  | _, _ => none
def fGt : RD → RD → Option RD
  | .int i, .int j => some (.bl (decide (j < i)))
  | .str i, .str j => some (.bl (strLt j i))
  | _, _ => none
def fGe : RD → RD → Option RD
  | .int i, .int j => some (.bl (decide (j ≤ i)))
  | .str i, .str j => some (.bl (!strLt i j))
  | _, _ => none
section
variable {X : Cx} {E : En} {W : WX}
theorem okMul.ok {i j : Int} (h : okMul i j) : IntMulOk i j := by
  have b : ∀ x : Int, Builtin.Int.intBits x ≤ x.natAbs.log2 + 1 := fun x => by unfold Builtin.Int.intBits; split <;> omega
  have h1 := b i
  have h2 := b j
  unfold okMul at h
  intro z
  simp only [Bool.and_eq_true, Builtin.Int.intTooBig, decide_eq_true_eq, show bitsLine = 134217728 from by decide] at z
  omega
theorem op_mulH : OpR X (binaryOp .Mult) (rI okMul fun i j => .int (i * j)) := opI fun _ _ _ _ _ _ _ hc q => mul_int q hc.ok
theorem oq_add (hK : X.K = E.K) : OpQ X E W (binaryOp .Add) (lift2 fAdd) := by
  refine ⟨_, op_add.or (op_add_str.or (op_cat.or op_catA)), so_lift fun {F Γ H σ S x y p q a b d} h1 h2 e Q w => ?_⟩
  rw [hK]
  unfold fAdd at e
  split at e
  · cases e; exact .inl ⟨_, _, h1.int, h2.int, w.val h1.A (.int _)⟩
  · split at e
    · cases e; exact .inr (.inl ⟨_, _, h1.str, h2.str, Evl.sz_of (by assumption), w.val h1.A (.str _)⟩)
    · cases e
  · split at e
    · cases e
      obtain ⟨a1, xs, rfl, s1, r1⟩ := h1.lst
      obtain ⟨a2, ys, rfl, s2, r2⟩ := h2.lst
      exact .inr (.inr (.inl ⟨a1, a2, xs, ys, rfl, rfl, s1, s2, Evl.sz_of (by rw [r1.length, r2.length]; assumption), w.lst h1.A (r1.append r2)⟩))
    · cases e
  · split at e
    · cases e
      rename_i as bs hl
      obtain ⟨a1, xs, e1, s1, r1⟩ := h1.tup
      obtain ⟨a2, ys, e2, s2, r2⟩ := h2.tup
      have k1 := h1.flat
      refine .inr (.inr (.inr ⟨a1, a2, xs, ys, e1, e2, s1, s2, Evl.sz_of (by rw [r1.length, r2.length]; assumption), fun z => ?_, fun _ z => ?_, fun _ _ => w.tup h1.A (r1.append r2)⟩))
      · subst z
        cases r1
        subst e2
        rcases deref_cases h2.A h2.r h2.e with ⟨r, _⟩ | ⟨a, c, _, e, q⟩
        · exact w.val h2.A r
        · cases q <;> cases e
      · subst z
        cases r2
        subst e1
        rw [List.append_nil] at w
        rcases deref_cases h1.A h1.r h1.e with ⟨r, _⟩ | ⟨a, c, _, e, q⟩
        · exact w.val h1.A r
        · cases q <;> cases e
    · cases e
  · cases e
theorem oq_sub : OpQ X E W (binaryOp .Sub) (lift2 fSub) := by
  refine ⟨_, op_sub, so_lift fun h1 h2 e Q w => ?_⟩
  unfold fSub at e
  split at e
  · cases e; exact ⟨_, _, h1.int, h2.int, w.val h1.A (.int _)⟩
  · cases e
theorem oq_mul : OpQ X E W (binaryOp .Mult) (lift2 fMul) := by
  refine ⟨_, op_mulH, so_lift fun h1 h2 e Q w => ?_⟩
  unfold fMul at e
  split at e
  · split at e
    · cases e; exact ⟨_, _, h1.int, h2.int, by assumption, w.val h1.A (.int _)⟩
    · cases e
  · cases e
theorem oq_div : OpQ X E W (binaryOp .FloorDiv) (lift2 fDiv) := by
  refine ⟨_, op_fdivW, so_lift fun h1 h2 e Q w => ?_⟩
  unfold fDiv at e
  split at e
  · split at e
    · cases e; exact ⟨_, _, h1.int, h2.int, by assumption, w.val h1.A (.int _)⟩
    · cases e
  · cases e
theorem oq_mod : OpQ X E W (binaryOp .Mod) (lift2 fMod) := by
  refine ⟨_, op_mod, so_lift fun h1 h2 e Q w => ?_⟩
  unfold fMod at e
  split at e
  · split at e
    · cases e; exact ⟨_, _, h1.int, h2.int, by assumption, w.val h1.A (.int _)⟩
    · cases e
  · cases e
theorem oq_pow : OpQ X E W (binaryOp .Pow) (lift2 fPow) := by
  refine ⟨_, op_pow, so_lift fun h1 h2 e Q w => ?_⟩
  unfold fPow at e
  split at e
  · split at e
    · cases e; exact ⟨_, _, h1.int, h2.int, by assumption, w.val h1.A (.int _)⟩
    · cases e
  · cases e
theorem oq_lt : OpQ X E W (compareOp .Lt) (lift2 fLt) := by
  refine ⟨_, op_lt.or op_lt_str, so_lift fun h1 h2 e Q w => ?_⟩
  unfold fLt at e
  split at e
  · cases e; exact .inl ⟨_, _, h1.int, h2.int, w.val h1.A (.bl _)⟩
  · cases e; exact .inr ⟨_, _, h1.str, h2.str, w.val h1.A (.bl _)⟩
  · cases e
theorem oq_le : OpQ X E W (compareOp .LtE) (lift2 fLe) := by
  refine ⟨_, op_le.or op_le_str, so_lift fun h1 h2 e Q w => ?_⟩
  unfold fLe at e
  split at e
  · cases e; exact .inl ⟨_, _, h1.int, h2.int, w.val h1.A (.bl _)⟩
  · cases e; exact .inr ⟨_, _, h1.str, h2.str, w.val h1.A (.bl _)⟩
  · cases e
theorem oq_gt : OpQ X E W (compareOp .Gt) (lift2 fGt) := by
  refine ⟨_, op_gt.or op_gt_str, so_lift fun h1 h2 e Q w => ?_⟩
  unfold fGt at e
  split at e
  · cases e; exact .inl ⟨_, _, h1.int, h2.int, w.val h1.A (.bl _)⟩
  · cases e; exact .inr ⟨_, _, h1.str, h2.str, w.val h1.A (.bl _)⟩
  · cases e
theorem oq_ge : OpQ X E W (compareOp .GtE) (lift2 fGe) := by
  refine ⟨_, op_ge.or op_ge_str, so_lift fun h1 h2 e Q w => ?_⟩
  unfold fGe at e
  split at e
  · cases e; exact .inl ⟨_, _, h1.int, h2.int, w.val h1.A (.bl _)⟩
  · cases e; exact .inr ⟨_, _, h1.str, h2.str, w.val h1.A (.bl _)⟩
  · cases e
end
/-! ### == -/
mutual
/-- the cells' contents in the places of their names -/
def RD.unl (ce : List Cell) : RD → RD
  | .tup ds => .tup (RD.unls ce ds)
  | .lst ds => .lst (RD.unls ce ds)
  | .loc k => match ce[k]? with
    | some c => c.rd
    | none => .loc k
  | d => d
def RD.unls (ce : List Cell) : List RD → List RD
  | [] => []
  | d :: ds => RD.unl ce d :: RD.unls ce ds
end
mutual
def RD.py : RD → Option PyData
  | .non => some .none
  | .bl b => some (.bool b)
  | .int i => some (.int i)
  | .str x => some (.str x)
  | .tup ds => (RD.pys ds).map .tuple
  | .lst ds => (RD.pys ds).map .list
  | .scr ns => some (.list (ns.map .int))
  | _ => none
def RD.pys : List RD → Option (List PyData)
  | [] => some []
  | d :: ds => match RD.py d, RD.pys ds with
    | some p, some ps => some (p :: ps)
    | _, _ => none
end
section
variable {E : En} {W : WX} {F : Fr} {Γ : Gd} {H : Hp} {σ : L2.St} {S : Sg} {x : V} {p : PV} {a : RD}
mutual
theorem Rp.dp : ∀ {v : V} {d : RD} {p : PyData}, Rp E Γ v d → RD.py d = some p → Dp E.K Γ.g v p
  | _, _, _, .non, h => by cases h; exact .non
  | _, _, _, .bl b, h => by cases h; exact .bl b
  | _, _, _, .int i, h => by cases h; exact .int i
  | _, _, _, .str x, h => by cases h; exact .str x
  | _, .tup ds, p, .tup s r, h => by
    simp only [RD.py] at h
    cases e : RD.pys ds with
    | none => rw [e] at h; cases h
    | some ps => rw [e] at h; cases h; exact .tup (Evl.st_of s) (RpAll.dp r e)
  | _, _, p, .ktup (ns := ns) s, h => by
    simp only [RD.py] at h
    cases e : RD.pys (ns.map RD.int) with
    | none => rw [e] at h; cases h
    | some ps => rw [e] at h; cases h; exact .tup s (RpAll.dp (RpAll.ints (E := E) (Γ := Γ) ns) e)
  | _, .lst ds, p, .lst s r, h => by
    simp only [RD.py] at h
    cases e : RD.pys ds with
    | none => rw [e] at h; cases h
    | some ps => rw [e] at h; cases h; exact .lst (Evl.sq_of s) (RpAll.dp r e)
  | _, .scr ns, p, .scr s, h => by
    cases h
    refine .lst s ?_
    induction ns with
    | nil => exact .nil
    | cons n r ih => exact .cons (.int n) (by
        clear ih s
        induction r with
        | nil => exact .nil
        | cons m r ih => exact .cons (.int m) ih)
  | _, _, _, .dk _ _ _ _, h => by cases h
  | _, _, _, .dt _ _ _ _, h => by cases h
  | _, _, _, .obj _ _ _ _, h => by cases h
  | _, _, _, .fk _ _ _ _, h => by cases h
  | _, _, _, .ft _ _ _ _, h => by cases h
  | _, _, _, .ty _, h => by cases h
  | _, _, _, .cls _, h => by cases h
  | _, _, _, .fn _, h => by cases h
  | _, _, _, .loc _, h => by cases h
theorem RpAll.dp : ∀ {vs : List V} {ds : List RD} {ps : List PyData}, RpAll E Γ vs ds → RD.pys ds = some ps → DpAll E.K Γ.g vs ps
  | _, _, _, .nil, h => by cases h; exact .nil
  | _, d :: ds, ps, .cons a b, h => by
    simp only [RD.pys] at h
    cases e1 : RD.py d with
    | none => rw [e1] at h; cases h
    | some q => cases e2 : RD.pys ds with
      | none => rw [e1, e2] at h; cases h
      | some qs => rw [e1, e2] at h; cases h; exact .cons (Rp.dp a e1) (RpAll.dp b e2)
end
theorem unls_ints {ce : List Cell} : ∀ ns : List Int, RD.unls ce (ns.map RD.int) = ns.map RD.int
  | [] => rfl
  | n :: r => by simp only [List.map_cons, RD.unls, RD.unl, unls_ints r]
mutual
theorem Rp.unl (A : Abs E F Γ H σ S) : ∀ {v : V} {d : RD}, Rp E ⟨H, Γ.m⟩ v d → Rp E ⟨H, Γ.m⟩ v (d.unl S.ce)
  | _, _, .non => .non
  | _, _, .bl b => .bl b
  | _, _, .int i => .int i
  | _, _, .str x => .str x
  | _, _, .tup h r => by unfold RD.unl; exact .tup h (RpAll.unl A r)
  | _, _, .ktup (ns := ns) h => by
    unfold RD.unl
    rw [unls_ints]; exact .ktup h
  | _, _, .lst h r => by unfold RD.unl; exact .lst h (RpAll.unl A r)
  | _, _, .scr h => .scr h
  | _, _, .dk h a b r => .dk h a b r
  | _, _, .dt h a b r => .dt h a b r
  | _, _, .obj h a b r => .obj h a b r
  | _, _, .fk h a b r => .fk h a b r
  | _, _, .ft h a b r => .ft h a b r
  | _, _, .ty n => .ty n
  | _, _, .cls c => .cls c
  | _, _, .fn c => .fn c
  | _, _, .loc (k := k) h => by
    unfold RD.unl
    cases e : S.ce[k]? with
    | none => simp only; exact .loc h
    | some c =>
      have le : Γ.Le ⟨H, Γ.m⟩ := ⟨A.gh, List.prefix_rfl⟩
      obtain ⟨b, h1, _, h3⟩ := A.cel k c e
      rw [h] at h1
      cases h1
      obtain ⟨o, ho, hr⟩ := h3.obj_rp
      exact hr _ le ho
theorem RpAll.unl (A : Abs E F Γ H σ S) : ∀ {vs : List V} {ds : List RD}, RpAll E ⟨H, Γ.m⟩ vs ds → RpAll E ⟨H, Γ.m⟩ vs (RD.unls S.ce ds)
  | _, _, .nil => .nil
  | _, _, .cons a b => .cons (Rp.unl A a) (RpAll.unl A b)
end
end
def scalR : RD → Option V
  | .int i => some (.int i)
  | .bl b => some (.bl b)
  | .str x => some (.str x)
  | .non => some .non
  | _ => none
/-- the data that == reads -/
def resD (ce : List Cell) (a : RD) : Option PyData := ((a.unl ce).unl ce).py
def eqB (ce : List Cell) (a b : RD) : Option Bool := match scalR a, scalR b with
  | some x, some y => if scal x y = true then some (decide (x = y)) else none
  | _, _ => match resD ce a, resD ce b with
    | some u, some v => if SeqAt.shaped u = true ∧ SeqAt.shaped v = true then some (PyData.eqv u v) else none
    | _, _ => none
def mEq : M2 := fun p q S => match deref S p, deref S q with
  | some a, some b => retO ((eqB S.ce a b).map .bl) S
  | _, _ => .st
def mNe : M2 := fun p q S => match deref S p, deref S q with
  | some a, some b => retO ((eqB S.ce a b).map fun c => .bl (!c)) S
  | _, _ => .st
def fIs : RD → RD → Option RD
  | .non, .non => some (.bl true)
  | .bl a, .bl b => some (.bl (decide (a = b)))
  | .bl _, .non => some (.bl false)
  | .int _, .non => some (.bl false)
  | .str _, .non => some (.bl false)
  | .tup _, .non => some (.bl false)
  | .lst _, .non => some (.bl false)
  | .dk _ _, .non => some (.bl false)
  | .obj _ _ _, .non => some (.bl false)
  | _, _ => none
def fIsNot (a b : RD) : Option RD := match fIs a b with
  | some (.bl c) => some (.bl (!c))
  | _ => none
/-- flat items -/
def flatVs : List RD → Option (List V)
  | [] => some []
  | d :: ds => match scalR d, flatVs ds with
    | some v, some vs => some (v :: vs)
    | _, _ => none
def itemsOf : RD → Option (List RD)
  | .tup ds => some ds
  | d => seqOf d
def inF (x d : RD) : Option Bool := match x, d with
  | .str c, .str z => match c.cps.toList with
    | [n] => some (decide (n ∈ z.cps.toList))
    | _ => none
  | x, d => match scalR x, (itemsOf d).bind flatVs with
    | some v, some vs => some (inV v vs)
    | _, _ => none
/-- of data in a list of data -/
def inD (ce : List Cell) (x d : RD) : Option Bool := match inF x d with
  | some b => some b
  | none => match resD ce x, resD ce d with
    | some u, some (.list us) => if SeqAt.shaped u = true ∧ SeqAt.shaped (.list us) = true then some (us.any fun z => PyData.eqv z u) else none
    | _, _ => none
def mIn (neg : Bool) : M2 := fun p q S => match deref S p, deref S q with
  | some a, some b => retO ((inD S.ce a b).map fun c => .bl (if neg then !c else c)) S
  | _, _ => .st
section
variable {E : En} {W : WX} {F : Fr} {Γ : Gd} {H : Hp} {σ : L2.St} {S : Sg} {x : V} {p : PV} {a : RD} {X : Cx}
theorem At.scal (h : At E F Γ H σ S x p a) {v : V} (e : scalR a = some v) : x = v := by
  cases a <;> cases e
  · exact h.non
  · exact h.bl
  · exact h.int
  · exact h.str
theorem At.dp (h : At E F Γ H σ S x p a) {u : PyData} (e : resD S.ce a = some u) : Dp E.K H x u :=
  (Rp.unl h.A (Rp.unl h.A (deref_all h.A h.r h.e))).dp e
theorem so_eq {r : R2} {g : M2} {neg : Bool} (hg : ∀ p q S, g p q S = match deref S p, deref S q with
    | some a, some b => retO ((eqB S.ce a b).map fun c => .bl (if neg then !c else c)) S
    | _, _ => .st)
    (h1 : ∀ x y H (Q : VK), scal x y = true → Q (.bl (if neg then !decide (x = y) else decide (x = y))) H → r x y H Q)
    (h2 : ∀ x y H u v (Q : VK), Dp E.K H x u → Dp E.K H y v → SeqAt.shaped u = true → SeqAt.shaped v = true → Q (.bl (if neg then !PyData.eqv u v else PyData.eqv u v)) H → r x y H Q) : SO E W r g := fun F Γ H σ S x y p q A r1 r2 => by
  rw [hg]
  cases e1 : deref S p with
  | none => trivial
  | some a =>
    cases e2 : deref S q with
    | none => trivial
    | some b =>
      show RunR _ _ _ _ _ _ _ (retO ((eqB S.ce a b).map fun c => .bl (if neg then !c else c)) S)
      cases e3 : eqB S.ce a b with
      | none => trivial
      | some c =>
        have a1 : At E F Γ H σ S x p a := ⟨A, r1, e1⟩
        have a2 : At E F Γ H σ S y q b := ⟨A, r2, e2⟩
        refine RunR.val A (.bl _) fun Q k => ?_
        unfold eqB at e3
        split at e3
        · rename_i u v eu ev
          have k1 := a1.scal eu
          have k2 := a2.scal ev
          subst k1 k2
          split at e3
          · rename_i hs; cases e3; exact h1 _ _ H Q hs k
          · cases e3
        · split at e3
          · rename_i u v eu ev
            split at e3
            · rename_i hs; cases e3; exact h2 _ _ H u v Q (a1.dp eu) (a2.dp ev) hs.1 hs.2 k
            · cases e3
          · cases e3
theorem oq_eq (hK : X.K = E.K) (hu : X.A.units + 64 < cLine) : OpQ X E W (compareOp .Eq) mEq :=
  ⟨_, op_eq.or (op_eqD hu), so_eq (neg := false) (fun _ _ _ => rfl) (fun x y H Q h k => .inl ⟨h, k⟩) fun x y H u v Q d1 d2 s1 s2 k => .inr (by rw [hK]; exact ⟨u, v, d1, d2, s1, s2, k⟩)⟩
theorem oq_ne (hK : X.K = E.K) (hu : X.A.units + 64 < cLine) : OpQ X E W (compareOp .NotEq) mNe :=
  ⟨_, op_ne.or (op_neD hu), so_eq (neg := true) (fun _ _ _ => rfl) (fun x y H Q h k => .inl ⟨h, k⟩) fun x y H u v Q d1 d2 s1 s2 k => .inr (by rw [hK]; exact ⟨u, v, d1, d2, s1, s2, k⟩)⟩
theorem At.ne_non (h : At E F Γ H σ S x p a) (e : fIs a .non = some (.bl false)) : x ≠ .non := by
  cases a with
  | non => cases e
  | bl b => rw [h.bl]; exact fun z => nomatch z
  | int b => rw [h.int]; exact fun z => nomatch z
  | str b => rw [h.str]; exact fun z => nomatch z
  | tup b => obtain ⟨_, _, rfl, _⟩ := h.tup; exact fun z => nomatch z
  | lst b => obtain ⟨_, _, rfl, _⟩ := h.lst; exact fun z => nomatch z
  | dk b c => obtain ⟨_, _, rfl, _⟩ := deref_dk h.A h.r h.e; exact fun z => nomatch z
  | obj b c d => obtain ⟨_, _, _, rfl, _⟩ := deref_obj h.A h.r h.e; exact fun z => nomatch z
  | _ => cases e
theorem fIs_bl {a b d : RD} (e : fIs a b = some d) : ∃ c, d = .bl c ∧ ((b = .non ∧ (c = true → a = .non)) ∨ ∃ u v, a = .bl u ∧ b = .bl v ∧ c = decide (u = v)) := by
  unfold fIs at e
  split at e <;> cases e <;> first
    | exact ⟨_, rfl, .inr ⟨_, _, rfl, rfl, rfl⟩⟩
    | exact ⟨_, rfl, .inl ⟨rfl, fun z => by first | rfl | cases z⟩⟩
theorem oq_is : OpQ X E W (compareOp .Is) (lift2 fIs) := by
  refine ⟨_, op_isN.or op_is_bl, so_lift fun {F Γ H σ S x y p q a b d} h1 h2 e Q w => ?_⟩
  obtain ⟨c, rfl, ⟨rfl, hc⟩ | ⟨u, v, rfl, rfl, rfl⟩⟩ := fIs_bl e
  · refine .inl ⟨h2.non, ?_⟩
    cases c with
    | true => cases hc rfl; rw [h1.non]; exact w.val h1.A (.bl _)
    | false => rw [decide_eq_false (h1.ne_non e)]; exact w.val h1.A (.bl _)
  · exact .inr ⟨_, _, h1.bl, h2.bl, w.val h1.A (.bl _)⟩
theorem oq_isNot : OpQ X E W (compareOp .IsNot) (lift2 fIsNot) := by
  refine ⟨_, op_notN.or op_isnot_bl, so_lift fun {F Γ H σ S x y p q a b d} h1 h2 e Q w => ?_⟩
  unfold fIsNot at e
  split at e
  · rename_i c0 e0
    cases e
    obtain ⟨c, z, ⟨rfl, hc⟩ | ⟨u, v, rfl, rfl, rfl⟩⟩ := fIs_bl e0
    · cases z
      refine .inl ⟨h2.non, ?_⟩
      cases c0 with
      | true => cases hc rfl; rw [h1.non]; exact w.val h1.A (.bl _)
      | false => rw [decide_eq_false (h1.ne_non e0)]; exact w.val h1.A (.bl _)
    · cases z
      exact .inr ⟨_, _, h1.bl, h2.bl, w.val h1.A (.bl _)⟩
  · cases e
theorem flatVs_all {H : Hp} : ∀ {xs : List V} {ds : List RD} {vs : List V}, RpAll E Γ xs ds → flatVs ds = some vs → xs = vs ∧ xs.all flatV = true
  | _, [], _, .nil, e => by cases e; exact ⟨rfl, rfl⟩
  | _, d :: ds, vs, .cons r rs, e => by
    unfold flatVs at e
    cases e1 : scalR d with
    | none => rw [e1] at e; cases e
    | some v =>
      cases e2 : flatVs ds with
      | none => rw [e1, e2] at e; cases e
      | some ws =>
        rw [e1, e2] at e
        cases e
        obtain ⟨h1, h2⟩ := flatVs_all (H := H) rs e2
        cases d <;> cases e1 <;> cases r <;> (subst h1; exact ⟨rfl, by rw [List.all_cons, h2]; rfl⟩)
theorem scalR_flat {v : V} (e : scalR a = some v) : flatV v = true := by cases a <;> cases e <;> rfl
theorem so_in {r : R2} {neg : Bool}
    (h1 : ∀ c z H (Q : VK), Q (.bl (if neg then !decide (c ∈ z.cps.toList) else decide (c ∈ z.cps.toList))) H → r (.str ⟨#[c]⟩) (.str z) H Q)
    (h2 : ∀ x y H (Q : VK), rIn E.K neg x y H Q → r x y H Q)
    (h3 : ∀ x y H u us (Q : VK), Dp E.K H x u → Dp E.K H y (.list us) → SeqAt.shaped u = true → SeqAt.shaped (.list us) = true → Q (.bl (if neg then !us.any (fun z => PyData.eqv z u) else us.any fun z => PyData.eqv z u)) H → r x y H Q) : SO E W r (mIn neg) := fun F Γ H σ S x y p q A r1 r2 => by
  unfold mIn
  cases e1 : deref S p with
  | none => trivial
  | some a =>
    cases e2 : deref S q with
    | none => trivial
    | some b =>
      show RunR _ _ _ _ _ _ _ (retO ((inD S.ce a b).map fun c => .bl (if neg then !c else c)) S)
      cases e3 : inD S.ce a b with
      | none => trivial
      | some c =>
        have a1 : At E F Γ H σ S x p a := ⟨A, r1, e1⟩
        have a2 : At E F Γ H σ S y q b := ⟨A, r2, e2⟩
        refine RunR.val A (.bl _) fun Q k => ?_
        unfold inD at e3
        split at e3
        · rename_i b0 e4
          cases e3
          unfold inF at e4
          split at e4
          · rename_i cs z
            split at e4
            · rename_i n en
              cases e4
              have ex := a1.str
              have ey := a2.str
              subst ex ey
              have ec : cs = ⟨#[n]⟩ := by
                cases cs with
                | mk cps => cases cps with
                  | mk l => simp at en; subst en; rfl
              subst ec
              exact h1 _ _ _ _ k
            · cases e4
          · split at e4
            · rename_i v vs ev evs
              cases e4
              refine h2 _ _ _ _ ?_
              have kx := a1.scal ev
              subst kx
              cases ei : itemsOf b with
              | none => rw [ei] at evs; cases evs
              | some ds =>
                rw [ei] at evs
                have hv : flatV x = true := scalR_flat ev
                have go : ∃ pp ws, y = .ref pp ∧ (SqL E.K H pp ws ∨ SqT E.K H pp ws) ∧ RpAll E Γ ws ds := by
                  cases b with
                  | tup es => cases ei; obtain ⟨pp, ws, h1, h2, h3⟩ := a2.tup; exact ⟨pp, ws, h1, .inr h2, h3⟩
                  | lst es => obtain ⟨pp, ws, h1, h2, h3⟩ := a2.seq ei; exact ⟨pp, ws, h1, .inl h2, h3⟩
                  | scr es => obtain ⟨pp, ws, h1, h2, h3⟩ := a2.seq ei; exact ⟨pp, ws, h1, .inl h2, h3⟩
                  | _ => cases ei
                obtain ⟨pp, ws, rfl, hs, ra⟩ := go
                obtain ⟨g1, g2⟩ := flatVs_all (H := H) ra evs
                subst g1
                refine ⟨pp, ws, rfl, hs, hv, g2, ?_⟩
                cases neg <;> exact k
            · cases e4
        · split at e3
          · rename_i u us eu eus
            split at e3
            · rename_i hs; cases e3; exact h3 _ _ H u us Q (a1.dp eu) (a2.dp eus) hs.1 hs.2 k
            · cases e3
          · cases e3
theorem oq_in (hK : X.K = E.K) (hu : X.A.units + 65 < cLine) : OpQ X E W (compareOp .In) (mIn false) :=
  ⟨_, op_in_sign.or (op_in_seq.or (op_inD hu)), so_in (fun c z H Q k => .inl ⟨c, z, rfl, rfl, k⟩) (fun x y H Q h => .inr (.inl (by rw [hK]; exact h))) fun x y H u us Q d1 d2 s1 s2 k => .inr (.inr (by rw [hK]; exact ⟨u, us, d1, d2, s1, s2, k⟩))⟩
theorem oq_notIn (hK : X.K = E.K) (hu : X.A.units + 65 < cLine) : OpQ X E W (compareOp .NotIn) (mIn true) :=
  ⟨_, op_notIn_sign.or (op_notIn_seq.or (op_notInD hu)), so_in (fun c z H Q k => .inl ⟨c, z, rfl, rfl, k⟩) (fun x y H Q h => .inr (.inl (by rw [hK]; exact h))) fun x y H u us Q d1 d2 s1 s2 k => .inr (.inr (by rw [hK]; exact ⟨u, us, d1, d2, s1, s2, k⟩))⟩
end
end RS

set_option Elab.async false
set_option linter.all false
set_option maxRecDepth 100000
set_option maxHeartbeats 2000000
namespace RS
open PySem PySem.Spec PyProof.Rows L2
open Evl (Ex)

/-! ### an item, a part -/
def fIx : RD → RD → Option RD
  | .tup ds, .int i => atI ds i
  | .lst ds, .int i => atI ds i
  | .scr ns, .int i => (atI ns i).map .int
  | .str z, .int i => if z.length ≤ 100000 then (atI z.cps.toList i).map fun c => .str ⟨#[c]⟩ else none
  | _, _ => none
def IxQ (X : Cx) (E : En) (W : WX) (g : M2) : Prop := ∃ r, IxR X r ∧ SO E W r g
section
variable {E : En} {W : WX} {F : Fr} {Γ : Gd} {H : Hp} {σ : L2.St} {S : Sg} {x : V} {p : PV} {a : RD} {X : Cx}
theorem atI_get {α : Type} {xs : List α} {i : Int} {x : α} (h : atI xs i = some x) : ∃ j, ixN xs.length i = some j ∧ xs[j]? = some x := by
  unfold atI at h
  cases e : ixN xs.length i with
  | none => rw [e] at h; cases h
  | some j => rw [e] at h; exact ⟨j, rfl, h⟩
theorem atI_vs {vs : List V} {ds : List RD} {i : Int} {d : RD} (r : RpAll E Γ vs ds) (h : atI ds i = some d) : ∃ v, atI vs i = some v ∧ Rp E Γ v d := by
  obtain ⟨j, h1, h2⟩ := atI_get h
  obtain ⟨v, h3, h4⟩ := r.get h2
  refine ⟨v, ?_, h4⟩
  unfold atI
  rw [r.length, h1]
  exact h3
theorem atI_map {α β : Type} {f : α → β} {xs : List α} {i : Int} : atI (xs.map f) i = (atI xs i).map f := by
  unfold atI
  rw [List.length_map]
  cases ixN xs.length i with
  | none => rfl
  | some j => exact List.getElem?_map
theorem iq_seq (hK : X.K = E.K) : IxQ X E W (lift2 fIx) := by
  refine ⟨_, ix_seq, so_lift fun {F Γ H σ S x y p q a b d} h1 h2 e Q w => ?_⟩
  rw [hK]
  unfold fIx at e
  split at e
  · obtain ⟨a, xs, rfl, hs, ra⟩ := h1.tup
    obtain ⟨v, k1, k2⟩ := atI_vs ra e
    exact .inr (.inl ⟨a, xs, _, v, rfl, h2.int, hs, k1, w.val h1.A k2⟩)
  · obtain ⟨a, xs, rfl, hs, ra⟩ := h1.lst
    obtain ⟨v, k1, k2⟩ := atI_vs ra e
    exact .inl ⟨a, xs, _, v, rfl, h2.int, Evl.sq_of hs, k1, w.val h1.A k2⟩
  · rename_i ns i
    obtain ⟨a, rfl, hs⟩ := h1.scr
    cases e1 : atI ns i with
    | none => rw [e1] at e; cases e
    | some n =>
      rw [e1] at e
      cases e
      exact .inl ⟨a, _, _, .int n, rfl, h2.int, hs, by rw [atI_map, e1]; rfl, w.val h1.A (.int _)⟩
  · rename_i z i
    split at e
    · cases e1 : atI z.cps.toList i with
      | none => rw [e1] at e; cases e
      | some n =>
        rw [e1] at e
        cases e
        exact .inr (.inr ⟨z, _, n, h1.str, h2.int, Evl.sz_of (by assumption), e1, w.val h1.A (.str _)⟩)
    · cases e
  · cases e
end
def cutD {α : Type} (ds : List α) (lo hi : Option Int) : List α := (ds.drop (HT.sIx ds.length 0 lo)).take (HT.sIx ds.length ds.length hi - HT.sIx ds.length 0 lo)
def fSl (lo hi : Option Int) : RD → Option RD
  | .tup ds => some (.tup (cutD ds lo hi))
  | .lst ds => some (.lst (cutD ds lo hi))
  | .scr ns => some (.lst ((cutD ns lo hi).map .int))
  | .str z => if z.length ≤ 100000 then some (.str (cutS z lo hi)) else none
  | _ => none
abbrev MO := Sg → Rr (Option Int)
def SPo (E : En) (W : WX) (to : TO) (m : MO) : Prop := ∀ F Γ H σ S, Abs E F Γ H σ S → RunR E W F Γ σ (fun _ _ a b => a = b) (to σ H) (m S)
def QO (X : Cx) (E : En) (W : WX) (e : Option Expr) (m : MO) : Prop := ∃ to, PO X e to ∧ SPo E W to m
def mNoPart : MO := fun S => .ok none S
def toInt : PV → Sg → Rr Int
  | .d (.int i), S => .ok i S
  | _, _ => .st
def mPart (a : ME) : MO := fun S => (a S).bind fun p S1 => (toInt p S1).bind fun i S2 => .ok (some i) S2
def mSl (a : ME) (lo hi : MO) : ME := fun S => (a S).bind fun p S1 => (lo S1).bind fun l S2 => (hi S2).bind fun u S3 => match deref S3 p with
  | some d => retO (fSl l u d) S3
  | none => .st
section
variable {E : En} {W : WX} {X : Cx}
theorem int_cases {F : Fr} {Γ : Gd} {σ : L2.St} {x : V} {p : PV} (r : Pp E F σ Γ x p) : (∃ c, p = .d (.int c) ∧ x = .int c) ∨ ∀ S, toInt p S = .st := by
  cases r with
  | d r => cases r with
    | int b => exact .inl ⟨b, rfl, rfl⟩
    | _ => exact .inr fun S => rfl
  | sl _ => exact .inr fun S => rfl
  | exc => exact .inr fun S => rfl
theorem qo_none : QO X E W none mNoPart := ⟨_, po_none, fun F Γ H σ S A => RunR.pure A rfl fun Q q => q⟩
theorem qo_some {e : Expr} {m : ME} (h : QE X E W e m) : QO X E W (some e) (mPart m) := by
  obtain ⟨te, h1, h2⟩ := h
  refine ⟨_, po_some h1, fun F Γ H σ S A => RunR.bind (fun Q x H1 => ∃ i, x = .int i ∧ Q (some i) H1) (fun Q h => h) (h2 F Γ H σ S A) fun p S1 x Γ1 H1 _ l1 A1 r1 => ?_⟩
  rcases int_cases r1 with ⟨c, rfl, rfl⟩ | h
  · exact RunR.pure A1 rfl fun Q q => ⟨c, rfl, q⟩
  · show RunR _ _ _ _ _ _ _ ((toInt p S1).bind _)
    rw [h]; trivial
theorem cutV_eq {xs : List V} {lo hi : Option Int} : cutV xs lo hi = cutD xs lo hi := rfl
theorem cut_all {Γ : Gd} {vs : List V} {ds : List RD} {lo hi : Option Int} (r : RpAll E Γ vs ds) : RpAll E Γ (cutV vs lo hi) (cutD ds lo hi) := by
  unfold cutV cutD
  rw [r.length]
  exact (r.drop _).take _
theorem q_slice {e : Expr} {lo hi : Option Expr} {p2 pos : Pos} {m : ME} {l u : MO} (hK : X.K = E.K) (he : QE X E W e m) (hl : QO X E W lo l) (hu : QO X E W hi u) : QE X E W (.Subscript e (.Slice lo hi none p2) pos) (mSl m l u) := by
  obtain ⟨te, h1, h2⟩ := he
  obtain ⟨tl, h3, h4⟩ := hl
  obtain ⟨tu, h5, h6⟩ := hu
  refine ⟨_, pe_slice (sl_list.or (sl_tupA.or sl_str)) h1 h3 h5, fun F Γ H σ S A => ?_⟩
  rw [hK]
  refine RunR.bind (fun Q x H1 => tl σ H1 fun l H2 => tu σ H2 fun u H3 => (rSlL E.K x l u H3 Q ∨ rSlA E.K x l u H3 Q ∨ rSlS x l u H3 Q)) (fun Q h => h) (h2 F Γ H σ S A) fun p S1 x Γ1 H1 _ l1 A1 r1 =>
    RunR.bind (fun Q l H2 => tu σ H2 fun u H3 => (rSlL E.K x l u H3 Q ∨ rSlA E.K x l u H3 Q ∨ rSlS x l u H3 Q)) (fun Q h => h) (h4 F Γ1 H1 σ S1 A1) fun l S2 l' Γ2 H2 _ l2 A2 e2 =>
    RunR.bind (fun Q u H3 => (rSlL E.K x l' u H3 Q ∨ rSlA E.K x l' u H3 Q ∨ rSlS x l' u H3 Q)) (fun Q h => h) (h6 F Γ2 H2 σ S2 A2) fun u S3 u' Γ3 H3 _ l3 A3 e3 => ?_
  subst e2 e3
  cases e : deref S3 p with
  | none => trivial
  | some d =>
    show RunR _ _ _ _ _ _ _ (retO (fSl _ _ d) S3)
    have at1 : At E F Γ3 H3 σ S3 x p d := ⟨A3, (r1.mono l2).mono l3, e⟩
    cases e1 : fSl l' u' d with
    | none => trivial
    | some d' =>
      refine RunR.step A3 fun Q (w : Wish E Γ3 H3 d' Q) => ?_
      unfold fSl at e1
      split at e1
      · cases e1
        obtain ⟨a, xs, rfl, hs, ra⟩ := at1.tup
        refine .inr (.inl ⟨a, xs, rfl, hs, fun z => ?_, fun _ => w.tup A3 (cut_all ra)⟩)
        have whole : cutD ‹List RD› l' u' = ‹List RD› := by
          unfold cutD
          rw [← ra.length, z.1, z.2, Nat.sub_zero, List.drop_zero, ra.length, List.take_length]
        rw [whole] at w
        rcases deref_cases A3 at1.r e with ⟨r, _⟩ | ⟨a, c, _, e, q⟩
        · exact w.val A3 r
        · cases q <;> cases e
      · cases e1
        obtain ⟨a, xs, rfl, hs, ra⟩ := at1.lst
        exact .inl ⟨a, xs, rfl, Evl.sq_of hs, w.lst A3 (cut_all ra)⟩
      · cases e1
        rename_i ns
        obtain ⟨a, rfl, hs⟩ := at1.scr
        refine .inl ⟨a, _, rfl, hs, w.lst A3 ?_⟩
        have ra : RpAll E Γ3 (cutV (ns.map V.int) l' u') (cutD (ns.map RD.int) l' u') := cut_all (RpAll.ints ns)
        have e2 : cutD (ns.map RD.int) l' u' = (cutD ns l' u').map RD.int := by
          unfold cutD
          rw [List.length_map, List.map_take, List.map_drop]
        rw [← e2]
        exact ra
      · split at e1
        · cases e1
          exact .inr (.inr ⟨_, at1.str, Evl.sz_of (by assumption), w.val A3 (.str _)⟩)
        · cases e1
      · cases e1
end

/-! ### built-in calls -/
def CbQ (X : Cx) (E : En) (W : WX) (f : Value) (g : ML) : Prop := ∃ r, CallR X f r ∧ SC E W r g
def fAbs : List RD → Option RD
  | [.int i] => some (.int (i.natAbs : Int))
  | _ => none
def fInt : List RD → Option RD
  | [.int i] => some (.int i)
  | [.bl k] => some (.int (if k then 1 else 0))
  | [.str a] => if a.length ≤ 640 then (PySem.intText? a).map .int else none
  | _ => none
def fGcd : List RD → Option RD
  | [.int a, .int b] => some (.int (Nat.gcd a.natAbs b.natAbs : Nat))
  | _ => none
def fLen : List RD → Option RD
  | [.lst ds] => some (.int ds.length)
  | [.tup ds] => some (.int ds.length)
  | [.scr ns] => some (.int ns.length)
  | [.str z] => if z.length ≤ 100000 then some (.int z.length) else none
  | _ => none
def fStr : List RD → Option RD
  | [.int i] => if i.natAbs.log2 < 1920 then some (.str (toString i : String)) else none
  | [.str x] => some (.str x)
  | _ => none
def RD.kind : RD → Option String
  | .non => some "NoneType"
  | .bl _ => some "bool"
  | .int _ => some "int"
  | .str _ => some "str"
  | .tup _ => some "tuple"
  | .lst _ => some "list"
  | .dk _ _ => some "dict"
  | .dt _ _ => some "dict"
  | _ => none
def fIsi : List RD → Option RD
  | [x, .ty m] => match x.kind with
    | some n => (kitB n m).map .bl
    | none => none
  | _ => none
def fList : List RD → Option RD
  | [.lst ds] => some (.lst ds)
  | [.tup ds] => some (.lst ds)
  | [.scr ns] => some (.lst (ns.map .int))
  | _ => none
def fTuple : List RD → Option RD
  | [.lst ds] => some (.tup ds)
  | [.tup ds] => some (.tup ds)
  | _ => none
def RD.bls : List RD → Option (List Bool)
  | [] => some []
  | .bl b :: r => (RD.bls r).map (b :: ·)
  | _ :: _ => none
def fAll : List RD → Option RD
  | [.lst ds] => (RD.bls ds).map fun bs => .bl (bs.all id)
  | _ => none
def fAny : List RD → Option RD
  | [.lst ds] => (RD.bls ds).map fun bs => .bl (bs.any id)
  | _ => none
def fMax : List RD → Option RD
  | [.int i, .int j] => some (.int (if j > i then j else i))
  | _ => none
def fMin : List RD → Option RD
  | [.int i, .int j] => some (.int (if j < i then j else i))
  | _ => none
def fDivmod : List RD → Option RD
  | [.int i, .int j] => if 0 < j ∧ j < 1073741824 then some (.tup [.int (i / j), .int (i % j)]) else none
  | _ => none
section
variable {E : En} {W : WX} {F : Fr} {Γ : Gd} {H : Hp} {σ : L2.St} {S : Sg} {X : Cx}
theorem AtAll.one {xs : List V} {ps : List PV} {a : RD} (h : AtAll E F Γ H σ S xs ps [a]) : ∃ x p, xs = [x] ∧ At E F Γ H σ S x p a := by
  cases h with
  | cons h r => cases r; exact ⟨_, _, rfl, h⟩
theorem AtAll.two {xs : List V} {ps : List PV} {a b : RD} (h : AtAll E F Γ H σ S xs ps [a, b]) : ∃ x y p q, xs = [x, y] ∧ At E F Γ H σ S x p a ∧ At E F Γ H σ S y q b := by
  cases h with
  | cons h r => cases r with
    | cons k r => cases r; exact ⟨_, _, _, _, rfl, h, k⟩
theorem cb_abs : CbQ X E W (.builtin "abs") (liftL fAbs) := by
  refine ⟨_, call_abs, sc_lift fun A h e Q w => ?_⟩
  unfold fAbs at e
  split at e
  · rename_i i
    cases e
    obtain ⟨x, p, ex, h'⟩ := h.one; subst ex; clear h; have h := h'
    rw [h.int]
    exact ⟨_, rfl, by
      have z : (if i < 0 then -i else i) = (i.natAbs : Int) := by split <;> omega
      rw [z]; exact w.val A (.int _)⟩
  · cases e
theorem cb_int : CbQ X E W (.type "int") (liftL fInt) := by
  have orr : ∀ {f : Value} {r r' : List V → Hp → VK → Prop}, CallR X f r → CallR X f r' → CallR X f fun xs H Q => r xs H Q ∨ r' xs H Q := fun h k pins s σ H xs us Q I v q => by
    rcases q with q | q
    · exact h pins s σ H xs us Q I v q
    · exact k pins s σ H xs us Q I v q
  refine ⟨_, orr call_int1 call_int_str, sc_lift fun A h e Q w => ?_⟩
  unfold fInt at e
  split at e
  · cases e
    obtain ⟨x, p, ex, h'⟩ := h.one; subst ex; clear h; have h := h'
    rw [h.int]
    exact .inl (.inl ⟨_, rfl, w.val A (.int _)⟩)
  · cases e
    obtain ⟨x, p, ex, h'⟩ := h.one; subst ex; clear h; have h := h'
    rw [h.bl]
    exact .inl (.inr ⟨_, rfl, w.val A (.int _)⟩)
  · rename_i a
    split at e
    · cases e1 : PySem.intText? a with
      | none => rw [e1] at e; cases e
      | some n =>
        rw [e1] at e
        cases e
        obtain ⟨x, p, ex, h'⟩ := h.one; subst ex; clear h; have h := h'
        rw [h.str]
        exact .inr ⟨a, n, rfl, e1, by assumption, w.val A (.int _)⟩
    · cases e
  · cases e
theorem cb_gcd : CbQ X E W (.builtin "math.gcd") (liftL fGcd) := by
  refine ⟨_, cr_gcd, sc_lift fun A h e Q w => ?_⟩
  unfold fGcd at e
  split at e
  · cases e
    obtain ⟨x, y, p, q, rfl, h1, h2⟩ := h.two
    rw [h1.int, h2.int]
    exact ⟨_, _, rfl, w.val A (.int _)⟩
  · cases e
theorem cb_len (hK : X.K = E.K) : CbQ X E W (.builtin "len") (liftL fLen) := by
  refine ⟨_, call_len, sc_lift fun {F Γ H σ S xs ps as d} A h e Q w => ?_⟩
  rw [hK]
  unfold fLen at e
  split at e
  · cases e
    obtain ⟨x, p, ex, h'⟩ := h.one; subst ex; clear h; have h := h'
    obtain ⟨a, xs, rfl, hs, ra⟩ := h.lst
    exact ⟨_, _, rfl, .inl ⟨xs, Evl.sq_of hs, rfl⟩, by rw [ra.length]; exact w.val A (.int _)⟩
  · cases e
    obtain ⟨x, p, ex, h'⟩ := h.one; subst ex; clear h; have h := h'
    obtain ⟨a, xs, rfl, hs, ra⟩ := h.tup
    exact ⟨_, _, rfl, .inr ⟨xs, hs, rfl⟩, by rw [ra.length]; exact w.val A (.int _)⟩
  · cases e
    obtain ⟨x, p, ex, h'⟩ := h.one; subst ex; clear h; have h := h'
    obtain ⟨a, rfl, hs⟩ := h.scr
    exact ⟨_, _, rfl, .inl ⟨_, hs, rfl⟩, by rw [List.length_map]; exact w.val A (.int _)⟩
  · split at e
    · cases e
      obtain ⟨x, p, ex, h'⟩ := h.one; subst ex; clear h; have h := h'
      rw [h.str]
      exact ⟨_, _, rfl, ⟨Evl.sz_of (by assumption), rfl⟩, w.val A (.int _)⟩
    · cases e
  · cases e
theorem cb_str : CbQ X E W (.type "str") (liftL fStr) := by
  have orr : ∀ {f : Value} {r r' : List V → Hp → VK → Prop}, CallR X f r → CallR X f r' → CallR X f fun xs H Q => r xs H Q ∨ r' xs H Q := fun h k pins s σ H xs us Q I v q => by
    rcases q with q | q
    · exact h pins s σ H xs us Q I v q
    · exact k pins s σ H xs us Q I v q
  refine ⟨_, orr call_str_int SkE.call_str_str, sc_lift fun A h e Q w => ?_⟩
  unfold fStr at e
  split at e
  · split at e
    · cases e
      obtain ⟨x, p, ex, h'⟩ := h.one; subst ex; clear h; have h := h'
      rw [h.int]
      exact .inl ⟨_, rfl, by assumption, w.val A (.str _)⟩
    · cases e
  · cases e
    obtain ⟨x, p, ex, h'⟩ := h.one; subst ex; clear h; have h := h'
    rw [h.str]
    exact .inr ⟨_, rfl, w.val A (.str _)⟩
  · cases e
theorem tyx_seqL {K : PySem.W.Frag} {H : Hp} {a : Addr} {xs : List V} (h : SqL K H a xs) : TyX K H (.ref a) (.type "list") := by
  rcases h with (h | ⟨o, h⟩) | ⟨o, its, n, h, hc, _⟩
  · exact .base (.lst h)
  · exact .base (.frz h)
  · exact .kList h hc
theorem tyx_seqT {K : PySem.W.Frag} {H : Hp} {a : Addr} {xs : List V} (h : SqT K H a xs) : TyX K H (.ref a) (.type "tuple") := by
  rcases h with (h | ⟨o, h⟩) | ⟨o, its, n, h, hc, _⟩
  · exact .base (.tup h)
  · exact .fTuple h
  · exact .kTuple h hc
theorem At.tyx {x : V} {p : PV} {a : RD} {n : String} (h : At E F Γ H σ S x p a) (k : a.kind = some n) : TyX E.K H x (.type n) := by
  cases a with
  | non => cases k; rw [h.non]; exact .base .non
  | bl b => cases k; rw [h.bl]; exact .base (.bl b)
  | int i => cases k; rw [h.int]; exact .base (.int i)
  | str x => cases k; rw [h.str]; exact .base (.str x)
  | tup ds => cases k; obtain ⟨_, _, rfl, hs, _⟩ := h.tup; exact tyx_seqT hs
  | lst ds => cases k; obtain ⟨_, _, rfl, hs, _⟩ := h.lst; exact tyx_seqL (Evl.sq_of hs)
  | dk ks ds => cases k; obtain ⟨_, _, rfl, hs, _⟩ := deref_dk h.A h.r h.e; exact .base (.dK hs)
  | dt ks ds => cases k; obtain ⟨_, _, rfl, hs, _⟩ := deref_dt h.A h.r h.e; exact .base (.dT hs)
  | _ => cases k
theorem cb_isi (hK : X.K = E.K) : CbQ X E W (.builtin "isinstance") (liftL fIsi) := by
  refine ⟨_, call_isi, sc_lift fun {F Γ H σ S xs ps as d} A h e Q w => ?_⟩
  rw [hK]
  unfold fIsi at e
  split at e
  · rename_i a m
    cases e1 : a.kind with
    | none => rw [e1] at e; cases e
    | some n =>
      simp only [e1] at e
      cases e2 : kitB n m with
      | none => rw [e2] at e; cases e
      | some b =>
        rw [e2] at e
        cases e
        obtain ⟨x, y, p, q, rfl, h1, h2⟩ := h.two
        rw [h2.ty]
        exact ⟨_, _, _, _, b, rfl, .ty m, h1.tyx e1, kit_ty e2, w.val A (.bl _)⟩
  · cases e
theorem cb_list (hK : X.K = E.K) : CbQ X E W (.type "list") (liftL fList) := by
  refine ⟨_, call_list_of, sc_lift fun {F Γ H σ S xs ps as d} A h e Q w => ?_⟩
  rw [hK]
  unfold fList at e
  split at e
  · cases e
    obtain ⟨x, p, ex, h'⟩ := h.one; subst ex; clear h; have h := h'
    obtain ⟨a, xs, rfl, hs, ra⟩ := h.lst
    exact ⟨a, xs, rfl, .inl (Evl.sq_of hs), w.lst A ra⟩
  · cases e
    obtain ⟨x, p, ex, h'⟩ := h.one; subst ex; clear h; have h := h'
    obtain ⟨a, xs, rfl, hs, ra⟩ := h.tup
    exact ⟨a, xs, rfl, .inr hs, w.lst A ra⟩
  · cases e
    obtain ⟨x, p, ex, h'⟩ := h.one; subst ex; clear h; have h := h'
    obtain ⟨a, rfl, hs⟩ := h.scr
    exact ⟨a, _, rfl, .inl hs, w.lst A (RpAll.ints _)⟩
  · cases e
theorem cb_tuple (hK : X.K = E.K) : CbQ X E W (.type "tuple") (liftL fTuple) := by
  refine ⟨_, call_tuple_of, sc_lift fun {F Γ H σ S xs ps as d} A h e Q w => ?_⟩
  rw [hK]
  unfold fTuple at e
  split at e
  · cases e
    obtain ⟨x, p, ex, h'⟩ := h.one; subst ex; clear h; have h := h'
    obtain ⟨a, xs, rfl, hs, ra⟩ := h.lst
    exact ⟨a, xs, rfl, .inl ⟨Evl.sq_of hs, w.tup A ra⟩⟩
  · cases e
    obtain ⟨x, p, ex, h'⟩ := h.one; subst ex; clear h; have h := h'
    obtain ⟨a, xs, rfl, hs, ra⟩ := h.tup
    refine ⟨a, xs, rfl, .inr ⟨hs, ?_⟩⟩
    rcases deref_cases A h.r h.e with ⟨r, _⟩ | ⟨a, c, _, e, q⟩
    · exact w.val A r
    · cases q <;> cases e
  · cases e
theorem bls_all {xs : List V} : ∀ {ds : List RD} {bs : List Bool}, RpAll E Γ xs ds → RD.bls ds = some bs → xs = bs.map V.bl := by
  induction xs with
  | nil => intro ds bs r e; cases r; cases e; rfl
  | cons x xs ih =>
    intro ds bs r e
    cases r with
    | @cons _ _ d ds r rs =>
      cases d with
      | bl b =>
        unfold RD.bls at e
        cases e1 : RD.bls ds with
        | none => rw [e1] at e; cases e
        | some cs => rw [e1] at e; cases e; rw [r.bl_inv, ih rs e1]; rfl
      | _ => cases e
theorem cb_all (hK : X.K = E.K) (hc : X.calm = true) : CbQ X E W (.builtin "all") (liftL fAll) := by
  refine ⟨_, cr_all hc, sc_lift fun {F Γ H σ S xs ps as d} A h e Q w => ?_⟩
  rw [hK]
  unfold fAll at e
  split at e
  · rename_i ds
    cases e1 : RD.bls ds with
    | none => rw [e1] at e; cases e
    | some bs =>
      rw [e1] at e
      cases e
      obtain ⟨x, p, ex, h'⟩ := h.one; subst ex; clear h; have h := h'
      obtain ⟨a, xs, rfl, hs, ra⟩ := h.lst
      have z := bls_all ra e1
      subst z
      exact ⟨a, bs, rfl, Evl.sq_of hs, w.val A (.bl _)⟩
  · cases e
theorem cb_any (hK : X.K = E.K) (hc : X.calm = true) : CbQ X E W (.builtin "any") (liftL fAny) := by
  refine ⟨_, cr_any hc, sc_lift fun {F Γ H σ S xs ps as d} A h e Q w => ?_⟩
  rw [hK]
  unfold fAny at e
  split at e
  · rename_i ds
    cases e1 : RD.bls ds with
    | none => rw [e1] at e; cases e
    | some bs =>
      rw [e1] at e
      cases e
      obtain ⟨x, p, ex, h'⟩ := h.one; subst ex; clear h; have h := h'
      obtain ⟨a, xs, rfl, hs, ra⟩ := h.lst
      have z := bls_all ra e1
      subst z
      exact ⟨a, bs, rfl, Evl.sq_of hs, w.val A (.bl _)⟩
  · cases e
theorem cb_max (hc : X.calm = true) : CbQ X E W (.builtin "max") (liftL fMax) := by
  refine ⟨_, call_max2 hc, sc_lift fun A h e Q w => ?_⟩
  unfold fMax at e
  split at e
  · cases e
    obtain ⟨x, y, p, q, rfl, h1, h2⟩ := h.two
    rw [h1.int, h2.int]
    exact ⟨_, _, rfl, w.val A (.int _)⟩
  · cases e
theorem cb_min (hc : X.calm = true) : CbQ X E W (.builtin "min") (liftL fMin) := by
  refine ⟨_, call_min2 hc, sc_lift fun A h e Q w => ?_⟩
  unfold fMin at e
  split at e
  · cases e
    obtain ⟨x, y, p, q, rfl, h1, h2⟩ := h.two
    rw [h1.int, h2.int]
    exact ⟨_, _, rfl, w.val A (.int _)⟩
  · cases e
end

def fNeg : RD → Option RD
  | .int i => some (.int (-i))
  | _ => none
/-! ### the rules of expressions -/
section
variable {X : Cx} {E : En} {W : WX} {a b c e : Expr} {es : List Expr} {m n k : ME} {t u : MT} {g : MA} {pos : Pos}
theorem q_var (i : Nat) {x : Str} (hN : X.N[i]? = some x := by rfl) (hv : Vis X.env.scope x := by first | exact Or.inl rfl | exact Or.inr (Or.inl rfl) | exact Or.inr (Or.inr rfl)) (hd : (x == ("__debug__" : Str)) = false := by decide)
    (hcd : (x == ("__classdict__" : Str)) = false := by decide) : QE X E W (.Name x pos) (mVar i) := ⟨_, pe_var hN hv hd hcd, se_var⟩
theorem q_int {i : Int} {j} : QE X E W (.Constant (.int i) j pos) (mC (.int i)) := ⟨_, pe_int, se_c fun _ => .int i⟩
theorem q_bl {i : Bool} {j} : QE X E W (.Constant (.bool i) j pos) (mC (.bl i)) := ⟨_, pe_bl, se_c fun _ => .bl i⟩
theorem q_non {j} : QE X E W (.Constant .none j pos) (mC .non) := ⟨_, pe_non, se_c fun _ => .non⟩
theorem q_str {i : Str} {j} : QE X E W (.Constant (.str i) j pos) (mC (.str i)) := ⟨_, pe_str, se_c fun _ => .str i⟩
theorem q_glob {x : Str} {v : V} {w : Value} {d : RD} (hg : Gl X x) (hm : X.mg x = some w) (r : RelV v w) (h : ∀ Γ, Rp E Γ v d) (hd : (x == ("__debug__" : Str)) = false := by decide) : QE X E W (.Name x pos) (mC d) := ⟨_, pe_glob hg hm r hd, se_c h⟩
theorem q_ty {x : Str} {n : String} (hg : Gl X x) (hm : X.mg x = none) (hv : bootBuiltins x = some (.type n)) (hn : x ≠ "__name__" := by decide) (hd : (x == ("__debug__" : Str)) = false := by decide) : QE X E W (.Name x pos) (mC (.ty n)) :=
  ⟨_, pe_bltn (v := .ty n) hg hm hv rfl hn hd, se_c fun _ => .ty n⟩
theorem q_op {op : Operator} {f : M2} (ho : OpQ X E W (binaryOp op) f) (ha : QE X E W a m) (hb : QE X E W b n) : QE X E W (.BinOp a op b pos) (mOp f m n) := by
  obtain ⟨r, h1, h2⟩ := ho
  obtain ⟨ta, h3, h4⟩ := ha
  obtain ⟨tb, h5, h6⟩ := hb
  exact ⟨_, pe_op h1 h3 h5, se_op h2 h4 h6⟩
theorem q_neg (ha : QE X E W a m) : QE X E W (.UnaryOp .USub a pos) (mUn (lift1 fNeg) m) := by
  obtain ⟨ta, h3, h4⟩ := ha
  refine ⟨_, pe_un un_neg h3, se_un (su_lift fun h e Q w => ?_) h4⟩
  unfold fNeg at e
  split at e
  · cases e; exact ⟨_, h.int, w.val h.A (.int _)⟩
  · cases e
theorem q_cmp {op : CmpOp} {f : M2} (ho : OpQ X E W (compareOp op) f) (ha : QE X E W a m) (hb : QE X E W b n) (hm : behindInMarks op b = false) : QE X E W (.Compare a [op] [b] pos) (mOp f m n) := by
  obtain ⟨r, h1, h2⟩ := ho
  obtain ⟨ta, h3, h4⟩ := ha
  obtain ⟨tb, h5, h6⟩ := hb
  exact ⟨_, pe_cmpR h1 h3 h5 hm, se_op h2 h4 h6⟩
theorem qt_cmp {op : CmpOp} {f : M2} (ho : OpQ X E W (compareOp op) f) (ha : QE X E W a m) (hb : QE X E W b n) (hm : behindInMarks op b = false) : QT X E W (.Compare a [op] [b] pos) (mTest (mOp f m n)) := by
  obtain ⟨r, h1, h2⟩ := ho
  obtain ⟨ta, h3, h4⟩ := ha
  obtain ⟨tb, h5, h6⟩ := hb
  exact ⟨_, pt_cmpR h1 h3 h5 hm, st_test (se_op h2 h4 h6)⟩
theorem q_chain {op op' : CmpOp} {f f' : M2} (ho : OpQ X E W (compareOp op) f) (ho' : OpQ X E W (compareOp op') f') (ha : QE X E W a m) (hb : QE X E W b n) (hc : QE X E W c k) (hm : lastMarks [op, op'] [b, c] = false := by rfl) : QE X E W (.Compare a [op, op'] [b, c] pos) (mChain f f' m n k) := by
  obtain ⟨r, h1, h2⟩ := ho
  obtain ⟨r', h1', h2'⟩ := ho'
  obtain ⟨ta, h3, h4⟩ := ha
  obtain ⟨tb, h5, h6⟩ := hb
  obtain ⟨tc, h7, h8⟩ := hc
  exact ⟨_, pe_chain h1 h1' h3 h5 h7 hm, se_chain h2 h2' h4 h6 h8⟩
theorem qt_chain {op op' : CmpOp} {f f' : M2} (ho : OpQ X E W (compareOp op) f) (ho' : OpQ X E W (compareOp op') f') (ha : QE X E W a m) (hb : QE X E W b n) (hc : QE X E W c k) (hm : lastMarks [op, op'] [b, c] = false := by rfl) : QT X E W (.Compare a [op, op'] [b, c] pos) (mTest (mChain f f' m n k)) := by
  obtain ⟨r, h1, h2⟩ := ho
  obtain ⟨r', h1', h2'⟩ := ho'
  obtain ⟨ta, h3, h4⟩ := ha
  obtain ⟨tb, h5, h6⟩ := hb
  obtain ⟨tc, h7, h8⟩ := hc
  exact ⟨_, pt_chain h1 h1' h3 h5 h7 hm, st_test (se_chain h2 h2' h4 h6 h8)⟩
theorem q_one {op} (h : QE X E W a m) : QE X E W (.BoolOp op [a] pos) m := by obtain ⟨_, h1, h2⟩ := h; exact ⟨_, pe_one h1, h2⟩
theorem q_and (ha : QE X E W a m) (hb : QE X E W (.BoolOp .And (b :: es) pos) n) : QE X E W (.BoolOp .And (a :: b :: es) pos) (mAndV m n) := by
  obtain ⟨_, h1, h2⟩ := ha; obtain ⟨_, h3, h4⟩ := hb; exact ⟨_, pe_and h1 h3, se_andV h2 h4⟩
theorem q_or (ha : QE X E W a m) (hb : QE X E W (.BoolOp .Or (b :: es) pos) n) : QE X E W (.BoolOp .Or (a :: b :: es) pos) (mOrV m n) := by
  obtain ⟨_, h1, h2⟩ := ha; obtain ⟨_, h3, h4⟩ := hb; exact ⟨_, pe_or h1 h3, se_orV h2 h4⟩
theorem q_not (ha : QE X E W a m) : QE X E W (.UnaryOp .Not a pos) (mNotV m) := by obtain ⟨_, h1, h2⟩ := ha; exact ⟨_, pe_not h1, se_notV h2⟩
theorem qt_val (ha : QE X E W a m) (he : ∀ whole, isTrue a X.env whole = (do let v ← whole; standAt a.pos; holding [v] (truthy v)) := by intro _; rfl) : QT X E W a (mTest m) := by
  obtain ⟨_, h1, h2⟩ := ha; exact ⟨_, pt_val h1 he, st_B h2⟩
theorem qw_and1 (ha : QT X E W a t) : QW X E W (.BoolOp .And [a] pos) t := by obtain ⟨_, h1, h2⟩ := ha; exact ⟨_, pw_and1 h1, h2⟩
theorem qw_or1 (ha : QT X E W a t) : QW X E W (.BoolOp .Or [a] pos) t := by obtain ⟨_, h1, h2⟩ := ha; exact ⟨_, pw_or1 h1, h2⟩
theorem qw_and (ha : QT X E W a t) (hb : QW X E W (.BoolOp .And (b :: es) pos) u) : QW X E W (.BoolOp .And (a :: b :: es) pos) (mAnd t u) := by
  obtain ⟨_, h1, h2⟩ := ha; obtain ⟨_, h3, h4⟩ := hb; exact ⟨_, pw_and h1 h3, st_and h2 h4⟩
theorem qw_or (ha : QT X E W a t) (hb : QW X E W (.BoolOp .Or (b :: es) pos) u) : QW X E W (.BoolOp .Or (a :: b :: es) pos) (mOr t u) := by
  obtain ⟨_, h1, h2⟩ := ha; obtain ⟨_, h3, h4⟩ := hb; exact ⟨_, pw_or h1 h3, st_or h2 h4⟩
theorem QW.qt (h : QW X E W a t) : QT X E W a t := by obtain ⟨_, h1, h2⟩ := h; exact ⟨_, h1.pt, h2⟩
theorem qt_not (ha : QT X E W a t) : QT X E W (.UnaryOp .Not a pos) (mNot t) := by obtain ⟨_, h1, h2⟩ := ha; exact ⟨_, pt_not h1, st_not h2⟩
theorem q_ifExp (hc : QT X E W c t) (ha : QE X E W a m) (hb : QE X E W b n) : QE X E W (.IfExp c a b pos) (mIf t m n) := by
  obtain ⟨_, h1, h2⟩ := hc; obtain ⟨_, h3, h4⟩ := ha; obtain ⟨_, h5, h6⟩ := hb; exact ⟨_, pe_ifExp h1 h3 h5, se_if h2 h4 h6⟩
theorem qa_nil : QA X E W [] aNil := ⟨_, pa_nil, sa_nil⟩
theorem qa_cons (ha : QE X E W e m) (hr : QA X E W es g) (hs : starEach (e :: es) X.env = (false, eval e X.env) :: starEach es X.env := by rfl) : QA X E W (e :: es) (aCons m g) := by
  obtain ⟨_, h1, h2⟩ := ha; obtain ⟨_, h3, h4⟩ := hr; exact ⟨_, pa_cons h1 h3 hs, sa_cons h2 h4⟩
theorem qa_star {p : Pos} (hK : X.K = E.K) (ha : QE X E W e m) (hr : QA X E W es g) (hs : starEach (.Starred e p :: es) X.env = (true, eval e X.env) :: starEach es X.env := by rfl) : QA X E W (.Starred e p :: es) (aStar m g) := by
  obtain ⟨_, h1, h2⟩ := ha; obtain ⟨_, h3, h4⟩ := hr; exact ⟨_, StX.pa_star h1 h3 hs, by rw [hK]; exact sa_star h2 h4⟩
theorem q_tup {x1} (h : QA X E W es g) : QE X E W (.Tuple es x1 pos) (mTup g) := by obtain ⟨_, h1, h2⟩ := h; exact ⟨_, pe_tup h1, se_tup h2⟩
theorem q_lst (h : QA X E W es g) : QE X E W (.List es pos) (mLst g) := by obtain ⟨_, h1, h2⟩ := h; exact ⟨_, pe_lst h1, se_lst h2⟩
theorem q_lstC (h : QA X E W es g) : QE X E W (.List es pos) (mLstC g) := by obtain ⟨_, h1, h2⟩ := h; exact ⟨_, pe_lst h1, se_lstC h2⟩
theorem q_ix {f : M2} (hr : IxQ X E W f) (ha : QE X E W a m) (hb : QE X E W b n) (hs : PlainIx b) : QE X E W (.Subscript a b pos) (mOp f m n) := by
  obtain ⟨r, h1, h2⟩ := hr
  obtain ⟨ta, h3, h4⟩ := ha
  obtain ⟨tb, h5, h6⟩ := hb
  exact ⟨_, pe_ix h1 h3 h5 hs, se_op h2 h4 h6⟩
theorem q_cb {x : Str} {id : String} {f : ML} {p : Pos} (hc : CbQ X E W (.builtin id) f) (hg : Gl X x) (hm : X.mg x = none) (hv : bootBuiltins x = some (.builtin id)) (ha : QA X E W (e :: es) g) (hn : x ≠ "__name__" := by decide) (hdb : (x == ("__debug__" : Str)) = false := by decide)
    (he : starEach (e :: es) X.env = (false, eval e X.env) :: starEach es X.env := by rfl) (hpl : (backTo pos (starEach es X.env)).any (·.1) = false := by rfl) : QE X E W (.Call (.Name x p) (e :: es) [] pos) (mCB f g) := by
  obtain ⟨r, h1, h2⟩ := hc
  obtain ⟨ta, h3, h4⟩ := ha
  exact ⟨_, pe_callB h1 hg hm hv h3 hn hdb he hpl, se_cb h4 h2⟩
theorem q_cm {x : Str} {id : String} {f : ML} {p : Pos} (hc : CbQ X E W (.builtin id) f) (hg : Gl X x) (hm : X.mg x = some (.builtin id)) (ha : QA X E W (e :: es) g) (hdb : (x == ("__debug__" : Str)) = false := by decide)
    (he : starEach (e :: es) X.env = (false, eval e X.env) :: starEach es X.env := by rfl) (hpl : (backTo pos (starEach es X.env)).any (·.1) = false := by rfl) : QE X E W (.Call (.Name x p) (e :: es) [] pos) (mCB f g) := by
  obtain ⟨r, h1, h2⟩ := hc
  obtain ⟨ta, h3, h4⟩ := ha
  exact ⟨_, pe_callBfun h1 hg hm h3 hdb he hpl, se_cb h4 h2⟩
theorem q_ct {x : Str} {T : String} {f : ML} {p : Pos} (hc : CbQ X E W (.type T) f) (hg : Gl X x) (hm : X.mg x = none) (hv : bootBuiltins x = some (.type T)) (ha : QA X E W (e :: es) g) (hn : x ≠ "__name__" := by decide) (hdb : (x == ("__debug__" : Str)) = false := by decide)
    (he : starEach (e :: es) X.env = (false, eval e X.env) :: starEach es X.env := by rfl) (hpl : (backTo pos (starEach es X.env)).any (·.1) = false := by rfl) : QE X E W (.Call (.Name x p) (e :: es) [] pos) (mCB f g) := by
  obtain ⟨r, h1, h2⟩ := hc
  obtain ⟨ta, h3, h4⟩ := ha
  exact ⟨_, pe_callTy h1 hg hm hv h3 hn hdb he hpl, se_cb h4 h2⟩
end
end RS

set_option Elab.async false
set_option linter.all false
set_option maxRecDepth 100000
set_option maxHeartbeats 2000000
namespace RS
open PySem PySem.Spec PyProof.Rows L2
open Evl (Ex)

/-! ### statements -/
inductive Out where
  | nx (S : Sg) | rt (d : RD) (S : Sg) | bk (S : Sg) | ct (S : Sg) | ex (e : Exn) (S : Sg) | st
abbrev MS := Sg → Out
def RunS (E : En) (W : WX) (F : Fr) (Γ : Gd) (run : Ends → Prop) : Out → Prop
  | .nx S' => ∀ D : Ends, (∀ Γ' H' σ', Γ.Le Γ' → Abs E F Γ' H' σ' S' → D.nx σ' H') → run D
  | .rt d S' => ∀ D : Ends, (∀ v Γ' H' σ', Γ.Le Γ' → Abs E F Γ' H' σ' S' → Rp E Γ' v d → D.rt v H') → run D
  | .bk S' => ∀ D : Ends, (∀ Γ' H' σ', Γ.Le Γ' → Abs E F Γ' H' σ' S' → D.bk σ' H') → run D
  | .ct S' => ∀ D : Ends, (∀ Γ' H' σ', Γ.Le Γ' → Abs E F Γ' H' σ' S' → D.ct σ' H') → run D
  | .ex e S' => (∀ Γ' H' σ' dd, Γ.Le Γ' → Abs E F Γ' H' σ' S' → ExD E Γ' H' e.f dd → W (.ref (E.cl e.c)) dd σ' H') → ∀ D, run D
  | .st => True
def SS (E : En) (W : WX) (ts : TS) (m : MS) : Prop := ∀ F Γ H σ S, Abs E F Γ H σ S → RunS E W F Γ (fun D => ts D σ H) (m S)
def QS (X : Cx) (E : En) (W : WX) (s : Stmt) (m : MS) : Prop := ∃ ts, PS X s ts ∧ SS E W ts m
def QSs (X : Cx) (E : En) (W : WX) (s : List Stmt) (m : MS) : Prop := ∃ ts, PSs X s ts ∧ SS E W ts m
section
variable {E : En} {W : WX} {F : Fr} {Γ Γ' : Gd} {H H' : Hp} {σ : L2.St} {S S' : Sg}
theorem RunS.weak {run : Ends → Prop} {o : Out} (e : Γ.Le Γ') (h : RunS E W F Γ' run o) : RunS E W F Γ run o := by
  cases o with
  | nx S => exact fun D q => h D fun Γ2 H2 σ2 l => q Γ2 H2 σ2 (e.trans l)
  | rt d S => exact fun D q => h D fun v Γ2 H2 σ2 l => q v Γ2 H2 σ2 (e.trans l)
  | bk S => exact fun D q => h D fun Γ2 H2 σ2 l => q Γ2 H2 σ2 (e.trans l)
  | ct S => exact fun D q => h D fun Γ2 H2 σ2 l => q Γ2 H2 σ2 (e.trans l)
  | ex x S => exact fun w => h fun Γ2 H2 σ2 dd l => w Γ2 H2 σ2 dd (e.trans l)
  | st => trivial
theorem RunS.imp {run run' : Ends → Prop} {o : Out} (h : ∀ D, run D → run' D) (k : RunS E W F Γ run o) : RunS E W F Γ run' o := by
  cases o with
  | nx S => exact fun D q => h D (k D q)
  | rt d S => exact fun D q => h D (k D q)
  | bk S => exact fun D q => h D (k D q)
  | ct S => exact fun D q => h D (k D q)
  | ex x S => exact fun w D => h D (k w D)
  | st => trivial
/-- from an expression's result to a statement's -/
def Rr.out {α : Type} (r : Rr α) (f : α → Sg → Out) : Out := match r with
  | .ok a S => f a S
  | .ex e S => .ex e S
  | .st => .st
theorem RunS.of {α β : Type} {rel : Gd → Hp → β → α → Prop} {run : (β → Hp → Prop) → Prop} {run' : Ends → Prop} {r : Rr α} {f : α → Sg → Out} (k : Ends → β → Hp → Prop) (hrun : ∀ D, run (k D) → run' D) (h : RunR E W F Γ σ rel run r)
    (hk : ∀ a S' b Γ' H', r = .ok a S' → Γ.Le Γ' → Abs E F Γ' H' σ S' → rel Γ' H' b a → RunS E W F Γ' (fun D => k D b H') (f a S')) : RunS E W F Γ run' (r.out f) := by
  cases r with
  | st => trivial
  | ex x S' => exact fun w D => hrun D (h (fun Γ' H' dd l A e => w Γ' H' σ dd l A e) _)
  | ok a S' =>
    show RunS E W F Γ run' (f a S')
    have hk' := fun b Γ1 H1 l1 A1 r1 => hk a S' b Γ1 H1 rfl l1 A1 r1
    cases e : f a S' with
    | st => trivial
    | nx S2 => exact fun D q => hrun D (h _ fun b Γ1 H1 l1 A1 r1 => by
        have z := hk' b Γ1 H1 l1 A1 r1
        rw [e] at z
        exact z D fun Γ2 H2 σ2 l2 => q Γ2 H2 σ2 (l1.trans l2))
    | rt d S2 => exact fun D q => hrun D (h _ fun b Γ1 H1 l1 A1 r1 => by
        have z := hk' b Γ1 H1 l1 A1 r1
        rw [e] at z
        exact z D fun v Γ2 H2 σ2 l2 => q v Γ2 H2 σ2 (l1.trans l2))
    | bk S2 => exact fun D q => hrun D (h _ fun b Γ1 H1 l1 A1 r1 => by
        have z := hk' b Γ1 H1 l1 A1 r1
        rw [e] at z
        exact z D fun Γ2 H2 σ2 l2 => q Γ2 H2 σ2 (l1.trans l2))
    | ct S2 => exact fun D q => hrun D (h _ fun b Γ1 H1 l1 A1 r1 => by
        have z := hk' b Γ1 H1 l1 A1 r1
        rw [e] at z
        exact z D fun Γ2 H2 σ2 l2 => q Γ2 H2 σ2 (l1.trans l2))
    | ex x S2 => exact fun w D => hrun D (h _ fun b Γ1 H1 l1 A1 r1 => by
        have z := hk' b Γ1 H1 l1 A1 r1
        rw [e] at z
        exact z (fun Γ2 H2 σ2 dd l2 => w Γ2 H2 σ2 dd (l1.trans l2)) D)
/-- what is wanted of a result -/
def Wants (E : En) (W : WX) (F : Fr) (Γ : Gd) (D : Ends) : Out → Prop
  | .nx S' => ∀ Γ' H' σ', Γ.Le Γ' → Abs E F Γ' H' σ' S' → D.nx σ' H'
  | .rt d S' => ∀ v Γ' H' σ', Γ.Le Γ' → Abs E F Γ' H' σ' S' → Rp E Γ' v d → D.rt v H'
  | .bk S' => ∀ Γ' H' σ', Γ.Le Γ' → Abs E F Γ' H' σ' S' → D.bk σ' H'
  | .ct S' => ∀ Γ' H' σ', Γ.Le Γ' → Abs E F Γ' H' σ' S' → D.ct σ' H'
  | .ex e S' => ∀ Γ' H' σ' dd, Γ.Le Γ' → Abs E F Γ' H' σ' S' → ExD E Γ' H' e.f dd → W (.ref (E.cl e.c)) dd σ' H'
  | .st => False
theorem RunS.get {run : Ends → Prop} {o : Out} (h : RunS E W F Γ run o) {D : Ends} (q : Wants E W F Γ D o) : run D := by
  cases o with
  | st => exact q.elim
  | nx S => exact h D q
  | rt d S => exact h D q
  | bk S => exact h D q
  | ct S => exact h D q
  | ex e S => exact h q D
theorem RunS.mk {run : Ends → Prop} {o : Out} (h : ∀ D, Wants E W F Γ D o → run D) : RunS E W F Γ run o := by
  cases o with
  | st => trivial
  | nx S => exact h
  | rt d S => exact h
  | bk S => exact h
  | ct S => exact h
  | ex e S => exact fun w D => h D w
theorem Wants.weak {D : Ends} {o : Out} (e : Γ.Le Γ') (h : Wants E W F Γ D o) : Wants E W F Γ' D o := by
  cases o with
  | nx S => exact fun Γ2 H2 σ2 l => h Γ2 H2 σ2 (e.trans l)
  | rt d S => exact fun v Γ2 H2 σ2 l => h v Γ2 H2 σ2 (e.trans l)
  | bk S => exact fun Γ2 H2 σ2 l => h Γ2 H2 σ2 (e.trans l)
  | ct S => exact fun Γ2 H2 σ2 l => h Γ2 H2 σ2 (e.trans l)
  | ex x S => exact fun Γ2 H2 σ2 dd l => h Γ2 H2 σ2 dd (e.trans l)
  | st => exact h
theorem RunS.next {run : Ends → Prop} (A : Abs E F Γ H σ S) (h : ∀ D : Ends, D.nx σ H → run D) : RunS E W F Γ run (.nx S) := fun D q => h D (q Γ H σ (Gd.Le.refl _) A)
end
/-! ### the ways -/
def mNext : MS := fun S => .nx S
def mSeq (a b : MS) : MS := fun S => match a S with
  | .nx S1 => b S1
  | .rt d S1 => .rt d S1
  | .bk S1 => .bk S1
  | .ct S1 => .ct S1
  | .ex e S1 => .ex e S1
  | .st => .st
abbrev MG := RD → Sg → Option Sg
def gSet (i : Nat) : MG := fun d S => some { S with sl := S.sl.set i (.dat d) }
def gTups : List MG → List RD → Sg → Option Sg
  | [], [], S => some S
  | g :: gs, d :: ds, S => (g d S).bind fun S1 => gTups gs ds S1
  | _, _, _ => none
def gTupF (gs : List MG) : MG := fun d S => match d with
  | .tup ds => gTups gs ds S
  | _ => none
def outG (o : Option Sg) : Out := match o with
  | some S => .nx S
  | none => .st
def mAsg (e : ME) (g : MG) : MS := fun S => (e S).out fun p S1 => (toD p S1).out fun d S2 => outG (g d S2)
def mDrop (e : ME) : MS := fun S => (e S).out fun _ S1 => .nx S1
def mRet (e : ME) : MS := fun S => (e S).out fun p S1 => (toD p S1).out fun d S2 => .rt d S2
def mRetN : MS := fun S => .rt .non S
def mIfS (t : MT) (a b : MS) : MS := fun S => (t S).out fun c S1 => if c = true then a S1 else b S1
def mBrk : MS := fun S => .bk S
def mCont : MS := fun S => .ct S
def mRaise (c : Str) : MS := fun S => .ex ⟨c, none⟩ S
/-- l: the slots that a target may write -/
def SG (E : En) (g : TG) (m : MG) (l : List Nat) : Prop := ∀ F Γ H σ S v d, Abs E F Γ H σ S → Rp E Γ v d → ∀ S', m d S = some S' → ∀ Q : L2.St → Hp → Prop,
  (∀ σ', Abs E F Γ H σ' S' → σ'.length = σ.length → (∀ k, k ∉ l → σ'[k]? = σ[k]?) → Q σ' H) → g v σ H Q
def SGs (E : En) (g : TGs) (ms : List MG) (l : List Nat) : Prop := ∀ F Γ H σ S vs ds, Abs E F Γ H σ S → RpAll E Γ vs ds → ∀ S', gTups ms ds S = some S' → ∀ Q : L2.St → Hp → Prop,
  (∀ σ', Abs E F Γ H σ' S' → σ'.length = σ.length → (∀ k, k ∉ l → σ'[k]? = σ[k]?) → Q σ' H) → g vs σ H Q
def QG (X : Cx) (E : En) (tg : Expr) (m : MG) (l : List Nat) : Prop := ∃ g, PG X tg g ∧ SG E g m l
def QGs (X : Cx) (E : En) (tgs : List Expr) (ms : List MG) (l : List Nat) : Prop := ∃ g, PGs X tgs g ∧ SGs E g ms l
section
variable {E : En} {W : WX} {F : Fr} {Γ Γ' : Gd} {H H' : Hp} {σ : L2.St} {S S' : Sg} {te : TE} {tt : TT} {t u : TS} {m : ME} {c : MT} {a b : MS} {g : TG} {mg : MG} {l l' : List Nat}
/-- a slot holds a datum -/
theorem Abs.setD {i : Nat} {v : V} {d : RD} (A : Abs E F Γ H σ S) (h : Rp E Γ v d) : Abs E F Γ H (σ.set i (some v)) { S with sl := S.sl.set i (.dat d) } := by
  have key : ∀ {j : Nat} {x : SV}, (S.sl.set i (.dat d))[j]? = some x → (i = j ∧ i < S.sl.length ∧ x = .dat d) ∨ (i ≠ j ∧ S.sl[j]? = some x) := fun {j x} h => by
    by_cases hij : i = j
    · subst hij
      have hl : i < S.sl.length := by
        have := (List.getElem?_eq_some_iff.mp h).1
        rw [List.length_set] at this; exact this
      rw [List.getElem?_set_self hl] at h
      cases h
      exact .inl ⟨rfl, hl, rfl⟩
    · rw [List.getElem?_set_ne hij] at h; exact .inr ⟨hij, h⟩
  have ne : ∀ {j : Nat}, i ≠ j → (σ.set i (some v))[j]? = σ[j]? := fun h => List.getElem?_set_ne h
  refine ⟨A.fh, A.le, A.fn, A.fc, A.gh, A.nd, A.ml, A.cel, by simp [A.len], fun j e hj => ?_, fun j e hj => ?_, fun j k e f b hj hk ej ek => ?_, fun j hj => ?_, A.exn, A.fx⟩
  · rcases key hj with ⟨rfl, hl, z⟩ | ⟨n, hj⟩
    · cases z
      exact ⟨v, List.getElem?_set_self (by rw [A.len]; exact hl), h⟩
    · obtain ⟨w, h1, h2⟩ := A.dat j e hj
      exact ⟨w, by rw [ne n]; exact h1, h2⟩
  · rcases key hj with ⟨rfl, hl, z⟩ | ⟨n, hj⟩
    · cases z
    · obtain ⟨w, h1, h2⟩ := A.own j e hj
      exact ⟨w, by rw [ne n]; exact h1, h2⟩
  · rcases key hj with ⟨_, _, z⟩ | ⟨n1, hj⟩
    · cases z
    · rcases key hk with ⟨_, _, z⟩ | ⟨n2, hk⟩
      · cases z
      · rw [ne n1] at ej
        rw [ne n2] at ek
        exact A.sep j k e f b hj hk ej ek
  · rcases key hj with ⟨_, _, z⟩ | ⟨n, hj⟩
    · cases z
    · rw [ne n]; exact A.exs j hj
theorem toD_out {W : WX} {p : PV} {v : V} {f : RD → Sg → Out} {run : Ends → Prop} (A : Abs E F Γ H σ S) (r : Pp E F σ Γ v p)
    (h : ∀ d S' Γ', Γ.Le Γ' → Abs E F Γ' H σ S' → Rp E Γ' v d → RunS E W F Γ' run (f d S')) : RunS E W F Γ run ((toD p S).out f) := by
  cases e : toD p S with
  | st => trivial
  | ex x S1 => exact absurd e toD_noex
  | ok d S1 =>
    obtain ⟨Γ', l, A', r'⟩ := toD_run A r e
    exact RunS.weak l (h d S1 Γ' l A' r')
theorem ss_next : SS E W tNext mNext := fun F Γ H σ S A => RunS.next A fun D q => q
theorem ss_seq (h1 : SS E W t a) (h2 : SS E W u b) : SS E W (tSeq t u) (mSeq a b) := fun F Γ H σ S A => RunS.mk fun D hD => by
  have z := h1 F Γ H σ S A
  unfold mSeq at hD
  cases e : a S with
  | nx S1 => rw [e] at z hD; exact z { D with nx := u D } fun Γ1 H1 σ1 l1 A1 => (h2 F Γ1 H1 σ1 S1 A1).get (hD.weak l1)
  | rt d S1 => rw [e] at z hD; exact z { D with nx := u D } hD
  | bk S1 => rw [e] at z hD; exact z { D with nx := u D } hD
  | ct S1 => rw [e] at z hD; exact z { D with nx := u D } hD
  | ex x S1 => rw [e] at z hD; exact z hD _
  | st => rw [e] at hD; exact hD.elim
theorem sg_name {i : Nat} : SG E (gName i) (gSet i) [i] := fun F Γ H σ S v d A r S' e Q q => by
  cases e
  exact q _ (A.setD r) (List.length_set ..) fun k hk => List.getElem?_set_ne (fun e => hk (by rw [e]; exact List.mem_cons_self))
theorem sgs_nil : SGs E gNil [] [] := fun F Γ H σ S vs ds A r S' e Q q => by
  cases r with
  | nil => cases e; exact ⟨rfl, q σ A rfl fun _ _ => rfl⟩
  | cons _ _ => cases e
theorem sgs_cons {gs : TGs} {ms : List MG} (h : SG E g mg l) (hr : SGs E gs ms l') : SGs E (gCons g gs) (mg :: ms) (l ++ l') := fun F Γ H σ S vs ds A r S' e Q q => by
  cases r with
  | nil => cases e
  | @cons v vs d ds x y =>
    unfold gTups at e
    cases e1 : mg d S with
    | none => rw [e1] at e; cases e
    | some S1 =>
      rw [e1] at e
      refine ⟨_, _, rfl, h F Γ H σ S v d A x S1 e1 _ fun σ1 A1 l1 k1 => hr F Γ H σ1 S1 vs ds A1 y S' e Q fun σ2 A2 l2 k2 => q σ2 A2 (l2.trans l1) fun k hk => ?_⟩
      rw [List.mem_append] at hk
      rw [k2 k fun z => hk (.inr z), k1 k fun z => hk (.inl z)]
theorem gTups_len : ∀ {ms : List MG} {ds : List RD} {S S' : Sg}, gTups ms ds S = some S' → ds.length = ms.length
  | [], [], _, _, _ => rfl
  | [], _ :: _, _, _, e => by cases e
  | _ :: _, [], _, _, e => by cases e
  | m :: ms, d :: ds, S, S', e => by
    unfold gTups at e
    cases e1 : m d S with
    | none => rw [e1] at e; cases e
    | some S1 => rw [e1] at e; exact congrArg (· + 1) (gTups_len e)
theorem sg_tup {gs : TGs} {ms : List MG} {n : Nat} (h : SGs E gs ms l) (hn : ms.length = n) : SG E (gTup E.K n gs) (gTupF ms) l := fun F Γ H σ S v d A r S' e Q q => by
  cases d with
  | tup ds =>
    obtain ⟨a, xs, rfl, hs, ra⟩ := r.tup_inv
    exact ⟨a, xs, rfl, Evl.ex_t A.gh hs, by rw [ra.length, gTups_len e, hn], h F Γ H σ S xs ds A ra S' e Q q⟩
  | _ => cases e
theorem ss_asg (he : SE E W te m) (hg : SG E g mg l) : SS E W (tAsg te g) (mAsg m mg) := fun F Γ H σ S A =>
  RunS.of (fun D x H1 => g x σ H1 D.nx) (fun D h => h) (he F Γ H σ S A) fun p S1 x Γ1 H1 _ l1 A1 r1 =>
    toD_out A1 r1 fun d S2 Γ2 l2 A2 r2 => by
      cases e : mg d S2 with
      | none => trivial
      | some S3 => exact fun D q => hg F Γ2 H1 σ S2 x d A2 r2 S3 e _ fun σ' A' _ _ => q Γ2 H1 σ' (Gd.Le.refl _) A'
theorem ss_drop (he : SE E W te m) : SS E W (tDrop te) (mDrop m) := fun F Γ H σ S A =>
  RunS.of (fun D x H1 => D.nx σ H1) (fun D h => h) (he F Γ H σ S A) fun p S1 x Γ1 H1 _ l1 A1 r1 => RunS.next A1 fun D q => q
theorem ss_ret (he : SE E W te m) : SS E W (tRet te) (mRet m) := fun F Γ H σ S A =>
  RunS.of (fun D x H1 => D.rt x H1) (fun D h => h) (he F Γ H σ S A) fun p S1 x Γ1 H1 _ l1 A1 r1 =>
    toD_out A1 r1 fun d S2 Γ2 l2 A2 r2 => fun D q => q x Γ2 H1 σ (Gd.Le.refl _) A2 r2
theorem ss_retN : SS E W tRetN mRetN := fun F Γ H σ S A D q => q .non Γ H σ (Gd.Le.refl _) A .non
theorem ss_if (hc : ST E W tt c) (h1 : SS E W t a) (h2 : SS E W u b) : SS E W (tIfS tt t u) (mIfS c a b) := fun F Γ H σ S A =>
  RunS.of (fun D k H1 => if k = true then t D σ H1 else u D σ H1) (fun D h => h) (hc F Γ H σ S A) fun k S1 k' Γ1 H1 _ l1 A1 r1 => by
    cases r1
    cases k with
    | true => exact h1 F Γ1 H1 σ S1 A1
    | false => exact h2 F Γ1 H1 σ S1 A1
theorem ss_brk : SS E W tBreak mBrk := fun F Γ H σ S A D q => q Γ H σ (Gd.Le.refl _) A
theorem ss_cont : SS E W tCont mCont := fun F Γ H σ S A D q => q Γ H σ (Gd.Le.refl _) A
end

/-! ### what is walked -/
structure Its where
  ds : List RD
  ok : Sg → Prop
abbrev MI := Sg → Rr Its
def Walks (E : En) (F : Fr) : Gd → Hp → It → Its → Prop := fun Γ _ J its => ∀ Γ' H' σ' S', Γ.Le Γ' → Abs E F Γ' H' σ' S' → its.ok S' →
  (∀ i, i < its.ds.length → J.go i H' ∧ ∀ x H'', J.yld i H' x H'' → ∃ Γ'' d, its.ds[i]? = some d ∧ Sx Γ' H' Γ'' H'' ∧ Rp E Γ'' x d) ∧ J.stop its.ds.length H'
def SI (E : En) (W : WX) (wi : TI) (m : MI) : Prop := ∀ F Γ H σ S, Abs E F Γ H σ S → RunR E W F Γ σ (Walks E F) (wi σ H) (m S)
def QI (X : Cx) (E : En) (W : WX) (tg it : Expr) (m : MI) : Prop := ∃ wi, PI X tg it wi ∧ SI E W wi m
open Classical in
noncomputable def forL (ok : Sg → Prop) (g : MG) (b : MS) : List RD → Sg → Out
  | [], S => if ok S then .nx S else .st
  | d :: ds, S => if ok S then match g d S with
    | none => .st
    | some S1 => match b S1 with
      | .nx S2 => forL ok g b ds S2
      | .ct S2 => forL ok g b ds S2
      | .bk S2 => .nx S2
      | .rt r S2 => .rt r S2
      | .ex e S2 => .ex e S2
      | .st => .st
    else .st
noncomputable def mFor (i : MI) (g : MG) (b : MS) : MS := fun S => (i S).out fun its S1 => forL its.ok g b its.ds S1
section
variable {E : En} {W : WX} {F : Fr} {Γ Γ' : Gd} {H H' : Hp} {σ : L2.St} {S S' : Sg} {wi : TI} {i : MI} {g : TG} {mg : MG} {t : TS} {b : MS} {l : List Nat}
theorem ss_for (hi : SI E W wi i) (hg : SG E g mg l) (hb : SS E W t b) : SS E W (tFor wi g t) (mFor i mg b) := fun F Γ H σ S A =>
  RunS.of (fun D J H1 => ∃ W : Nat → Nat → L2.St → Hp → Prop, (∃ m, W 0 m σ H1) ∧ ∀ i m σ H, W i m σ H →
    (J.stop i H ∧ D.nx σ H) ∨ (J.go i H ∧ ∃ N : L2.St → Hp → Prop, (∀ σ' H', N σ' H' → ∃ m', m' < m ∧ W (i + 1) m' σ' H') ∧ ∀ x H', J.yld i H x H' → g x σ H' fun σ2 H2 => t { D with nx := N, ct := N, bk := D.nx } σ2 H2)) (fun D h => h) (hi F Γ H σ S A) fun its S1 J Γ1 H1 _ l1 A1 hw => by
    refine RunS.mk fun D hD => ?_
    refine ⟨fun i k σ' H' => k = its.ds.length - i ∧ i ≤ its.ds.length ∧ ∃ Γ' S', Γ1.Le Γ' ∧ Abs E F Γ' H' σ' S' ∧ Wants E W F Γ' D (forL its.ok mg b (its.ds.drop i) S'), ⟨its.ds.length, by omega, Nat.zero_le _, Γ1, S1, Gd.Le.refl _, A1, by rw [List.drop_zero]; exact hD⟩, ?_⟩
    rintro i k σ' H' ⟨rfl, hi, Γ', S', l', A', w⟩
    by_cases hlt : i < its.ds.length
    · rw [List.drop_eq_getElem_cons hlt] at w
      unfold forL at w
      by_cases hok : its.ok S'
      · rw [if_pos hok] at w
        obtain ⟨hgo, _⟩ := hw Γ' H' σ' S' l' A' hok
        obtain ⟨hg1, hy⟩ := hgo i hlt
        refine .inr ⟨hg1, fun σ2 H2 => ∃ Γ2 S2, Γ1.Le Γ2 ∧ Abs E F Γ2 H2 σ2 S2 ∧ Wants E W F Γ2 D (forL its.ok mg b (its.ds.drop (i + 1)) S2), fun σ2 H2 ⟨Γ2, S2, l2, A2, w2⟩ => ⟨its.ds.length - (i + 1), by omega, rfl, by omega, Γ2, S2, l2, A2, w2⟩, fun x H2 hx => ?_⟩
        obtain ⟨Γ2, d, hd, s2, r2⟩ := hy x H2 hx
        rw [List.getElem?_eq_getElem hlt] at hd
        cases hd
        cases e1 : mg its.ds[i] S' with
        | none => rw [e1] at w; exact w.elim
        | some S2 =>
          rw [e1] at w
          refine hg F Γ2 H2 σ' S' x _ (A'.ext s2) r2 S2 e1 _ fun σ3 A3 _ _ => (hb F Γ2 H2 σ3 S2 A3).get ?_
          have w := w.weak s2.le
          have l2 := l'.trans s2.le
          cases e2 : b S2 with
          | st => simp only [e2] at w; exact w.elim
          | nx S3 => simp only [e2] at w; exact fun Γ3 H3 σ4 l3 A4 => ⟨Γ3, S3, l2.trans l3, A4, w.weak l3⟩
          | ct S3 => simp only [e2] at w; exact fun Γ3 H3 σ4 l3 A4 => ⟨Γ3, S3, l2.trans l3, A4, w.weak l3⟩
          | bk S3 => simp only [e2] at w; exact fun Γ3 H3 σ4 l3 A4 => w Γ3 H3 σ4 l3 A4
          | rt d S3 => simp only [e2] at w; exact fun v Γ3 H3 σ4 l3 A4 r4 => w v Γ3 H3 σ4 l3 A4 r4
          | ex x S3 => simp only [e2] at w; exact fun Γ3 H3 σ4 dd l3 A4 r4 => w Γ3 H3 σ4 dd l3 A4 r4
      · rw [if_neg hok] at w; exact w.elim
    · have him : i = its.ds.length := by omega
      subst him
      rw [List.drop_length] at w
      unfold forL at w
      by_cases hok : its.ok S'
      · rw [if_pos hok] at w
        exact .inl ⟨(hw Γ' H' σ' S' l' A' hok).2, w Γ' H' σ' (Gd.Le.refl _) A'⟩
      · rw [if_neg hok] at w; exact w.elim
end

/-! ### while -/
def whileN (t : MT) (b : MS) : Nat → Sg → Out
  | 0, _ => .st
  | n + 1, S => match t S with
    | .ok true S1 => match b S1 with
      | .nx S2 => whileN t b n S2
      | .ct S2 => whileN t b n S2
      | .bk S2 => .nx S2
      | .rt r S2 => .rt r S2
      | .ex e S2 => .ex e S2
      | .st => .st
    | .ok false S1 => .nx S1
    | .ex e S1 => .ex e S1
    | .st => .st
open Classical in
noncomputable def mWhile (t : MT) (b : MS) : MS := fun S => if h : ∃ n, whileN t b n S ≠ .st then whileN t b (Classical.choose h) S else .st
section
variable {E : En} {W : WX} {F : Fr} {Γ Γ' : Gd} {H H' : Hp} {σ : L2.St} {S S' : Sg} {tt : TT} {c : MT} {t : TS} {b : MS}
theorem whileN_add {c : MT} {b : MS} : ∀ {n : Nat} {S : Sg} (k : Nat), whileN c b n S ≠ .st → whileN c b (n + k) S = whileN c b n S
  | 0, S, k, h => absurd rfl h
  | n + 1, S, k, h => by
    rw [Nat.add_right_comm]
    unfold whileN at h ⊢
    cases e : c S with
    | st => rfl
    | ex x S1 => rfl
    | ok d S1 =>
      rw [e] at h
      cases d with
      | false => rfl
      | true =>
        simp only at h ⊢
        cases e2 : b S1 with
        | nx S2 => rw [e2] at h; exact whileN_add k h
        | ct S2 => rw [e2] at h; exact whileN_add k h
        | bk S2 => rfl
        | rt r S2 => rfl
        | ex x S2 => rfl
        | st => rfl
theorem mWhile_eq {c : MT} {b : MS} {n : Nat} {S : Sg} {o : Out} (h : whileN c b n S = o) (ho : o ≠ .st) : mWhile c b S = o := by
  have hx : ∃ n, whileN c b n S ≠ .st := ⟨n, by rw [h]; exact ho⟩
  unfold mWhile
  rw [dif_pos hx]
  have h2 := Classical.choose_spec hx
  have h3 := whileN_add n h2
  have h4 := whileN_add (Classical.choose hx) (n := n) (S := S) (by rw [h]; exact ho)
  rw [← h3, Nat.add_comm, h4, h]
theorem ss_while (hc : ST E W tt c) (hb : SS E W t b) : SS E W (tWhile tt t) (mWhile c b) := fun F Γ H σ S A => by
  refine RunS.mk fun D hD => ?_
  unfold mWhile at hD
  split at hD
  · rename_i hx
    refine ⟨fun k σ' H' => ∃ Γ' S', Γ.Le Γ' ∧ Abs E F Γ' H' σ' S' ∧ Wants E W F Γ' D (whileN c b k S'), ⟨_, Γ, S, Gd.Le.refl _, A, hD⟩, ?_⟩
    rintro k σ' H' ⟨Γ', S', l', A', w⟩
    cases k with
    | zero => exact w.elim
    | succ k =>
      unfold whileN at w
      have z := hc F Γ' H' σ' S' A'
      cases e : c S' with
      | st => rw [e] at w; exact w.elim
      | ex x S1 =>
        rw [e] at w z
        exact z (fun Γ2 H2 dd l2 A2 r2 => w Γ2 H2 σ' dd l2 A2 r2) _
      | ok d S1 =>
        rw [e] at w z
        refine z _ fun d' Γ2 H2 l2 A2 e2 => ?_
        cases e2
        cases d with
        | false => exact iteF (w Γ2 H2 σ' l2 A2)
        | true =>
          simp only at w
          refine iteT ⟨fun σ3 H3 => ∃ Γ3 S3, Γ.Le Γ3 ∧ Abs E F Γ3 H3 σ3 S3 ∧ Wants E W F Γ3 D (whileN c b k S3), fun σ3 H3 h3 => ⟨k, Nat.lt_succ_self k, h3⟩, (hb F Γ2 H2 σ' S1 A2).get ?_⟩
          have w := w.weak l2
          have l2 := l'.trans l2
          cases e2 : b S1 with
          | st => simp only [e2] at w; exact w.elim
          | nx S3 => simp only [e2] at w; exact fun Γ3 H3 σ4 l3 A4 => ⟨Γ3, S3, l2.trans l3, A4, w.weak l3⟩
          | ct S3 => simp only [e2] at w; exact fun Γ3 H3 σ4 l3 A4 => ⟨Γ3, S3, l2.trans l3, A4, w.weak l3⟩
          | bk S3 => simp only [e2] at w; exact fun Γ3 H3 σ4 l3 A4 => w Γ3 H3 σ4 l3 A4
          | rt d S3 => simp only [e2] at w; exact fun v Γ3 H3 σ4 l3 A4 r4 => w v Γ3 H3 σ4 l3 A4 r4
          | ex x S3 => simp only [e2] at w; exact fun Γ3 H3 σ4 dd l3 A4 r4 => w Γ3 H3 σ4 dd l3 A4 r4
  · exact hD.elim
end
end RS

set_option Elab.async false
set_option linter.all false
set_option maxRecDepth 100000
set_option maxHeartbeats 2000000
namespace RS
open PySem PySem.Spec PyProof.Rows L2
open Evl (Ex)

/-! ### sequences that are walked -/
def seqIts (p : PV) (S : Sg) : Rr Its := match deref S p with
  | some (.tup ds) => .ok ⟨ds, fun _ => True⟩ S
  | some (.str z) => .ok ⟨z.cps.toList.map fun c => .str ⟨#[c]⟩, fun _ => True⟩ S
  | some (.scr ns) => .ok ⟨ns.map .int, fun _ => True⟩ S
  | some (.lst ds) => match p with
    | .d (.loc k) => .ok ⟨ds, fun S => S.ce[k]? = some (.lst ds)⟩ S
    | .sl i => .ok ⟨ds, fun _ => True⟩ { S with sl := S.sl.set i (.dat (.lst ds)) }
    | _ => .ok ⟨ds, fun _ => True⟩ S
  | _ => .st
/-- which kind it is -/
def itK (p : PV) (S : Sg) : Nat := match deref S p with
  | some (.tup _) => 1
  | some (.str _) => 2
  | _ => 0
/-- the list at a stays so while ok holds -/
def StL (E : En) (F : Fr) (Γ : Gd) (a : Addr) (its : Its) : Prop := ∀ Γ' H' σ' S', Γ.Le Γ' → Abs E F Γ' H' σ' S' → its.ok S' → ∃ xs, SqL E.K H' a xs ∧ RpAll E Γ' xs its.ds
def StT (E : En) (F : Fr) (Γ : Gd) (a : Addr) (its : Its) : Prop := ∀ Γ' H' σ' S', Γ.Le Γ' → Abs E F Γ' H' σ' S' → its.ok S' → ∃ xs, SqT E.K H' a xs ∧ RpAll E Γ' xs its.ds
section
variable {E : En} {W : WX} {F : Fr} {Γ Γ' : Gd} {H H' : Hp} {σ : L2.St} {S S' : Sg} {x : V} {p : PV} {its : Its}
theorem seq_stay (A : Abs E F Γ H σ S) (r : Pp E F σ Γ x p) (e : seqIts p S = .ok its S') : its.ok S' ∧ ∃ Γ', Γ.Le Γ' ∧ Abs E F Γ' H σ S' ∧
    ((itK p S = 0 ∧ ∃ a, x = .ref a ∧ StL E F Γ' a its) ∨ (itK p S = 1 ∧ ∃ a, x = .ref a ∧ StT E F Γ' a its) ∨ (itK p S = 2 ∧ ∃ z : Str, x = .str z ∧ its = ⟨z.cps.toList.map fun c => .str ⟨#[c]⟩, fun _ => True⟩)) := by
  unfold seqIts at e
  split at e
  · rename_i ds ed
    cases e
    refine ⟨trivial, Γ, Gd.Le.refl _, A, .inr (.inl ⟨by unfold itK; rw [ed], ?_⟩)⟩
    rcases deref_cases A r ed with ⟨r, _⟩ | ⟨a, c, _, e, q⟩
    · obtain ⟨a, xs, rfl, h1, h2⟩ := r.tup_inv
      exact ⟨a, rfl, fun Γ2 H2 σ2 S2 l A2 _ => ⟨xs, Evl.ex_t (l.g.trans A2.gh) h1, h2.mono l⟩⟩
    · cases q <;> cases e
  · rename_i z ed
    cases e
    exact ⟨trivial, Γ, Gd.Le.refl _, A, .inr (.inr ⟨by unfold itK; rw [ed], z, (At.mk A r ed).str, rfl⟩)⟩
  · rename_i ns ed
    cases e
    refine ⟨trivial, Γ, Gd.Le.refl _, A, .inl ⟨by unfold itK; rw [ed], ?_⟩⟩
    rcases deref_cases A r ed with ⟨r, _⟩ | ⟨a, c, _, e, q⟩
    · cases r with
      | scr hs => exact ⟨_, rfl, fun Γ2 H2 σ2 S2 l A2 _ => ⟨_, Evl.ex_l (l.g.trans A2.gh) hs, RpAll.ints _⟩⟩
    · cases q <;> cases e
  · rename_i ds ed
    split at e
    · rename_i k
      cases e
      cases r with
      | d r => cases r with
        | @loc a _ hk =>
          have hc : S.ce[k]? = some (.lst ds) := by
            have ed : (S.ce[k]?).map Cell.rd = some (.lst ds) := ed
            cases q : S.ce[k]? with
            | none => rw [q] at ed; cases ed
            | some c => rw [q] at ed; cases c <;> cases ed; rfl
          have ed0 := ed
          refine ⟨hc, Γ, Gd.Le.refl _, A, .inl ⟨by unfold itK; rw [ed0], a, rfl, fun Γ2 H2 σ2 S2 l A2 ok => ?_⟩⟩
          obtain ⟨b, h1, _, h3⟩ := A2.cel k _ ok
          rw [pre_get l.m hk] at h1
          cases h1
          cases h3 with
          | lst h r => exact ⟨_, Evl.sq_of h, r⟩
    · rename_i i
      cases e
      have hc : S.sl[i]? = some (.own (.lst ds)) := by
        have ed : (match S.sl[i]? with | some (.own c) => some c.rd | _ => none) = some (RD.lst ds) := ed
        cases q : S.sl[i]? with
        | none => simp only [q] at ed; cases ed
        | some c => cases c with
          | own c => simp only [q] at ed; cases c <;> cases ed; rfl
          | un => simp only [q] at ed; cases ed
          | dat d => simp only [q] at ed; cases ed
          | exc => simp only [q] at ed; cases ed
      obtain ⟨Γ', a, l, h1, r1, A1⟩ := A.give hc
      cases r with
      | sl h =>
        rw [h] at h1
        cases h1
        refine ⟨trivial, Γ', l, A1, .inl ⟨by unfold itK; rw [ed], a, rfl, fun Γ2 H2 σ2 S2 l2 A2 _ => ?_⟩⟩
        obtain ⟨b, xs, z, h3, h4⟩ := Rp.lst_inv r1
        cases z
        exact ⟨xs, Evl.sq_of (A2.gh _ _ (l2.g _ _ h3)), h4.mono l2⟩
    · cases e
      refine ⟨trivial, Γ, Gd.Le.refl _, A, .inl ⟨by unfold itK; rw [ed], ?_⟩⟩
      rename_i h1 h2
      cases r with
      | sl h => exact absurd rfl (h2 _)
      | exc => cases ed
      | @d v d0 r =>
        have e0 : d0 = .lst ds := by
          cases d0 with
          | loc k => exact absurd rfl (h1 k)
          | lst es => cases ed; rfl
          | _ => cases ed
        subst e0
        obtain ⟨a, xs, rfl, h1, h2⟩ := r.lst_inv
        exact ⟨a, rfl, fun Γ2 H2 σ2 S2 l A2 _ => ⟨xs, Evl.sq_of (A2.gh _ _ (l.g _ _ h1)), h2.mono l⟩⟩
  · cases e
end
/-- for x in e -/
def mIter (m : ME) : MI := fun S => (m S).bind seqIts
/-- what a walk's items are made of -/
def mapIts (f : List RD → List RD) (i : Its) : Its := ⟨f i.ds, i.ok⟩
def mEnum (a : MA) : MI := fun S => (a S).bind fun ps S1 => match ps with
  | [p] => if itK p S1 = 0 then (seqIts p S1).bind fun its S2 => .ok ⟨(List.range its.ds.length).map fun (i : Nat) => .tup [.int (i : Int), its.ds.getD i .non], its.ok⟩ S2 else .st
  | _ => .st
open Classical in
noncomputable def mZip2 (a : MA) : MI := fun S => (a S).bind fun ps S1 => match ps with
  | [p, q] => if itK p S1 = 0 then (seqIts p S1).bind fun i1 S2 => if itK q S2 = 0 then (seqIts q S2).bind fun i2 S3 => if i1.ok S3 then .ok ⟨(i1.ds.zip i2.ds).map fun z => .tup [z.1, z.2], fun S => i1.ok S ∧ i2.ok S⟩ S3 else .st else .st else .st
  | _ => .st
def mRange1 (a : MA) : MI := fun S => (a S).bind fun ps S1 => match ps with
  | [.d (.int j)] => if -1000000000 ≤ j ∧ j ≤ 1000000000 then .ok ⟨(List.range j.toNat).map fun i => .int (i : Nat), fun _ => True⟩ S1 else .st
  | _ => .st
def mRange2 (a : MA) : MI := fun S => (a S).bind fun ps S1 => match ps with
  | [.d (.int i), .d (.int j)] => if (-1000000000 ≤ i ∧ i ≤ 1000000000) ∧ -1000000000 ≤ j ∧ j ≤ 1000000000 then .ok ⟨(List.range (j - i).toNat).map fun k => .int (i + (k : Nat)), fun _ => True⟩ S1 else .st
  | _ => .st
theorem seqIts_noex {p : PV} {S : Sg} {e : Exn} {S' : Sg} : seqIts p S ≠ .ex e S' := fun h => by
  unfold seqIts at h
  split at h
  · cases h
  · cases h
  · cases h
  · split at h <;> cases h
  · cases h
section
variable {E : En} {W : WX} {X : Cx} {tg : Expr}
theorem range_walks {F : Fr} {Γ : Gd} {H : Hp} {lo : Int} {n : Nat} : Walks E F Γ H (Itr lo n) ⟨(List.range n).map fun k => .int (lo + (k : Nat)), fun _ => True⟩ := fun Γ2 H2 σ2 S2 l A2 _ => by
  refine ⟨fun i hi => ?_, by simp [Itr]⟩
  rw [List.length_map, List.length_range] at hi
  refine ⟨hi, fun x H' hy => ?_⟩
  obtain ⟨rfl, rfl⟩ := hy
  exact ⟨Γ2, .int (lo + i), by rw [List.getElem?_map, List.getElem?_range hi]; rfl, Sx.refl A2.gh, .int _⟩
theorem range_walks0 {F : Fr} {Γ : Gd} {H : Hp} {n : Nat} : Walks E F Γ H (Itr 0 n) ⟨(List.range n).map fun (k : Nat) => .int (k : Int), fun _ => True⟩ := by
  have z := range_walks (E := E) (F := F) (Γ := Γ) (H := H) (lo := 0) (n := n)
  simp only [Int.zero_add] at z
  exact z
theorem qi_range1 {a : Expr} {p pos : Pos} {m : MA} (hg : Gl X "range") (hm : X.mg "range" = none) (ha : QA X E W [a] m) (hs : starEach [a] X.env = [(false, eval a X.env)] := by rfl) : QI X E W tg (.Call (.Name "range" p) [a] [] pos) (mRange1 m) := by
  obtain ⟨ta, h1, h2⟩ := ha
  refine ⟨_, pi_range1 hg hm h1 hs, fun F Γ H σ S A => RunR.bind (fun R vs H1 => ∃ j : Int, vs = [.int j] ∧ -(2 ^ 62) ≤ j ∧ j < 2 ^ 62 ∧ R (Itr 0 j.toNat) H1) (fun Q h => h) (h2 F Γ H σ S A) fun ps S1 vs Γ1 H1 _ l1 A1 r1 => ?_⟩
  split
  · rename_i j
    split
    · cases r1 with
      | cons r r1 => cases r1; cases r with
        | d r => cases r; exact RunR.pure A1 range_walks0 fun Q q => ⟨_, rfl, by omega, by omega, q⟩
    · trivial
  · trivial
theorem qi_range2 {a b : Expr} {p pos : Pos} {m : MA} (hg : Gl X "range") (hm : X.mg "range" = none) (ha : QA X E W [a, b] m) (hs : starEach [a, b] X.env = [(false, eval a X.env), (false, eval b X.env)] := by rfl) (hs2 : starEach [b] X.env = [(false, eval b X.env)] := by rfl) :
    QI X E W tg (.Call (.Name "range" p) [a, b] [] pos) (mRange2 m) := by
  obtain ⟨ta, h1, h2⟩ := ha
  refine ⟨_, pi_range2 hg hm h1 hs hs2, fun F Γ H σ S A => RunR.bind (fun R vs H1 => ∃ i j : Int, vs = [.int i, .int j] ∧ (-(2 ^ 62) ≤ i ∧ i < 2 ^ 62 ∧ -(2 ^ 62) ≤ j ∧ j < 2 ^ 62) ∧ R (Itr i (j - i).toNat) H1) (fun Q h => h) (h2 F Γ H σ S A) fun ps S1 vs Γ1 H1 _ l1 A1 r1 => ?_⟩
  split
  · rename_i i j
    split
    · cases r1 with
      | cons r r1 => cases r1 with
        | cons r' r1 => cases r1; cases r with
          | d r => cases r; cases r' with
            | d r => cases r; exact RunR.pure A1 range_walks fun Q q => ⟨_, _, rfl, by omega, q⟩
    · trivial
  · trivial
theorem walk_list {F : Fr} {Γ : Gd} {H : Hp} {a : Addr} {its : Its} (h : StL E F Γ a its) : Walks E F Γ H (Itl E.K a) its := fun Γ2 H2 σ2 S2 l A2 ok => by
  obtain ⟨xs, hs, ra⟩ := h Γ2 H2 σ2 S2 l A2 ok
  refine ⟨fun i hi => ⟨?_, fun x H' hy => ?_⟩, xs, hs, by rw [ra.length]; exact Nat.le_refl _⟩
  · obtain ⟨v, h1, _⟩ := ra.get (List.getElem?_eq_getElem hi)
    exact ⟨xs, v, hs, h1⟩
  · obtain ⟨rfl, hx⟩ := hy
    obtain ⟨d, h1, h2⟩ := ra.getV (hx xs hs)
    exact ⟨Γ2, d, h1, Sx.refl A2.gh, h2⟩
theorem walk_tup {F : Fr} {Γ : Gd} {H : Hp} {a : Addr} {its : Its} (h : StT E F Γ a its) : Walks E F Γ H (Itt E.K a) its := fun Γ2 H2 σ2 S2 l A2 ok => by
  obtain ⟨xs, hs, ra⟩ := h Γ2 H2 σ2 S2 l A2 ok
  refine ⟨fun i hi => ⟨?_, fun x H' hy => ?_⟩, xs, hs, by rw [ra.length]; exact Nat.le_refl _⟩
  · obtain ⟨v, h1, _⟩ := ra.get (List.getElem?_eq_getElem hi)
    exact ⟨xs, v, hs, h1⟩
  · obtain ⟨rfl, hx⟩ := hy
    obtain ⟨d, h1, h2⟩ := ra.getV (hx xs hs)
    exact ⟨Γ2, d, h1, Sx.refl A2.gh, h2⟩
theorem PI_or {it : Expr} {w1 w2 : TI} (h1 : PI X tg it w1) (h2 : PI X tg it w2) : PI X tg it (fun σ H R => w1 σ H R ∨ w2 σ H R) := ⟨fun pins s σ H R I h => by
  rcases h with h | h
  · exact h1.run pins s σ H R I h
  · exact h2.run pins s σ H R I h⟩
theorem walk_str {F : Fr} {Γ : Gd} {H : Hp} {z : Str} : Walks E F Γ H (L2.Its z) ⟨z.cps.toList.map fun c => .str ⟨#[c]⟩, fun _ => True⟩ := fun Γ2 H2 σ2 S2 l A2 ok => by
  refine ⟨fun i hi => ⟨?_, fun x H' hy => ?_⟩, ?_⟩
  · rw [List.length_map, Array.length_toList] at hi; exact hi
  · obtain ⟨rfl, c, h1, rfl⟩ := hy
    exact ⟨Γ2, .str ⟨#[c]⟩, by rw [List.getElem?_map, Array.getElem?_toList, h1]; rfl, Sx.refl A2.gh, .str _⟩
  · show z.cps.size ≤ _
    rw [List.length_map, Array.length_toList]; exact Nat.le_refl _
theorem qi_iter {e : Expr} {m : ME} (hK : X.K = E.K) (he : QE X E W e m) : QI X E W tg e (mIter m) := by
  obtain ⟨te, h1, h2⟩ := he
  refine ⟨_, PI_or (pi_list h1) (PI_or (pi_tup h1) (pi_str h1)), fun F Γ H σ S A => ?_⟩
  rw [hK]
  have z := h2 F Γ H σ S A
  unfold mIter
  cases e1 : m S with
  | st => trivial
  | ex x S1 => rw [e1] at z; exact fun w Q => .inl (z w _)
  | ok p S1 =>
    rw [e1] at z
    show RunR E W F Γ σ (Walks E F) _ (seqIts p S1)
    cases e2 : seqIts p S1 with
    | st => trivial
    | ex x S2 => exact absurd e2 seqIts_noex
    | ok its S2 =>
      intro Q q
      have key : ∀ {x : V} {Γ1 : Gd} {H1 : Hp}, Abs E F Γ1 H1 σ S1 → Pp E F σ Γ1 x p → its.ok S2 ∧ ∃ Γ', Γ1.Le Γ' ∧ Abs E F Γ' H1 σ S2 ∧
          ((itK p S1 = 0 ∧ ∃ a, x = .ref a ∧ StL E F Γ' a its) ∨ (itK p S1 = 1 ∧ ∃ a, x = .ref a ∧ StT E F Γ' a its) ∨ (itK p S1 = 2 ∧ ∃ z : Str, x = .str z ∧ its = ⟨z.cps.toList.map fun c => .str ⟨#[c]⟩, fun _ => True⟩)) := fun A r => seq_stay A r e2
      by_cases h0 : itK p S1 = 0
      · refine .inl (z _ fun x Γ1 H1 l1 A1 r1 => ?_)
        obtain ⟨ok, Γ2, l2, A2, ⟨_, a, rfl, hs⟩ | ⟨h, _⟩ | ⟨h, _⟩⟩ := key A1 r1
        · obtain ⟨xs, k1, k2⟩ := hs Γ2 H1 σ S2 (Gd.Le.refl _) A2 ok
          exact ⟨a, rfl, ⟨xs, k1⟩, q _ Γ2 H1 (l1.trans l2) A2 (walk_list hs)⟩
        · omega
        · omega
      · by_cases h1 : itK p S1 = 1
        · refine .inr (.inl (z _ fun x Γ1 H1 l1 A1 r1 => ?_))
          obtain ⟨ok, Γ2, l2, A2, ⟨h, _⟩ | ⟨_, a, rfl, hs⟩ | ⟨h, _⟩⟩ := key A1 r1
          · omega
          · obtain ⟨xs, k1, k2⟩ := hs Γ2 H1 σ S2 (Gd.Le.refl _) A2 ok
            exact ⟨a, rfl, ⟨xs, k1⟩, q _ Γ2 H1 (l1.trans l2) A2 (walk_tup hs)⟩
          · omega
        · refine .inr (.inr (z _ fun x Γ1 H1 l1 A1 r1 => ?_))
          obtain ⟨ok, Γ2, l2, A2, ⟨h, _⟩ | ⟨h, _⟩ | ⟨_, zz, rfl, hs⟩⟩ := key A1 r1
          · omega
          · omega
          · subst hs
            exact ⟨zz, rfl, q _ Γ2 H1 (l1.trans l2) A2 walk_str⟩
/-- the items of a list, one by one -/
theorem StL.at {F : Fr} {Γ Γ2 : Gd} {H2 : Hp} {σ2 : L2.St} {S2 : Sg} {a : Addr} {its : Its} (h : StL E F Γ a its) (l : Γ.Le Γ2) (A2 : Abs E F Γ2 H2 σ2 S2) (ok : its.ok S2) : ∃ xs, SqL E.K H2 a xs ∧ RpAll E Γ2 xs its.ds := h Γ2 H2 σ2 S2 l A2 ok
theorem StL.mono {F : Fr} {Γ Γ2 : Gd} {a : Addr} {its : Its} (h : StL E F Γ a its) (l : Γ.Le Γ2) : StL E F Γ2 a its := fun Γ3 H3 σ3 S3 l3 => h Γ3 H3 σ3 S3 (l.trans l3)
/-- one value as a list that is walked -/
theorem seq_list {F : Fr} {Γ : Gd} {H : Hp} {σ : L2.St} {S : Sg} {x : V} {p : PV} (A : Abs E F Γ H σ S) (r : Pp E F σ Γ x p) {α β : Type} {rel : Gd → Hp → β → α → Prop} {run : (β → Hp → Prop) → Prop} {f : Its → Sg → Rr α}
    (h : ∀ its S' Γ' a, x = .ref a → Γ.Le Γ' → Abs E F Γ' H σ S' → its.ok S' → StL E F Γ' a its → RunR E W F Γ' σ rel run (f its S')) : RunR E W F Γ σ rel run (if itK p S = 0 then (seqIts p S).bind f else .st) := by
  split
  · rename_i h0
    cases e : seqIts p S with
    | st => trivial
    | ex x S2 => exact absurd e seqIts_noex
    | ok its S2 =>
      obtain ⟨ok, Γ2, l2, A2, ⟨_, a, rfl, hs⟩ | ⟨k, _⟩ | ⟨k, _⟩⟩ := seq_stay A r e
      · exact RunR.weak l2 (h its S2 Γ2 a rfl l2 A2 ok hs)
      · omega
      · omega
  · trivial
theorem walk_enum {F : Fr} {Γ : Gd} {H : Hp} {a : Addr} {its : Its} (h : StL E F Γ a its) : Walks E F Γ H (Ite E.K a) ⟨(List.range its.ds.length).map fun (i : Nat) => .tup [.int (i : Int), its.ds.getD i .non], its.ok⟩ := fun Γ2 H2 σ2 S2 l A2 ok => by
  obtain ⟨xs, hs, ra⟩ := h Γ2 H2 σ2 S2 l A2 ok
  refine ⟨fun i hi => ?_, xs, hs, by simp only [List.length_map, List.length_range, ra.length]; exact Nat.le_refl _⟩
  simp only [List.length_map, List.length_range] at hi
  obtain ⟨u, h1, h2⟩ := ra.get (List.getElem?_eq_getElem hi)
  refine ⟨⟨xs, u, hs, h1⟩, fun x H' hy => ?_⟩
  obtain ⟨T, p1, rfl, nT, rfl, f1⟩ := hy
  have e3 : p1 = u := Option.some.inj ((f1 xs hs).symm.trans h1)
  subst e3
  have sn := Sx.new (o := .tup [.int (i : Nat), p1]) A2.gh nT
  refine ⟨_, _, ?_, sn, .tup upd_same (.cons (.int _) (.cons (h2.mono sn.le) .nil))⟩
  rw [List.getElem?_map, List.getElem?_range hi, Option.map_some, List.getD_eq_getElem?_getD, List.getElem?_eq_getElem hi] <;> rfl
theorem qi_enum {e : Expr} {p pos tpos : Pos} {elts : List Expr} {kk : Nat} {m : MA} (hK : X.K = E.K) (hg : Gl X "enumerate") (hm : X.mg "enumerate" = none) (ha : QA X E W [e] m) (hs : starEach [e] X.env = [(false, eval e X.env)] := by rfl) :
    QI X E W (.Tuple elts kk tpos) (.Call (.Name "enumerate" p) [e] [] pos) (mEnum m) := by
  obtain ⟨ta, h1, h2⟩ := ha
  refine ⟨_, pi_enum hg hm h1 hs, fun F Γ H σ S A => ?_⟩
  rw [hK]
  refine RunR.bind (fun R vs H1 => ∃ a xs, vs = [.ref a] ∧ SqL E.K H1 a xs ∧ R (Ite E.K a) H1) (fun Q h => h) (h2 F Γ H σ S A) fun ps S1 vs Γ1 H1 _ l1 A1 r1 => ?_
  split
  · cases r1 with
    | cons r r1 =>
      cases r1
      refine seq_list A1 r fun its S2 Γ2 a ea l2 A2 ok hs => ?_
      obtain ⟨xs, k1, k2⟩ := hs.at (Gd.Le.refl _) A2 ok
      exact RunR.pure A2 (walk_enum hs) fun Q q => ⟨a, xs, by rw [ea], k1, q⟩
  · trivial
theorem walk_zip {F : Fr} {Γ : Gd} {H : Hp} {a b : Addr} {i1 i2 : Its} (h : StL E F Γ a i1) (k : StL E F Γ b i2) : Walks E F Γ H (Itz E.K a b) ⟨(i1.ds.zip i2.ds).map fun z => .tup [z.1, z.2], fun S => i1.ok S ∧ i2.ok S⟩ := fun Γ2 H2 σ2 S2 l A2 ok => by
  obtain ⟨xs, hx2, ax⟩ := h Γ2 H2 σ2 S2 l A2 ok.1
  obtain ⟨ys, hy2, ay⟩ := k Γ2 H2 σ2 S2 l A2 ok.2
  refine ⟨fun i hi => ?_, xs, ys, hx2, hy2, ?_⟩
  · simp only [List.length_map, List.length_zip] at hi
    obtain ⟨u, h1, h2⟩ := ax.get (List.getElem?_eq_getElem (show i < i1.ds.length by omega))
    obtain ⟨v, h3, h4⟩ := ay.get (List.getElem?_eq_getElem (show i < i2.ds.length by omega))
    refine ⟨⟨xs, ys, u, v, hx2, hy2, h1, h3⟩, fun p H' hp => ?_⟩
    obtain ⟨T, p1, p2, rfl, nT, rfl, f1, f2⟩ := hp
    have e3 : p1 = u := Option.some.inj ((f1 xs hx2).symm.trans h1)
    have e4 : p2 = v := Option.some.inj ((f2 ys hy2).symm.trans h3)
    subst e3 e4
    have sn := Sx.new (o := .tup [p1, p2]) A2.gh nT
    refine ⟨_, _, ?_, sn, .tup upd_same (.cons (h2.mono sn.le) (.cons (h4.mono sn.le) .nil))⟩
    have ea := List.getElem?_eq_getElem (show i < i1.ds.length by omega)
    have eb := List.getElem?_eq_getElem (show i < i2.ds.length by omega)
    rw [List.getElem?_map, List.getElem?_zip_eq_some (z := (i1.ds[i], i2.ds[i])) |>.mpr ⟨ea, eb⟩] <;> rfl
  · simp only [List.length_map, List.length_zip, ax.length, ay.length]
    omega
theorem qi_zip2 {e e2 : Expr} {p pos tpos : Pos} {elts : List Expr} {kk : Nat} {m : MA} (hK : X.K = E.K) (hg : Gl X "zip") (hm : X.mg "zip" = none) (ha : QA X E W [e, e2] m)
    (hs : starEach [e, e2] X.env = (false, eval e X.env) :: starEach [e2] X.env := by rfl) (hpl : (backTo pos (starEach [e2] X.env)).any (·.1) = false := by rfl) :
    QI X E W (.Tuple elts kk tpos) (.Call (.Name "zip" p) [e, e2] [] pos) (mZip2 m) := by
  obtain ⟨ta, h1, h2⟩ := ha
  refine ⟨_, pi_zip hg hm h1 hs hpl, fun F Γ H σ S A => ?_⟩
  rw [hK]
  refine RunR.bind (fun R vs H1 => ∃ a b xs ys, vs = [.ref a, .ref b] ∧ SqL E.K H1 a xs ∧ SqL E.K H1 b ys ∧ R (Itz E.K a b) H1) (fun Q h => h) (h2 F Γ H σ S A) fun ps S1 vs Γ1 H1 _ l1 A1 r1 => ?_
  split
  · cases r1 with
    | cons r r1 => cases r1 with
      | cons r' r1 =>
        cases r1
        refine seq_list A1 r fun its S2 Γ2 a ea l2 A2 ok hs => seq_list A2 (r'.mono l2) fun its2 S3 Γ3 b eb l3 A3 ok2 hs2 => ?_
        split
        · rename_i ok1
          obtain ⟨xs, k1, k2⟩ := hs.at l3 A3 ok1
          obtain ⟨ys, k3, k4⟩ := hs2.at (Gd.Le.refl _) A3 ok2
          exact RunR.pure A3 (walk_zip (hs.mono l3) hs2) fun Q q => ⟨a, b, xs, ys, by rw [ea, eb], k1, k3, q⟩
        · trivial
  · trivial
end
end RS

set_option Elab.async false
set_option linter.all false
set_option maxRecDepth 100000
set_option maxHeartbeats 2000000
namespace RS
open PySem PySem.Spec PyProof.Rows L2
open Evl (Ex)

/-! ### another frame for a while -/
def ownAt (σ : L2.St) (S : Sg) (a : Addr) : Prop := ∃ (i : Nat) (c : Cell), S.sl[i]? = some (.own c) ∧ σ[i]? = some (some (.ref a))
def ownList (σ : L2.St) : List Addr := σ.filterMap fun o => match o with
  | some (.ref a) => some a
  | _ => none
theorem mem_ownList {σ : L2.St} {i : Nat} {a : Addr} (h : σ[i]? = some (some (.ref a))) : a ∈ ownList σ := List.mem_filterMap.mpr ⟨some (.ref a), List.mem_of_getElem? h, rfl⟩
section
variable {E : En} {W : WX} {F : Fr} {Γ Γ' Γ2 : Gd} {H H' H2 : Hp} {σ σ2 : L2.St} {S S' S2 : Sg}
/-- what others may change of what stands now -/
noncomputable def exNow (Γ : Gd) (σ : L2.St) (S : Sg) : List Addr := by
  classical
  exact Γ.m ++ (ownList σ).filter fun a => decide (ownAt σ S a)
theorem exNow_m {a : Addr} (h : a ∈ Γ.m) : a ∈ exNow Γ σ S := by unfold exNow; exact List.mem_append_left _ h
theorem exNow_own {i : Nat} {c : Cell} {a : Addr} (h : S.sl[i]? = some (.own c)) (k : σ[i]? = some (some (.ref a))) : a ∈ exNow Γ σ S := by
  unfold exNow
  exact List.mem_append_right _ (List.mem_filter.mpr ⟨mem_ownList k, by simp only [decide_eq_true_eq]; exact ⟨i, c, h, k⟩⟩)
theorem exNow_inv {a : Addr} (h : a ∈ exNow Γ σ S) : a ∈ Γ.m ∨ ownAt σ S a := by
  unfold exNow at h
  rcases List.mem_append.mp h with h | h
  · exact .inl h
  · exact .inr (by have z := (List.mem_filter.mp h).2; simpa only [decide_eq_true_eq] using z)
noncomputable abbrev Fr.now (F : Fr) (Γ : Gd) (H : Hp) (σ : L2.St) (S : Sg) : Fr := { F with H := H, Γ := Γ, ex := exNow Γ σ S }
theorem Abs.now (A : Abs E F Γ H σ S) : Abs E (F.now Γ H σ S) Γ H σ S where
  fh := fun a o h _ => h
  le := Gd.Le.refl _
  fn := fun a h => .inl h
  fc := fun a h => .inl (exNow_m h)
  gh := A.gh
  nd := A.nd
  ml := A.ml
  cel := A.cel
  len := A.len
  dat := A.dat
  own := fun i c h => by
    obtain ⟨a, h1, h2, h3, h4, h5⟩ := A.own i c h
    exact ⟨a, h1, h2, h3, .inr (exNow_own h h1), h5⟩
  sep := A.sep
  exs := A.exs
  exn := A.exn
  fx := fun a h => by
    rcases exNow_inv h with h | ⟨i, c, h, k⟩
    · obtain ⟨k, hk, e⟩ := List.mem_iff_getElem.mp h
      have hk2 : k < S.ce.length := by rw [← A.ml]; exact hk
      obtain ⟨b, h1, _, h3⟩ := A.cel k _ (List.getElem?_eq_getElem hk2)
      rw [List.getElem?_eq_getElem hk, e] at h1
      cases h1
      exact h3.there
    · obtain ⟨b, h1, _, _, _, h5⟩ := A.own i c h
      rw [k] at h1; cases h1
      exact h5.there
/-- none of these may change of what stood at the entry -/
theorem Abs.ex_old (A : Abs E F Γ H σ S) {a : Addr} (h : a ∈ exNow Γ σ S) : a ∈ F.ex ∨ F.H a = none := by
  rcases exNow_inv h with h | ⟨i, c, h, k⟩
  · exact A.fc a h
  · obtain ⟨b, h1, _, _, h4, _⟩ := A.own i c h
    rw [k] at h1; cases h1
    exact h4.symm
theorem Abs.back (A : Abs E F Γ H σ S) (B : Abs E (F.now Γ H σ S) Γ2 H2 σ2 S2) : Abs E F Γ2 H2 σ2 S2 where
  fh := fun a o h hx => B.fh a o (A.fh a o h hx) fun z => by
    rcases A.ex_old z with z | z
    · exact hx z
    · rw [z] at h; cases h
  le := A.le.trans B.le
  fn := fun a h => by
    rcases B.fn a h with z | z | z
    · exact A.fn a z
    · by_cases hx : a ∈ F.ex
      · exact .inr (.inr hx)
      · refine .inr (.inl ?_)
        cases e : F.H a with
        | none => rfl
        | some o => have := A.fh a o e hx; rw [show H a = none from z] at this; cases this
    · exact (A.ex_old z).elim (fun z => .inr (.inr z)) fun z => .inr (.inl z)
  fc := fun a h => by
    rcases B.fc a h with z | z
    · exact A.ex_old z
    · by_cases hx : a ∈ F.ex
      · exact .inl hx
      · refine .inr ?_
        cases e : F.H a with
        | none => rfl
        | some o => have := A.fh a o e hx; rw [show H a = none from z] at this; cases this
  gh := B.gh
  nd := B.nd
  ml := B.ml
  cel := B.cel
  len := B.len
  dat := B.dat
  own := fun i c h => by
    obtain ⟨a, h1, h2, h3, h4, h5⟩ := B.own i c h
    refine ⟨a, h1, h2, h3, ?_, h5⟩
    rcases h4 with z | z
    · by_cases hx : a ∈ F.ex
      · exact .inr hx
      · refine .inl ?_
        cases e : F.H a with
        | none => rfl
        | some o => have := A.fh a o e hx; rw [show H a = none from z] at this; cases this
    · exact (A.ex_old z).symm
  sep := B.sep
  exs := B.exs
  exn := B.exn
  fx := fun a h => by
    obtain ⟨o, ho⟩ := A.fx a h
    by_cases hx : a ∈ exNow Γ σ S
    · exact B.fx a hx
    · exact ⟨o, B.fh a o ho hx⟩
/-- p is none of what is known -/
structure Apart (F : Fr) (Γ : Gd) (σ : L2.St) (S : Sg) (p : Addr) : Prop where
  f : F.H p = none
  g : Γ.g p = none
  m : p ∉ Γ.m
  o : ∀ (i : Nat) (c : Cell), S.sl[i]? = some (.own c) → σ[i]? ≠ some (some (.ref p))
theorem Abs.apart {p : Addr} (A : Abs E F Γ H σ S) (hp : H p = none) : Apart F Γ σ S p where
  f := A.fnew hp
  g := Evl.fresh_back A.gh hp
  m := fun h => by
    obtain ⟨k, hk, e⟩ := List.mem_iff_getElem.mp h
    have hk2 : k < S.ce.length := by rw [← A.ml]; exact hk
    obtain ⟨a, h1, _, h3⟩ := A.cel k _ (List.getElem?_eq_getElem hk2)
    rw [List.getElem?_eq_getElem hk, e] at h1
    cases h1
    obtain ⟨o, ho⟩ := h3.there
    rw [hp] at ho; cases ho
  o := fun i c h k => by
    obtain ⟨a, h1, _, _, _, h5⟩ := A.own i c h
    rw [k] at h1; cases h1
    obtain ⟨o, ho⟩ := h5.there
    rw [hp] at ho; cases ho
/-- what is apart may change -/
theorem Abs.mutU {p : Addr} {o : HO} (A : Abs E F Γ H σ S) (ap : Apart F Γ σ S p) : Abs E F Γ (upd H p o) σ S where
  fh := fun a u h hx => by
    have hne : a ≠ p := fun z => by subst z; rw [ap.f] at h; cases h
    rw [upd_ne hne]; exact A.fh a u h hx
  le := A.le
  fn := A.fn
  fc := A.fc
  gh := fun a u h => by
    have hne : a ≠ p := fun z => by subst z; rw [ap.g] at h; cases h
    rw [upd_ne hne]; exact A.gh a u h
  nd := A.nd
  ml := A.ml
  cel := fun k c h => by
    obtain ⟨a, h1, h2, h3⟩ := A.cel k c h
    have hne : a ≠ p := fun z => by subst z; exact ap.m (List.mem_of_getElem? h1)
    exact ⟨a, h1, h2, h3.mono (Gd.Le.refl _) (upd_ne hne)⟩
  len := A.len
  dat := A.dat
  own := fun i c h => by
    obtain ⟨a, h1, h2, h3, h4, h5⟩ := A.own i c h
    have hne : a ≠ p := fun z => by subst z; exact ap.o i c h h1
    exact ⟨a, h1, h2, h3, h4, h5.mono (Gd.Le.refl _) (upd_ne hne)⟩
  sep := A.sep
  exs := A.exs
  exn := fun e h => ⟨(A.exn e h).1, (A.exn e h).2.mono (Gd.Le.refl _) fun a u h => by
    have hne : a ≠ p := fun z => by subst z; rw [ap.g] at h; cases h
    rw [upd_ne hne]; exact A.gh a u h⟩
  fx := fun a h => by
    by_cases hne : a = p
    · subst hne; exact ⟨_, upd_same⟩
    · obtain ⟨u, hu⟩ := A.fx a h; exact ⟨u, by rw [upd_ne hne]; exact hu⟩
/-- apart at a frame of now: apart behind -/
theorem Abs.apart_on {p : Addr} {o : HO} (A : Abs E F Γ H σ S) (ap : Apart F Γ σ S p) (ho : H p = some o) (B : Abs E (F.now Γ H σ S) Γ2 H2 σ2 S2) : Apart F Γ2 σ2 S2 p ∧ H2 p = some o := by
  have hx : p ∉ exNow Γ σ S := fun z => by
    rcases exNow_inv z with z | ⟨i, c, z, k⟩
    · exact ap.m z
    · exact ap.o i c z k
  refine ⟨⟨ap.f, ?_, fun z => ?_, fun i c h k => ?_⟩, B.fh p o ho hx⟩
  · cases e : Γ2.g p with
    | none => rfl
    | some u =>
      rcases B.fn p (by rw [e]; simp) with z | z | z
      · exact absurd ap.g z
      · rw [show H p = none from z] at ho; cases ho
      · exact absurd z hx
  · rcases B.fc p z with z | z
    · exact hx z
    · rw [show H p = none from z] at ho; cases ho
  · obtain ⟨a, h1, _, _, h4, _⟩ := B.own i c h
    rw [k] at h1; cases h1
    rcases h4 with z | z
    · rw [show H p = none from z] at ho; cases ho
    · exact hx z
/-- a thing apart becomes ground -/
theorem Abs.adopt {p : Addr} {o : HO} (A : Abs E F Γ H σ S) (ap : Apart F Γ σ S p) (ho : H p = some o) : Γ.Le (Γ.put p o) ∧ Abs E F (Γ.put p o) H σ S := by
  have le : Γ.Le (Γ.put p o) := Gd.le_put ap.g
  have gne : ∀ b, b ≠ p → (Γ.put p o).g b = Γ.g b := fun b hb => upd_ne hb
  have gh : Ex (Γ.put p o).g H := fun a u (h : upd Γ.g p o a = some u) => by
    by_cases hne : a = p
    · subst hne; rw [upd_same] at h; cases h; exact ho
    · rw [upd_ne hne] at h; exact A.gh a u h
  refine ⟨le, A.fh, A.le.trans le, fun a h => ?_, A.fc, gh, A.nd, A.ml, fun k c h => ?_, A.len, fun i d h => ?_, fun i c h => ?_, A.sep, A.exs, fun e h => ⟨(A.exn e h).1, (A.exn e h).2.mono le gh⟩, A.fx⟩
  · by_cases hne : a = p
    · subst hne; exact .inr (.inl ap.f)
    · rw [gne a hne] at h; exact A.fn a h
  · obtain ⟨a, h1, h2, h3⟩ := A.cel k c h
    have hne : a ≠ p := fun z => by subst z; exact ap.m (List.mem_of_getElem? h1)
    exact ⟨a, h1, by rw [gne a hne]; exact h2, h3.mono le rfl⟩
  · obtain ⟨v, h1, h2⟩ := A.dat i d h
    exact ⟨v, h1, h2.mono le⟩
  · obtain ⟨a, h1, h2, h3, h4, h5⟩ := A.own i c h
    have hne : a ≠ p := fun z => by subst z; exact ap.o i c h h1
    exact ⟨a, h1, by rw [gne a hne]; exact h2, h3, h4, h5.mono le rfl⟩
/-- .. a cell -/
theorem Abs.adoptC {p : Addr} {c : Cell} (A : Abs E F Γ H σ S) (ap : Apart F Γ σ S p) (hc : CellAt E Γ H p c) : Γ.Le ⟨Γ.g, Γ.m ++ [p]⟩ ∧ Abs E F ⟨Γ.g, Γ.m ++ [p]⟩ H σ { S with ce := S.ce ++ [c] } := by
  have le : Γ.Le ⟨Γ.g, Γ.m ++ [p]⟩ := ⟨Evl.Ex.refl _, List.prefix_append ..⟩
  refine ⟨le, A.fh, A.le.trans le, A.fn, fun a h => ?_, A.gh, ?_, by simp [A.ml], fun k c' h => ?_, A.len, fun i d h => ?_, fun i c' h => ?_, A.sep, A.exs, fun e h => ⟨(A.exn e h).1, (A.exn e h).2.mono le A.gh⟩, A.fx⟩
  · rcases List.mem_append.mp h with h | h
    · exact A.fc a h
    · rw [List.mem_singleton] at h; subst h; exact .inr ap.f
  · rw [List.nodup_append]
    exact ⟨A.nd, by simp, fun a ha b hb => by rw [List.mem_singleton] at hb; subst hb; exact fun z => ap.m (by rw [← z]; exact ha)⟩
  · by_cases hk : k < S.ce.length
    · rw [List.getElem?_append_left hk] at h
      obtain ⟨a, h1, h2, h3⟩ := A.cel k c' h
      exact ⟨a, pre_get le.m h1, h2, h3.mono le rfl⟩
    · rw [List.getElem?_append_right (by omega)] at h
      have hk0 : k - S.ce.length = 0 := by
        have := (List.getElem?_eq_some_iff.mp h).1
        simp at this; omega
      rw [hk0] at h
      cases h
      have hk1 : k = Γ.m.length := by rw [A.ml]; omega
      refine ⟨p, ?_, ap.g, hc.mono le rfl⟩
      subst hk1
      show (Γ.m ++ [p])[Γ.m.length]? = some p
      simp
  · obtain ⟨v, h1, h2⟩ := A.dat i d h
    exact ⟨v, h1, h2.mono le⟩
  · obtain ⟨a, h1, h2, h3, h4, h5⟩ := A.own i c' h
    refine ⟨a, h1, h2, fun z => ?_, h4, h5.mono le rfl⟩
    rcases List.mem_append.mp z with z | z
    · exact h3 z
    · rw [List.mem_singleton] at z; subst z; exact ap.o i c' h h1
/-- .. a slot's own -/
theorem Abs.adoptO {p : Addr} {c : Cell} {i : Nat} (A : Abs E F Γ H σ S) (ap : Apart F Γ σ S p) (hc : CellAt E Γ H p c) : Abs E F Γ H (σ.set i (some (.ref p))) { S with sl := S.sl.set i (.own c) } := by
  have key : ∀ {j : Nat} {x : SV}, (S.sl.set i (.own c))[j]? = some x → (i = j ∧ i < S.sl.length ∧ x = .own c) ∨ (i ≠ j ∧ S.sl[j]? = some x) := fun {j x} h => by
    by_cases hij : i = j
    · subst hij
      have hl : i < S.sl.length := by
        have := (List.getElem?_eq_some_iff.mp h).1
        rw [List.length_set] at this; exact this
      rw [List.getElem?_set_self hl] at h
      cases h
      exact .inl ⟨rfl, hl, rfl⟩
    · rw [List.getElem?_set_ne hij] at h; exact .inr ⟨hij, h⟩
  have ne : ∀ {j : Nat}, i ≠ j → (σ.set i (some (V.ref p)))[j]? = σ[j]? := fun h => List.getElem?_set_ne h
  have self : i < S.sl.length → (σ.set i (some (V.ref p)))[i]? = some (some (.ref p)) := fun h => List.getElem?_set_self (by rw [A.len]; exact h)
  refine ⟨A.fh, A.le, A.fn, A.fc, A.gh, A.nd, A.ml, A.cel, by simp [A.len], fun j e hj => ?_, fun j e hj => ?_, fun j k e f b hj hk ej ek => ?_, fun j hj => ?_, A.exn, A.fx⟩
  · rcases key hj with ⟨rfl, hl, z⟩ | ⟨n, hj⟩
    · cases z
    · obtain ⟨w, h1, h2⟩ := A.dat j e hj
      exact ⟨w, by rw [ne n]; exact h1, h2⟩
  · rcases key hj with ⟨rfl, hl, z⟩ | ⟨n, hj⟩
    · cases z
      exact ⟨p, self hl, ap.g, ap.m, .inl ap.f, hc⟩
    · obtain ⟨w, h1, h2⟩ := A.own j e hj
      exact ⟨w, by rw [ne n]; exact h1, h2⟩
  · rcases key hj with ⟨rfl, hl, _⟩ | ⟨n1, hj⟩
    · rcases key hk with ⟨rfl, _, _⟩ | ⟨n2, hk⟩
      · rfl
      · rw [self hl] at ej
        cases ej
        rw [ne n2] at ek
        exact absurd ek (ap.o k f hk)
    · rcases key hk with ⟨rfl, hl, _⟩ | ⟨n2, hk⟩
      · rw [self hl] at ek
        cases ek
        rw [ne n1] at ej
        exact absurd ej (ap.o j e hj)
      · rw [ne n1] at ej
        rw [ne n2] at ek
        exact A.sep j k e f b hj hk ej ek
  · rcases key hj with ⟨_, _, z⟩ | ⟨n, hj⟩
    · cases z
    · rw [ne n]; exact A.exs j hj
end

/-! ### new things -/
/-- a new thing: what it holds -/
abbrev MN := Sg → Rr (Cell × Sg)
def New (E : En) (F : Fr) (σ : L2.St) : Gd → Hp → V → Cell × Sg → Prop := fun Γ H v cs => ∃ p, v = .ref p ∧ CellAt E Γ H p cs.1 ∧ Apart F Γ σ cs.2 p
def SN (E : En) (W : WX) (te : TE) (m : MN) : Prop := ∀ F Γ H σ S, Abs E F Γ H σ S → RunR E W F Γ σ (New E F σ) (te σ H) (m S) ∧ ∀ c S2 S1, m S = .ok (c, S2) S1 → S2 = S1
def QN (X : Cx) (E : En) (W : WX) (e : Expr) (m : MN) : Prop := ∃ te, PE X e te ∧ SN E W te m
/-- as a datum: a list, an instance -/
def frzC : Cell → Option RD
  | .lst ds => some (.lst ds)
  | .obj c fs ds => some (.obj c fs ds)
  | _ => none
def mFrz (m : MN) : ME := fun S => (m S).bind fun cs S1 => retO (frzC cs.1) S1
/-- as a cell -/
def mCell (m : MN) : ME := fun S => (m S).bind fun cs S1 => .ok (.d (.loc S1.ce.length)) { S1 with ce := S1.ce ++ [cs.1] }
/-- x = .. , the slot's own -/
def mOwn (i : Nat) (m : MN) : MS := fun S => (m S).out fun cs S1 => .nx { S1 with sl := S1.sl.set i (.own cs.1) }
section
variable {E : En} {W : WX} {te : TE} {m : MN} {X : Cx}
theorem frz_rp {Γ : Gd} {H : Hp} {p : Addr} {c : Cell} {d : RD} (h : CellAt E Γ H p c) (e : frzC c = some d) : ∃ o, H p = some o ∧ ∀ Γ2 : Gd, Γ.Le Γ2 → Γ2.g p = some o → Rp E Γ2 (.ref p) d := by
  obtain ⟨o, ho, hr⟩ := h.obj_rp
  refine ⟨o, ho, fun Γ2 l g => ?_⟩
  have z := hr Γ2 l g
  cases c <;> cases e <;> exact z
theorem se_frz (h : SN E W te m) : SE E W te (mFrz m) := fun F Γ H σ S A => by
  obtain ⟨h1, h2⟩ := h F Γ H σ S A
  refine RunR.bind (fun Q v H1 => Q v H1) (fun Q h => h) h1 fun cs S1 v Γ1 H1 e l1 A1 r1 => ?_
  have es := h2 cs.1 cs.2 S1 (by rw [e])
  obtain ⟨p, rfl, hc, ap⟩ := r1
  rw [es] at ap
  cases ef : frzC cs.1 with
  | none => trivial
  | some d =>
    obtain ⟨o, ho, hr⟩ := frz_rp hc ef
    obtain ⟨l2, A2⟩ := A1.adopt ap ho
    exact RunR.weak l2 (RunR.val A2 (hr _ l2 upd_same) fun Q q => q)
theorem se_cell (h : SN E W te m) : SE E W te (mCell m) := fun F Γ H σ S A => by
  obtain ⟨h1, h2⟩ := h F Γ H σ S A
  refine RunR.bind (fun Q v H1 => Q v H1) (fun Q h => h) h1 fun cs S1 v Γ1 H1 e l1 A1 r1 => ?_
  have es := h2 cs.1 cs.2 S1 (by rw [e])
  obtain ⟨p, rfl, hc, ap⟩ := r1
  rw [es] at ap
  obtain ⟨l2, A2⟩ := A1.adoptC ap hc
  exact RunR.weak l2 (RunR.pure A2 (.d (.loc (by rw [← A1.ml]; simp))) fun Q q => q)
theorem ss_own {i : Nat} (h : SN E W te m) : SS E W (tAsg te (gName i)) (mOwn i m) := fun F Γ H σ S A => by
  obtain ⟨h1, h2⟩ := h F Γ H σ S A
  refine RunS.of (fun D v H1 => D.nx (σ.set i (some v)) H1) (fun D h => h) h1 fun cs S1 v Γ1 H1 e l1 A1 r1 => ?_
  have es := h2 cs.1 cs.2 S1 (by rw [e])
  obtain ⟨p, rfl, hc, ap⟩ := r1
  rw [es] at ap
  exact fun D q => q Γ1 H1 _ (Gd.Le.refl _) (A1.adoptO ap hc)
theorem q_frz {e : Expr} (h : QN X E W e m) : QE X E W e (mFrz m) := by obtain ⟨te, h1, h2⟩ := h; exact ⟨te, h1, se_frz h2⟩
theorem q_cell {e : Expr} (h : QN X E W e m) : QE X E W e (mCell m) := by obtain ⟨te, h1, h2⟩ := h; exact ⟨te, h1, se_cell h2⟩
theorem RunR.new {F : Fr} {Γ : Gd} {H : Hp} {σ : L2.St} {S : Sg} {c : Cell} {run : VK → Prop} (A : Abs E F Γ H σ S) (h : ∀ Q : VK, (∀ p o, H p = none → CellAt E Γ (upd H p o) p c → Q (.ref p) (upd H p o)) → run Q) : RunR E W F Γ σ (New E F σ) run (.ok (c, S) S) := fun Q q =>
  h Q fun p o hp hc => by
    have ap := A.apart hp
    exact q _ Γ _ (Gd.Le.refl _) (A.mutU ap) ⟨p, rfl, hc, ap⟩
end
end RS

set_option Elab.async false
set_option linter.all false
set_option maxRecDepth 100000
set_option maxHeartbeats 2000000
namespace RS
open PySem PySem.Spec PyProof.Rows L2
open Evl (Ex)

/-! ### list comprehensions -/
def wipeL (sl : List SV) : List Nat → List SV
  | [] => sl
  | v :: vs => (wipeL sl vs).set v .un
def keepD : Option SV → SV
  | some (.dat d) => .dat d
  | _ => .un
def backL (old : List SV) : List Nat → List SV → List SV
  | [], new => new
  | v :: vs, new => (backL old vs new).set v (keepD old[v]?)
def wipeS (vs : List Nat) (S : Sg) : Sg := { S with sl := wipeL S.sl vs }
def backS (vs : List Nat) (S S2 : Sg) : Sg := { S2 with sl := backL S.sl vs S2.sl }
open Classical in
noncomputable def lcL (ok : Sg → Prop) (g : MG) (t : MT) (e : ME) (vs : List Nat) : List RD → List RD → Sg → Rr (List RD)
  | [], acc, S => if ok S then .ok acc S else .st
  | d :: ds, acc, S => if ok S then match g d (wipeS vs S) with
    | none => .st
    | some S1 => match t S1 with
      | .ok true S2 => match e S2 with
        | .ok p S3 => match toD p S3 with
          | .ok r S4 => lcL ok g t e vs ds (acc ++ [r]) (backS vs S S4)
          | _ => .st
        | _ => .st
      | .ok false S2 => lcL ok g t e vs ds acc (backS vs S S2)
      | _ => .st
    else .st
noncomputable def nLc (i : MI) (g : MG) (t : MT) (e : ME) (vs : List Nat) : MN := fun S => (i S).bind fun its S1 => if its.ds.length ≤ 100000 then (lcL its.ok g t e vs its.ds [] S1).bind fun ds S2 => .ok (.lst ds, S2) S2 else .st
section
variable {E : En} {W : WX} {F : Fr} {Γ Γ' Γ2 : Gd} {H H' H2 : Hp} {σ σ2 : L2.St} {S S' S2 : Sg}
theorem Abs.setU {i : Nat} {z : Option V} (A : Abs E F Γ H σ S) : Abs E F Γ H (σ.set i z) { S with sl := S.sl.set i .un } := by
  have key : ∀ {j : Nat} {x : SV}, (S.sl.set i .un)[j]? = some x → x ≠ .un → i ≠ j ∧ S.sl[j]? = some x := fun {j x} h hx => by
    by_cases hij : i = j
    · subst hij
      have hl : i < S.sl.length := by
        have := (List.getElem?_eq_some_iff.mp h).1
        rw [List.length_set] at this; exact this
      rw [List.getElem?_set_self hl] at h
      cases h; exact absurd rfl hx
    · exact ⟨hij, by rw [List.getElem?_set_ne hij] at h; exact h⟩
  refine ⟨A.fh, A.le, A.fn, A.fc, A.gh, A.nd, A.ml, A.cel, by simp [A.len], fun j e hj => ?_, fun j e hj => ?_, fun j k c e a hj hk ej ek => ?_, fun j hj => ?_, A.exn, A.fx⟩
  · obtain ⟨n, hj⟩ := key hj (fun z => nomatch z)
    obtain ⟨v, h1, h2⟩ := A.dat j e hj
    exact ⟨v, by rw [List.getElem?_set_ne n]; exact h1, h2⟩
  · obtain ⟨n, hj⟩ := key hj (fun z => nomatch z)
    obtain ⟨v, h1, h2⟩ := A.own j e hj
    exact ⟨v, by rw [List.getElem?_set_ne n]; exact h1, h2⟩
  · obtain ⟨n1, hj⟩ := key hj (fun z => nomatch z)
    obtain ⟨n2, hk⟩ := key hk (fun z => nomatch z)
    rw [List.getElem?_set_ne n1] at ej
    rw [List.getElem?_set_ne n2] at ek
    exact A.sep j k c e a hj hk ej ek
  · obtain ⟨n, hj⟩ := key hj (fun z => nomatch z)
    rw [List.getElem?_set_ne n]; exact A.exs j hj
theorem Abs.wipe (A : Abs E F Γ H σ S) : ∀ vs, Abs E F Γ H (L2.wipe σ vs) (wipeS vs S)
  | [] => A
  | v :: vs => Abs.setU (z := none) (A.wipe vs)
theorem backL_len {old : List SV} : ∀ {vs : List Nat} {new : List SV}, (backL old vs new).length = new.length
  | [], _ => rfl
  | v :: vs, new => by show ((backL old vs new).set v _).length = _; rw [List.length_set, backL_len]
theorem backL_out {old : List SV} {j : Nat} : ∀ {vs : List Nat} {new : List SV}, j ∉ vs → (backL old vs new)[j]? = new[j]?
  | [], _, _ => rfl
  | v :: vs, new, h => by
    rw [List.mem_cons] at h
    show ((backL old vs new).set v _)[j]? = _
    rw [List.getElem?_set_ne (fun z => h (.inl z.symm)), backL_out fun z => h (.inr z)]
theorem backL_in {old : List SV} {j : Nat} {x : SV} : ∀ {vs : List Nat} {new : List SV}, j ∈ vs → (backL old vs new)[j]? = some x → x = keepD old[j]?
  | [], _, h, _ => by cases h
  | v :: vs, new, h, e => by
    replace e : ((backL old vs new).set v (keepD old[v]?))[j]? = some x := e
    by_cases hv : v = j
    · subst hv
      have hl : v < (backL old vs new).length := by
        have := (List.getElem?_eq_some_iff.mp e).1
        rw [List.length_set] at this; exact this
      rw [List.getElem?_set_self hl] at e
      cases e; rfl
    · rw [List.getElem?_set_ne hv] at e
      rcases List.mem_cons.mp h with z | z
      · exact absurd z.symm hv
      · exact backL_in z e
theorem Abs.backS {vs : List Nat} (A : Abs E F Γ H σ S) (B : Abs E F Γ2 H2 σ2 S2) (l : Γ.Le Γ2) (hl : σ2.length = σ.length) (hk : ∀ k, k ∉ vs → σ2[k]? = σ[k]?) : Abs E F Γ2 H2 σ (RS.backS vs S S2) := by
  have key : ∀ {j : Nat} {x : SV}, (backL S.sl vs S2.sl)[j]? = some x → (j ∉ vs ∧ S2.sl[j]? = some x) ∨ (j ∈ vs ∧ x = keepD S.sl[j]?) := fun {j x} h => by
    by_cases hj : j ∈ vs
    · exact .inr ⟨hj, backL_in hj h⟩
    · rw [backL_out hj] at h; exact .inl ⟨hj, h⟩
  have nown : ∀ {o : Option SV} {c : Cell}, SV.own c ≠ keepD o := fun {o c} h => by
    unfold keepD at h
    split at h <;> cases h
  have nexc : ∀ {o : Option SV}, SV.exc ≠ keepD o := fun {o} h => by
    unfold keepD at h
    split at h <;> cases h
  refine ⟨B.fh, B.le, B.fn, B.fc, B.gh, B.nd, B.ml, B.cel, ?_, fun j d hj => ?_, fun j c hj => ?_, fun j k c e a hj hk' ej ek => ?_, fun j hj => ?_, B.exn, B.fx⟩
  · show σ.length = (backL S.sl vs S2.sl).length
    rw [backL_len, ← B.len, hl]
  · rcases key hj with ⟨n, h⟩ | ⟨m, h⟩
    · obtain ⟨v, h1, h2⟩ := B.dat j d h
      exact ⟨v, by rw [← hk j n]; exact h1, h2⟩
    · have z : S.sl[j]? = some (.dat d) := by
        unfold keepD at h
        split at h
        · rename_i e; cases h; exact e
        · cases h
      obtain ⟨v, h1, h2⟩ := A.dat j d z
      exact ⟨v, h1, h2.mono l⟩
  · rcases key hj with ⟨n, h⟩ | ⟨m, h⟩
    · obtain ⟨a, h1, h2⟩ := B.own j c h
      exact ⟨a, by rw [← hk j n]; exact h1, h2⟩
    · exact absurd h nown
  · rcases key hj with ⟨n, h⟩ | ⟨m, h⟩
    · rcases key hk' with ⟨n', h'⟩ | ⟨m', h'⟩
      · exact B.sep j k c e a h h' (by rw [hk j n]; exact ej) (by rw [hk k n']; exact ek)
      · exact absurd h' nown
    · exact absurd h nown
  · rcases key hj with ⟨n, h⟩ | ⟨m, h⟩
    · rw [← hk j n]; exact B.exs j h
    · exact absurd h nexc
theorem wipe_congr {σ τ : L2.St} : ∀ (vs : List Nat), σ.length = τ.length → (∀ k, k ∉ vs → σ[k]? = τ[k]?) → wipe σ vs = wipe τ vs := by
  intro vs hl hk
  apply List.ext_getElem?
  intro i
  by_cases hi : i ∈ vs
  · have f : ∀ (ρ : L2.St), i < ρ.length → (wipe ρ vs)[i]? = some none := fun ρ h => by
      have hl : i < (wipe ρ vs).length := by rw [wipe_length]; exact h
      have e := List.getElem?_eq_getElem hl
      cases z : (wipe ρ vs)[i] with
      | none => rw [e, z]
      | some x => rw [z] at e; exact absurd hi (wipe_some e).2
    by_cases h : i < σ.length
    · rw [f σ h, f τ (hl ▸ h)]
    · rw [List.getElem?_eq_none (by rw [wipe_length]; omega), List.getElem?_eq_none (by rw [wipe_length]; omega)]
  · rw [wipe_out hi, wipe_out hi]
    exact hk i hi
theorem Apart.backS {vs : List Nat} {p : Addr} (h : Apart F Γ2 σ2 S2 p) (hk : ∀ k, k ∉ vs → σ2[k]? = σ[k]?) : Apart F Γ2 σ (RS.backS vs S S2) p where
  f := h.f
  g := h.g
  m := h.m
  o := fun i c hi => by
    by_cases hj : i ∈ vs
    · have z := backL_in hj hi
      unfold keepD at z
      split at z <;> cases z
    · have z : S2.sl[i]? = some (.own c) := by rw [← backL_out (old := S.sl) hj]; exact hi
      rw [← hk i hj]; exact h.o i c z
theorem Apart.step {p : Addr} {o : HO} (h : Apart F Γ σ S p) (hp : H p = some o) (s : Sx Γ H Γ2 H2) : Apart F Γ2 σ S p := ⟨h.f, s.stay_none hp h.g, by rw [s.m]; exact h.m, h.o⟩
theorem lcL_noex {ok : Sg → Prop} {g : MG} {t : MT} {e : ME} {vs : List Nat} {x : Exn} {S' : Sg} : ∀ {ds acc : List RD} {S : Sg}, lcL ok g t e vs ds acc S ≠ .ex x S'
  | [], acc, S, h => by unfold lcL at h; split at h <;> cases h
  | d :: ds, acc, S, h => by
    unfold lcL at h
    split at h
    · split at h
      · cases h
      · split at h
        · split at h
          · split at h
            · exact lcL_noex h
            · cases h
          · cases h
        · exact lcL_noex h
        · cases h
    · cases h
abbrev W0 : WX := fun _ _ _ _ => False
theorem sn_lc {wi : TI} {i : MI} {g : TG} {mg : MG} {tt : TT} {t : MT} {te : TE} {e : ME} {l vs : List Nat} (hi : SI E W wi i) (hg : SG E g mg l) (hl : ∀ k ∈ l, k ∈ vs) (ht : ST E W0 tt t) (he : SE E W0 te e) : SN E W (tLc wi g tt te vs) (nLc i mg t e vs) := fun F Γ H σ S A => by
  constructor
  · refine RunR.bind (fun Q J H1 => ∀ D, H1 D = none → ∃ W : Nat → Nat → Hp → Prop, (∃ m, W 0 m (upd H1 D (.lst []))) ∧ ∀ i m H, W i m H →
      (J.stop i H ∧ Q (.ref D) H) ∨ (J.go i H ∧ ∃ Nx : Hp → Prop, (∀ H', Nx H' → ∃ m', m' < m ∧ W (i + 1) m' H') ∧ ∀ x H', J.yld i H x H' → g x (wipe σ vs) H' fun σ2 H2 => wipe σ2 vs = wipe σ vs ∧ tt σ2 H2 fun b H3 =>
        if b = true then te σ2 H3 fun y H4 => ∃ acc, H4 D = some (.lst acc) ∧ acc.length < sizeLine ∧ Nx (upd H4 D (.lst (acc ++ [y]))) else Nx H3)) (fun Q h => h) (hi F Γ H σ S A) fun its S1 J Γ1 H1 _ l1 A1 hw => ?_
    split
    · rename_i hsz
      cases er : lcL its.ok mg t e vs its.ds [] S1 with
      | st => trivial
      | ex x S2 => exact absurd er lcL_noex
      | ok dsF SF =>
        intro Q q D hD
        have ap0 := A1.apart hD
        refine ⟨fun i k H' => k = its.ds.length - i ∧ i ≤ its.ds.length ∧ ∃ Γ' S' acc accD, Γ1.Le Γ' ∧ Abs E F Γ' H' σ S' ∧ Apart F Γ' σ S' D ∧ H' D = some (.lst acc) ∧ RpAll E Γ' acc accD ∧ accD.length ≤ i ∧ lcL its.ok mg t e vs (its.ds.drop i) accD S' = .ok dsF SF,
          ⟨its.ds.length, by omega, Nat.zero_le _, Γ1, S1, [], [], Gd.Le.refl _, A1.mutU ap0, ap0, upd_same, .nil, Nat.le_refl _, by rw [List.drop_zero]; exact er⟩, ?_⟩
        rintro i k H' ⟨rfl, hin, Γ', S', acc, accD, l', A', ap', hacc, racc, hlen, hr⟩
        by_cases hlt : i < its.ds.length
        · rw [List.drop_eq_getElem_cons hlt] at hr
          unfold lcL at hr
          by_cases hok : its.ok S'
          · rw [if_pos hok] at hr
            obtain ⟨hgo, hy⟩ := (hw Γ' H' σ S' l' A' hok).1 i hlt
            refine .inr ⟨hgo, fun H2 => ∃ Γ' S' acc accD, Γ1.Le Γ' ∧ Abs E F Γ' H2 σ S' ∧ Apart F Γ' σ S' D ∧ H2 D = some (.lst acc) ∧ RpAll E Γ' acc accD ∧ accD.length ≤ i + 1 ∧ lcL its.ok mg t e vs (its.ds.drop (i + 1)) accD S' = .ok dsF SF, fun H2 w => ⟨its.ds.length - (i + 1), by omega, rfl, by omega, w⟩, fun x H2 hx => ?_⟩
            obtain ⟨Γ2, d, hd, s2, r2⟩ := hy x H2 hx
            rw [List.getElem?_eq_getElem hlt] at hd
            cases hd
            have A2 := A'.ext s2
            have ap2 := ap'.step hacc s2
            have hacc2 := s2.h D _ hacc
            have An := A2.now
            have Aw := An.wipe vs
            cases e1 : mg its.ds[i] (RS.wipeS vs S') with
            | none => rw [e1] at hr; cases hr
            | some S3 =>
              rw [e1] at hr
              refine hg _ Γ2 H2 (wipe σ vs) (RS.wipeS vs S') x _ Aw r2 S3 e1 _ fun σ3 A3 l3 k3 => ?_
              have k4 : ∀ k, k ∉ vs → σ3[k]? = σ[k]? := fun k hk => by rw [k3 k fun z => hk (hl k z), wipe_out hk]
              have l4 : σ3.length = σ.length := by rw [l3, wipe_length]
              refine ⟨wipe_congr vs l4 k4, ?_⟩
              have zt := ht _ Γ2 H2 σ3 S3 A3
              cases e2 : t S3 with
              | st => simp only [e2] at hr; cases hr
              | ex x S4 => simp only [e2] at hr; cases hr
              | ok b S4 =>
                rw [e2] at zt
                refine zt _ fun b' Γ4 H4 l5 A4 eb => ?_
                cases eb
                cases b with
                | false =>
                  simp only [e2] at hr
                  have A5 := A2.back A4
                  obtain ⟨ap5, hD5⟩ := A2.apart_on ap2 hacc2 A4
                  exact iteF ⟨Γ4, _, acc, accD, (l'.trans s2.le).trans l5, A2.backS A5 l5 l4 k4, ap5.backS k4, hD5, racc.mono (s2.le.trans l5), by omega, hr⟩
                | true =>
                  simp only [e2] at hr
                  refine iteT ?_
                  have ze := he _ Γ4 H4 σ3 S4 A4
                  cases e3 : e S4 with
                  | st => simp only [e3] at hr; cases hr
                  | ex x S5 => simp only [e3] at hr; cases hr
                  | ok p S5 =>
                    rw [e3] at ze
                    refine ze _ fun y Γ5 H5 l6 A5 r5 => ?_
                    cases e4 : toD p S5 with
                    | st => simp only [e3, e4] at hr; cases hr
                    | ex x S6 => exact absurd e4 toD_noex
                    | ok r S6 =>
                      simp only [e3, e4] at hr
                      obtain ⟨Γ6, l7, A6, r6⟩ := toD_run A5 r5 e4
                      have A7 := A2.back A6
                      obtain ⟨ap7, hD7⟩ := A2.apart_on ap2 hacc2 A6
                      have lx := (l5.trans l6).trans l7
                      have ap8 := ap7.backS (S := S') k4
                      refine ⟨acc, hD7, Evl.sz_lt (by rw [racc.length]; omega), Γ6, _, acc ++ [y], accD ++ [r], (l'.trans s2.le).trans lx, (A2.backS A7 lx l4 k4).mutU ap8, ap8, upd_same, (racc.mono (s2.le.trans lx)).append (.cons r6 .nil), by rw [List.length_append]; simp only [List.length_singleton]; omega, hr⟩
          · rw [if_neg hok] at hr; cases hr
        · have him : i = its.ds.length := by omega
          subst him
          rw [List.drop_length] at hr
          unfold lcL at hr
          by_cases hok : its.ok S'
          · rw [if_pos hok] at hr
            cases hr
            exact .inl ⟨(hw Γ' H' σ _ l' A' hok).2, q _ Γ' H' l' A' ⟨D, rfl, .lst hacc racc, ap'⟩⟩
          · rw [if_neg hok] at hr; cases hr
    · trivial
  · intro c S2 S1 h
    unfold nLc at h
    cases e1 : i S with
    | st => rw [e1] at h; cases h
    | ex x S3 => rw [e1] at h; cases h
    | ok its S3 =>
      rw [e1, Rr.bind_ok] at h
      split at h
      · cases e2 : lcL its.ok mg t e vs its.ds [] S3 with
        | st => rw [e2] at h; cases h
        | ex x S4 => rw [e2] at h; cases h
        | ok ds S4 => rw [e2, Rr.bind_ok] at h; cases h; rfl
      · cases h
end
end RS

set_option Elab.async false
set_option linter.all false
set_option maxRecDepth 100000
set_option maxHeartbeats 2000000
namespace RS
open PySem PySem.Spec PyProof.Rows L2
open Evl (Ex)

/-! ### what changes in place -/
def cellOf (S : Sg) : PV → Option Cell
  | .d (.loc k) => S.ce[k]?
  | .sl i => match S.sl[i]? with
    | some (.own c) => some c
    | _ => none
  | _ => none
def putC (p : PV) (c : Cell) (S : Sg) : Sg := match p with
  | .d (.loc k) => { S with ce := S.ce.set k c }
  | .sl i => { S with sl := S.sl.set i (.own c) }
  | _ => S
section
variable {E : En} {W : WX} {F : Fr} {Γ Γ' : Gd} {H H' : Hp} {σ : L2.St} {S S' : Sg} {x : V} {p : PV}
theorem Abs.put {c c' : Cell} (A : Abs E F Γ H σ S) (r : Pp E F σ Γ x p) (h : cellOf S p = some c) : ∃ a, x = .ref a ∧ CellAt E Γ H a c ∧ ∀ o, CellAt E Γ (upd H a o) a c' → Abs E F Γ (upd H a o) σ (putC p c' S) := by
  cases r with
  | exc => cases h
  | @sl v i e =>
    have h : (match S.sl[i]? with | some (.own c) => some c | _ => none) = some c := h
    have hS : S.sl[i]? = some (.own c) := by
      cases q : S.sl[i]? with
      | none => simp only [q] at h; cases h
      | some s => cases s with
        | own c0 => simp only [q] at h; cases h; rfl
        | un => simp only [q] at h; cases h
        | dat d => simp only [q] at h; cases h
        | exc => simp only [q] at h; cases h
    obtain ⟨a, h1, h2, h3, h4, h5⟩ := A.own i c hS
    rw [e] at h1
    cases h1
    have hl : i < S.sl.length := (List.getElem?_eq_some_iff.mp hS).1
    refine ⟨a, rfl, h5, fun o hc => ?_⟩
    have ne : ∀ {b : Addr}, b ≠ a → (upd H a o) b = H b := fun h => upd_ne h
    have key : ∀ {j : Nat} {y : SV}, (S.sl.set i (.own c'))[j]? = some y → (i = j ∧ y = .own c') ∨ (i ≠ j ∧ S.sl[j]? = some y) := fun {j y} h => by
      by_cases hij : i = j
      · subst hij; rw [List.getElem?_set_self hl] at h; cases h; exact .inl ⟨rfl, rfl⟩
      · rw [List.getElem?_set_ne hij] at h; exact .inr ⟨hij, h⟩
    refine ⟨fun b u hb hx => ?_, A.le, A.fn, A.fc, fun b u hb => ?_, A.nd, A.ml, fun k e hk => ?_, by simp only [putC, List.length_set]; exact A.len, fun j d hj => ?_, fun j e hj => ?_, fun j k e f b hj hk ej ek => ?_, fun j hj => ?_, fun e he => ⟨(A.exn e he).1, (A.exn e he).2.mono (Gd.Le.refl _) fun b u hb => ?_⟩, fun b hb => ?_⟩
    · have hne : b ≠ a := fun z => by
        subst z
        rcases h4 with z | z
        · rw [z] at hb; cases hb
        · exact hx z
      rw [ne hne]; exact A.fh b u hb hx
    · have hne : b ≠ a := fun z => by subst z; rw [h2] at hb; cases hb
      rw [ne hne]; exact A.gh b u hb
    · obtain ⟨b, q1, q2, q3⟩ := A.cel k e hk
      have hne : b ≠ a := fun z => by subst z; exact h3 (List.mem_of_getElem? q1)
      exact ⟨b, q1, q2, q3.mono (Gd.Le.refl _) (ne hne)⟩
    · rcases key hj with ⟨_, z⟩ | ⟨_, z⟩
      · cases z
      · exact A.dat j d z
    · rcases key hj with ⟨rfl, z⟩ | ⟨n, z⟩
      · cases z; exact ⟨a, e, h2, h3, h4, hc⟩
      · obtain ⟨b, q1, q2, q3, q4, q5⟩ := A.own j _ z
        have hne : b ≠ a := fun z' => by subst z'; exact n (A.sep i j _ _ _ hS z e q1)
        exact ⟨b, q1, q2, q3, q4, q5.mono (Gd.Le.refl _) (ne hne)⟩
    · have back : ∀ {n : Nat} {y : Cell}, (S.sl.set i (.own c'))[n]? = some (.own y) → ∃ y', S.sl[n]? = some (.own y') := fun {n y} h => by
        rcases key h with ⟨rfl, _⟩ | ⟨_, z⟩
        · exact ⟨_, hS⟩
        · exact ⟨_, z⟩
      obtain ⟨_, e1⟩ := back hj
      obtain ⟨_, e2⟩ := back hk
      exact A.sep j k _ _ b e1 e2 ej ek
    · rcases key hj with ⟨_, z⟩ | ⟨_, z⟩
      · cases z
      · exact A.exs j z
    · have hne : b ≠ a := fun z => by subst z; rw [h2] at hb; cases hb
      rw [ne hne]; exact A.gh b u hb
    · by_cases hne : b = a
      · subst hne; exact ⟨_, upd_same⟩
      · obtain ⟨u, hu⟩ := A.fx b hb; exact ⟨u, by rw [ne hne]; exact hu⟩
  | @d v d0 r =>
    cases d0 with
    | loc k =>
      have h : S.ce[k]? = some c := h
      obtain ⟨a, h1, h2, h3⟩ := A.cel k c h
      cases r with
      | @loc a' _ e =>
        rw [e] at h1
        cases h1
        have hl : k < S.ce.length := (List.getElem?_eq_some_iff.mp h).1
        refine ⟨a, rfl, h3, fun o hc => ?_⟩
        have ne : ∀ {b : Addr}, b ≠ a → (upd H a o) b = H b := fun h => upd_ne h
        have hm : a ∈ Γ.m := List.mem_of_getElem? e
        refine ⟨fun b u hb hx => ?_, A.le, A.fn, A.fc, fun b u hb => ?_, A.nd, by simp only [putC, List.length_set]; exact A.ml, fun j f hj => ?_, A.len, A.dat, fun j f hj => ?_, A.sep, A.exs, fun e he => ⟨(A.exn e he).1, (A.exn e he).2.mono (Gd.Le.refl _) fun b u hb => ?_⟩, fun b hb => ?_⟩
        · have hne : b ≠ a := fun z => by
            subst z
            rcases A.fc b hm with z | z
            · exact hx z
            · rw [z] at hb; cases hb
          rw [ne hne]; exact A.fh b u hb hx
        · have hne : b ≠ a := fun z => by subst z; rw [h2] at hb; cases hb
          rw [ne hne]; exact A.gh b u hb
        · replace hj : (S.ce.set k c')[j]? = some f := hj
          by_cases hkj : k = j
          · subst hkj
            rw [List.getElem?_set_self hl] at hj
            cases hj
            exact ⟨a, e, h2, hc⟩
          · rw [List.getElem?_set_ne hkj] at hj
            obtain ⟨b, q1, q2, q3⟩ := A.cel j f hj
            have hne : b ≠ a := fun z => by
              subst z
              have l1 := (List.getElem?_eq_some_iff.mp e).1
              exact hkj ((List.getElem?_inj l1 A.nd).mp (e.trans q1.symm))
            exact ⟨b, q1, q2, q3.mono (Gd.Le.refl _) (ne hne)⟩
        · obtain ⟨b, q1, q2, q3, q4, q5⟩ := A.own j f hj
          have hne : b ≠ a := fun z => by subst z; exact q3 hm
          exact ⟨b, q1, q2, q3, q4, q5.mono (Gd.Le.refl _) (ne hne)⟩
        · have hne : b ≠ a := fun z => by subst z; rw [h2] at hb; cases hb
          rw [ne hne]; exact A.gh b u hb
        · by_cases hne : b = a
          · subst hne; exact ⟨_, upd_same⟩
          · obtain ⟨u, hu⟩ := A.fx b hb; exact ⟨u, by rw [ne hne]; exact hu⟩
    | _ => cases h
end
/-! ### methods of built-in values -/
def tyD (T : String) : RD → Bool
  | .str _ => T == "str"
  | .lst _ => T == "list"
  | .scr _ => T == "list"
  | .dk _ _ => T == "dict"
  | .dt _ _ => T == "dict"
  | _ => false
def mBM (T : String) (f : PV → ML) (o : ME) (a : MA) : ME := fun S => (o S).bind fun p S1 => match deref S1 p with
  | some d => if tyD T d = true then (a S1).bind fun ps S2 => f p ps S2 else .st
  | none => .st
def MbQ (X : Cx) (E : En) (W : WX) (id : String) (g : PV → ML) : Prop := ∃ r, MtR X id r ∧ SM E W r g
def liftM (f : RD → List RD → Option RD) : PV → ML := fun p ps S => match deref S p, derefs S ps with
  | some a, some as => retO (f a as) S
  | _, _ => .st
def fAppend : PV → ML := fun p ps S => match ps with
  | [q] => (toD q S).bind fun d S1 => match cellOf S1 p with
    | some (.lst ds) => if ds.length < 100000 then .ok (.d .non) (putC p (.lst (ds ++ [d])) S1) else .st
    | _ => .st
  | _ => .st
def fPopAt : PV → ML := fun p ps S => match ps with
  | [.d (.int i)] => match cellOf S p with
    | some (.lst ds) => match seqIndex? i ds.length with
      | some k => match ds[k]? with
        | some d => if -1000000000 ≤ i ∧ i ≤ 1000000000 then .ok (.d d) (putC p (.lst (ds.eraseIdx k)) S) else .st
        | none => .st
      | none => .st
    | _ => .st
  | _ => .st
def fPop : PV → ML := fun p ps S => match ps with
  | [] => match cellOf S p with
    | some (.lst ds) => match ds[ds.length - 1]? with
      | some d => .ok (.d d) (putC p (.lst ds.dropLast) S)
      | none => .st
    | _ => .st
  | _ => .st
section
variable {E : En} {W : WX} {X : Cx}
theorem tyD_ok {F : Fr} {Γ : Gd} {H : Hp} {σ : L2.St} {S : Sg} {x : V} {p : PV} {d : RD} {T : String} (h : At E F Γ H σ S x p d) (e : tyD T d = true) : tyV E.K T x H := by
  cases d with
  | str s => rw [h.str]; exact beq_iff_eq.mp e
  | lst ds => obtain ⟨_, _, rfl, hs, _⟩ := h.lst; exact .inl ⟨beq_iff_eq.mp e, _, Evl.sq_of hs⟩
  | scr ns => obtain ⟨_, rfl, hs⟩ := h.scr; exact .inl ⟨beq_iff_eq.mp e, _, hs⟩
  | dk ks ds => obtain ⟨_, _, rfl, hs, _⟩ := deref_dk h.A h.r h.e; exact .inr (.inr (.inl ⟨beq_iff_eq.mp e, .inl ⟨_, hs⟩⟩))
  | dt ks ds => obtain ⟨_, _, rfl, hs, _⟩ := deref_dt h.A h.r h.e; exact .inr (.inr (.inl ⟨beq_iff_eq.mp e, .inr ⟨_, hs⟩⟩))
  | _ => cases e
theorem se_bm {T : String} {to : TE} {o : ME} {ta : TA} {a : MA} {r : V → List V → Hp → VK → Prop} {f : PV → ML} (ho : SE E W to o) (ha : SA E W ta a) (hm : SM E W r f) : SE E W (tBM E.K T r to ta) (mBM T f o a) := fun F Γ H σ S A =>
  RunR.bind (fun Q x H1 => tyV E.K T x H1 ∧ ta σ H1 fun xs H2 => r x xs H2 Q) (fun Q h => h) (ho F Γ H σ S A) fun p S1 x Γ1 H1 _ l1 A1 r1 => by
    split
    · rename_i d e
      split
      · rename_i ht
        have z := tyD_ok ⟨A1, r1, e⟩ ht
        refine RunR.bind (fun Q xs H2 => r x xs H2 Q) (fun Q q => ⟨z, q⟩) (ha F Γ1 H1 σ S1 A1) fun ps S2 xs Γ2 H2 _ l2 A2 r2 => hm F Γ2 H2 σ S2 x p xs ps A2 (r1.mono l2) r2
      · trivial
    · trivial
theorem sm_lift {r : V → List V → Hp → VK → Prop} {f : RD → List RD → Option RD} (h : ∀ {F Γ H σ S x p a xs ps as d}, At E F Γ H σ S x p a → AtAll E F Γ H σ S xs ps as → f a as = some d → ∀ Q : VK, Wish E Γ H d Q → r x xs H Q) : SM E W r (liftM f) := fun F Γ H σ S x p xs ps A r1 r2 => by
  unfold liftM
  cases e1 : deref S p with
  | none => trivial
  | some a =>
    cases e2 : derefs S ps with
    | none => trivial
    | some as =>
      show RunR _ _ _ _ _ _ _ (retO (f a as) S)
      cases e3 : f a as with
      | none => trivial
      | some d => exact RunR.step A (h ⟨A, r1, e1⟩ (derefs_at A r2 e2) e3)
theorem PpAll.one {F : Fr} {σ : L2.St} {Γ : Gd} {xs : List V} {q : PV} (h : PpAll E F σ Γ xs [q]) : ∃ y, xs = [y] ∧ Pp E F σ Γ y q := by
  cases h with
  | cons a r => cases r; exact ⟨_, rfl, a⟩
theorem mb_append : MbQ X E W "list.append" fAppend := by
  refine ⟨_, mt_append, fun F Γ H σ S x p xs ps A r1 r2 => ?_⟩
  unfold fAppend
  split
  · rename_i q
    obtain ⟨y, rfl, r3⟩ := r2.one
    cases e : toD q S with
    | st => trivial
    | ex _ _ => exact absurd e toD_noex
    | ok d S1 =>
      obtain ⟨Γ', l, A1, r4⟩ := toD_run A r3 e
      refine RunR.weak l ?_
      show RunR E W F Γ' σ (RP1 E F σ) _ (match cellOf S1 p with | some (.lst ds) => if ds.length < 100000 then Rr.ok (PV.d .non) (putC p (.lst (ds ++ [d])) S1) else .st | _ => .st)
      split
      · rename_i n ds ec
        split
        · rename_i hl
          obtain ⟨a, rfl, hc, hp⟩ := A1.put (c' := .lst (ds ++ [d])) (r1.mono l) ec
          cases hc with
          | lst h ra =>
            exact fun Q q => ⟨a, _, y, rfl, rfl, h, Evl.sz_lt (by rw [ra.length]; exact hl), q _ Γ' _ (Gd.Le.refl _) (hp _ (.lst upd_same (ra.append (.cons r4 .nil)))) (.d .non)⟩
        · trivial
      · trivial
  · trivial
theorem eraseIdx_all {Γ : Gd} : ∀ {vs : List V} {ds : List RD} (k : Nat), RpAll E Γ vs ds → RpAll E Γ (vs.eraseIdx k) (ds.eraseIdx k)
  | _, _, _, .nil => .nil
  | _, _, 0, .cons a b => b
  | _, _, k + 1, .cons a b => .cons a (eraseIdx_all k b)
theorem dropLast_all {Γ : Gd} : ∀ {vs : List V} {ds : List RD}, RpAll E Γ vs ds → RpAll E Γ vs.dropLast ds.dropLast
  | _, _, .nil => .nil
  | _, _, .cons a .nil => .nil
  | _, _, .cons a (.cons b c) => .cons a (dropLast_all (.cons b c))
theorem mb_popAt : MbQ X E W "list.pop" fPopAt := by
  refine ⟨_, mt_popAt, fun F Γ H σ S x p xs ps A r1 r2 => ?_⟩
  unfold fPopAt
  split
  · rename_i i
    obtain ⟨y, rfl, r3⟩ := r2.one
    split
    · rename_i n ds ec
      split
      · rename_i k ek
        split
        · rename_i d ed
          split
          · rename_i hi
            obtain ⟨a, rfl, hc, hp⟩ := A.put (c' := .lst (ds.eraseIdx k)) r1 ec
            cases hc with
            | lst h ra =>
              obtain ⟨v, hv, rv⟩ := ra.get ed
              cases r3 with
              | d r3 =>
                cases r3
                refine fun Q q => ⟨a, _, i, k, v, rfl, rfl, h, by omega, by omega, by rw [ra.length]; exact ek, hv, q _ Γ _ (Gd.Le.refl _) (hp _ (.lst upd_same (eraseIdx_all k ra))) (.d rv)⟩
          · trivial
        · trivial
      · trivial
    · trivial
  · trivial
theorem mb_pop : MbQ X E W "list.pop" fPop := by
  refine ⟨_, mt_pop, fun F Γ H σ S x p xs ps A r1 r2 => ?_⟩
  unfold fPop
  split
  · cases r2
    split
    · rename_i n ds ec
      split
      · rename_i d ed
        obtain ⟨a, rfl, hc, hp⟩ := A.put (c' := .lst ds.dropLast) r1 ec
        cases hc with
        | lst h ra =>
          obtain ⟨v, hv, rv⟩ := ra.get ed
          refine fun Q q => ⟨a, _, v, rfl, rfl, h, by rw [ra.length]; exact hv, q _ Γ _ (Gd.Le.refl _) (hp _ (.lst upd_same (dropLast_all ra))) (.d rv)⟩
      · trivial
    · trivial
  · trivial
theorem q_bm {o e : Expr} {es : List Expr} {name : Str} {apos cpos : Pos} {T id : String} {f : PV → ML} {m : ME} {g : MA} (hK : X.K = E.K) (pa : PlainAttrs T) (slot : Slot T name id) (hty : typeOf (.builtin id) = pure (.type "method_descriptor")) (hm : MbQ X E W id f) (ho : QE X E W o m) (ha : QA X E W (e :: es) g)
    (hbase : attributeBase o name X.env (eval o X.env) = eval o X.env := by rfl)
    (hfew : ((backTo cpos (starEach (e :: es) X.env)).all (fun x => !x.1) && (backToKw cpos (keywordEach [] X.env)).all (fun x => x.1.isSome)
      && decide ((e :: es).length + ([] : List Keyword).length + (if ([] : List Keyword).isEmpty then 0 else 1) < 30)) = true := by rfl)
    (hline : (apos.endLine == cpos.line) = true := by rfl) (hs : starEach (e :: es) X.env = (false, eval e X.env) :: starEach es X.env := by rfl) (hplain : (backTo cpos (starEach es X.env)).any (·.1) = false := by rfl) :
    QE X E W (.Call (.Attribute o name apos) (e :: es) [] cpos) (mBM T f m g) := by
  obtain ⟨r, h1, h2⟩ := hm
  obtain ⟨to, h3, h4⟩ := ho
  obtain ⟨ta, h5, h6⟩ := ha
  exact ⟨_, pe_bm pa slot hty h1 h3 h5 hbase hfew hline hs hplain, by rw [hK]; exact se_bm h4 h6 h2⟩
theorem q_bm0 {o : Expr} {name : Str} {apos cpos : Pos} {T id : String} {f : PV → ML} {m : ME} (hK : X.K = E.K) (pa : PlainAttrs T) (slot : Slot T name id) (hty : typeOf (.builtin id) = pure (.type "method_descriptor")) (hm : MbQ X E W id f) (ho : QE X E W o m)
    (hbase : attributeBase o name X.env (eval o X.env) = eval o X.env := by rfl) (hline : (apos.endLine == cpos.line) = true := by rfl) : QE X E W (.Call (.Attribute o name apos) [] [] cpos) (mBM T f m aNil) := by
  obtain ⟨r, h1, h2⟩ := hm
  obtain ⟨to, h3, h4⟩ := ho
  exact ⟨_, pe_bm0 pa slot hty h1 h3 hbase hline, by rw [hK]; exact se_bm h4 sa_nil h2⟩
end
/-! ### x[i] = e -/
def mSetIx (e o i : ME) : MS := fun S => (e S).out fun p S1 => (o S1).out fun q S2 => (i S2).out fun k S3 => (toD p S3).out fun d S4 => match k, cellOf S4 q with
  | .d (.int n), some (.lst ds) => match ixN ds.length n with
    | some j => .nx (putC q (.lst (ds.set j d)) S4)
    | none => .st
  | _, _ => .st
section
variable {E : En} {W : WX} {X : Cx}
theorem qs_setIx {o i e : Expr} {pos tpos : Pos} {m n k : ME} (he : QE X E W e k) (ho : QE X E W o m) (hi : QE X E W i n) (hs : swapsWithSole [.Subscript o i tpos] e pos.line X.env = pure false := by rfl) (hw : swappedStores [.Subscript o i tpos] e X.env = pure none := by rfl)
    (h1 : (assignEach [.Subscript o i tpos] X.env).map (·.2) = [assign (.Subscript o i tpos) X.env] := by rfl)
    (hg : ∀ {to ti : TE}, PE X o to → PE X i ti → PG X (.Subscript o i tpos) (gSub to ti rSetL) := by exact fun h k => pg_sub h k set_list) : QS X E W (.Assign [.Subscript o i tpos] e pos) (mSetIx k m n) := by
  obtain ⟨te, a1, a2⟩ := he
  obtain ⟨to, b1, b2⟩ := ho
  obtain ⟨ti, c1, c2⟩ := hi
  refine ⟨_, ps_asg a1 (hg b1 c1) hs hw h1, fun F Γ H σ S A => ?_⟩
  refine RunS.of (fun D v H1 => to σ H1 fun x H2 => ti σ H2 fun y H3 => rSetL x y v H3 (D.nx σ)) (fun D h => h) (a2 F Γ H σ S A) fun p S1 v Γ1 H1 _ l1 A1 r1 =>
    RunS.of (fun D x H2 => ti σ H2 fun y H3 => rSetL x y v H3 (D.nx σ)) (fun D h => h) (b2 F Γ1 H1 σ S1 A1) fun q S2 x Γ2 H2 _ l2 A2 r2 =>
    RunS.of (fun D y H3 => rSetL x y v H3 (D.nx σ)) (fun D h => h) (c2 F Γ2 H2 σ S2 A2) fun k S3 y Γ3 H3 ek l3 A3 r3 =>
    toD_out A3 ((r1.mono l2).mono l3) fun d S4 Γ4 l4 A4 r4 => ?_
  split
  · rename_i n ds ec
    split
    · rename_i j ej
      obtain ⟨a, rfl, hc, hp⟩ := A4.put (c' := .lst (ds.set j d)) ((r2.mono l3).mono l4) ec
      cases hc with
      | lst h ra =>
        cases r3 with
        | d r3 =>
          cases r3
          exact fun D q => ⟨a, _, _, j, rfl, rfl, h, by rw [ra.length]; exact ej, q Γ4 _ σ (Gd.Le.refl _) (hp _ (.lst upd_same (ra.set j r4)))⟩
    · trivial
  · trivial
end
end RS

set_option Elab.async false
set_option linter.all false
set_option maxRecDepth 100000
set_option maxHeartbeats 2000000
namespace RS
open PySem PySem.Spec PyProof.Rows L2
open Evl (Ex)

/-! ### families of contexts -/
section
variable {E : En} {W : WX}
theorem RunR.all {α β ι : Type} {F : Fr} {Γ : Gd} {σ : L2.St} {rel : Gd → Hp → β → α → Prop} {run : ι → (β → Hp → Prop) → Prop} {r : Rr α} (h : ∀ i, RunR E W F Γ σ rel (run i) r) : RunR E W F Γ σ rel (fun Q => ∀ i, run i Q) r := by
  cases r with
  | ok a S => exact fun Q q i => h i Q q
  | ex e S => exact fun w Q i => h i w Q
  | st => trivial
theorem QE.all {ι : Type} {Xs : ι → Cx} {e : Expr} {m : ME} (h : ∀ i, QE (Xs i) E W e m) : ∃ te, (∀ i, PE (Xs i) e te) ∧ SE E W te m :=
  ⟨fun σ H Q => ∀ i, Classical.choose (h i) σ H Q, fun i => ⟨fun pins s σ H Q I k => (Classical.choose_spec (h i)).1.run pins s σ H Q I (k i)⟩, fun F Γ H σ S A => RunR.all fun i => (Classical.choose_spec (h i)).2 F Γ H σ S A⟩
def QTs (X : Cx) (E : En) (W : WX) (es : List Expr) (m : MT) : Prop := ∃ tt, PTs X es tt ∧ ST E W tt m
theorem qts_nil {X : Cx} : QTs X E W [] (fun S => .ok true S) := ⟨_, pts_nil, fun F Γ H σ S A => RunR.pure A rfl fun Q q => q⟩
theorem qts_one {X : Cx} {e : Expr} {m : MT} (h : QT X E W e m) : QTs X E W [e] m := by obtain ⟨_, h1, h2⟩ := h; exact ⟨_, pts_one h1, h2⟩
theorem QTs.all {ι : Type} {Xs : ι → Cx} {e : List Expr} {m : MT} (h : ∀ i, QTs (Xs i) E W e m) : ∃ te, (∀ i, PTs (Xs i) e te) ∧ ST E W te m :=
  ⟨fun σ H Q => ∀ i, Classical.choose (h i) σ H Q, fun i => ⟨fun pins s σ H Q I k => (Classical.choose_spec (h i)).1.run pins s σ H Q I (k i)⟩, fun F Γ H σ S A => RunR.all fun i => (Classical.choose_spec (h i)).2 F Γ H σ S A⟩
theorem QG.all {ι : Type} {Xs : ι → Cx} {e : Expr} {m : MG} {l : List Nat} (h : ∀ i, QG (Xs i) E e m l) : ∃ te, (∀ i, PG (Xs i) e te) ∧ SG E te m l :=
  ⟨fun v σ H Q => ∀ i, Classical.choose (h i) v σ H Q, fun i => ⟨fun pins s σ H x v Q I r k => (Classical.choose_spec (h i)).1.run pins s σ H x v Q I r (k i)⟩, fun F Γ H σ S v d A r S' e Q q i => (Classical.choose_spec (h i)).2 F Γ H σ S v d A r S' e Q q⟩
theorem QSs.all {ι : Type} {Xs : ι → Cx} {e : List Stmt} {m : MS} (h : ∀ i, QSs (Xs i) E W e m) : ∃ te, (∀ i, PSs (Xs i) e te) ∧ SS E W te m :=
  ⟨fun D σ H => ∀ i, Classical.choose (h i) D σ H, fun i => ⟨fun pins s σ H D I k => (Classical.choose_spec (h i)).1.run pins s σ H D I (k i)⟩, fun F Γ H σ S A => RunS.mk fun D w i => ((Classical.choose_spec (h i)).2 F Γ H σ S A).get w⟩
end

/-! ### comprehensions, targets, walks as rules -/
section
variable {E : En} {W : WX} {X : Cx}
theorem qg_name {i : Nat} {x : Str} {pos : Pos} (hN : X.N.Nodup) (hi : X.N[i]? = some x) (hx : Loc X.env.scope x) (hf : X.fn x = true ∨ X.env.scope.names.lookup x = some .local := by first | exact .inl rfl | exact .inr rfl | assumption) : QG X E (.Name x pos) (gSet i) [i] := ⟨_, pg_name hN hi hx hf, sg_name⟩
theorem qgs_nil : QGs X E [] [] [] := ⟨_, pgs_nil, sgs_nil⟩
theorem qgs_cons {e : Expr} {es : List Expr} {m : MG} {ms : List MG} {l l' : List Nat} (h : QG X E e m l) (k : QGs X E es ms l') (hs : (assignEach (e :: es) X.env).map (·.2) = assign e X.env :: (assignEach es X.env).map (·.2) := by rfl) : QGs X E (e :: es) (m :: ms) (l ++ l') := by
  obtain ⟨_, h1, h2⟩ := h
  obtain ⟨_, h3, h4⟩ := k
  exact ⟨_, pgs_cons h1 h3 hs, sgs_cons h2 h4⟩
theorem qg_tup {es : List Expr} {k n : Nat} {ms : List MG} {l : List Nat} {pos : Pos} (hK : X.K = E.K) (hc : X.calm = true) (hp : QGs X E es ms l) (hm : ms.length = n)
    (hn : (assignEach es X.env).length = n := by rfl) (hst : (assignEach es X.env).findIdx? (·.1) = none := by rfl) : QG X E (.Tuple es k pos) (gTupF ms) l := by
  obtain ⟨_, h1, h2⟩ := hp
  exact ⟨_, pg_tup hc h1 hn hst, by rw [hK]; exact sg_tup h2 hm⟩
theorem qn_lc {elt tg iter : Expr} {ifs : List Expr} {scope : Scope} {own : List (Str × Nat)} {pos : Pos} {i : MI} {mg : MG} {t : MT} {m : ME} {l : List Nat} (hc : X.calm = true) (hN : X.N.Nodup) (hi : QI X E W tg iter i) (ok : BlkOk X.N X.env.scope scope own)
    (hg : ∀ (s : Shared) (H : Hp) (C : Addr) (cl : List (Str × Addr)) (fp : List Addr), QG (X.blk s H scope (compEnvC scope cl C X.env) fp) E tg mg l)
    (ht : ∀ (s : Shared) (H : Hp) (C : Addr) (cl : List (Str × Addr)) (fp : List Addr), QTs (X.blk s H scope (compEnvC scope cl C X.env) fp) E W0 ifs t)
    (he : ∀ (s : Shared) (H : Hp) (C : Addr) (cl : List (Str × Addr)) (fp : List Addr), QE (X.blk s H scope (compEnvC scope cl C X.env) fp) E W0 elt m) (hl : ∀ k ∈ l, k ∈ own.map (·.2)) (hs : ∀ x, foldedSetIterable iter X.env x = pure x := by intro _; rfl) :
    QN X E W (.ListComp elt [⟨tg, iter, ifs, 0⟩] scope pos) (nLc i mg t m (own.map (·.2))) := by
  obtain ⟨wi, i1, i2⟩ := hi
  obtain ⟨g, g1, g2⟩ := QG.all (Xs := fun p : Shared × Hp × Addr × List (Str × Addr) × List Addr => X.blk p.1 p.2.1 scope (compEnvC scope p.2.2.2.1 p.2.2.1 X.env) p.2.2.2.2) fun p => hg p.1 p.2.1 p.2.2.1 p.2.2.2.1 p.2.2.2.2
  obtain ⟨tt, t1, t2⟩ := QTs.all (Xs := fun p : Shared × Hp × Addr × List (Str × Addr) × List Addr => X.blk p.1 p.2.1 scope (compEnvC scope p.2.2.2.1 p.2.2.1 X.env) p.2.2.2.2) fun p => ht p.1 p.2.1 p.2.2.1 p.2.2.2.1 p.2.2.2.2
  obtain ⟨te, e1, e2⟩ := QE.all (Xs := fun p : Shared × Hp × Addr × List (Str × Addr) × List Addr => X.blk p.1 p.2.1 scope (compEnvC scope p.2.2.2.1 p.2.2.1 X.env) p.2.2.2.2) fun p => he p.1 p.2.1 p.2.2.1 p.2.2.2.1 p.2.2.2.2
  exact ⟨_, pe_lc hc hN i1 ok (fun s H C cl fp => g1 (s, H, C, cl, fp)) (fun s H C cl fp => t1 (s, H, C, cl, fp)) (fun s H C cl fp => e1 (s, H, C, cl, fp)) hs, sn_lc i2 g2 hl t2 e2⟩
/-- name = [..] on one line -/
theorem qs_setLc {i : Nat} {y : Str} {py : Pos} {elt tg iter : Expr} {ifs : List Expr} {scope : Scope} {own : List (Str × Nat)} {pos spos : Pos} {mi : MI} {mg : MG} {t : MT} {m : ME} {l : List Nat} (hc : X.calm = true) (hN : X.N.Nodup) (hy : X.N[i]? = some y) (hyl : X.env.scope.names.lookup y = some .local)
    (hsw : swapsWith (.ListComp elt [⟨tg, iter, ifs, 0⟩] scope pos) (some (.Name y py)) spos.line X.env = pure true) (hi : QI X E W tg iter mi) (ok : BlkOk X.N X.env.scope scope own)
    (hg : ∀ (s : Shared) (H : Hp) (C : Addr) (cl : List (Str × Addr)) (fp : List Addr), QG (X.blk s H scope (compEnvC scope cl C X.env) fp) E tg mg l)
    (ht : ∀ (s : Shared) (H : Hp) (C : Addr) (cl : List (Str × Addr)) (fp : List Addr), QTs (X.blk s H scope (compEnvC scope cl C X.env) fp) E W0 ifs t)
    (he : ∀ (s : Shared) (H : Hp) (C : Addr) (cl : List (Str × Addr)) (fp : List Addr), QE (X.blk s H scope (compEnvC scope cl C X.env) fp) E W0 elt m) (hl : ∀ k ∈ l, k ∈ own.map (·.2)) (hs : ∀ x, foldedSetIterable iter X.env x = pure x := by intro _; rfl) :
    ∃ te, PS X (.Assign [.Name y py] (.ListComp elt [⟨tg, iter, ifs, 0⟩] scope pos) spos) (tAsg te (gName i)) ∧ SN E W te (nLc mi mg t m (own.map (·.2))) := by
  obtain ⟨wi, i1, i2⟩ := hi
  obtain ⟨g, g1, g2⟩ := QG.all (Xs := fun p : Shared × Hp × Addr × List (Str × Addr) × List Addr => X.blk p.1 p.2.1 scope (compEnvC scope p.2.2.2.1 p.2.2.1 X.env) p.2.2.2.2) fun p => hg p.1 p.2.1 p.2.2.1 p.2.2.2.1 p.2.2.2.2
  obtain ⟨tt, t1, t2⟩ := QTs.all (Xs := fun p : Shared × Hp × Addr × List (Str × Addr) × List Addr => X.blk p.1 p.2.1 scope (compEnvC scope p.2.2.2.1 p.2.2.1 X.env) p.2.2.2.2) fun p => ht p.1 p.2.1 p.2.2.1 p.2.2.2.1 p.2.2.2.2
  obtain ⟨te, e1, e2⟩ := QE.all (Xs := fun p : Shared × Hp × Addr × List (Str × Addr) × List Addr => X.blk p.1 p.2.1 scope (compEnvC scope p.2.2.2.1 p.2.2.1 X.env) p.2.2.2.2) fun p => he p.1 p.2.1 p.2.2.1 p.2.2.2.1 p.2.2.2.2
  exact ⟨_, ps_setLc hc hN hy hyl hsw i1 ok (fun s H C cl fp => g1 (s, H, C, cl, fp)) (fun s H C cl fp => t1 (s, H, C, cl, fp)) (fun s H C cl fp => e1 (s, H, C, cl, fp)) hs, sn_lc i2 g2 hl t2 e2⟩
/-- a way to store what is new: as a datum, as the slot's own, as a cell -/
theorem qs_newD {s : Stmt} {i : Nat} {m : MN} (h : ∃ te, PS X s (tAsg te (gName i)) ∧ SN E W te m) : QS X E W s (mAsg (mFrz m) (gSet i)) := by obtain ⟨te, h1, h2⟩ := h; exact ⟨_, h1, ss_asg (se_frz h2) sg_name⟩
theorem qs_newO {s : Stmt} {i : Nat} {m : MN} (h : ∃ te, PS X s (tAsg te (gName i)) ∧ SN E W te m) : QS X E W s (mOwn i m) := by obtain ⟨te, h1, h2⟩ := h; exact ⟨_, h1, ss_own h2⟩
theorem qs_newC {s : Stmt} {i : Nat} {m : MN} (h : ∃ te, PS X s (tAsg te (gName i)) ∧ SN E W te m) : QS X E W s (mAsg (mCell m) (gSet i)) := by obtain ⟨te, h1, h2⟩ := h; exact ⟨_, h1, ss_asg (se_cell h2) sg_name⟩
/-- name = e, e new -/
theorem qs_new {i : Nat} {x : Str} {e : Expr} {m : MN} {pos pos' : Pos} (hN : X.N.Nodup) (hi : X.N[i]? = some x) (hx : Loc X.env.scope x) (he : QN X E W e m) (hs : swapsWith e (some (.Name x pos')) pos.line X.env = pure false := by rfl) (hf : X.fn x = true ∨ X.env.scope.names.lookup x = some .local := by first | exact .inl rfl | exact .inr rfl | assumption) :
    ∃ te, PS X (.Assign [.Name x pos'] e pos) (tAsg te (gName i)) ∧ SN E W te m := by obtain ⟨te, h1, h2⟩ := he; exact ⟨_, ps_set hN hi hx h1 hs hf, h2⟩
/-- new lists: written, copied -/
def nLst (a : MA) : MN := fun S => (a S).bind fun ps S1 => (toDs ps S1).bind fun ds S2 => if ds.length ≤ 100000 then .ok (.lst ds, S2) S2 else .st
def nList (a : MA) : MN := fun S => (a S).bind fun ps S1 => match derefs S1 ps with
  | some as => match fList as with
    | some (.lst ds) => .ok (.lst ds, S1) S1
    | _ => .st
  | none => .st
theorem qn_lst {es : List Expr} {pos : Pos} {g : MA} (h : QA X E W es g) : QN X E W (.List es pos) (nLst g) := by
  obtain ⟨ta, h1, h2⟩ := h
  refine ⟨_, pe_lst h1, fun F Γ H σ S A => ⟨?_, fun c S2 S1 e => ?_⟩⟩
  · exact RunR.bind (fun Q xs H1 => xs.length ≤ sizeLine ∧ ∀ p, H1 p = none → Q (.ref p) (upd H1 p (.lst xs))) (fun Q h => h) (h2 F Γ H σ S A) fun ps S1 vs Γ1 H1 _ l1 A1 r1 =>
      toDs_bind A1 r1 fun ds S2 Γ2 l2 A2 r2 => by
        split
        · rename_i hl
          exact RunR.new A2 fun Q q => ⟨Evl.sz_of (by rw [r2.length]; exact hl), fun p hp => q p _ hp (.lst upd_same r2)⟩
        · trivial
  · unfold nLst at e
    cases e1 : g S with
    | st => rw [e1] at e; cases e
    | ex x S3 => rw [e1] at e; cases e
    | ok ps S3 =>
      rw [e1, Rr.bind_ok] at e
      cases e2 : toDs ps S3 with
      | st => rw [e2] at e; cases e
      | ex x S4 => rw [e2] at e; cases e
      | ok ds S4 => rw [e2, Rr.bind_ok] at e; split at e <;> cases e; rfl
theorem qn_list {e : Expr} {p pos : Pos} {g : MA} (hK : X.K = E.K) (hg : Gl X "list") (hm : X.mg "list" = none) (ha : QA X E W [e] g)
    (he : starEach [e] X.env = (false, eval e X.env) :: starEach [] X.env := by rfl) (hpl : (backTo pos (starEach [] X.env)).any (·.1) = false := by rfl) : QN X E W (.Call (.Name "list" p) [e] [] pos) (nList g) := by
  obtain ⟨ta, h1, h2⟩ := ha
  refine ⟨_, pe_callTy call_list_of hg hm (by decide +kernel) h1 (by decide) (by decide) he hpl, fun F Γ H σ S A => ⟨?_, fun c S2 S1 e => ?_⟩⟩
  · rw [hK]
    refine RunR.bind (fun Q xs H1 => ∃ p ys, xs = [V.ref p] ∧ (SqL E.K H1 p ys ∨ SqT E.K H1 p ys) ∧ ∀ l, H1 l = none → Q (.ref l) (upd H1 l (.lst ys))) (fun Q h => h) (h2 F Γ H σ S A) fun ps S1 vs Γ1 H1 _ l1 A1 r1 => ?_
    cases e1 : derefs S1 ps with
    | none => trivial
    | some as =>
      have hat := derefs_at A1 r1 e1
      show RunR E W F Γ1 σ (New E F σ) _ (match fList as with | some (.lst ds) => Rr.ok (Cell.lst ds, S1) S1 | _ => .st)
      unfold fList
      split
      · rename_i ds ed
        split at ed
        · cases ed
          obtain ⟨x, p, rfl, h⟩ := hat.one
          obtain ⟨a, xs, rfl, hs, ra⟩ := h.lst
          exact RunR.new A1 fun Q q => ⟨a, xs, rfl, .inl (Evl.sq_of hs), fun l hl => q l _ hl (.lst upd_same ra)⟩
        · cases ed
          obtain ⟨x, p, rfl, h⟩ := hat.one
          obtain ⟨a, xs, rfl, hs, ra⟩ := h.tup
          exact RunR.new A1 fun Q q => ⟨a, xs, rfl, .inr hs, fun l hl => q l _ hl (.lst upd_same ra)⟩
        · cases ed
          obtain ⟨x, p, rfl, h⟩ := hat.one
          obtain ⟨a, rfl, hs⟩ := h.scr
          exact RunR.new A1 fun Q q => ⟨a, _, rfl, .inl hs, fun l hl => q l _ hl (.lst upd_same (RpAll.ints _))⟩
        · cases ed
      · trivial
  · unfold nList at e
    cases e1 : g S with
    | st => rw [e1] at e; cases e
    | ex x S3 => rw [e1] at e; cases e
    | ok ps S3 =>
      rw [e1, Rr.bind_ok] at e
      split at e
      · split at e <;> cases e; rfl
      · cases e
end

/-- a + b, a new list -/
def nCat (a b : ME) : MN := fun S => (a S).bind fun p S1 => (b S1).bind fun q S2 => match deref S2 p, deref S2 q with
  | some (.lst as), some (.lst bs) => if as.length + bs.length ≤ 100000 then .ok (.lst (as ++ bs), S2) S2 else .st
  | _, _ => .st
section
variable {E : En} {W : WX} {X : Cx}
theorem qn_cat {a b : Expr} {pos : Pos} {m n : ME} (ha : QE X E W a m) (hb : QE X E W b n) : QN X E W (.BinOp a .Add b pos) (nCat m n) := by
  obtain ⟨ta, h1, h2⟩ := ha
  obtain ⟨tb, h3, h4⟩ := hb
  refine ⟨_, pe_op op_cat h1 h3, fun F Γ H σ S A => ⟨?_, fun c S2 S1 e => ?_⟩⟩
  · refine RunR.bind (fun Q x H1 => tb σ H1 fun y H2 => rCat x y H2 Q) (fun Q h => h) (h2 F Γ H σ S A) fun p S1 x Γ1 H1 _ l1 A1 r1 =>
      RunR.bind (fun Q y H2 => rCat x y H2 Q) (fun Q h => h) (h4 F Γ1 H1 σ S1 A1) fun q S2 y Γ2 H2 _ l2 A2 r2 => ?_
    split
    · rename_i as bs e1 e2
      split
      · rename_i hl
        obtain ⟨a, xs, rfl, k1, k2⟩ := deref_lst A2 (r1.mono l2) e1
        obtain ⟨b, ys, rfl, k3, k4⟩ := deref_lst A2 r2 e2
        exact RunR.new A2 fun Q q => ⟨a, b, xs, ys, rfl, rfl, k1, k3, Evl.sz_of (by rw [k2.length, k4.length]; exact hl), fun p hp => q p _ hp (.lst upd_same (k2.append k4))⟩
      · trivial
    · trivial
  · unfold nCat at e
    cases e1 : m S with
    | st => rw [e1] at e; cases e
    | ex x S3 => rw [e1] at e; cases e
    | ok ps S3 =>
      rw [e1, Rr.bind_ok] at e
      cases e2 : n S3 with
      | st => rw [e2] at e; cases e
      | ex x S4 => rw [e2] at e; cases e
      | ok ds S4 =>
        rw [e2, Rr.bind_ok] at e
        split at e
        · split at e <;> cases e; rfl
        · cases e
end

/-! ### the rules of statements -/
section
variable {E : En} {W : WX} {X : Cx}
theorem qss_nil : QSs X E W [] mNext := ⟨_, pss_nil, ss_next⟩
theorem qss_one {s : Stmt} {m : MS} (h : QS X E W s m) : QSs X E W [s] m := by obtain ⟨_, h1, h2⟩ := h; exact ⟨_, pss_one h1, h2⟩
theorem qss_cons {s : Stmt} {r : List Stmt} {m n : MS} (h : QS X E W s m) (k : QSs X E W r n) : QSs X E W (s :: r) (mSeq m n) := by obtain ⟨_, h1, h2⟩ := h; obtain ⟨_, h3, h4⟩ := k; exact ⟨_, pss_cons h1 h3, ss_seq h2 h4⟩
theorem qs_set {i : Nat} {x : Str} {e : Expr} {m : ME} {pos pos' : Pos} (hN : X.N.Nodup) (hi : X.N[i]? = some x) (hx : Loc X.env.scope x) (he : QE X E W e m) (hs : swapsWith e (some (.Name x pos')) pos.line X.env = pure false := by rfl) (hf : X.fn x = true ∨ X.env.scope.names.lookup x = some .local := by first | exact .inl rfl | exact .inr rfl | assumption) :
    QS X E W (.Assign [.Name x pos'] e pos) (mAsg m (gSet i)) := by obtain ⟨te, h1, h2⟩ := he; exact ⟨_, ps_set hN hi hx h1 hs hf, ss_asg h2 sg_name⟩
theorem qs_asg {tg e : Expr} {pos : Pos} {m : ME} {g : MG} {l : List Nat} (he : QE X E W e m) (hg : QG X E tg g l) (hs : swapsWithSole [tg] e pos.line X.env = pure false := by rfl) (hw : swappedStores [tg] e X.env = pure none := by rfl)
    (h1 : (assignEach [tg] X.env).map (·.2) = [assign tg X.env] := by rfl) : QS X E W (.Assign [tg] e pos) (mAsg m g) := by
  obtain ⟨_, a1, a2⟩ := he; obtain ⟨_, b1, b2⟩ := hg; exact ⟨_, ps_asg a1 b1 hs hw h1, ss_asg a2 b2⟩
/-- a, b = x, y -/
def mPar (i j : Nat) (a : MA) : MS := fun S => (a S).out fun ps S1 => (toDs ps S1).out fun ds S2 => match ds with
  | [d1, d2] => .nx { S2 with sl := (S2.sl.set i (.dat d1)).set j (.dat d2) }
  | _ => .st
theorem qs_par {i j : Nat} {x y : Str} {a b : Expr} {m : MA} {px py pt pos : Pos} {kt k2 pt2} (hc : X.calm = true) (hN : X.N.Nodup) (hi : X.N[i]? = some x) (hj : X.N[j]? = some y) (hij : i ≠ j)
    (hx : X.env.scope.names.lookup x = some .local) (hy : X.env.scope.names.lookup y = some .local) (ha : QA X E W [a, b] m)
    (hw : swappedStores [.Tuple [.Name x px, .Name y py] kt pt] (.Tuple [a, b] k2 pt2) X.env = pure (some [x, y]))
    (hs : swapsWithSole [.Tuple [.Name x px, .Name y py] kt pt] (.Tuple [a, b] k2 pt2) pos.line X.env = pure false := by rfl) : QS X E W (.Assign [.Tuple [.Name x px, .Name y py] kt pt] (.Tuple [a, b] k2 pt2) pos) (mPar i j m) := by
  obtain ⟨ta, h1, h2⟩ := ha
  refine ⟨_, ps_par hc hN hi hj hij hx hy h1 hw hs, fun F Γ H σ S A => RunS.of (fun D vs H1 => ∃ v w, vs = [v, w] ∧ D.nx ((σ.set i (some v)).set j (some w)) H1) (fun D h => h) (h2 F Γ H σ S A) fun ps S1 vs Γ1 H1 _ l1 A1 r1 => ?_⟩
  cases e : toDs ps S1 with
  | st => trivial
  | ex _ _ => exact absurd e toDs_noex
  | ok ds S2 =>
    obtain ⟨Γ2, l2, A2, r2⟩ := toDs_run A1 r1 e
    refine RunS.weak l2 ?_
    clear e
    cases r2 with
    | nil => trivial
    | cons a r2 => cases r2 with
      | nil => trivial
      | cons b r2 => cases r2 with
        | nil => exact fun D q => ⟨_, _, rfl, q Γ2 H1 _ (Gd.Le.refl _) ((A2.setD a).setD b)⟩
        | cons _ _ => trivial
theorem qs_expr {e : Expr} {pos : Pos} {m : ME} (he : QE X E W e m) (hs : swapsWith e none pos.line X.env = pure false := by rfl) : QS X E W (.Expr e pos) (mDrop m) := by obtain ⟨_, h1, h2⟩ := he; exact ⟨_, ps_expr h1 hs, ss_drop h2⟩
theorem qs_ret {e : Expr} {pos : Pos} {m : ME} (he : QE X E W e m) : QS X E W (.Return (some e) pos) (mRet m) := by obtain ⟨_, h1, h2⟩ := he; exact ⟨_, ps_ret h1, ss_ret h2⟩
theorem qs_if {c : Expr} {a b : List Stmt} {pos : Pos} {t : MT} {m n : MS} (hc : QT X E W c t) (ha : QSs X E W a m) (hb : QSs X E W b n) : QS X E W (.If c a b pos) (mIfS t m n) := by
  obtain ⟨_, h1, h2⟩ := hc; obtain ⟨_, h3, h4⟩ := ha; obtain ⟨_, h5, h6⟩ := hb; exact ⟨_, ps_if h1 h3 h5, ss_if h2 h4 h6⟩
theorem qs_for {tg iter : Expr} {body : List Stmt} {pos : Pos} {i : MI} {g : MG} {b : MS} {l : List Nat} (hp : PassesOwn (model X.prog X.w) X.A X.env X.xe) (hc : X.calm = true) (hi : QI X E W tg iter i) (hg : QG X E tg g l) (hb : QSs X E W body b) (hk : ∀ x, foldedSetIterable iter X.env x = pure x := by intro _; rfl) : QS X E W (.For tg iter body [] pos) (mFor i g b) := by
  obtain ⟨_, h1, h2⟩ := hi; obtain ⟨_, h3, h4⟩ := hg; obtain ⟨_, h5, h6⟩ := hb; exact ⟨_, ps_for hp hc h1 h3 h5 hk, ss_for h2 h4 h6⟩
theorem qs_while {c : Expr} {body : List Stmt} {pos : Pos} {t : MT} {b : MS} (hp : PassesOwn (model X.prog X.w) X.A X.env X.xe) (hc : QT X E W c t) (hb : QSs X E W body b) : QS X E W (.While c body [] pos) (mWhile t b) := by
  obtain ⟨_, h1, h2⟩ := hc; obtain ⟨_, h5, h6⟩ := hb; exact ⟨_, ps_while hp h1 h5, ss_while h2 h6⟩
theorem qs_pass {pos : Pos} : QS X E W (.Pass pos) mNext := ⟨_, ps_pass, ss_next⟩
theorem qs_break {pos : Pos} : QS X E W (.Break pos) mBrk := ⟨_, ps_break, ss_brk⟩
theorem qs_continue {pos : Pos} : QS X E W (.Continue pos) mCont := ⟨_, ps_continue, ss_cont⟩
theorem qs_doc {x j pos pos'} : QS X E W (.Expr (.Constant (.str x) j pos) pos') mNext := ⟨_, ps_doc, ss_next⟩
theorem qs_raise {s : Stmt} {c : Str} (h : PS X s (fun _ σ H => W (.ref (E.cl c)) none σ H)) : QS X E W s (mRaise c) := ⟨_, h, fun F Γ H σ S A w D => w Γ H σ none (Gd.Le.refl _) A rfl⟩
def mRaise1 (c : Str) (e : ME) : MS := fun S => (e S).out fun _ S1 => .ex ⟨c, none⟩ S1
theorem qs_raise1 {s : Stmt} {c : Str} {e : Expr} {m : ME} (he : QE X E W e m) (h : ∀ ta, PE X e ta → PS X s (fun _ σ H => ta σ H fun _ H1 => W (.ref (E.cl c)) none σ H1)) : QS X E W s (mRaise1 c m) := by
  obtain ⟨ta, h1, h2⟩ := he
  exact ⟨_, h ta h1, fun F Γ H σ S A => RunS.of (fun D _ H1 => W (.ref (E.cl c)) none σ H1) (fun D h => h) (h2 F Γ H σ S A) fun p S1 x Γ1 H1 _ l1 A1 r1 => fun w D => w Γ1 H1 σ none (Gd.Le.refl _) A1 rfl⟩
end

/-! ### defs -/
inductive Fres where
  | ok (d : RD) (ce : List Cell) | ex (e : Exn) (ce : List Cell) | st
abbrev MF := List RD → List Cell → Fres
/-- behind a call -/
structure Post (E : En) (Γ : Gd) (H : Hp) (ce : List Cell) (Γ' : Gd) (H' : Hp) : Prop where
  fh : ∀ a o, H a = some o → a ∉ Γ.m → H' a = some o
  le : Γ.Le Γ'
  fn : ∀ a, Γ'.g a ≠ none → Γ.g a ≠ none ∨ H a = none
  fc : ∀ a, a ∈ Γ'.m → a ∈ Γ.m ∨ H a = none
  gh : Ex Γ'.g H'
  nd : Γ'.m.Nodup
  ml : Γ'.m.length = ce.length
  cel : ∀ (k : Nat) (c : Cell), ce[k]? = some c → ∃ a, Γ'.m[k]? = some a ∧ Γ'.g a = none ∧ CellAt E Γ' H' a c
/-- what stands ahead of a call -/
structure Pre (E : En) (Γ : Gd) (H : Hp) (ce : List Cell) : Prop where
  gh : Ex Γ.g H
  nd : Γ.m.Nodup
  ml : Γ.m.length = ce.length
  cel : ∀ (k : Nat) (c : Cell), ce[k]? = some c → ∃ a, Γ.m[k]? = some a ∧ Γ.g a = none ∧ CellAt E Γ H a c
def spS (E : En) (n : Nat) (f : MF) : Sp := fun vs H Q X => ∃ Γ ds ce, vs.length = n ∧ Pre E Γ H ce ∧ RpAll E Γ vs ds ∧ match f ds ce with
  | .ok d ce' => ∀ v Γ' H', Post E Γ H ce' Γ' H' → Rp E Γ' v d → Q v H'
  | .ex e ce' => ∀ dd Γ' H', Post E Γ H ce' Γ' H' → ExD E Γ' H' e.f dd → X (.ref (E.cl e.c)) dd H'
  | .st => False
theorem spS_len {E : En} {n : Nat} {f : MF} {ps : List Str} (hp : n = ps.length) : ∀ vs H Q X, spS E n f vs H Q X → vs.length = ps.length := fun vs H Q X h => by
  obtain ⟨_, _, _, hn, _⟩ := h
  exact hn.trans hp
def startL (n : Nat) (ds : List RD) : List SV := ds.map .dat ++ List.replicate (n - ds.length) .un
def funOf (n : Nat) (m : MS) : MF := fun ds ce => match m ⟨startL n ds, ce, none⟩ with
  | .rt d S => .ok d S.ce
  | .nx S => .ok .non S.ce
  | .ex e S => .ex e S.ce
  | _ => .st
def mCall (n : Nat) (f : MF) (es : List RD) (a : MA) : ME := fun S => (a S).bind fun ps S1 => (toDs ps S1).bind fun ds S2 => if (ds ++ es).length = n then match f (ds ++ es) S2.ce with
  | .ok d ce => .ok (.d d) { S2 with ce := ce }
  | .ex e ce => .ex e { S2 with ce := ce }
  | .st => .st
  else .st
section
variable {E : En} {W : WX} {F : Fr} {Γ Γ' : Gd} {H H' : Hp} {σ : L2.St} {S : Sg} {ce : List Cell}
theorem Abs.pre (A : Abs E F Γ H σ S) : Pre E Γ H S.ce := ⟨A.gh, A.nd, A.ml, A.cel⟩
theorem Abs.call (A : Abs E F Γ H σ S) (P : Post E Γ H ce Γ' H') : Abs E F Γ' H' σ { S with ce := ce } where
  fh := fun a o h hx => P.fh a o (A.fh a o h hx) fun z => by
    rcases A.fc a z with z | z
    · exact hx z
    · rw [z] at h; cases h
  le := A.le.trans P.le
  fn := fun a h => by
    rcases P.fn a h with z | z
    · exact A.fn a z
    · exact .inr (.inl (A.fnew z))
  fc := fun a h => by
    rcases P.fc a h with z | z
    · exact A.fc a z
    · exact .inr (A.fnew z)
  gh := P.gh
  nd := P.nd
  ml := P.ml
  cel := P.cel
  len := A.len
  dat := fun i d h => by obtain ⟨v, h1, h2⟩ := A.dat i d h; exact ⟨v, h1, h2.mono P.le⟩
  own := fun i c h => by
    obtain ⟨a, h1, h2, h3, h4, h5⟩ := A.own i c h
    obtain ⟨o, ho⟩ := h5.there
    refine ⟨a, h1, ?_, fun z => ?_, h4, h5.mono P.le ((P.fh a o ho h3).trans ho.symm)⟩
    · cases e : Γ'.g a with
      | none => rfl
      | some u =>
        rcases P.fn a (by rw [e]; simp) with z | z
        · exact absurd h2 z
        · rw [z] at ho; cases ho
    · rcases P.fc a z with z | z
      · exact h3 z
      · rw [z] at ho; cases ho
  sep := A.sep
  exs := A.exs
  exn := fun e h => ⟨(A.exn e h).1, (A.exn e h).2.mono P.le P.gh⟩
  fx := fun a h => by
    obtain ⟨o, ho⟩ := A.fx a h
    by_cases hm : a ∈ Γ.m
    · obtain ⟨k, hk, e⟩ := List.mem_iff_getElem.mp hm
      have e2 := pre_get P.le.m ((List.getElem?_eq_getElem hk).trans (congrArg some e))
      have hk2 : k < ce.length := by rw [← P.ml]; exact (List.getElem?_eq_some_iff.mp e2).1
      obtain ⟨b, h1, _, h3⟩ := P.cel k _ (List.getElem?_eq_getElem hk2)
      rw [e2] at h1
      cases h1
      exact h3.there
    · exact ⟨o, P.fh a o ho hm⟩
/-- a def's own frame -/
abbrev frOf (Γ : Gd) (H : Hp) : Fr := ⟨H, Γ, Γ.m⟩
theorem Abs.post (A : Abs E (frOf Γ H) Γ' H' σ S) : Post E Γ H S.ce Γ' H' where
  fh := A.fh
  le := A.le
  fn := fun a h => by
    rcases A.fn a h with z | z | z
    · exact .inl z
    · exact .inr z
    · exfalso
      obtain ⟨k, hk, e⟩ := List.mem_iff_getElem.mp z
      have e2 := pre_get A.le.m ((List.getElem?_eq_getElem hk).trans (congrArg some e))
      have hk2 : k < S.ce.length := by rw [← A.ml]; exact (List.getElem?_eq_some_iff.mp e2).1
      obtain ⟨b, h1, h2, _⟩ := A.cel k _ (List.getElem?_eq_getElem hk2)
      rw [e2] at h1
      cases h1
      exact h h2
  fc := A.fc
  gh := A.gh
  nd := A.nd
  ml := A.ml
  cel := A.cel
theorem abs_start {vs : List V} {ds : List RD} {N : List Str} (P : Pre E Γ H ce) (r : RpAll E Γ vs ds) : Abs E (frOf Γ H) Γ H (L2.start N vs) ⟨startL N.length ds, ce, none⟩ := by
  have hl := r.length
  have cases_ : ∀ {i : Nat} {s : SV}, (startL N.length ds)[i]? = some s → (∃ d, s = .dat d ∧ ds[i]? = some d) ∨ s = .un := fun {i s} h => by
    unfold startL at h
    by_cases hi : i < ds.length
    · rw [List.getElem?_append_left (by rw [List.length_map]; exact hi), List.getElem?_map] at h
      cases e1 : ds[i]? with
      | none => rw [e1] at h; cases h
      | some x => rw [e1] at h; cases h; exact .inl ⟨x, rfl, rfl⟩
    · rw [List.getElem?_append_right (by rw [List.length_map]; omega), List.getElem?_replicate] at h
      split at h
      · cases h; exact .inr rfl
      · cases h
  refine ⟨fun a o h _ => h, Gd.Le.refl _, fun a h => .inl h, fun a h => .inl h, P.gh, P.nd, P.ml, P.cel, ?len, fun i d h => ?dat, fun i c h => ?own, fun i j c e a h => ?sep, fun i h => ?exs, fun e h => (nomatch h), fun a h => ?fx⟩
  · unfold L2.start startL
    rw [List.length_append, List.length_append, List.length_map, List.length_map, List.length_replicate, List.length_replicate, hl]
  · rcases cases_ h with ⟨d', e, h'⟩ | e
    · cases e
      obtain ⟨v, h1, h2⟩ := r.get h'
      refine ⟨v, ?_, h2⟩
      have hi := (List.getElem?_eq_some_iff.mp h').1
      unfold L2.start
      rw [List.getElem?_append_left (by rw [List.length_map, hl]; exact hi), List.getElem?_map, h1] <;> rfl
    · cases e
  · rcases cases_ h with ⟨d', e, h'⟩ | e <;> cases e
  · rcases cases_ h with ⟨d', e, h'⟩ | e <;> cases e
  · rcases cases_ h with ⟨d', e, h'⟩ | e <;> cases e
  · obtain ⟨k, hk, e⟩ := List.mem_iff_getElem.mp h
    have hk2 : k < ce.length := by rw [← P.ml]; exact hk
    obtain ⟨b, h1, _, h3⟩ := P.cel k _ (List.getElem?_eq_getElem hk2)
    rw [List.getElem?_eq_getElem hk, e] at h1
    cases h1
    exact h3.there
theorem se_call {n : Nat} {f : MF} {dvs : List V} {es : List RD} {ta : TA} {a : MA} (hes : ∀ Γ, RpAll E Γ dvs es) (ha : SA E W ta a) : SE E W (tCallSD (spS E n f) dvs (WE W) ta) (mCall n f es a) := fun F Γ H σ S A =>
  RunR.bind (fun Q vs H1 => spS E n f (vs ++ dvs) H1 Q (WE W σ)) (fun Q h => h) (ha F Γ H σ S A) fun ps S1 vs Γ1 H1 _ l1 A1 r1 =>
    toDs_bind A1 r1 fun ds S2 Γ2 l2 A2 r2 => by
      split
      · rename_i hn
        have ra := r2.append (hes Γ2)
        cases e : f (ds ++ es) S2.ce with
        | st => trivial
        | ok d ce => exact fun Q q => ⟨Γ2, ds ++ es, S2.ce, by rw [ra.length]; exact hn, A2.pre, ra, by rw [e]; exact fun v Γ' H' P r => q v Γ' H' P.le (A2.call P) (.d r)⟩
        | ex x ce => exact fun w Q => ⟨Γ2, ds ++ es, S2.ce, by rw [ra.length]; exact hn, A2.pre, ra, by rw [e]; exact fun dd Γ' H' P r => w Γ' H' dd P.le (A2.call P) r⟩
      · trivial
theorem body_ok {t : TS} {n : Nat} {m : MS} {vs : List V} {Q : VK} {X : XK} {N : List Str} (h : spS E n (funOf N.length m) vs H Q X) (hm : SS E (fun c d _ H => X c d H) t m) : t { nx := fun _ H' => Q .non H', rt := Q } (L2.start N vs) H := by
  obtain ⟨Γ, ds, ce, hn, P, ra, q⟩ := h
  refine (hm _ Γ H _ _ (abs_start (N := N) P ra)).get ?_
  unfold funOf at q
  cases e : m ⟨startL N.length ds, ce, none⟩ with
  | rt d S => rw [e] at q; exact fun v Γ' H' σ' _ A r => q v Γ' H' A.post r
  | nx S => rw [e] at q; exact fun Γ' H' σ' _ A => q .non Γ' H' A.post .non
  | ex x S => rw [e] at q; exact fun Γ' H' σ' dd _ A r => q dd Γ' H' A.post r
  | bk S => rw [e] at q; exact q.elim
  | ct S => rw [e] at q; exact q.elim
  | st => rw [e] at q; exact q.elim
end
section
variable {E : En} {W : WX} {X : Cx} {k : Nat} {fa : Addr} {fd : FuncData} {ps : List Str} {n : Nat} {f : MF} {x : Str} {p pos : Pos} {e : Expr} {es : List Expr}
theorem q_call {dvs : List V} {ds : List Value} {rs : List RD} {g : MA} (F : FnOk X.prog X.w X.K X.mg X.base (L2.CX X.prog X.w) k fa fd ps (spS E n f)) (hr : Room k X.A) (hg : Gl X x) (hm : X.mg x = some (.ref fa)) (hk : PySem.W.keepIn X.K (.ref fa) = true) (hb : Binds X.K fd ps ds) (hd : Vals dvs ds)
    (hes : ∀ Γ, RpAll E Γ dvs rs) (tk : Takes X W) (ha : QA X E W (e :: es) g) (hdb : (x == ("__debug__" : Str)) = false := by decide) (he : starEach (e :: es) X.env = (false, eval e X.env) :: starEach es X.env := by rfl) (hpl : (backTo pos (starEach es X.env)).any (·.1) = false := by rfl) :
    QE X E W (.Call (.Name x p) (e :: es) [] pos) (mCall n f rs g) := by
  obtain ⟨ta, h1, h2⟩ := ha
  exact ⟨_, pe_callSD F hr hg hm hk hb hd (fun σ => passAt tk σ) h1 hdb he hpl, se_call hes h2⟩
end
end RS

set_option Elab.async false
set_option linter.all false
set_option maxRecDepth 100000
set_option maxHeartbeats 2000000
namespace RP
open PySem PySem.Spec PyProof.Rows L2

/-! ### data: what a value stands for -/
inductive RD where
  | non | bl (b : Bool) | int (i : Int) | str (x : Str)
  | tup (ds : List RD) | lst (ds : List RD)
  | dk (ks : List Key) (ds : List RD)
  | dt (ks : List (List Key)) (ds : List RD)
  | obj (C : Addr) (fs : List Str) (ds : List RD)
  | ty (n : String) | cls (C : Addr)
  | scr (ns : List Int)
instance : Inhabited RD := ⟨.non⟩
mutual
inductive Rp (K : PySem.W.Frag) (G : Hp) : V → RD → Prop
  | non : Rp K G .non .non
  | bl (b : Bool) : Rp K G (.bl b) (.bl b)
  | int (i : Int) : Rp K G (.int i) (.int i)
  | str (x : Str) : Rp K G (.str x) (.str x)
  | tup {a : Addr} {xs : List V} {ds : List RD} : SqT K G a xs → RpAll K G xs ds → Rp K G (.ref a) (.tup ds)
  | lst {a : Addr} {xs : List V} {ds : List RD} : G a = some (.lst xs) → RpAll K G xs ds → Rp K G (.ref a) (.lst ds)
  | scr {a : Addr} {ns : List Int} : SqL K G a (ns.map V.int) → Rp K G (.ref a) (.scr ns)
  | dk {a : Addr} {kvs : List (Key × V)} {ks : List Key} {xs : List V} {ds : List RD} : G a = some (.dK kvs) → kvs = ks.zip xs → ks.length = xs.length → RpAll K G xs ds → Rp K G (.ref a) (.dk ks ds)
  | dt {a : Addr} {kvs : List (List Key × V)} {ks : List (List Key)} {xs : List V} {ds : List RD} : G a = some (.dT kvs) → kvs = ks.zip xs → ks.length = xs.length → RpAll K G xs ds → Rp K G (.ref a) (.dt ks ds)
  | obj {a C dx : Addr} {fvs : List (Str × V)} {fs : List Str} {xs : List V} {ds : List RD} : G a = some (.ins C dx fvs) → fvs = fs.zip xs → fs.length = xs.length → RpAll K G xs ds → Rp K G (.ref a) (.obj C fs ds)
  | ty (n : String) : Rp K G (.ty n) (.ty n)
  | cls (C : Addr) : Rp K G (.ref C) (.cls C)
inductive RpAll (K : PySem.W.Frag) (G : Hp) : List V → List RD → Prop
  | nil : RpAll K G [] []
  | cons {v : V} {vs : List V} {d : RD} {ds : List RD} : Rp K G v d → RpAll K G vs ds → RpAll K G (v :: vs) (d :: ds)
end

abbrev Ex := @Evl.Ex
section
variable {K : PySem.W.Frag} {G G' : Hp}
mutual
theorem Rp.mono (e : Evl.Ex G G') : ∀ {v : V} {d : RD}, Rp K G v d → Rp K G' v d
  | _, _, .non => .non
  | _, _, .bl b => .bl b
  | _, _, .int i => .int i
  | _, _, .str x => .str x
  | _, _, .tup h r => .tup (Evl.ex_t e h) (RpAll.mono e r)
  | _, _, .lst h r => .lst (e _ _ h) (RpAll.mono e r)
  | _, _, .scr h => .scr (Evl.ex_l e h)
  | _, _, .dk h a b r => .dk (e _ _ h) a b (RpAll.mono e r)
  | _, _, .dt h a b r => .dt (e _ _ h) a b (RpAll.mono e r)
  | _, _, .obj h a b r => .obj (e _ _ h) a b (RpAll.mono e r)
  | _, _, .ty n => .ty n
  | _, _, .cls C => .cls C
theorem RpAll.mono (e : Evl.Ex G G') : ∀ {vs : List V} {ds : List RD}, RpAll K G vs ds → RpAll K G' vs ds
  | _, _, .nil => .nil
  | _, _, .cons a b => .cons (Rp.mono e a) (RpAll.mono e b)
end
theorem RpAll.length {vs : List V} {ds : List RD} : RpAll K G vs ds → vs.length = ds.length
  | .nil => rfl
  | .cons _ b => congrArg (· + 1) (RpAll.length b)
theorem RpAll.get : ∀ {vs : List V} {ds : List RD} {i : Nat} {d : RD}, RpAll K G vs ds → ds[i]? = some d → ∃ v, vs[i]? = some v ∧ Rp K G v d
  | _, _, 0, d, .cons a b, h => ⟨_, rfl, by cases h; exact a⟩
  | _, _, i + 1, d, .cons a b, h => RpAll.get (i := i) b h
theorem RpAll.getV : ∀ {vs : List V} {ds : List RD} {i : Nat} {v : V}, RpAll K G vs ds → vs[i]? = some v → ∃ d, ds[i]? = some d ∧ Rp K G v d
  | _, _, 0, d, .cons a b, h => ⟨_, rfl, by cases h; exact a⟩
  | _, _, i + 1, d, .cons a b, h => RpAll.getV (i := i) b h
theorem RpAll.append : ∀ {vs us : List V} {ds es : List RD}, RpAll K G vs ds → RpAll K G us es → RpAll K G (vs ++ us) (ds ++ es)
  | _, _, _, _, .nil, h => h
  | _, _, _, _, .cons a b, h => .cons a (RpAll.append b h)
theorem RpAll.take : ∀ {vs : List V} {ds : List RD} (n : Nat), RpAll K G vs ds → RpAll K G (vs.take n) (ds.take n)
  | _, _, 0, _ => by rw [List.take_zero, List.take_zero]; exact .nil
  | _, _, n + 1, .nil => .nil
  | _, _, n + 1, .cons a b => .cons a (RpAll.take n b)
theorem RpAll.drop : ∀ {vs : List V} {ds : List RD} (n : Nat), RpAll K G vs ds → RpAll K G (vs.drop n) (ds.drop n)
  | _, _, 0, h => h
  | _, _, n + 1, .nil => .nil
  | _, _, n + 1, .cons a b => RpAll.drop n b
theorem RpAll.set : ∀ {vs : List V} {ds : List RD} (i : Nat) {v : V} {d : RD}, RpAll K G vs ds → Rp K G v d → RpAll K G (vs.set i v) (ds.set i d)
  | _, _, _, _, _, .nil, _ => .nil
  | _, _, 0, _, _, .cons a b, h => .cons h b
  | _, _, i + 1, _, _, .cons a b, h => .cons a (RpAll.set i b h)
theorem RpAll.ints : ∀ (ns : List Int), RpAll K G (ns.map V.int) (ns.map RD.int)
  | [] => .nil
  | n :: r => .cons (.int n) (RpAll.ints r)
theorem Rp.int_inv {v : V} {i : Int} (h : Rp K G v (.int i)) : v = .int i := by cases h; rfl
theorem Rp.bl_inv {v : V} {b : Bool} (h : Rp K G v (.bl b)) : v = .bl b := by cases h; rfl
theorem Rp.str_inv {v : V} {x : Str} (h : Rp K G v (.str x)) : v = .str x := by cases h; rfl
theorem Rp.non_inv {v : V} (h : Rp K G v .non) : v = .non := by cases h; rfl
theorem Rp.tup_inv {v : V} {ds : List RD} (h : Rp K G v (.tup ds)) : ∃ a xs, v = .ref a ∧ SqT K G a xs ∧ RpAll K G xs ds := by
  cases h with
  | tup a b => exact ⟨_, _, rfl, a, b⟩
theorem Rp.lst_inv {v : V} {ds : List RD} (h : Rp K G v (.lst ds)) : ∃ a xs, v = .ref a ∧ G a = some (.lst xs) ∧ RpAll K G xs ds := by
  cases h with
  | lst a b => exact ⟨_, _, rfl, a, b⟩
end

/-! ### steps of the heap: H the heap, G the part of it that data lean on -/
structure Sx (G H G' H' : Hp) : Prop where
  h : Evl.Ex H H'
  g : Evl.Ex G G'
  s : Evl.Ex G' H'
  n : ∀ a, G' a ≠ none → G a ≠ none ∨ H a = none
theorem Sx.refl {G H : Hp} (e : Evl.Ex G H) : Sx G H G H := ⟨Evl.Ex.refl H, Evl.Ex.refl G, e, fun _ h => .inl h⟩
theorem Sx.trans {G H G1 H1 G2 H2 : Hp} (a : Sx G H G1 H1) (b : Sx G1 H1 G2 H2) : Sx G H G2 H2 :=
  ⟨a.h.trans b.h, a.g.trans b.g, b.s, fun x hx => by
    rcases b.n x hx with h | h
    · exact a.n x h
    · exact .inr (Evl.fresh_back a.h h)⟩
/-- a new object that data may lean on -/
theorem Sx.new {G H : Hp} {p : Addr} {o : HO} (e : Evl.Ex G H) (hp : H p = none) : Sx G H (upd G p o) (upd H p o) :=
  ⟨Evl.Ex.new hp, Evl.Ex.new (Evl.fresh_back e hp), fun a u ha => by
    by_cases h : a = p
    · subst h; rw [upd_same] at ha ⊢; exact ha
    · rw [upd_ne h] at ha ⊢; exact e a u ha,
   fun a ha => by
    by_cases h : a = p
    · subst h; exact .inr hp
    · rw [upd_ne h] at ha; exact .inl ha⟩
/-- a new object of one's own -/
theorem Sx.newH {G H : Hp} {p : Addr} {o : HO} (e : Evl.Ex G H) (hp : H p = none) : Sx G H G (upd H p o) :=
  ⟨Evl.Ex.new hp, Evl.Ex.refl G, e.trans (Evl.Ex.new hp), fun _ ha => .inl ha⟩

/-! ### the slots by what they stand for -/
inductive SV where
  | un | dat (d : RD) | own (ds : List RD)
abbrev Sg := List SV
structure Abs (K : PySem.W.Frag) (G0 H0 G H : Hp) (σ : L2.St) (S : Sg) : Prop where
  sx : Sx G0 H0 G H
  len : σ.length = S.length
  dat : ∀ (i : Nat) (d : RD), S[i]? = some (.dat d) → ∃ v, σ[i]? = some (some v) ∧ Rp K G v d
  own : ∀ (i : Nat) (ds : List RD), S[i]? = some (.own ds) → ∃ a vs, σ[i]? = some (some (.ref a)) ∧ H a = some (.lst vs) ∧ G a = none ∧ H0 a = none ∧ RpAll K G vs ds
  sep : ∀ (i j : Nat) (ds es : List RD) (a : Addr), S[i]? = some (.own ds) → S[j]? = some (.own es) → σ[i]? = some (some (.ref a)) → σ[j]? = some (some (.ref a)) → i = j
section
variable {K : PySem.W.Frag} {G0 H0 G H G' H' : Hp} {σ : L2.St} {S : Sg}
theorem Abs.gh (A : Abs K G0 H0 G H σ S) : Evl.Ex G H := A.sx.s
theorem Sx.stay_none {a : Addr} {o : HO} (s : Sx G H G' H') (ha : H a = some o) (g : G a = none) : G' a = none := by
  cases e : G' a with
  | none => rfl
  | some u =>
    rcases s.n a (by rw [e]; simp) with h | h
    · exact absurd g h
    · rw [ha] at h; cases h
theorem Abs.ext (A : Abs K G0 H0 G H σ S) (s : Sx G H G' H') : Abs K G0 H0 G' H' σ S :=
  ⟨A.sx.trans s, A.len, fun i d h => by
    obtain ⟨v, h1, h2⟩ := A.dat i d h
    exact ⟨v, h1, h2.mono s.g⟩,
   fun i ds h => by
    obtain ⟨a, vs, h1, h2, h3, h4, h5⟩ := A.own i ds h
    exact ⟨a, vs, h1, s.h a _ h2, s.stay_none h2 h3, h4, h5.mono s.g⟩, A.sep⟩
/-- what a slot holds: data -/
theorem Abs.setD {i : Nat} {v : V} {d : RD} (A : Abs K G0 H0 G H σ S) (h : Rp K G v d) : Abs K G0 H0 G H (σ.set i (some v)) (S.set i (.dat d)) := by
  refine ⟨A.sx, by rw [List.length_set, List.length_set]; exact A.len, fun j e hj => ?_, fun j ds hj => ?_, fun j k ds es a hj hk ej ek => ?_⟩
  · by_cases hij : i = j
    · subst hij
      have hl : i < S.length := by
        have := (List.getElem?_eq_some_iff.mp hj).1
        rw [List.length_set] at this; exact this
      rw [List.getElem?_set_self hl] at hj
      cases hj
      exact ⟨v, List.getElem?_set_self (by rw [A.len]; exact hl), h⟩
    · rw [List.getElem?_set_ne hij] at hj
      obtain ⟨u, h1, h2⟩ := A.dat j e hj
      exact ⟨u, by rw [List.getElem?_set_ne hij]; exact h1, h2⟩
  · by_cases hij : i = j
    · subst hij
      have hl : i < S.length := by
        have := (List.getElem?_eq_some_iff.mp hj).1
        rw [List.length_set] at this; exact this
      rw [List.getElem?_set_self hl] at hj
      cases hj
    · rw [List.getElem?_set_ne hij] at hj
      obtain ⟨a, vs, h1, h2⟩ := A.own j ds hj
      exact ⟨a, vs, by rw [List.getElem?_set_ne hij]; exact h1, h2⟩
  · have nj : i ≠ j := fun z => by
      subst z
      have hl : i < S.length := by
        have := (List.getElem?_eq_some_iff.mp hj).1
        rw [List.length_set] at this; exact this
      rw [List.getElem?_set_self hl] at hj; cases hj
    have nk : i ≠ k := fun z => by
      subst z
      have hl : i < S.length := by
        have := (List.getElem?_eq_some_iff.mp hk).1
        rw [List.length_set] at this; exact this
      rw [List.getElem?_set_self hl] at hk; cases hk
    rw [List.getElem?_set_ne nj] at hj ej
    rw [List.getElem?_set_ne nk] at hk ek
    exact A.sep j k ds es a hj hk ej ek
end

/-! ### what readings give -/
section
variable (K : PySem.W.Frag)
def AE (te : TE) (S : Sg) (d : RD) : Prop := ∀ G0 H0 G H σ, Abs K G0 H0 G H σ S → ∀ Q : VK, (∀ v G' H', Sx G H G' H' → Rp K G' v d → Q v H') → te σ H Q
def AT (tt : TT) (S : Sg) (b : Bool) : Prop := ∀ G0 H0 G H σ, Abs K G0 H0 G H σ S → ∀ Q : Bool → Hp → Prop, (∀ G' H', Sx G H G' H' → Q b H') → tt σ H Q
def AA (ta : TA) (S : Sg) (ds : List RD) : Prop := ∀ G0 H0 G H σ, Abs K G0 H0 G H σ S → ∀ Q : List V → Hp → Prop, (∀ vs G' H', Sx G H G' H' → RpAll K G' vs ds → Q vs H') → ta σ H Q
def AO (to : TO) (S : Sg) (o : Option Int) : Prop := ∀ G0 H0 G H σ, Abs K G0 H0 G H σ S → ∀ Q : Option Int → Hp → Prop, (∀ G' H', Sx G H G' H' → Q o H') → to σ H Q
/-- an operation on two values; a call on values -/
def RO (r : R2) (d1 d2 d : RD) : Prop := ∀ G H x y, Evl.Ex G H → Rp K G x d1 → Rp K G y d2 → ∀ Q : VK, (∀ v G' H', Sx G H G' H' → Rp K G' v d → Q v H') → r x y H Q
def RU (r : V → Hp → VK → Prop) (d1 d : RD) : Prop := ∀ G H x, Evl.Ex G H → Rp K G x d1 → ∀ Q : VK, (∀ v G' H', Sx G H G' H' → Rp K G' v d → Q v H') → r x H Q
def RC (r : List V → Hp → VK → Prop) (ds : List RD) (d : RD) : Prop := ∀ G H vs, Evl.Ex G H → RpAll K G vs ds → ∀ Q : VK, (∀ v G' H', Sx G H G' H' → Rp K G' v d → Q v H') → r vs H Q
/-- a method of a built-in value -/
def RM (r : V → List V → Hp → VK → Prop) (d0 : RD) (ds : List RD) (d : RD) : Prop := ∀ G H x vs, Evl.Ex G H → Rp K G x d0 → RpAll K G vs ds → ∀ Q : VK, (∀ v G' H', Sx G H G' H' → Rp K G' v d → Q v H') → r x vs H Q
end

section
variable {K : PySem.W.Frag} {S : Sg} {ta tb te tx : TE} {t u : TT} {d d1 d2 d3 : RD} {r : R2}
theorem ae_var {i : Nat} (h : S[i]? = some (.dat d)) : AE K (tVar i) S d := fun G0 H0 G H σ A Q q => by
  obtain ⟨v, h1, h2⟩ := A.dat i d h
  exact ⟨v, h1, q v G H (.refl A.gh) h2⟩
theorem ae_c {v : V} (h : ∀ G, Rp K G v d) : AE K (tC v) S d := fun G0 H0 G H σ A Q q => q v G H (.refl A.gh) (h G)
theorem ae_int {i : Int} : AE K (tC (.int i)) S (.int i) := ae_c fun _ => .int i
theorem ae_bl {b : Bool} : AE K (tC (.bl b)) S (.bl b) := ae_c fun _ => .bl b
theorem ae_str {x : Str} : AE K (tC (.str x)) S (.str x) := ae_c fun _ => .str x
theorem ae_ty {n : String} : AE K (tC (.ty n)) S (.ty n) := ae_c fun _ => .ty n
theorem ae_non : AE K (tC .non) S .non := ae_c fun _ => .non
theorem ae_is {e : RD} (h : AE K te S d) (e1 : d = e) : AE K te S e := e1 ▸ h
theorem ae_op (ha : AE K ta S d1) (hb : AE K tb S d2) (hr : RO K r d1 d2 d) : AE K (tOp r ta tb) S d := fun G0 H0 G H σ A Q q =>
  ha G0 H0 G H σ A _ fun x G1 H1 s1 r1 => hb G0 H0 G1 H1 σ (A.ext s1) _ fun y G2 H2 s2 r2 => hr G2 H2 x y s2.s (r1.mono s2.g) r2 Q fun v G3 H3 s3 r3 => q v G3 H3 ((s1.trans s2).trans s3) r3
theorem ae_un {r : V → Hp → VK → Prop} (ha : AE K ta S d1) (hr : RU K r d1 d) : AE K (tUn r ta) S d := fun G0 H0 G H σ A Q q =>
  ha G0 H0 G H σ A _ fun x G1 H1 s1 r1 => hr G1 H1 x s1.s r1 Q fun v G3 H3 s3 r3 => q v G3 H3 (s1.trans s3) r3
theorem aa_nil : AA K tNil S [] := fun G0 H0 G H σ A Q q => q [] G H (.refl A.gh) .nil
theorem aa_cons {tr : TA} {ds : List RD} (h : AE K ta S d) (hr : AA K tr S ds) : AA K (tCons ta tr) S (d :: ds) := fun G0 H0 G H σ A Q q =>
  h G0 H0 G H σ A _ fun x G1 H1 s1 r1 => hr G0 H0 G1 H1 σ (A.ext s1) _ fun vs G2 H2 s2 r2 => q (x :: vs) G2 H2 (s1.trans s2) (.cons (r1.mono s2.g) r2)
theorem ae_tup {ta : TA} {ds : List RD} (h : AA K ta S ds) (hl : ds.length ≤ 100000) : AE K (tTup ta) S (.tup ds) := fun G0 H0 G H σ A Q q =>
  h G0 H0 G H σ A _ fun vs G1 H1 s1 r1 => ⟨Evl.sz_of (by rw [r1.length]; exact hl), fun p hp =>
    have sn := Sx.new (o := .tup vs) s1.s hp
    q (.ref p) _ _ (s1.trans sn) (.tup (Evl.st_of upd_same) (r1.mono sn.g))⟩
theorem ae_lst {ta : TA} {ds : List RD} (h : AA K ta S ds) (hl : ds.length ≤ 100000) : AE K (tLst ta) S (.lst ds) := fun G0 H0 G H σ A Q q =>
  h G0 H0 G H σ A _ fun vs G1 H1 s1 r1 => ⟨Evl.sz_of (by rw [r1.length]; exact hl), fun p hp =>
    have sn := Sx.new (o := .lst vs) s1.s hp
    q (.ref p) _ _ (s1.trans sn) (.lst upd_same (r1.mono sn.g))⟩
theorem ae_cb {r : List V → Hp → VK → Prop} {ta : TA} {ds : List RD} (h : AA K ta S ds) (hr : RC K r ds d) : AE K (tCB r ta) S d := fun G0 H0 G H σ A Q q =>
  h G0 H0 G H σ A _ fun vs G1 H1 s1 r1 => hr G1 H1 vs s1.s r1 Q fun v G2 H2 s2 r2 => q v G2 H2 (s1.trans s2) r2
theorem ae_if {b : Bool} (h : AT K t S b) (h1 : b = true → AE K ta S d) (h2 : b = false → AE K tb S d) : AE K (tIf t ta tb) S d := fun G0 H0 G H σ A Q q =>
  h G0 H0 G H σ A _ fun G1 H1 s1 => by
    cases b with
    | true => exact h1 rfl G0 H0 G1 H1 σ (A.ext s1) Q fun v G2 H2 s2 r2 => q v G2 H2 (s1.trans s2) r2
    | false => exact h2 rfl G0 H0 G1 H1 σ (A.ext s1) Q fun v G2 H2 s2 r2 => q v G2 H2 (s1.trans s2) r2
theorem ae_andV {a b : Bool} (h1 : AE K ta S (.bl a)) (h2 : a = true → AE K tb S (.bl b)) : AE K (tAndV ta tb) S (.bl (a && b)) := fun G0 H0 G H σ A Q q =>
  h1 G0 H0 G H σ A _ fun x G1 H1 s1 r1 => by
    cases r1
    refine ⟨a, rfl, ?_⟩
    cases a with
    | true => exact h2 rfl G0 H0 G1 H1 σ (A.ext s1) Q fun v G2 H2 s2 r2 => q v G2 H2 (s1.trans s2) r2
    | false => exact q _ G1 H1 s1 (.bl _)
theorem ae_orV {a b : Bool} (h1 : AE K ta S (.bl a)) (h2 : a = false → AE K tb S (.bl b)) : AE K (tOrV ta tb) S (.bl (a || b)) := fun G0 H0 G H σ A Q q =>
  h1 G0 H0 G H σ A _ fun x G1 H1 s1 r1 => by
    cases r1
    refine ⟨a, rfl, ?_⟩
    cases a with
    | false => exact h2 rfl G0 H0 G1 H1 σ (A.ext s1) Q fun v G2 H2 s2 r2 => q v G2 H2 (s1.trans s2) r2
    | true => exact q _ G1 H1 s1 (.bl _)
theorem ae_notV {a : Bool} (h1 : AE K ta S (.bl a)) : AE K (tNotV ta) S (.bl (!a)) := fun G0 H0 G H σ A Q q =>
  h1 G0 H0 G H σ A _ fun x G1 H1 s1 r1 => by
    cases r1
    exact ⟨a, rfl, q _ G1 H1 s1 (.bl _)⟩
theorem at_test {b : Bool} (h : AE K te S (.bl b)) : AT K (tTest te) S b := fun G0 H0 G H σ A Q q =>
  h G0 H0 G H σ A _ fun x G1 H1 s1 r1 => by
    cases r1
    exact ⟨b, rfl, q G1 H1 s1⟩
theorem at_B {b : Bool} (h : AE K te S (.bl b)) : AT K (tB te) S b := fun G0 H0 G H σ A Q q =>
  h G0 H0 G H σ A _ fun x G1 H1 s1 r1 => by
    cases r1
    exact ⟨b, rfl, q G1 H1 s1⟩
theorem at_and {a b : Bool} (h1 : AT K t S a) (h2 : a = true → AT K u S b) : AT K (tAnd t u) S (a && b) := fun G0 H0 G H σ A Q q =>
  h1 G0 H0 G H σ A _ fun G1 H1 s1 => by
    cases a with
    | true => exact h2 rfl G0 H0 G1 H1 σ (A.ext s1) Q fun G2 H2 s2 => q G2 H2 (s1.trans s2)
    | false => exact q G1 H1 s1
theorem at_or {a b : Bool} (h1 : AT K t S a) (h2 : a = false → AT K u S b) : AT K (tOr t u) S (a || b) := fun G0 H0 G H σ A Q q =>
  h1 G0 H0 G H σ A _ fun G1 H1 s1 => by
    cases a with
    | false => exact h2 rfl G0 H0 G1 H1 σ (A.ext s1) Q fun G2 H2 s2 => q G2 H2 (s1.trans s2)
    | true => exact q G1 H1 s1
theorem at_not {a : Bool} (h1 : AT K t S a) : AT K (tNot t) S (!a) := fun G0 H0 G H σ A Q q => h1 G0 H0 G H σ A _ fun G1 H1 s1 => q G1 H1 s1
theorem at_is {a b : Bool} (h : AT K t S a) (e : a = b) : AT K t S b := e ▸ h
theorem at_yes : AT K tYes S true := fun G0 H0 G H σ A Q q => q G H (.refl A.gh)
theorem ao_none : AO K tNoPart S none := fun G0 H0 G H σ A Q q => q G H (.refl A.gh)
theorem ao_some {i : Int} (h : AE K te S (.int i)) : AO K (tPart te) S (some i) := fun G0 H0 G H σ A Q q =>
  h G0 H0 G H σ A _ fun x G1 H1 s1 r1 => ⟨i, r1.int_inv, q G1 H1 s1⟩

/-! ### operations -/
theorem ro_I0i {g : Int → Int → Int} {i j : Int} : RO K (rI0 fun i j => .int (g i j)) (.int i) (.int j) (.int (g i j)) := fun G H x y e hx hy Q q => by
  cases hx; cases hy
  exact ⟨i, j, rfl, rfl, q _ G H (.refl e) (.int _)⟩
theorem ro_I0b {g : Int → Int → Bool} {i j : Int} : RO K (rI0 fun i j => .bl (g i j)) (.int i) (.int j) (.bl (g i j)) := fun G H x y e hx hy Q q => by
  cases hx; cases hy
  exact ⟨i, j, rfl, rfl, q _ G H (.refl e) (.bl _)⟩
theorem ro_Ii {C : Int → Int → Prop} {g : Int → Int → Int} {i j : Int} (hc : C i j) : RO K (rI C fun i j => .int (g i j)) (.int i) (.int j) (.int (g i j)) := fun G H x y e hx hy Q q => by
  cases hx; cases hy
  exact ⟨i, j, rfl, rfl, hc, q _ G H (.refl e) (.int _)⟩
theorem ru_i {g : Int → Int} {i : Int} : RU K (rU fun i => .int (g i)) (.int i) (.int (g i)) := fun G H x e hx Q q => by
  cases hx
  exact ⟨i, rfl, q _ G H (.refl e) (.int _)⟩
/-- == and != of ints, bools, texts, None -/
def scalD : RD → Option V
  | .int i => some (.int i)
  | .bl b => some (.bl b)
  | .str x => some (.str x)
  | .non => some .non
  | _ => none
theorem scalD_inv {G : Hp} {v w : V} {d : RD} (h : scalD d = some w) (r : Rp K G v d) : v = w := by
  cases r <;> simp [scalD] at h <;> exact h
theorem ro_eq {x y : V} (h1 : scalD d1 = some x) (h2 : scalD d2 = some y) (h : scal x y = true) : RO K rEq d1 d2 (.bl (decide (x = y))) := fun G H v w e hv hw Q q => by
  obtain rfl := scalD_inv h1 hv
  obtain rfl := scalD_inv h2 hw
  exact ⟨h, q _ G H (.refl e) (.bl _)⟩
theorem ro_ne {x y : V} (h1 : scalD d1 = some x) (h2 : scalD d2 = some y) (h : scal x y = true) : RO K rNe d1 d2 (.bl (!decide (x = y))) := fun G H v w e hv hw Q q => by
  obtain rfl := scalD_inv h1 hv
  obtain rfl := scalD_inv h2 hw
  exact ⟨h, q _ G H (.refl e) (.bl _)⟩
theorem ro_ltS {x y : Str} : RO K (fun a b H Q => ∃ i j : Str, a = .str i ∧ b = .str j ∧ Q (.bl (decide (i.cps.toList < j.cps.toList))) H) (.str x) (.str y) (.bl (decide (x.cps.toList < y.cps.toList))) := fun G H v w e hv hw Q q => by
  cases hv; cases hw
  exact ⟨x, y, rfl, rfl, q _ G H (.refl e) (.bl _)⟩
theorem atI_get {α : Type} {xs : List α} {i : Int} {x : α} (h : atI xs i = some x) : ∃ j, ixN xs.length i = some j ∧ xs[j]? = some x := by
  unfold atI at h
  cases e : ixN xs.length i with
  | none => rw [e] at h; cases h
  | some j => rw [e] at h; exact ⟨j, rfl, h⟩
theorem atI_vs {G : Hp} {vs : List V} {ds : List RD} {i : Int} {d : RD} (r : RpAll K G vs ds) (h : atI ds i = some d) : ∃ v, atI vs i = some v ∧ Rp K G v d := by
  obtain ⟨j, h1, h2⟩ := atI_get h
  obtain ⟨v, h3, h4⟩ := r.get h2
  refine ⟨v, ?_, h4⟩
  unfold atI
  rw [r.length, h1]
  exact h3
theorem ro_ixT {ds : List RD} {i : Int} (h : atI ds i = some d) : RO K (rIxT K) (.tup ds) (.int i) d := fun G H x y e hx hy Q q => by
  obtain ⟨a, xs, rfl, hs, ha⟩ := hx.tup_inv
  cases hy
  obtain ⟨v, h1, h2⟩ := atI_vs ha h
  exact ⟨a, xs, i, v, rfl, rfl, Evl.ex_t e hs, h1, q v G H (.refl e) h2⟩
theorem ro_ixL {ds : List RD} {i : Int} (h : atI ds i = some d) : RO K (rIxL K) (.lst ds) (.int i) d := fun G H x y e hx hy Q q => by
  obtain ⟨a, xs, rfl, hs, ha⟩ := hx.lst_inv
  cases hy
  obtain ⟨v, h1, h2⟩ := atI_vs ha h
  exact ⟨a, xs, i, v, rfl, rfl, Evl.ex_l e (Evl.sq_of hs), h1, q v G H (.refl e) h2⟩
theorem ro_ixsT {ds : List RD} {i : Int} (h : atI ds i = some d) : RO K (rIx K) (.tup ds) (.int i) d := fun G H x y e hx hy Q q => .inr (.inl (ro_ixT h G H x y e hx hy Q q))
theorem ro_ixsL {ds : List RD} {i : Int} (h : atI ds i = some d) : RO K (rIx K) (.lst ds) (.int i) d := fun G H x y e hx hy Q q => .inl (ro_ixL h G H x y e hx hy Q q)

/-! ### calls of defs -/
inductive Res where
  | ok (d : RD) | exc (c : Value)
/-- a promise over data: R, what the arguments' data give -/
def spF (K : PySem.W.Frag) (n : Nat) (R : List RD → Res → Prop) : Sp := fun vs H Q E => ∃ G ds r, vs.length = n ∧ Evl.Ex G H ∧ RpAll K G vs ds ∧ R ds r ∧
  match r with
  | .ok d => ∀ v G' H', Sx G H G' H' → Rp K G' v d → Q v H'
  | .exc c => ∀ H', Evl.Ex H H' → E c none H'
theorem ae_call {n : Nat} {R : List RD → Res → Prop} {dvs : List V} {E : XK} {ta : TA} {ds es : List RD} (h : AA K ta S ds) (hd : ∀ G, RpAll K G dvs es) (hn : (ds ++ es).length = n) (hR : R (ds ++ es) (.ok d)) : AE K (tCall (spF K n R) dvs E ta) S d := fun G0 H0 G H σ A Q q =>
  h G0 H0 G H σ A _ fun vs G1 H1 s1 r1 =>
    have ra := r1.append (hd G1)
    ⟨G1, ds ++ es, .ok d, by rw [ra.length]; exact hn, s1.s, ra, hR, fun v G2 H2 s2 r2 => q v G2 H2 (s1.trans s2) r2⟩
theorem ae_call0 {n : Nat} {R : List RD → Res → Prop} {E : XK} {ta : TA} {ds : List RD} (h : AA K ta S ds) (hn : ds.length = n) (hR : R ds (.ok d)) : AE K (tCall (spF K n R) [] E ta) S d :=
  ae_call (es := []) h (fun _ => .nil) (by rw [List.append_nil]; exact hn) (by rw [List.append_nil]; exact hR)
theorem ae_callS {n : Nat} {R : List RD → Res → Prop} {E : L2.St → XK} {ta : TA} {ds : List RD} (h : AA K ta S ds) (hn : ds.length = n) (hR : R ds (.ok d)) : AE K (tCallS (spF K n R) E ta) S d := fun G0 H0 G H σ A Q q =>
  h G0 H0 G H σ A _ fun vs G1 H1 s1 r1 =>
    ⟨G1, ds, .ok d, by rw [r1.length]; exact hn, s1.s, r1, hR, fun v G2 H2 s2 r2 => q v G2 H2 (s1.trans s2) r2⟩
end
end RP

set_option Elab.async false
set_option linter.all false
set_option maxRecDepth 100000
set_option maxHeartbeats 2000000
namespace RP
open PySem PySem.Spec PyProof.Rows L2

/-! ### statements -/
inductive Out where
  | nx (S : Sg) | rt (d : RD) | bk (S : Sg) | ct (S : Sg) | ex (c : Value) (S : Sg)
def Fin (K : PySem.W.Frag) (W : WX) (D : Ends) (G0 H0 G : Hp) : Out → Prop
  | .nx S => ∀ G' H' σ', Evl.Ex G G' → Abs K G0 H0 G' H' σ' S → D.nx σ' H'
  | .rt d => ∀ v G' H', Evl.Ex G G' → Sx G0 H0 G' H' → Rp K G' v d → D.rt v H'
  | .bk S => ∀ G' H' σ', Evl.Ex G G' → Abs K G0 H0 G' H' σ' S → D.bk σ' H'
  | .ct S => ∀ G' H' σ', Evl.Ex G G' → Abs K G0 H0 G' H' σ' S → D.ct σ' H'
  | .ex c S => ∀ G' H' σ', Evl.Ex G G' → Abs K G0 H0 G' H' σ' S → W c none σ' H'
def AS (K : PySem.W.Frag) (W : WX) (ts : TS) (S : Sg) (o : Out) : Prop := ∀ G0 H0 G H σ, Abs K G0 H0 G H σ S → ∀ D, Fin K W D G0 H0 G o → ts D σ H
/-- an expression that raises -/
def AX (K : PySem.W.Frag) (W : WX) (te : TE) (S : Sg) (c : Value) : Prop := ∀ G0 H0 G H σ, Abs K G0 H0 G H σ S → (∀ G' H', Sx G H G' H' → W c none σ H') → ∀ Q, te σ H Q
/-- what is known is forgotten in part -/
inductive Fg : Sg → Sg → Prop
  | nil : Fg [] []
  | keep {x : SV} {S T : Sg} (h : Fg S T) : Fg (x :: S) (x :: T)
  | drop {x : SV} {S T : Sg} (h : Fg S T) : Fg (x :: S) (.un :: T)
theorem Fg.refl : ∀ S, Fg S S
  | [] => .nil
  | x :: S => .keep (Fg.refl S)
theorem Fg.len {S T : Sg} (f : Fg S T) : S.length = T.length := by
  induction f with
  | nil => rfl
  | keep _ ih => exact congrArg (· + 1) ih
  | drop _ ih => exact congrArg (· + 1) ih
theorem Fg.at {S T : Sg} (f : Fg S T) : ∀ {i : Nat} {x : SV}, T[i]? = some x → x ≠ .un → S[i]? = some x := by
  induction f with
  | nil => intro i x h; simp at h
  | keep _ ih =>
    intro i x h hx
    cases i with
    | zero => exact h
    | succ i => exact ih (i := i) h hx
  | drop _ ih =>
    intro i x h hx
    cases i with
    | zero => cases h; exact absurd rfl hx
    | succ i => exact ih (i := i) h hx
theorem Abs.fg {K : PySem.W.Frag} {G0 H0 G H : Hp} {σ : L2.St} {S T : Sg} (A : Abs K G0 H0 G H σ S) (f : Fg S T) : Abs K G0 H0 G H σ T :=
  ⟨A.sx, A.len.trans f.len, fun i d h => A.dat i d (f.at h fun z => nomatch z), fun i ds h => A.own i ds (f.at h fun z => nomatch z),
   fun i j ds es a h k => A.sep i j ds es a (f.at h fun z => nomatch z) (f.at k fun z => nomatch z)⟩
def Out.goes : Out → Sg → Prop
  | .nx S, T => Fg S T
  | .ct S, T => Fg S T
  | _, _ => False
/-- what a turn's end that leaves the loop makes of the loop -/
def Out.leaves : Out → Out → Prop
  | .rt d, o => o = .rt d
  | .ex c S, o => o = .ex c S
  | .bk S, o => o = .nx S
  | _, _ => False
/-- neither next nor break nor continue -/
def Out.hard : Out → Bool
  | .rt _ => true
  | .ex _ _ => true
  | _ => false
section
variable {K : PySem.W.Frag} {W : WX} {S S1 S2 : Sg} {te ta tb : TE} {tt : TT} {t u : TS} {d : RD} {o : Out} {c : Value}
theorem Fin.mono {D : Ends} {G0 H0 G G' : Hp} (e : Evl.Ex G G') (f : Fin K W D G0 H0 G o) : Fin K W D G0 H0 G' o := by
  cases o with
  | nx S => exact fun G2 H2 σ2 e2 => f G2 H2 σ2 (e.trans e2)
  | rt d => exact fun v G2 H2 e2 => f v G2 H2 (e.trans e2)
  | bk S => exact fun G2 H2 σ2 e2 => f G2 H2 σ2 (e.trans e2)
  | ct S => exact fun G2 H2 σ2 e2 => f G2 H2 σ2 (e.trans e2)
  | ex c S => exact fun G2 H2 σ2 e2 => f G2 H2 σ2 (e.trans e2)
theorem as_next : AS K W tNext S (.nx S) := fun G0 H0 G H σ A D f => f G H σ (Evl.Ex.refl G) A
theorem as_seq (h1 : AS K W t S (.nx S1)) (h2 : AS K W u S1 o) : AS K W (tSeq t u) S o := fun G0 H0 G H σ A D f =>
  h1 G0 H0 G H σ A { D with nx := u D } fun G1 H1 σ1 e1 A1 => h2 G0 H0 G1 H1 σ1 A1 D (f.mono e1)
theorem as_stop (h1 : AS K W t S o) (ho : ∀ T, o ≠ .nx T) : AS K W (tSeq t u) S o := fun G0 H0 G H σ A D f =>
  h1 G0 H0 G H σ A { D with nx := u D } (by
    cases o with
    | nx T => exact absurd rfl (ho T)
    | rt d => exact f
    | bk T => exact f
    | ct T => exact f
    | ex c T => exact f)
theorem as_asg {i : Nat} (h : AE K te S d) : AS K W (tAsg te (gName i)) S (.nx (S.set i (.dat d))) := fun G0 H0 G H σ A D f =>
  h G0 H0 G H σ A _ fun v G1 H1 s1 r1 => f G1 H1 _ s1.g ((A.ext s1).setD r1)
theorem as_ret (h : AE K te S d) : AS K W (tRet te) S (.rt d) := fun G0 H0 G H σ A D f =>
  h G0 H0 G H σ A _ fun v G1 H1 s1 r1 => f v G1 H1 s1.g (A.sx.trans s1) r1
theorem as_retN : AS K W tRetN S (.rt .non) := fun G0 H0 G H σ A D f => f .non G H (Evl.Ex.refl G) A.sx .non
theorem as_drop (h : AE K te S d) : AS K W (tDrop te) S (.nx S) := fun G0 H0 G H σ A D f =>
  h G0 H0 G H σ A _ fun v G1 H1 s1 r1 => f G1 H1 _ s1.g (A.ext s1)
theorem as_if {b : Bool} (h : AT K tt S b) (h1 : b = true → AS K W t S o) (h2 : b = false → AS K W u S o) : AS K W (tIfS tt t u) S o := fun G0 H0 G H σ A D f =>
  h G0 H0 G H σ A _ fun G1 H1 s1 => by
    cases b with
    | true => exact h1 rfl G0 H0 G1 H1 σ (A.ext s1) D (f.mono s1.g)
    | false => exact h2 rfl G0 H0 G1 H1 σ (A.ext s1) D (f.mono s1.g)
theorem as_brk : AS K W tBreak S (.bk S) := fun G0 H0 G H σ A D f => f G H σ (Evl.Ex.refl G) A
theorem as_cont : AS K W tCont S (.ct S) := fun G0 H0 G H σ A D f => f G H σ (Evl.Ex.refl G) A
theorem as_raise {C : Addr} : AS K W (fun _ σ H => W (.ref C) none σ H) S (.ex (.ref C) S) := fun G0 H0 G H σ A D f => f G H σ (Evl.Ex.refl G) A
theorem as_par {i j : Nat} {ta : TA} {d1 d2 : RD} (h : AA K ta S [d1, d2]) : AS K W (tPar i j ta) S (.nx ((S.set i (.dat d1)).set j (.dat d2))) := fun G0 H0 G H σ A D f =>
  h G0 H0 G H σ A _ fun vs G1 H1 s1 r1 => by
    cases r1 with
    | cons a r => cases r with
      | cons b r => cases r with
        | nil => exact ⟨_, _, rfl, f G1 H1 _ s1.g (((A.ext s1).setD a).setD b)⟩
theorem as_aug {i : Nat} {g : Int → Int → Int} {a b : Int} (hx : S[i]? = some (.dat (.int a))) (h : AE K te S (.int b)) : AS K W (tAug i te (ipI g)) S (.nx (S.set i (.dat (.int (g a b))))) := fun G0 H0 G H σ A D f => by
  obtain ⟨v, h1, h2⟩ := A.dat i _ hx
  cases h2
  refine ⟨_, h1, h G0 H0 G H σ A _ fun v G1 H1 s1 r1 => ?_⟩
  cases r1
  exact ⟨a, b, rfl, rfl, f G1 H1 _ s1.g ((A.ext s1).setD (.int _))⟩
theorem as_is {o' : Out} (h : AS K W t S o) (e : o = o') : AS K W t S o' := e ▸ h
/-- calls that raise -/
theorem ax_callS {n : Nat} {R : List RD → Res → Prop} {ta : TA} {ds : List RD} (h : AA K ta S ds) (hn : ds.length = n) (hR : R ds (.exc c)) : AX K W (tCallS (spF K n R) (WE W) ta) S c := fun G0 H0 G H σ A f Q =>
  h G0 H0 G H σ A _ fun vs G1 H1 s1 r1 =>
    ⟨G1, ds, .exc c, by rw [r1.length]; exact hn, s1.s, r1, hR, fun H2 e2 => f G1 H2 (s1.trans ⟨e2, Evl.Ex.refl G1, s1.s.trans e2, fun _ h => .inl h⟩)⟩
theorem as_asgX {g : TG} (h : AX K W te S c) : AS K W (tAsg te g) S (.ex c S) := fun G0 H0 G H σ A D f =>
  h G0 H0 G H σ A (fun G1 H1 s1 => f G1 H1 σ s1.g (A.ext s1)) _
theorem as_dropX (h : AX K W te S c) : AS K W (tDrop te) S (.ex c S) := fun G0 H0 G H σ A D f =>
  h G0 H0 G H σ A (fun G1 H1 s1 => f G1 H1 σ s1.g (A.ext s1)) _
theorem as_retX (h : AX K W te S c) : AS K W (tRet te) S (.ex c S) := fun G0 H0 G H σ A D f =>
  h G0 H0 G H σ A (fun G1 H1 s1 => f G1 H1 σ s1.g (A.ext s1)) _
end

section
variable {K : PySem.W.Frag} {W : WX} {S : Sg} {tt : TT} {t u v : TS} {o : Out}
theorem as_fg {T : Sg} (f : Fg S T) (h : AS K W t T o) : AS K W t S o := fun G0 H0 G H σ A D q => h G0 H0 G H σ (A.fg f) D q
/-- if .., without else, and what follows -/
theorem as_when {b : Bool} (h : AT K tt S b) (h1 : b = true → AS K W (tSeq t u) S o) (h2 : b = false → AS K W u S o) : AS K W (tSeq (tIfS tt t tNext) u) S o := fun G0 H0 G H σ A D f =>
  h G0 H0 G H σ A _ fun G1 H1 s1 => by
    cases b with
    | true => exact h1 rfl G0 H0 G1 H1 σ (A.ext s1) D (f.mono s1.g)
    | false => exact h2 rfl G0 H0 G1 H1 σ (A.ext s1) D (f.mono s1.g)
/-- both ways meet in what Z says of the slots -/
theorem as_whenQ {b : Bool} (Z : Sg → Prop) (h : AT K tt S b) (h1 : b = true → ∃ S1 S2, AS K W t S (.nx S1) ∧ Fg S1 S2 ∧ Z S2) (h2 : b = false → ∃ S2, Fg S S2 ∧ Z S2) (k : ∀ S1, Z S1 → AS K W u S1 o) : AS K W (tSeq (tIfS tt t tNext) u) S o :=
  as_when h (fun hb => by
    obtain ⟨S1, S2, a, f, z⟩ := h1 hb
    exact as_seq a (as_fg f (k S2 z))) (fun hb => by
    obtain ⟨S2, f, z⟩ := h2 hb
    exact as_fg f (k S2 z))
theorem as_when2 {b : Bool} (h : AT K tt S b) (h1 : b = true → AS K W (tSeq t u) S o) (h2 : b = false → AS K W (tSeq v u) S o) : AS K W (tSeq (tIfS tt t v) u) S o := fun G0 H0 G H σ A D f =>
  h G0 H0 G H σ A _ fun G1 H1 s1 => by
    cases b with
    | true => exact h1 rfl G0 H0 G1 H1 σ (A.ext s1) D (f.mono s1.g)
    | false => exact h2 rfl G0 H0 G1 H1 σ (A.ext s1) D (f.mono s1.g)
theorem set_self {i : Nat} {x : SV} (h : S[i]? = some x) : S.set i x = S := by
  apply List.ext_getElem?
  intro j
  by_cases hij : i = j
  · subst hij
    rw [List.getElem?_set_self (List.getElem?_eq_some_iff.mp h).1, h]
  · rw [List.getElem?_set_ne hij]
/-- if ..: x = e, by what x holds behind it -/
theorem as_ifset {b : Bool} {te : TE} {d : RD} {i : Nat} (h : AT K tt S b) (h1 : b = true → AE K te S d) (h2 : b = false → S[i]? = some (.dat d)) (k : AS K W u (S.set i (.dat d)) o) : AS K W (tSeq (tIfS tt (tAsg te (gName i)) tNext) u) S o :=
  as_when h (fun hb => as_seq (as_asg (h1 hb)) k) (fun hb => by rw [set_self (h2 hb)] at k; exact k)
theorem as_rets {te : TE} {d : RD} (h : AE K te S d) : AS K W (tSeq (tRet te) u) S (.rt d) := as_stop (as_ret h) fun _ z => nomatch z
end
/-! ### targets -/
/-- l: the slots that the target may write -/
def AG (K : PySem.W.Frag) (g : TG) (l : List Nat) (d : RD) (S S' : Sg) : Prop := ∀ G0 H0 G H σ v, Abs K G0 H0 G H σ S → Rp K G v d → ∀ Q : L2.St → Hp → Prop,
  (∀ σ', Abs K G0 H0 G H σ' S' → σ'.length = σ.length → (∀ k, k ∉ l → σ'[k]? = σ[k]?) → Q σ' H) → g v σ H Q
def AGs (K : PySem.W.Frag) (g : TGs) (l : List Nat) (ds : List RD) (S S' : Sg) : Prop := ∀ G0 H0 G H σ vs, Abs K G0 H0 G H σ S → RpAll K G vs ds → ∀ Q : L2.St → Hp → Prop,
  (∀ σ', Abs K G0 H0 G H σ' S' → σ'.length = σ.length → (∀ k, k ∉ l → σ'[k]? = σ[k]?) → Q σ' H) → g vs σ H Q
section
variable {K : PySem.W.Frag} {W : WX} {S S1 S2 S' : Sg} {te ta tb : TE} {tt : TT} {t u : TS} {d : RD} {ds : List RD} {o : Out} {g : TG} {gs : TGs} {l l' : List Nat}
theorem ag_name {i : Nat} : AG K (gName i) [i] d S (S.set i (.dat d)) := fun G0 H0 G H σ v A r Q q =>
  q _ (A.setD r) (List.length_set ..) fun k hk => List.getElem?_set_ne (fun e => hk (by rw [e]; exact List.mem_cons_self))
theorem ags_nil : AGs K gNil [] [] S S := fun G0 H0 G H σ vs A r Q q => by
  cases r
  exact ⟨rfl, q σ A rfl fun _ _ => rfl⟩
theorem ags_cons (h : AG K g l d S S1) (hr : AGs K gs l' ds S1 S2) : AGs K (gCons g gs) (l ++ l') (d :: ds) S S2 := fun G0 H0 G H σ vs A r Q q => by
  cases r with
  | cons a b =>
    refine ⟨_, _, rfl, h G0 H0 G H σ _ A a _ fun σ1 A1 l1 k1 => hr G0 H0 G H σ1 _ A1 b Q fun σ2 A2 l2 k2 => q σ2 A2 (l2.trans l1) fun k hk => ?_⟩
    rw [List.mem_append] at hk
    rw [k2 k fun z => hk (.inr z), k1 k fun z => hk (.inl z)]
theorem ag_tup {n : Nat} (h : AGs K gs l ds S S1) (hn : ds.length = n) : AG K (gTup K n gs) l (.tup ds) S S1 := fun G0 H0 G H σ v A r Q q => by
  obtain ⟨a, xs, rfl, hs, ha⟩ := r.tup_inv
  exact ⟨a, xs, rfl, Evl.ex_t A.gh hs, by rw [ha.length, hn], h G0 H0 G H σ xs A ha Q q⟩
end
theorem wipe_congr {σ τ : L2.St} : ∀ (vs : List Nat), σ.length = τ.length → (∀ k, k ∉ vs → σ[k]? = τ[k]?) → wipe σ vs = wipe τ vs := by
  intro vs hl hk
  apply List.ext_getElem?
  intro i
  by_cases hi : i ∈ vs
  · have f : ∀ (ρ : L2.St), i < ρ.length → (wipe ρ vs)[i]? = some none := fun ρ h => by
      have hl : i < (wipe ρ vs).length := by rw [wipe_length]; exact h
      have e := List.getElem?_eq_getElem hl
      cases z : (wipe ρ vs)[i] with
      | none => rw [e, z]
      | some x => rw [z] at e; exact absurd hi (wipe_some e).2
    by_cases h : i < σ.length
    · rw [f σ h, f τ (hl ▸ h)]
    · rw [List.getElem?_eq_none (by rw [wipe_length]; omega), List.getElem?_eq_none (by rw [wipe_length]; omega)]
  · rw [wipe_out hi, wipe_out hi]
    exact hk i hi
def wipeS (S : Sg) : List Nat → Sg
  | [] => S
  | v :: vs => (wipeS S vs).set v .un
theorem Abs.setU {K : PySem.W.Frag} {G0 H0 G H : Hp} {σ : L2.St} {S : Sg} {i : Nat} {z : Option V} (A : Abs K G0 H0 G H σ S) : Abs K G0 H0 G H (σ.set i z) (S.set i .un) := by
  have key : ∀ {j : Nat} {x : SV}, (S.set i .un)[j]? = some x → x ≠ .un → i ≠ j ∧ S[j]? = some x := fun {j x} h hx => by
    by_cases hij : i = j
    · subst hij
      have hl : i < S.length := by
        have := (List.getElem?_eq_some_iff.mp h).1
        rw [List.length_set] at this; exact this
      rw [List.getElem?_set_self hl] at h
      cases h; exact absurd rfl hx
    · exact ⟨hij, by rw [List.getElem?_set_ne hij] at h; exact h⟩
  refine ⟨A.sx, by rw [List.length_set, List.length_set]; exact A.len, fun j e hj => ?_, fun j ds hj => ?_, fun j k ds es a hj hk ej ek => ?_⟩
  · obtain ⟨n, hj⟩ := key hj (fun z => nomatch z)
    obtain ⟨v, h1, h2⟩ := A.dat j e hj
    exact ⟨v, by rw [List.getElem?_set_ne n]; exact h1, h2⟩
  · obtain ⟨n, hj⟩ := key hj (fun z => nomatch z)
    obtain ⟨a, vs, h1, h2⟩ := A.own j ds hj
    exact ⟨a, vs, by rw [List.getElem?_set_ne n]; exact h1, h2⟩
  · obtain ⟨n1, hj⟩ := key hj (fun z => nomatch z)
    obtain ⟨n2, hk⟩ := key hk (fun z => nomatch z)
    rw [List.getElem?_set_ne n1] at ej
    rw [List.getElem?_set_ne n2] at ek
    exact A.sep j k ds es a hj hk ej ek
theorem Abs.wipe {K : PySem.W.Frag} {G0 H0 G H : Hp} {σ : L2.St} {S : Sg} (A : Abs K G0 H0 G H σ S) : ∀ vs, Abs K G0 H0 G H (L2.wipe σ vs) (wipeS S vs)
  | [] => A
  | v :: vs => (A.wipe vs).setU

/-! ### what is walked -/
def Walks (K : PySem.W.Frag) (J : It) (G1 : Hp) (ds : List RD) : Prop := ∀ G H, Evl.Ex G1 G → Evl.Ex G H →
  (∀ i, i < ds.length → J.go i H ∧ ∀ x H', J.yld i H x H' → ∃ G' d, ds[i]? = some d ∧ Sx G H G' H' ∧ Rp K G' x d) ∧ J.stop ds.length H
def AI (K : PySem.W.Frag) (wi : TI) (S : Sg) (ds : List RD) : Prop := ∀ G0 H0 G H σ, Abs K G0 H0 G H σ S → ∀ R : It → Hp → Prop,
  (∀ J G1 H1, Sx G H G1 H1 → Walks K J G1 ds → R J H1) → wi σ H R
section
variable {K : PySem.W.Frag} {W : WX} {S S1 S2 S' : Sg} {te ta tb : TE} {tt : TT} {t u : TS} {d : RD} {ds : List RD} {o : Out} {g : TG}
theorem ai_list {tl : TE} (h : AE K tl S (.lst ds)) : AI K (iList K tl) S ds := fun G0 H0 G H σ A R q =>
  h G0 H0 G H σ A _ fun v G1 H1 s1 r1 => by
    obtain ⟨a, xs, rfl, hs', ha⟩ := r1.lst_inv
    have hs := Evl.sq_of (K := K) hs'
    refine ⟨a, rfl, ⟨xs, Evl.ex_l s1.s hs⟩, q _ G1 H1 s1 fun G2 H2 e1 e2 => ⟨fun i hi => ⟨?_, fun x H' hy => ?_⟩, xs, Evl.ex_l (e1.trans e2) hs, by rw [ha.length]; exact Nat.le_refl _⟩⟩
    · obtain ⟨v, h1, _⟩ := ha.get (List.getElem?_eq_getElem hi)
      exact ⟨xs, v, Evl.ex_l (e1.trans e2) hs, h1⟩
    · obtain ⟨rfl, hx⟩ := hy
      obtain ⟨d, h1, h2⟩ := ha.getV (hx xs (Evl.ex_l (e1.trans e2) hs))
      exact ⟨G2, d, h1, .refl e2, h2.mono e1⟩
theorem ai_tup {tl : TE} (h : AE K tl S (.tup ds)) : AI K (iTup K tl) S ds := fun G0 H0 G H σ A R q =>
  h G0 H0 G H σ A _ fun v G1 H1 s1 r1 => by
    obtain ⟨a, xs, rfl, hs, ha⟩ := r1.tup_inv
    refine ⟨a, rfl, ⟨xs, Evl.ex_t s1.s hs⟩, q _ G1 H1 s1 fun G2 H2 e1 e2 => ⟨fun i hi => ⟨?_, fun x H' hy => ?_⟩, xs, Evl.ex_t (e1.trans e2) hs, by rw [ha.length]; exact Nat.le_refl _⟩⟩
    · obtain ⟨v, h1, _⟩ := ha.get (List.getElem?_eq_getElem hi)
      exact ⟨xs, v, Evl.ex_t (e1.trans e2) hs, h1⟩
    · obtain ⟨rfl, hx⟩ := hy
      obtain ⟨d, h1, h2⟩ := ha.getV (hx xs (Evl.ex_t (e1.trans e2) hs))
      exact ⟨G2, d, h1, .refl e2, h2.mono e1⟩
theorem walks_range {lo : Int} {n : Nat} {G : Hp} : Walks K (Itr lo n) G ((List.range n).map fun (i : Nat) => RD.int (lo + i)) := fun G2 H2 e1 e2 => by
  refine ⟨fun i hi => ?_, by rw [List.length_map, List.length_range]; exact Nat.le_refl _⟩
  rw [List.length_map, List.length_range] at hi
  refine ⟨hi, fun x H' hy => ?_⟩
  obtain ⟨rfl, rfl⟩ := hy
  exact ⟨G2, .int (lo + i), by rw [List.getElem?_map, List.getElem?_range hi]; rfl, .refl e2, .int _⟩
theorem ai_range1 {ta : TA} {j : Int} (h : AA K ta S [.int j]) (hj : -1000000000 ≤ j ∧ j ≤ 1000000000) : AI K (iRng1 ta) S ((List.range j.toNat).map fun (i : Nat) => RD.int (0 + i)) := fun G0 H0 G H σ A R q =>
  h G0 H0 G H σ A _ fun vs G1 H1 s1 r1 => by
    cases r1 with
    | cons a r => cases r; cases a; exact ⟨j, rfl, by omega, by omega, q _ G1 H1 s1 walks_range⟩
theorem ai_range2 {ta : TA} {i j : Int} (h : AA K ta S [.int i, .int j]) (hi : -1000000000 ≤ i ∧ i ≤ 1000000000) (hj : -1000000000 ≤ j ∧ j ≤ 1000000000) : AI K (iRng2 ta) S ((List.range (j - i).toNat).map fun (k : Nat) => RD.int (i + k)) := fun G0 H0 G H σ A R q =>
  h G0 H0 G H σ A _ fun vs G1 H1 s1 r1 => by
    cases r1 with
    | cons a r => cases r with
      | cons b r => cases r; cases a; cases b; exact ⟨i, j, rfl, ⟨by omega, by omega, by omega, by omega⟩, q _ G1 H1 s1 walks_range⟩
theorem ai_zip {ta : TA} {as bs : List RD} (h : AA K ta S [.lst as, .lst bs]) : AI K (iZip K ta) S ((as.zip bs).map fun p => RD.tup [p.1, p.2]) := fun G0 H0 G H σ A R q =>
  h G0 H0 G H σ A _ fun vs G1 H1 s1 r1 => by
    cases r1 with
    | cons a r => cases r with
      | cons b r =>
        cases r
        obtain ⟨x, xs, rfl, hx', ax⟩ := a.lst_inv
        obtain ⟨y, ys, rfl, hy', ay⟩ := b.lst_inv
        have hx := Evl.sq_of (K := K) hx'
        have hy := Evl.sq_of (K := K) hy'
        refine ⟨x, y, xs, ys, rfl, Evl.ex_l s1.s hx, Evl.ex_l s1.s hy, q _ G1 H1 s1 fun G2 H2 e1 e2 => ?_⟩
        have hx2 := Evl.ex_l (e1.trans e2) hx
        have hy2 := Evl.ex_l (e1.trans e2) hy
        refine ⟨fun i hi => ?_, xs, ys, hx2, hy2, ?_⟩
        · rw [List.length_map, List.length_zip] at hi
          obtain ⟨u, h1, h2⟩ := ax.get (List.getElem?_eq_getElem (show i < as.length by omega))
          obtain ⟨v, h3, h4⟩ := ay.get (List.getElem?_eq_getElem (show i < bs.length by omega))
          refine ⟨⟨xs, ys, u, v, hx2, hy2, h1, h3⟩, fun p H' hp => ?_⟩
          obtain ⟨T, p1, p2, rfl, nT, rfl, f1, f2⟩ := hp
          have e3 : p1 = u := Option.some.inj ((f1 xs hx2).symm.trans h1)
          have e4 : p2 = v := Option.some.inj ((f2 ys hy2).symm.trans h3)
          subst e3 e4
          have sn := Sx.new (o := .tup [p1, p2]) e2 nT
          refine ⟨_, _, ?_, sn, .tup (Evl.st_of upd_same) (.cons (h2.mono (e1.trans sn.g)) (.cons (h4.mono (e1.trans sn.g)) .nil))⟩
          have ea := List.getElem?_eq_getElem (show i < as.length by omega)
          have eb := List.getElem?_eq_getElem (show i < bs.length by omega)
          rw [List.getElem?_map, List.getElem?_zip_eq_some (z := (as[i], bs[i])) |>.mpr ⟨ea, eb⟩] <;> rfl
        · rw [List.length_map, List.length_zip, ax.length, ay.length]
          omega
theorem ai_enum {ta : TA} {as : List RD} (h : AA K ta S [.lst as]) : AI K (iEnum K ta) S ((List.range as.length).map fun (i : Nat) => RD.tup [.int i, as.getD i .non]) := fun G0 H0 G H σ A R q =>
  h G0 H0 G H σ A _ fun vs G1 H1 s1 r1 => by
    cases r1 with
    | cons a r =>
      cases r
      obtain ⟨x, xs, rfl, hx', ax⟩ := a.lst_inv
      have hx := Evl.sq_of (K := K) hx'
      refine ⟨x, xs, rfl, Evl.ex_l s1.s hx, q _ G1 H1 s1 fun G2 H2 e1 e2 => ?_⟩
      have hx2 := Evl.ex_l (e1.trans e2) hx
      refine ⟨fun i hi => ?_, xs, hx2, by rw [List.length_map, List.length_range, ax.length]; exact Nat.le_refl _⟩
      rw [List.length_map, List.length_range] at hi
      obtain ⟨u, h1, h2⟩ := ax.get (List.getElem?_eq_getElem hi)
      refine ⟨⟨xs, u, hx2, h1⟩, fun p H' hp => ?_⟩
      obtain ⟨T, p1, rfl, nT, rfl, f1⟩ := hp
      have e3 : p1 = u := Option.some.inj ((f1 xs hx2).symm.trans h1)
      subst e3
      have sn := Sx.new (o := .tup [.int (i : Nat), p1]) e2 nT
      refine ⟨_, _, ?_, sn, .tup (Evl.st_of upd_same) (.cons (.int _) (.cons (h2.mono (e1.trans sn.g)) .nil))⟩
      rw [List.getElem?_map, List.getElem?_range hi, Option.map_some, List.getD_eq_getElem?_getD, List.getElem?_eq_getElem hi] <;> rfl
theorem ai_is {wi : TI} {es : List RD} (h : AI K wi S ds) (e : ds = es) : AI K wi S es := e ▸ h

/-! ### for -/
/-- m turns to their end; then the walk's end, or a turn that leaves -/
theorem as_for {wi : TI} {l : List Nat} (h : AI K wi S ds) (m : Nat) (T : Nat → Sg) (h0 : T 0 = S)
    (hs : ∀ i x, i < m → ds[i]? = some x → ∃ U o', AG K g l x (T i) U ∧ AS K W t U o' ∧ o'.goes (T (i + 1)))
    (he : (m = ds.length ∧ o = .nx (T m)) ∨ (∃ x U o', ds[m]? = some x ∧ AG K g l x (T m) U ∧ AS K W t U o' ∧ o'.leaves o)) : AS K W (tFor wi g t) S o := fun G0 H0 G H σ A D f =>
  h G0 H0 G H σ A _ fun J G1 H1 s1 hw => by
    have hm : m ≤ ds.length := by
      rcases he with ⟨e, _⟩ | ⟨x, _, _, hx, _⟩
      · omega
      · exact Nat.le_of_lt (List.getElem?_eq_some_iff.mp hx).1
    refine ⟨fun i k σ' H' => k = m - i ∧ i ≤ m ∧ ∃ G', Evl.Ex G1 G' ∧ Abs K G0 H0 G' H' σ' (T i), ⟨m, by omega, Nat.zero_le _, G1, Evl.Ex.refl _, by rw [h0]; exact A.ext s1⟩, ?_⟩
    rintro i k σ' H' ⟨rfl, hi, G', e', A'⟩
    obtain ⟨hgo, hstop⟩ := hw G' H' e' A'.gh
    by_cases hlt : i < m
    · obtain ⟨hg, hy⟩ := hgo i (by omega)
      refine .inr ⟨hg, fun σ2 H2 => ∃ G2, Evl.Ex G1 G2 ∧ Abs K G0 H0 G2 H2 σ2 (T (i + 1)), fun σ2 H2 ⟨G2, e2, A2⟩ => ⟨m - (i + 1), by omega, rfl, by omega, G2, e2, A2⟩, fun x H2 hx => ?_⟩
      obtain ⟨G2, d, hd, s2, r2⟩ := hy x H2 hx
      obtain ⟨U, o', ag, as, og⟩ := hs i d hlt hd
      refine ag G0 H0 G2 H2 σ' x (A'.ext s2) r2 _ fun σ3 A3 _ _ => as G0 H0 G2 H2 σ3 A3 _ ?_
      cases o' with
      | nx S' => exact fun G3 H3 σ4 e3 A4 => ⟨G3, (e'.trans s2.g).trans e3, A4.fg og⟩
      | ct S' => exact fun G3 H3 σ4 e3 A4 => ⟨G3, (e'.trans s2.g).trans e3, A4.fg og⟩
      | rt d => cases og
      | bk S' => cases og
      | ex c S' => cases og
    · have him : i = m := by omega
      subst him
      rcases he with ⟨e, rfl⟩ | ⟨x, U, o', hx, ag, as, ol⟩
      · subst e
        exact .inl ⟨hstop, f G' H' σ' (s1.g.trans e') A'⟩
      · have hil : i < ds.length := (List.getElem?_eq_some_iff.mp hx).1
        obtain ⟨hg, hy⟩ := hgo i hil
        refine .inr ⟨hg, fun _ _ => False, fun _ _ z => z.elim, fun y H2 hyl => ?_⟩
        obtain ⟨G2, d, hd, s2, r2⟩ := hy y H2 hyl
        rw [hx] at hd
        cases hd
        have e12 := (s1.g.trans e').trans s2.g
        refine ag G0 H0 G2 H2 σ' y (A'.ext s2) r2 _ fun σ3 A3 _ _ => as G0 H0 G2 H2 σ3 A3 _ ?_
        cases o' with
        | nx S' => cases ol
        | ct S' => cases ol
        | rt d => cases ol; exact fun v G3 H3 e3 => f v G3 H3 (e12.trans e3)
        | bk S' => cases ol; exact fun G3 H3 σ4 e3 => f G3 H3 σ4 (e12.trans e3)
        | ex c S' => cases ol; exact fun G3 H3 σ4 e3 => f G3 H3 σ4 (e12.trans e3)
/-- the whole walk -/
theorem as_forAll {wi : TI} {l : List Nat} (h : AI K wi S ds) (T : Nat → Sg) (h0 : T 0 = S)
    (hs : ∀ i x, ds[i]? = some x → ∃ U o', AG K g l x (T i) U ∧ AS K W t U o' ∧ o'.goes (T (i + 1))) : AS K W (tFor wi g t) S (.nx (T ds.length)) :=
  as_for h ds.length T h0 (fun i x _ hx => hs i x hx) (.inl ⟨rfl, rfl⟩)
/-- each turn leaves what is known as it is -/
theorem as_forK {wi : TI} {l : List Nat} (h : AI K wi S ds) (hs : ∀ x ∈ ds, ∃ U o', AG K g l x S U ∧ AS K W t U o' ∧ o'.goes S) : AS K W (tFor wi g t) S (.nx S) :=
  as_forAll h (fun _ => S) rfl fun i x hx => hs x (List.mem_of_getElem? hx)
/-! ### while -/
theorem as_while (m : Nat) (T : Nat → Sg) (h0 : T 0 = S) (hs : ∀ i, i < m → AT K tt (T i) true ∧ ∃ o', AS K W t (T i) o' ∧ o'.goes (T (i + 1)))
    (he : (AT K tt (T m) false ∧ o = .nx (T m)) ∨ (AT K tt (T m) true ∧ ∃ o', AS K W t (T m) o' ∧ o'.leaves o)) : AS K W (tWhile tt t) S o := fun G0 H0 G H σ A D f => by
  refine ⟨fun k σ' H' => ∃ i G', k = m - i ∧ i ≤ m ∧ Evl.Ex G G' ∧ Abs K G0 H0 G' H' σ' (T i), ⟨m, 0, G, by omega, Nat.zero_le _, Evl.Ex.refl _, by rw [h0]; exact A⟩, ?_⟩
  rintro k σ' H' ⟨i, G', rfl, hi, e', A'⟩
  by_cases hlt : i < m
  · obtain ⟨ht, o', as, og⟩ := hs i hlt
    refine ht G0 H0 G' H' σ' A' _ fun G2 H2 s2 => iteT ⟨fun σ2 H2 => ∃ G2, Evl.Ex G G2 ∧ Abs K G0 H0 G2 H2 σ2 (T (i + 1)), fun σ2 H2 ⟨G2, e2, A2⟩ => ⟨m - (i + 1), by omega, i + 1, G2, rfl, by omega, e2, A2⟩, as G0 H0 G2 H2 σ' (A'.ext s2) _ ?_⟩
    cases o' with
    | nx S' => exact fun G3 H3 σ4 e3 A4 => ⟨G3, (e'.trans s2.g).trans e3, A4.fg og⟩
    | ct S' => exact fun G3 H3 σ4 e3 A4 => ⟨G3, (e'.trans s2.g).trans e3, A4.fg og⟩
    | rt d => cases og
    | bk S' => cases og
    | ex c S' => cases og
  · have him : i = m := by omega
    subst him
    rcases he with ⟨ht, rfl⟩ | ⟨ht, o', as, ol⟩
    · exact ht G0 H0 G' H' σ' A' _ fun G2 H2 s2 => iteF (f G2 H2 σ' (e'.trans s2.g) (A'.ext s2))
    · refine ht G0 H0 G' H' σ' A' _ fun G2 H2 s2 => iteT ⟨fun _ _ => False, fun _ _ z => z.elim, as G0 H0 G2 H2 σ' (A'.ext s2) _ ?_⟩
      have e12 := e'.trans s2.g
      cases o' with
      | nx S' => cases ol
      | ct S' => cases ol
      | rt d => cases ol; exact fun v G3 H3 e3 => f v G3 H3 (e12.trans e3)
      | bk S' => cases ol; exact fun G3 H3 σ4 e3 => f G3 H3 σ4 (e12.trans e3)
      | ex c S' => cases ol; exact fun G3 H3 σ4 e3 => f G3 H3 σ4 (e12.trans e3)

/-- by a word that falls -/
theorem as_whileW {Se : Sg} (Wd : Nat → Sg → Prop) (m0 : Nat) (h0 : Wd m0 S)
    (hs : ∀ m T, Wd m T → ∃ b, AT K tt T b ∧ (b = true → ∃ o' T' m', AS K W t T o' ∧ o'.goes T' ∧ m' < m ∧ Wd m' T') ∧ (b = false → T = Se)) : AS K W (tWhile tt t) S (.nx Se) := fun G0 H0 G H σ A D f => by
  refine ⟨fun k σ' H' => ∃ T G', Wd k T ∧ Evl.Ex G G' ∧ Abs K G0 H0 G' H' σ' T, ⟨m0, S, G, h0, Evl.Ex.refl _, A⟩, ?_⟩
  rintro k σ' H' ⟨T, G', hw, e', A'⟩
  obtain ⟨b, hb, h1, h2⟩ := hs k T hw
  refine hb G0 H0 G' H' σ' A' _ fun G2 H2 s2 => ?_
  cases b with
  | true =>
    obtain ⟨o', T', m', as, og, lt, hw'⟩ := h1 rfl
    refine iteT ⟨fun σ2 H2 => ∃ G2, Evl.Ex G G2 ∧ Abs K G0 H0 G2 H2 σ2 T', fun σ2 H2 ⟨G2, e2, A2⟩ => ⟨m', lt, T', G2, hw', e2, A2⟩, as G0 H0 G2 H2 σ' (A'.ext s2) _ ?_⟩
    cases o' with
    | nx S' => exact fun G3 H3 σ4 e3 A4 => ⟨G3, (e'.trans s2.g).trans e3, A4.fg og⟩
    | ct S' => exact fun G3 H3 σ4 e3 A4 => ⟨G3, (e'.trans s2.g).trans e3, A4.fg og⟩
    | rt d => cases og
    | bk S' => cases og
    | ex c S' => cases og
  | false =>
    cases h2 rfl
    exact iteF (f G2 H2 σ' (e'.trans s2.g) (A'.ext s2))

/-! ### list comprehensions -/
/-- p: which turns give; f: what they give -/
theorem ae_lc {wi : TI} {te : TE} {vs l : List Nat} (h : AI K wi S ds) (p : Nat → Bool) (f : Nat → RD) (hl : ∀ k ∈ l, k ∈ vs) (hz : ds.length ≤ 100000)
    (hs : ∀ i x, ds[i]? = some x → ∃ U, AG K g l x (wipeS S vs) U ∧ AT K tt U (p i) ∧ (p i = true → AE K te U (f i))) :
    AE K (tLc wi g tt te vs) S (.lst (((List.range ds.length).filter p).map f)) := fun G0 H0 G H σ A Q q =>
  h G0 H0 G H σ A _ fun J G1 H1 s1 hw L hL => by
    have key : ∀ n, (((List.range n).filter p).map f).length ≤ n := fun n => by
      rw [List.length_map]
      have := List.length_filter_le p (List.range n)
      rw [List.length_range] at this
      exact this
    have A1 := (A.ext s1).wipe vs
    have gL : G1 L = none := Evl.fresh_back s1.s hL
    refine ⟨fun i k H' => k = ds.length - i ∧ i ≤ ds.length ∧ ∃ G' acc, Sx G1 H1 G' H' ∧ G' L = none ∧ H' L = some (.lst acc) ∧ RpAll K G' acc (((List.range i).filter p).map f), ⟨ds.length, by omega, Nat.zero_le _, G1, [], Sx.newH s1.s hL, gL, upd_same, .nil⟩, ?_⟩
    rintro i k H' ⟨rfl, hi, G', acc, s', gl, hl', ra⟩
    obtain ⟨hgo, hstop⟩ := hw G' H' s'.g s'.s
    by_cases hlt : i < ds.length
    · obtain ⟨hg, hy⟩ := hgo i hlt
      refine .inr ⟨hg, fun H2 => ∃ G2 acc, Sx G1 H1 G2 H2 ∧ G2 L = none ∧ H2 L = some (.lst acc) ∧ RpAll K G2 acc (((List.range (i + 1)).filter p).map f), fun H2 ⟨G2, acc, w⟩ => ⟨ds.length - (i + 1), by omega, rfl, by omega, G2, acc, w⟩, fun x H2 hx => ?_⟩
      obtain ⟨G2, d, hd, s2, r2⟩ := hy x H2 hx
      obtain ⟨U, ag, at', ae⟩ := hs i d hd
      have s12 := s'.trans s2
      refine ag G0 H0 G2 H2 (wipe σ vs) x (A1.ext s12) r2 _ fun σ3 A3 l3 k3 => ⟨?_, ?_⟩
      · rw [wipe_congr vs l3 fun k hk => k3 k fun z => hk (hl k z)]
        have e0 : wipe (wipe σ vs) vs = wipe σ vs := wipe_congr vs (wipe_length _ _) fun k hk => wipe_out hk
        exact e0
      · refine at' G0 H0 G2 H2 σ3 A3 _ fun G3 H3 s3 => ?_
        have s23 := s2.trans s3
        have n3 := s23.stay_none hl' gl
        cases hp : p i with
        | true =>
          refine iteT (ae hp G0 H0 G3 H3 σ3 (A3.ext s3) _ fun y G4 H4 s4 r4 => ?_)
          have s24 := s23.trans s4
          have n4 := s24.stay_none hl' gl
          refine ⟨acc, s24.h L _ hl', Evl.sz_lt (by rw [ra.length]; have := key i; omega), G4, acc ++ [y], ?_, n4, upd_same, ?_⟩
          · have sx := s'.trans s24
            refine ⟨Evl.Ex.mut sx.h hL, sx.g, fun a u ha => ?_, sx.n⟩
            have hne : a ≠ L := fun z => by subst z; rw [n4] at ha; cases ha
            rw [upd_ne hne]
            exact sx.s a u ha
          · rw [List.range_succ, List.filter_append, List.map_append, List.filter_cons, if_pos hp]
            exact (ra.mono s24.g).append (.cons r4 .nil)
        | false =>
          refine iteF ⟨G3, acc, s'.trans s23, n3, s23.h L _ hl', ?_⟩
          rw [List.range_succ, List.filter_append, List.map_append, List.filter_cons, if_neg (by rw [hp]; decide)]
          show RpAll K G3 acc (_ ++ [])
          rw [List.append_nil]
          exact ra.mono s23.g
    · have him : i = ds.length := by omega
      subst him
      refine .inl ⟨hstop, q (.ref L) (upd G' L (.lst acc)) H' ?_ (.lst upd_same (ra.mono (Evl.Ex.new gl)))⟩
      have sx := s1.trans s'
      refine ⟨sx.h, sx.g.trans (Evl.Ex.new gl), fun a u ha => ?_, fun a ha => ?_⟩
      · by_cases hne : a = L
        · subst hne; rw [upd_same] at ha; cases ha; exact hl'
        · rw [upd_ne hne] at ha; exact s'.s a u ha
      · by_cases hne : a = L
        · subst hne; exact .inr (Evl.fresh_back s1.h hL)
        · rw [upd_ne hne] at ha; exact sx.n a ha
/-- over items told by a list: which give (p), what they give (f) -/
theorem ae_lcF {wi : TI} {te : TE} {vs l : List Nat} {α : Type} {xs : List α} {enc : α → RD} (h : AI K wi S (xs.map enc)) (p : α → Bool) (f : α → RD) (hl : ∀ k ∈ l, k ∈ vs) (hz : xs.length ≤ 100000)
    (hs : ∀ x ∈ xs, ∃ U, AG K g l (enc x) (wipeS S vs) U ∧ AT K tt U (p x) ∧ (p x = true → AE K te U (f x))) :
    AE K (tLc wi g tt te vs) S (.lst ((xs.filter p).map f)) := by
  have q := ae_lc (tt := tt) h (fun i => (xs[i]?.map p).getD false) (fun i => (xs[i]?.map f).getD .non) hl (by rw [List.length_map]; exact hz) fun i x hx => by
    rw [List.getElem?_map] at hx
    cases e : xs[i]? with
    | none => rw [e] at hx; cases hx
    | some y =>
      rw [e] at hx
      cases hx
      exact hs y (List.mem_of_getElem? e)
  have key : ∀ (ys : List α), ((List.range ys.length).filter fun i => (ys[i]?.map p).getD false).map (fun i => (ys[i]?.map f).getD .non) = (ys.filter p).map f := by
    intro ys
    induction ys with
    | nil => rfl
    | cons y r ih =>
      rw [List.length_cons, List.range_succ_eq_map, List.filter_cons, List.filter_cons, List.filter_map]
      have e1 : (((y :: r)[0]?).map p).getD false = p y := rfl
      have e2 : ((fun i => (((y :: r)[i]?).map p).getD false) ∘ Nat.succ) = fun i => ((r[i]?).map p).getD false := by funext i; simp
      have e3 : ((fun i => (((y :: r)[i]?).map f).getD .non) ∘ Nat.succ) = fun i => ((r[i]?).map f).getD .non := by funext i; simp
      rw [e1, e2]
      cases p y with
      | true =>
        simp only [if_true, List.map_cons, List.map_map, e3]
        rw [ih]
        rfl
      | false =>
        simp only [Bool.false_eq_true, if_false, List.map_map, e3]
        exact ih
  rw [List.length_map, key xs] at q
  exact q
/-- without a test -/
theorem ae_lcM {wi : TI} {te : TE} {vs l : List Nat} {α : Type} {xs : List α} {enc : α → RD} (h : AI K wi S (xs.map enc)) (f : α → RD) (hl : ∀ k ∈ l, k ∈ vs) (hz : xs.length ≤ 100000)
    (hs : ∀ x ∈ xs, ∃ U, AG K g l (enc x) (wipeS S vs) U ∧ AE K te U (f x)) : AE K (tLc wi g tYes te vs) S (.lst (xs.map f)) := by
  have q := ae_lcF (tt := tYes) h (fun _ => true) f hl hz fun x hx => by
    obtain ⟨U, a, b⟩ := hs x hx
    exact ⟨U, a, at_yes, fun _ => b⟩
  rw [List.filter_eq_self.mpr fun _ _ => rfl] at q
  exact q
end

/-! ### lists of one's own -/
section
variable {K : PySem.W.Frag} {W : WX} {S : Sg} {te : TE} {d : RD} {ds : List RD}
theorem Abs.setO {G0 H0 G H : Hp} {σ : L2.St} {i : Nat} {p : Addr} {xs : List V} (A : Abs K G0 H0 G H σ S) (hp : H p = none) (r : RpAll K G xs ds) : Abs K G0 H0 G (upd H p (.lst xs)) (σ.set i (some (.ref p))) (S.set i (.own ds)) := by
  have gp : G p = none := Evl.fresh_back A.gh hp
  have A1 := A.ext (Sx.newH (o := .lst xs) A.gh hp)
  have key : ∀ {j : Nat} {x : SV}, (S.set i (.own ds))[j]? = some x → i ≠ j → S[j]? = some x := fun {j x} h hij => by rw [List.getElem?_set_ne hij] at h; exact h
  have self : ∀ {x : SV}, (S.set i (.own ds))[i]? = some x → i < S.length ∧ x = .own ds := fun {x} h => by
    have hl : i < S.length := by
      have := (List.getElem?_eq_some_iff.mp h).1
      rw [List.length_set] at this; exact this
    rw [List.getElem?_set_self hl] at h
    exact ⟨hl, (Option.some.inj h).symm⟩
  refine ⟨A1.sx, by rw [List.length_set, List.length_set]; exact A.len, fun j e hj => ?_, fun j es hj => ?_, fun j k es fs a hj hk ej ek => ?_⟩
  · by_cases hij : i = j
    · subst hij; obtain ⟨_, z⟩ := self hj; cases z
    · obtain ⟨v, h1, h2⟩ := A.dat j e (key hj hij)
      exact ⟨v, by rw [List.getElem?_set_ne hij]; exact h1, h2⟩
  · by_cases hij : i = j
    · subst hij
      obtain ⟨hl, z⟩ := self hj
      cases z
      exact ⟨p, xs, List.getElem?_set_self (by rw [A.len]; exact hl), upd_same, gp, Evl.fresh_back A.sx.h hp, r⟩
    · obtain ⟨a, vs, h1, h2, h3⟩ := A1.own j es (key hj hij)
      exact ⟨a, vs, by rw [List.getElem?_set_ne hij]; exact h1, h2, h3⟩
  · have fresh : ∀ {n : Nat} {gs : List RD}, S[n]? = some (.own gs) → σ[n]? ≠ some (some (.ref p)) := fun {n gs} h z => by
      obtain ⟨b, ws, h1, h2, _⟩ := A.own n gs h
      rw [z] at h1; cases h1
      rw [hp] at h2; cases h2
    by_cases hij : i = j
    · by_cases hik : i = k
      · exact hij.symm.trans hik
      · subst hij
        obtain ⟨hl, _⟩ := self hj
        rw [List.getElem?_set_self (by rw [A.len]; exact hl)] at ej
        cases ej
        rw [List.getElem?_set_ne hik] at ek
        exact absurd ek (fresh (key hk hik))
    · by_cases hik : i = k
      · subst hik
        obtain ⟨hl, _⟩ := self hk
        rw [List.getElem?_set_self (by rw [A.len]; exact hl)] at ek
        cases ek
        rw [List.getElem?_set_ne hij] at ej
        exact absurd ej (fresh (key hj hij))
      · rw [List.getElem?_set_ne hij] at ej
        rw [List.getElem?_set_ne hik] at ek
        exact A.sep j k es fs a (key hj hij) (key hk hik) ej ek
/-- x = [..]: a list of one's own -/
theorem as_own {i : Nat} {ta : TA} (h : AA K ta S ds) (hl : ds.length ≤ 100000) : AS K W (tAsg (tLst ta) (gName i)) S (.nx (S.set i (.own ds))) := fun G0 H0 G H σ A D f =>
  h G0 H0 G H σ A _ fun vs G1 H1 s1 r1 => ⟨Evl.sz_of (by rw [r1.length]; exact hl), fun p hp => f G1 _ _ s1.g ((A.ext s1).setO hp r1)⟩
/-- what an own slot's list becomes -/
theorem Abs.putO {G0 H0 G H : Hp} {σ : L2.St} {i : Nat} {a : Addr} {xs ys : List V} {es : List RD} (A : Abs K G0 H0 G H σ S) (hS : S[i]? = some (.own ds)) (hσ : σ[i]? = some (some (.ref a))) (r : RpAll K G ys es) : Abs K G0 H0 G (upd H a (.lst ys)) σ (S.set i (.own es)) := by
  obtain ⟨b, ws, h1, h2, h3, h4, h5⟩ := A.own i ds hS
  rw [hσ] at h1
  cases h1
  have hl : i < S.length := (List.getElem?_eq_some_iff.mp hS).1
  refine ⟨⟨Evl.Ex.mut A.sx.h h4, A.sx.g, fun b u hb => ?_, A.sx.n⟩, by rw [List.length_set]; exact A.len, fun j e hj => ?_, fun j fs hj => ?_, fun j k fs gs b hj hk ej ek => ?_⟩
  · have hne : b ≠ a := fun z => by subst z; rw [h3] at hb; cases hb
    rw [upd_ne hne]; exact A.gh b u hb
  · by_cases hij : i = j
    · subst hij; rw [List.getElem?_set_self hl] at hj; cases hj
    · rw [List.getElem?_set_ne hij] at hj
      exact A.dat j e hj
  · by_cases hij : i = j
    · subst hij
      rw [List.getElem?_set_self hl] at hj
      cases hj
      exact ⟨a, ys, hσ, upd_same, h3, h4, r⟩
    · rw [List.getElem?_set_ne hij] at hj
      obtain ⟨b, vs, q1, q2, q3⟩ := A.own j fs hj
      have hne : b ≠ a := fun z => by
        subst z
        exact hij (A.sep i j _ _ _ hS hj hσ q1)
      exact ⟨b, vs, q1, by rw [upd_ne hne]; exact q2, q3⟩
  · have back : ∀ {n : Nat} {hs : List RD}, (S.set i (.own es))[n]? = some (.own hs) → ∃ hs', S[n]? = some (.own hs') := fun {n hs} h => by
      by_cases hin : i = n
      · subst hin; exact ⟨_, hS⟩
      · rw [List.getElem?_set_ne hin] at h; exact ⟨_, h⟩
    obtain ⟨_, e1⟩ := back hj
    obtain ⟨_, e2⟩ := back hk
    exact A.sep j k _ _ b e1 e2 ej ek
/-- x.append(e) -/
theorem as_app {i : Nat} (hS : S[i]? = some (.own ds)) (h : AE K te S d) (hl : ds.length < 100000) : AS K W (tDrop (tBM K "list" rAppend (tVar i) (tCons te tNil))) S (.nx (S.set i (.own (ds ++ [d])))) := fun G0 H0 G H σ A D f => by
  obtain ⟨a, vs, h1, h2, h3, h4, h5⟩ := A.own i ds hS
  refine ⟨_, h1, Or.inl ⟨rfl, vs, Evl.sq_of h2⟩, h G0 H0 G H σ A _ fun v G1 H1 s1 r1 => ?_⟩
  have A1 := A.ext s1
  refine ⟨a, vs, v, rfl, rfl, s1.h a _ h2, Evl.sz_lt (by rw [h5.length]; exact hl), f G1 _ _ s1.g ?_⟩
  exact A1.putO (xs := vs) hS h1 ((h5.mono s1.g).append (.cons r1 .nil))
/-- an own list becomes data for good -/
theorem Abs.freeze {G0 H0 G H : Hp} {σ : L2.St} {i : Nat} (A : Abs K G0 H0 G H σ S) (hS : S[i]? = some (.own ds)) : ∃ G', Evl.Ex G G' ∧ Abs K G0 H0 G' H σ (S.set i (.dat (.lst ds))) := by
  obtain ⟨a, vs, h1, h2, h3, h4, h5⟩ := A.own i ds hS
  have hl : i < S.length := (List.getElem?_eq_some_iff.mp hS).1
  have eg : Evl.Ex G (upd G a (.lst vs)) := Evl.Ex.new h3
  have gh : Evl.Ex (upd G a (.lst vs)) H := fun b u hb => by
    by_cases hne : b = a
    · subst hne; rw [upd_same] at hb; cases hb; exact h2
    · rw [upd_ne hne] at hb; exact A.gh b u hb
  have nn : ∀ b, upd G a (.lst vs) b ≠ none → G0 b ≠ none ∨ H0 b = none := fun b hb => by
    by_cases hne : b = a
    · subst hne; exact .inr h4
    · rw [upd_ne hne] at hb; exact A.sx.n b hb
  refine ⟨upd G a (.lst vs), eg, ⟨A.sx.h, A.sx.g.trans eg, gh, nn⟩, by rw [List.length_set]; exact A.len, fun j e hj => ?_, fun j fs hj => ?_, fun j k fs gs b hj hk ej ek => ?_⟩
  · by_cases hij : i = j
    · subst hij; rw [List.getElem?_set_self hl] at hj; cases hj
      exact ⟨_, h1, .lst upd_same (h5.mono eg)⟩
    · rw [List.getElem?_set_ne hij] at hj
      obtain ⟨v, q1, q2⟩ := A.dat j e hj
      exact ⟨v, q1, q2.mono eg⟩
  · by_cases hij : i = j
    · subst hij; rw [List.getElem?_set_self hl] at hj; cases hj
    · rw [List.getElem?_set_ne hij] at hj
      obtain ⟨b, ws, q1, q2, q3, q4, q5⟩ := A.own j fs hj
      have hne : b ≠ a := fun z => by
        subst z
        exact hij (A.sep i j _ _ _ hS hj h1 q1)
      exact ⟨b, ws, q1, q2, by rw [upd_ne hne]; exact q3, q4, q5.mono eg⟩
  · have back : ∀ {n : Nat} {hs : List RD}, (S.set i (.dat (.lst ds)))[n]? = some (.own hs) → S[n]? = some (.own hs) := fun {n hs} h => by
      by_cases hin : i = n
      · subst hin; rw [List.getElem?_set_self hl] at h; cases h
      · rw [List.getElem?_set_ne hin] at h; exact h
    exact A.sep j k _ _ b (back hj) (back hk) ej ek
theorem as_frz {t : TS} {o : Out} {i : Nat} (hS : S[i]? = some (.own ds)) (h : AS K W t (S.set i (.dat (.lst ds))) o) : AS K W t S o := fun G0 H0 G H σ A D f => by
  obtain ⟨G', e, A'⟩ := A.freeze hS
  exact h G0 H0 G' H σ A' D (f.mono e)
end

/-! ### try -/
section
variable {K : PySem.W.Frag} {W : WX} {S S1 S2 : Sg} {o : Out} {tb : WX → TS} {ts : Addr → Value → Option Addr → TS} {Wout : WX} {c cls : Value} {i : Nat}
/-- the body raises nothing -/
theorem as_tryAs0 (hb : ∀ W', AS K W' (tb W') S o) (ho : ∀ c' T, o ≠ .ex c' T) : AS K W (fun D σ H => tb (wAs K c i ts Wout D) D σ H) S o := fun G0 H0 G H σ A D f =>
  hb _ G0 H0 G H σ A D (by
    cases o with
    | nx T => exact f
    | rt d => exact f
    | bk T => exact f
    | ct T => exact f
    | ex c' T => exact absurd rfl (ho c' T))
/-- the body raises, the clause takes it and returns -/
theorem as_tryAsR {d : RD} (hb : ∀ W', AS K W' (tb W') S (.ex cls S1)) (he : PySem.W.exmOne K cls c = some true) (hs : ∀ a W', AS K W' (ts a cls none) (S1.set i (.dat (.cls a))) (.rt d)) : AS K W (fun D σ H => tb (wAs K c i ts Wout D) D σ H) S (.rt d) := fun G0 H0 G H σ A D f =>
  hb _ G0 H0 G H σ A D fun G1 H1 σ1 e1 A1 => ⟨true, he, fun _ a ha => hs a W G0 H0 G1 H1 _ (A1.setD (.cls a)) _ fun v G2 H2 e2 => f v G2 H2 (e1.trans e2), fun z => nomatch z⟩
/-- .. and goes on -/
theorem as_tryAsN (hb : ∀ W', AS K W' (tb W') S (.ex cls S1)) (he : PySem.W.exmOne K cls c = some true) (hs : ∀ a W', AS K W' (ts a cls none) (S1.set i (.dat (.cls a))) (.nx S2)) : AS K W (fun D σ H => tb (wAs K c i ts Wout D) D σ H) S (.nx (S2.set i .un)) := fun G0 H0 G H σ A D f =>
  hb _ G0 H0 G H σ A D fun G1 H1 σ1 e1 A1 => ⟨true, he, fun _ a ha => hs a W G0 H0 G1 H1 _ (A1.setD (.cls a)) _ fun G2 H2 σ2 e2 A2 => f G2 H2 _ (e1.trans e2) A2.setU, fun z => nomatch z⟩
/-- .. without a name -/
theorem as_tryO0 (hb : ∀ W', AS K W' (tb W') S o) (ho : ∀ c' T, o ≠ .ex c' T) : AS K W (fun D σ H => tb (wOnly K c ts Wout D) D σ H) S o := fun G0 H0 G H σ A D f =>
  hb _ G0 H0 G H σ A D (by
    cases o with
    | nx T => exact f
    | rt d => exact f
    | bk T => exact f
    | ct T => exact f
    | ex c' T => exact absurd rfl (ho c' T))
theorem as_tryO (hb : ∀ W', AS K W' (tb W') S (.ex cls S1)) (he : PySem.W.exmOne K cls c = some true) (hs : ∀ a W', AS K W' (ts a cls none) S1 o) (ho : ∀ c' T, o ≠ .ex c' T) : AS K W (fun D σ H => tb (wOnly K c ts Wout D) D σ H) S o := fun G0 H0 G H σ A D f =>
  hb _ G0 H0 G H σ A D fun G1 H1 σ1 e1 A1 => ⟨true, he, fun _ a ha => hs a W G0 H0 G1 H1 _ A1 _ (f.mono e1), fun z => nomatch z⟩
end

/-! ### a def's body -/
def Gives : Out → Res → Prop
  | .rt d, .ok e => d = e
  | .nx _, .ok e => e = .non
  | .ex c _, .exc c' => c = c'
  | _, _ => False
def startS (n : Nat) (ds : List RD) : Sg := ds.map .dat ++ List.replicate (n - ds.length) .un
theorem abs_start {K : PySem.W.Frag} {G H : Hp} {vs : List V} {ds : List RD} {N : List Str} (e : Evl.Ex G H) (r : RpAll K G vs ds) : Abs K G H G H (L2.start N vs) (startS N.length ds) := by
  have hl := r.length
  refine ⟨.refl e, ?_, fun i d h => ?_, fun i es h => ?_, fun i j es fs a h => ?_⟩
  · unfold L2.start startS
    rw [List.length_append, List.length_append, List.length_map, List.length_map, List.length_replicate, List.length_replicate, hl]
  · unfold startS at h
    by_cases hi : i < ds.length
    · rw [List.getElem?_append_left (by rw [List.length_map]; exact hi), List.getElem?_map] at h
      cases e1 : ds[i]? with
      | none => rw [e1] at h; cases h
      | some x =>
        rw [e1] at h
        cases h
        obtain ⟨v, h1, h2⟩ := r.get e1
        refine ⟨v, ?_, h2⟩
        unfold L2.start
        rw [List.getElem?_append_left (by rw [List.length_map, hl]; exact hi), List.getElem?_map, h1] <;> rfl
    · rw [List.getElem?_append_right (by rw [List.length_map]; omega), List.getElem?_replicate] at h
      split at h <;> cases h
  · exfalso
    unfold startS at h
    by_cases hi : i < ds.length
    · rw [List.getElem?_append_left (by rw [List.length_map]; exact hi), List.getElem?_map] at h
      cases e1 : ds[i]? with
      | none => rw [e1] at h; cases h
      | some x => rw [e1] at h; cases h
    · rw [List.getElem?_append_right (by rw [List.length_map]; omega), List.getElem?_replicate] at h
      split at h <;> cases h
  · exfalso
    unfold startS at h
    by_cases hi : i < ds.length
    · rw [List.getElem?_append_left (by rw [List.length_map]; exact hi), List.getElem?_map] at h
      cases e1 : ds[i]? with
      | none => rw [e1] at h; cases h
      | some x => rw [e1] at h; cases h
    · rw [List.getElem?_append_right (by rw [List.length_map]; omega), List.getElem?_replicate] at h
      split at h <;> cases h
theorem body_run {K : PySem.W.Frag} {t : TS} {n : Nat} {R : List RD → Res → Prop} {vs : List V} {H : Hp} {Q : VK} {E : XK} {N : List Str} (h : spF K n R vs H Q E)
    (hA : ∀ ds r, ds.length = n → R ds r → ∃ o, Gives o r ∧ AS K (fun c d _ H => E c d H) t (startS N.length ds) o) : t { nx := fun _ H' => Q .non H', rt := Q } (L2.start N vs) H := by
  obtain ⟨G, ds, r, hn, e, ra, hR, q⟩ := h
  obtain ⟨o, hg, ha⟩ := hA ds r (by rw [← ra.length]; exact hn) hR
  refine ha G H G H _ (abs_start e ra) _ ?_
  cases o with
  | rt d => cases r with
    | ok e' => cases hg; exact fun v G' H' _ s r => q v G' H' s r
    | exc c => cases hg
  | nx S => cases r with
    | ok e' => cases hg; exact fun G' H' σ' _ A => q .non G' H' A.sx .non
    | exc c => cases hg
  | ex c S => cases r with
    | ok e' => cases hg
    | exc c' => cases hg; exact fun G' H' σ' _ A => q H' A.sx.h
  | bk S => cases r <;> cases hg
  | ct S => cases r <;> cases hg
theorem spF_len {K : PySem.W.Frag} {n : Nat} {R : List RD → Res → Prop} {ps : List Str} (hp : n = ps.length) : ∀ vs H Q E, spF K n R vs H Q E → vs.length = ps.length := fun vs H Q E h => by
  obtain ⟨G, ds, r, hn, _⟩ := h
  exact hn.trans hp
end RP

set_option Elab.async false
set_option linter.all false
set_option maxRecDepth 100000
set_option maxHeartbeats 2000000
namespace RP
open PySem PySem.Spec PyProof.Rows L2

/-! ### the layer's rules, the written part by name (a block's own context has the same) -/
section
variable {X : Cx} (K : PySem.W.Frag)
theorem ix_seqK (h : X.K = K) : IxR X (rIx K) := by subst h; exact ix_seq
theorem sl_listK (h : X.K = K) : SlR X (rSlL K) := by subst h; exact sl_list
theorem sl_tupK (h : X.K = K) : SlR X (rSlT K) := by subst h; exact sl_tup
theorem op_inK (h : X.K = K) : OpR X (compareOp .In) (rIn K false) := by subst h; exact op_in_seq
theorem op_notInK (h : X.K = K) : OpR X (compareOp .NotIn) (rIn K true) := by subst h; exact op_notIn_seq
theorem op_eqDK (h : X.K = K) (hu : X.A.units + 64 < cLine) : OpR X (compareOp .Eq) (rEqD K) := by subst h; exact op_eqD hu
theorem op_neDK (h : X.K = K) (hu : X.A.units + 64 < cLine) : OpR X (compareOp .NotEq) (rNeD K) := by subst h; exact op_neD hu
theorem op_catTK (h : X.K = K) : OpR X (binaryOp .Add) (rCatT K) := by subst h; exact op_catT
def rLenK (K : PySem.W.Frag) : List V → Hp → VK → Prop := fun xs H Q => ∃ p ys, xs = [.ref p] ∧ (SqL K H p ys ∨ SqT K H p ys) ∧ Q (.int ys.length) H
theorem call_lenK (h : X.K = K) : CallR X (.builtin "len") (rLenK K) := by subst h; exact call_len_seq
theorem call_isiK' (h : X.K = K) : CallR X (.builtin "isinstance") (rIsi K) := by subst h; exact call_isi
def rListK (K : PySem.W.Frag) : List V → Hp → VK → Prop := fun xs H Q => ∃ p ys, xs = [.ref p] ∧ (SqL K H p ys ∨ SqT K H p ys) ∧ ∀ l, H l = none → Q (.ref l) (upd H l (.lst ys))
theorem call_listK (h : X.K = K) : CallR X (.type "list") (rListK K) := by subst h; exact call_list_of
theorem call_allK (h : X.K = K) (hc : X.calm = true) : CallR X (.builtin "all") (rAll K) := by subst h; exact cr_all hc
theorem call_anyK (h : X.K = K) (hc : X.calm = true) : CallR X (.builtin "any") (rAny K) := by subst h; exact cr_any hc
theorem call_sortedSK (h : X.K = K) : CallR X (.builtin "sorted") (rSortedS K) := by subst h; exact cr_sortedS
theorem pi_listK {tg l : Expr} {tl : TE} (h : X.K = K) (hl : PE X l tl) : PI X tg l (iList K tl) := by subst h; exact pi_list hl
theorem pi_tupK {tg l : Expr} {tl : TE} (h : X.K = K) (hl : PE X l tl) : PI X tg l (iTup K tl) := by subst h; exact pi_tup hl
theorem pi_zipK {e e2 : Expr} {ta : TA} {p pos tpos : Pos} {elts : List Expr} {kk : Nat} (h : X.K = K) (hg : Gl X "zip") (hm : X.mg "zip" = none) (ha : PA X [e, e2] ta)
    (hs : starEach [e, e2] X.env = (false, eval e X.env) :: starEach [e2] X.env := by rfl) (hpl : (backTo pos (starEach [e2] X.env)).any (·.1) = false := by rfl) :
    PI X (.Tuple elts kk tpos) (.Call (.Name "zip" p) [e, e2] [] pos) (iZip K ta) := by subst h; exact pi_zip hg hm ha hs hpl
theorem pi_enumK {e : Expr} {ta : TA} {p pos tpos : Pos} {elts : List Expr} {kk : Nat} (h : X.K = K) (hg : Gl X "enumerate") (hm : X.mg "enumerate" = none) (ha : PA X [e] ta) (hs : starEach [e] X.env = [(false, eval e X.env)] := by rfl) :
    PI X (.Tuple elts kk tpos) (.Call (.Name "enumerate" p) [e] [] pos) (iEnum K ta) := by subst h; exact pi_enum hg hm ha hs
theorem pg_tupK {es : List Expr} {k : Nat} {t : TGs} {n : Nat} {pos : Pos} (h : X.K = K) (hc : X.calm = true) (hp : PGs X es t)
    (hn : (assignEach es X.env).length = n := by rfl) (hst : (assignEach es X.env).findIdx? (·.1) = none := by rfl) : PG X (.Tuple es k pos) (gTup K n t) := by subst h; exact pg_tup hc hp hn hst
end
/-! ### data as PyData, for == -/
mutual
def RD.py : RD → Option PyData
  | .non => some .none
  | .bl b => some (.bool b)
  | .int i => some (.int i)
  | .str x => some (.str x)
  | .tup ds => (RD.pys ds).map .tuple
  | .lst ds => (RD.pys ds).map .list
  | .dk _ _ => none
  | .dt _ _ => none
  | .obj _ _ _ => none
  | .ty _ => none
  | .cls _ => none
  | .scr _ => none
def RD.pys : List RD → Option (List PyData)
  | [] => some []
  | d :: ds => match RD.py d, RD.pys ds with
    | some p, some ps => some (p :: ps)
    | _, _ => none
end
section
variable {K : PySem.W.Frag} {G H : Hp}
mutual
theorem Rp.dp : ∀ {v : V} {d : RD} {p : PyData}, Rp K G v d → RD.py d = some p → Dp K G v p
  | _, _, _, .non, h => by cases h; exact .non
  | _, _, _, .bl b, h => by cases h; exact .bl b
  | _, _, _, .int i, h => by cases h; exact .int i
  | _, _, _, .str x, h => by cases h; exact .str x
  | _, .tup ds, p, .tup s r, h => by
    simp only [RD.py] at h
    cases e : RD.pys ds with
    | none => rw [e] at h; cases h
    | some ps => rw [e] at h; cases h; exact .tup s (RpAll.dp r e)
  | _, .lst ds, p, .lst s r, h => by
    simp only [RD.py] at h
    cases e : RD.pys ds with
    | none => rw [e] at h; cases h
    | some ps => rw [e] at h; cases h; exact .lst (Evl.sq_of s) (RpAll.dp r e)
  | _, _, _, .dk _ _ _ _, h => by cases h
  | _, _, _, .dt _ _ _ _, h => by cases h
  | _, _, _, .obj _ _ _ _, h => by cases h
  | _, _, _, .ty _, h => by cases h
  | _, _, _, .cls _, h => by cases h
  | _, _, _, .scr _, h => by cases h
theorem RpAll.dp : ∀ {vs : List V} {ds : List RD} {ps : List PyData}, RpAll K G vs ds → RD.pys ds = some ps → DpAll K G vs ps
  | _, _, _, .nil, h => by cases h; exact .nil
  | _, d :: ds, ps, .cons a b, h => by
    simp only [RD.pys] at h
    cases e1 : RD.py d with
    | none => rw [e1] at h; cases h
    | some q => cases e2 : RD.pys ds with
      | none => rw [e1, e2] at h; cases h
      | some qs => rw [e1, e2] at h; cases h; exact .cons (Rp.dp a e1) (RpAll.dp b e2)
end
end
section
variable {K : PySem.W.Frag} {S : Sg} {te ta : TE} {d d1 d2 : RD}
theorem dp_ex {G H : Hp} {v : V} {p : PyData} {d : RD} (e : Evl.Ex G H) (r : Rp K G v d) (h : RD.py d = some p) : Dp K H v p := (r.mono e).dp h
theorem ro_eqD {p q : PyData} {b : Bool} (h1 : RD.py d1 = some p) (h2 : RD.py d2 = some q) (s1 : SeqAt.shaped p = true) (s2 : SeqAt.shaped q = true) (hb : PyData.eqv p q = b) : RO K (rEqD K) d1 d2 (.bl b) := fun G H x y e hx hy Q k =>
  ⟨p, q, dp_ex e hx h1, dp_ex e hy h2, s1, s2, by rw [hb]; exact k _ G H (.refl e) (.bl _)⟩
theorem ro_neD {p q : PyData} {b : Bool} (h1 : RD.py d1 = some p) (h2 : RD.py d2 = some q) (s1 : SeqAt.shaped p = true) (s2 : SeqAt.shaped q = true) (hb : PyData.eqv p q = b) : RO K (rNeD K) d1 d2 (.bl (!b)) := fun G H x y e hx hy Q k =>
  ⟨p, q, dp_ex e hx h1, dp_ex e hy h2, s1, s2, by rw [hb]; exact k _ G H (.refl e) (.bl _)⟩

theorem ro_eqS {p : PyData} (h1 : RD.py d = some p) (s1 : SeqAt.shaped p = true) : RO K (rEqD K) d d (.bl true) := ro_eqD h1 h1 s1 s1 (SeqAt.eqv_refl _ (SeqAt.canLay_of_shaped s1))
theorem ro_neS {p : PyData} (h1 : RD.py d = some p) (s1 : SeqAt.shaped p = true) : RO K (rNeD K) d d (.bl false) := ro_neD (b := true) h1 h1 s1 s1 (SeqAt.eqv_refl _ (SeqAt.canLay_of_shaped s1))
theorem ae_dnew : AE K tDNewK S (.dk [] []) := fun G0 H0 G H σ A Q q p hp =>
  have sn := Sx.new (o := .dK []) A.gh hp
  q (.ref p) _ _ sn (.dk (kvs := []) (xs := []) upd_same rfl rfl .nil)
/-! ### built-in calls -/
theorem rc_abs {i : Int} : RC K (fun xs H Q => ∃ i, xs = [.int i] ∧ Q (.int (if i < 0 then -i else i)) H) [.int i] (.int (i.natAbs : Int)) := fun G H vs e r Q q => by
  cases r with
  | cons a r => cases r; cases a; exact ⟨i, rfl, by
      have h : (if i < 0 then -i else i) = (i.natAbs : Int) := by split <;> omega
      rw [h]; exact q _ G H (.refl e) (.int _)⟩
theorem rc_int {i : Int} : RC K (fun xs H Q => (∃ i, xs = [.int i] ∧ Q (.int i) H) ∨ ∃ k, xs = [.bl k] ∧ Q (.int (if k then 1 else 0)) H) [.int i] (.int i) := fun G H vs e r Q q => by
  cases r with
  | cons a r => cases r; cases a; exact .inl ⟨i, rfl, q _ G H (.refl e) (.int _)⟩
theorem rc_lenL {ds : List RD} : RC K (rLenK K) [.lst ds] (.int (ds.length : Int)) := fun G H vs e r Q q => by
  cases r with
  | cons a r =>
    cases r
    obtain ⟨p, xs, rfl, hs, ha⟩ := a.lst_inv
    exact ⟨p, xs, rfl, .inl (Evl.sq_of (e _ _ hs)), by rw [ha.length]; exact q _ G H (.refl e) (.int _)⟩
theorem rc_lenT {ds : List RD} : RC K (rLenK K) [.tup ds] (.int (ds.length : Int)) := fun G H vs e r Q q => by
  cases r with
  | cons a r =>
    cases r
    obtain ⟨p, xs, rfl, hs, ha⟩ := a.tup_inv
    exact ⟨p, xs, rfl, .inr (Evl.ex_t e hs), by rw [ha.length]; exact q _ G H (.refl e) (.int _)⟩
theorem rc_gcd {a b : Int} : RC K rGcd [.int a, .int b] (.int (Nat.gcd a.natAbs b.natAbs : Nat)) := fun G H vs e r Q q => by
  cases r with
  | cons x r => cases r with
    | cons y r => cases r; cases x; cases y; exact ⟨a, b, rfl, q _ G H (.refl e) (.int _)⟩
/-- the kind of a datum, by Python's name -/
def RD.kind : RD → Option String
  | .non => some "NoneType"
  | .bl _ => some "bool"
  | .int _ => some "int"
  | .str _ => some "str"
  | .tup _ => some "tuple"
  | .lst _ => some "list"
  | .dk _ _ => some "dict"
  | .dt _ _ => some "dict"
  | _ => none
theorem tyx_seqL {H : Hp} {a : Addr} {xs : List V} (h : SqL K H a xs) : TyX K H (.ref a) (.type "list") := by
  rcases h with (h | ⟨o, h⟩) | ⟨o, its, n, h, hc, _⟩
  · exact .base (.lst h)
  · exact .base (.frz h)
  · exact .kList h hc
theorem tyx_seqT {H : Hp} {a : Addr} {xs : List V} (h : SqT K H a xs) : TyX K H (.ref a) (.type "tuple") := by
  rcases h with (h | ⟨o, h⟩) | ⟨o, its, n, h, hc, _⟩
  · exact .base (.tup h)
  · exact .fTuple h
  · exact .kTuple h hc
theorem tyx_of {G H : Hp} {v : V} {n : String} (e : Evl.Ex G H) (r : Rp K G v d) (h : d.kind = some n) : TyX K H v (.type n) := by
  cases r with
  | non => cases h; exact .base .non
  | bl b => cases h; exact .base (.bl b)
  | int i => cases h; exact .base (.int i)
  | str x => cases h; exact .base (.str x)
  | tup s _ => cases h; exact tyx_seqT (Evl.ex_t e s)
  | lst s _ => cases h; exact tyx_seqL (Evl.sq_of (e _ _ s))
  | dk s _ _ _ => cases h; exact .base (.dK (e _ _ s))
  | dt s _ _ _ => cases h; exact .base (.dT (e _ _ s))
  | obj _ _ _ _ => cases h
  | ty _ => cases h
  | cls _ => cases h
  | scr _ => cases h
theorem rc_isi {n m : String} {b : Bool} (hk : d.kind = some n) (hb : kitB n m = some b) : RC K (rIsi K) [d, .ty m] (.bl b) := fun G H vs e r Q q => by
  cases r with
  | cons x r => cases r with
    | cons y r => cases r; cases y; exact ⟨_, _, _, _, b, rfl, .ty m, tyx_of e x hk, kit_ty hb, q _ G H (.refl e) (.bl _)⟩
/-! ### slices, sums of lists and tuples -/
def cutD (ds : List RD) (lo hi : Option Int) : List RD := (ds.drop (HT.sIx ds.length 0 lo)).take (HT.sIx ds.length ds.length hi - HT.sIx ds.length 0 lo)
theorem cut_all {G : Hp} {vs : List V} {ds : List RD} {lo hi : Option Int} (r : RpAll K G vs ds) : RpAll K G (cutV vs lo hi) (cutD ds lo hi) := by
  unfold cutV cutD
  rw [r.length]
  exact (r.drop _).take _
theorem ae_slL {tl th : TO} {ds : List RD} {lo hi : Option Int} (h : AE K te S (.lst ds)) (h1 : AO K tl S lo) (h2 : AO K th S hi) : AE K (tSl (rSlL K) te tl th) S (.lst (cutD ds lo hi)) := fun G0 H0 G H σ A Q q =>
  h G0 H0 G H σ A _ fun v G1 H1 s1 r1 => h1 G0 H0 G1 H1 σ (A.ext s1) _ fun G2 H2 s2 => h2 G0 H0 G2 H2 σ (A.ext (s1.trans s2)) _ fun G3 H3 s3 => by
    obtain ⟨a, xs, rfl, hs, ha⟩ := r1.lst_inv
    have s23 := s2.trans s3
    refine ⟨a, xs, rfl, Evl.sq_of ((s1.s.trans s23.h) _ _ hs), fun p hp => ?_⟩
    have sn := Sx.new (o := .lst (cutV xs lo hi)) s3.s hp
    exact q _ _ _ ((s1.trans s23).trans sn) (.lst upd_same ((cut_all ha).mono (s23.g.trans sn.g)))
theorem ro_cat {as bs : List RD} (hl : as.length + bs.length ≤ 100000) : RO K rCat (.lst as) (.lst bs) (.lst (as ++ bs)) := fun G H x y e hx hy Q q => by
  obtain ⟨a, xs, rfl, h1, r1⟩ := hx.lst_inv
  obtain ⟨b, ys, rfl, h2, r2⟩ := hy.lst_inv
  refine ⟨a, b, xs, ys, rfl, rfl, e _ _ h1, e _ _ h2, Evl.sz_of (by rw [r1.length, r2.length]; exact hl), fun p hp => ?_⟩
  have sn := Sx.new (o := .lst (xs ++ ys)) e hp
  exact q _ _ _ sn (.lst upd_same ((r1.append r2).mono sn.g))
/-! ### isinstance of a caught error -/
def rIsEx (K : PySem.W.Frag) (cls : Value) (dd : Option Addr) (a : Addr) : List V → Hp → VK → Prop := fun xs H Q => ∃ D, cls = .ref D ∧ dd = none ∧ ExcC K D ∧ rIsE K D a xs H Q
theorem call_isEx {X : Cx} {a : Addr} {cls : Value} {dd : Option Addr} {oe : Obj} {pn : List (Addr × Obj)} (hz : Zc cls dd oe) (hf : ∃ vs, oe.data = .fields vs) : CallR (X.suite a ((a, oe) :: pn)) (.builtin "isinstance") (rIsEx X.K cls dd a) := by
  intro pins s σ H xs us Q I r h
  obtain ⟨D, rfl, rfl, C, h⟩ := h
  exact call_isE C hz hf pins s σ H xs us Q I r h
theorem rc_isEt {D a : Addr} {n : String} {b : Bool} (C : ExcC K D) (hk : PySem.W.kitOne K (.ref D) (.type n) = some b) : RC K (rIsEx K (.ref D) none a) [.cls a, .ty n] (.bl b) := fun G H vs e r Q q => by
  cases r with
  | cons x r => cases r with
    | cons y r => cases r; cases x; cases y; exact ⟨D, rfl, rfl, C, _, _, b, rfl, fun u h => h, hk, q _ G H (.refl e) (.bl _)⟩
theorem rc_isEc {D D2 a : Addr} {b : Bool} (C : ExcC K D) (hk : PySem.W.kitOne K (.ref D) (.ref D2) = some b) : RC K (rIsEx K (.ref D) none a) [.cls a, .cls D2] (.bl b) := fun G H vs e r Q q => by
  cases r with
  | cons x r => cases r with
    | cons y r => cases r; cases x; cases y; exact ⟨D, rfl, rfl, C, _, _, b, rfl, fun u h => h, hk, q _ G H (.refl e) (.bl _)⟩
theorem ae_cls {C : Addr} : AE K (tC (.ref C)) S (.cls C) := ae_c fun _ => .cls C
/-! ### the script -/
theorem rc_lenS {ns : List Int} : RC K (rLenK K) [.scr ns] (.int (ns.length : Int)) := fun G H vs e r Q q => by
  cases r with
  | cons a r =>
    cases r
    cases a with
    | scr hs => exact ⟨_, _, rfl, .inl (Evl.ex_l e hs), by rw [List.length_map]; exact q _ G H (.refl e) (.int _)⟩
theorem atI_map {α β : Type} {f : α → β} {xs : List α} {i : Int} {x : α} (h : atI xs i = some x) : atI (xs.map f) i = some (f x) := by
  obtain ⟨j, h1, h2⟩ := atI_get h
  unfold atI
  rw [List.length_map, h1]
  show (xs.map f)[j]? = some (f x)
  rw [List.getElem?_map, h2]
  rfl
theorem ro_ixS {ns : List Int} {i n : Int} (h : atI ns i = some n) : RO K (rIx K) (.scr ns) (.int i) (.int n) := fun G H x y e hx hy Q q => by
  cases hx with
  | scr hs =>
    cases hy
    exact .inl ⟨_, _, i, .int n, rfl, rfl, Evl.ex_l e hs, atI_map h, q _ G H (.refl e) (.int _)⟩
end
end RP

set_option Elab.async false
set_option linter.all false
set_option maxRecDepth 100000
set_option maxHeartbeats 2000000
namespace RP
open PySem PySem.Spec PyProof.Rows L2
/-! ### ratios -/
abbrev Q2 := Int × Int
def eR (a : Q2) : RD := .tup [.int a.1, .int a.2]
/-- the lowest form; g divides exactly -/
def lowR (n d : Int) : Q2 := (n / (Nat.gcd n.natAbs d.natAbs : Nat), d / (Nat.gcd n.natAbs d.natAbs : Nat))
def lawLow (n d : Int) : Q2 := if d < 0 then (0 - n / (Nat.gcd n.natAbs d.natAbs : Nat), 0 - d / (Nat.gcd n.natAbs d.natAbs : Nat)) else lowR n d
/-- a ratio in the one form -/
structure IsR (a : Q2) : Prop where
  pos : 0 < a.2
  cop : Nat.gcd a.1.natAbs a.2.natAbs = 1
/-- small enough -/
@[irreducible] def Bd (B : Nat) (x : Int) : Prop := x.natAbs < 2 ^ B
theorem Bd.lt {B : Nat} {x : Int} (h : Bd B x) : x.natAbs < 2 ^ B := by unfold Bd at h; exact h
theorem Bd.of {B : Nat} {x : Int} (h : x.natAbs < 2 ^ B) : Bd B x := by unfold Bd; exact h
theorem bd_zero {B : Nat} : Bd B 0 := .of (Nat.two_pow_pos _)
theorem Bd.mono {B C : Nat} {x : Int} (h : Bd B x) (l : B ≤ C) : Bd C x := .of (Nat.lt_of_lt_of_le h.lt (Nat.pow_le_pow_right (by decide) l))
theorem Bd.mul {B C : Nat} {x y : Int} (h : Bd B x) (k : Bd C y) : Bd (B + C) (x * y) := .of (L2.wide_lt h.lt k.lt)
theorem Bd.add {B : Nat} {x y : Int} (h : Bd B x) (k : Bd B y) : Bd (B + 1) (x + y) := by
  unfold Bd at *
  rw [Nat.pow_succ]
  omega
theorem Bd.sub {B : Nat} {x y : Int} (h : Bd B x) (k : Bd B y) : Bd (B + 1) (x - y) := by
  unfold Bd at *
  rw [Nat.pow_succ]
  omega
theorem Bd.neg {B : Nat} {x : Int} (h : Bd B x) : Bd B (-x) := by unfold Bd at *; omega
theorem Bd.wmul {B C : Nat} {x y : Int} (h : Bd B x) (k : Bd C y) (hB : 0 < B) (hC : 0 < C) (l : B + C ≤ 1000000) : CMulW x y := L2.wide_mul h.lt k.lt hB hC l
theorem gcd_pos_of {n d : Int} (h : d ≠ 0) : 0 < Nat.gcd n.natAbs d.natAbs := Nat.gcd_pos_of_pos_right _ (by omega)
theorem gcd_le_of {n d : Int} (h : d ≠ 0) : Nat.gcd n.natAbs d.natAbs ≤ d.natAbs := Nat.gcd_le_right _ (by omega)
theorem gcd_wdiv {n d x : Int} {B : Nat} (h : d ≠ 0) (hb : Bd B d) (h0 : 0 < B) (h9 : B ≤ 9000) : CDivW x (Nat.gcd n.natAbs d.natAbs : Nat) := by
  refine L2.wide_div (b := B) ?_ ?_ h0 h9
  · have := gcd_pos_of (n := n) h
    omega
  · rw [Int.natAbs_natCast]
    exact Nat.lt_of_le_of_lt (gcd_le_of h) hb.lt
theorem lowR_dvd (n d : Int) : ((Nat.gcd n.natAbs d.natAbs : Nat) : Int) ∣ n ∧ ((Nat.gcd n.natAbs d.natAbs : Nat) : Int) ∣ d := by
  refine ⟨Int.ofNat_dvd_left.mpr (Nat.gcd_dvd_left _ _), Int.ofNat_dvd_left.mpr (Nat.gcd_dvd_right _ _)⟩
theorem lowR_mul (n d : Int) : n = (lowR n d).1 * (Nat.gcd n.natAbs d.natAbs : Nat) ∧ d = (lowR n d).2 * (Nat.gcd n.natAbs d.natAbs : Nat) :=
  ⟨(Int.ediv_mul_cancel (lowR_dvd n d).1).symm, (Int.ediv_mul_cancel (lowR_dvd n d).2).symm⟩
theorem lowR_isR {n d : Int} (h : 0 < d) : IsR (lowR n d) := by
  have hg := gcd_pos_of (n := n) (d := d) (by omega)
  obtain ⟨e1, e2⟩ := lowR_mul n d
  constructor
  · exact Int.ediv_pos_of_pos_of_dvd h (by omega) (lowR_dvd n d).2
  · show Nat.gcd (n / (Nat.gcd n.natAbs d.natAbs : Nat)).natAbs (d / (Nat.gcd n.natAbs d.natAbs : Nat)).natAbs = 1
    rw [Int.natAbs_ediv_of_dvd (lowR_dvd n d).1, Int.natAbs_ediv_of_dvd (lowR_dvd n d).2, Int.natAbs_natCast]
    exact Nat.gcd_div_gcd_div_gcd_of_pos_right (by omega)
/-- the cross product is kept -/
theorem lowR_cross (n d : Int) : (lowR n d).1 * d = n * (lowR n d).2 := by
  obtain ⟨e1, e2⟩ := lowR_mul n d
  generalize (Nat.gcd n.natAbs d.natAbs : Nat) = g at e1 e2
  generalize lowR n d = p at e1 e2 ⊢
  subst e1 e2
  rw [Int.mul_assoc, Int.mul_comm p.2]
/-- two ratios in the one form with one cross product are one -/
theorem IsR.ext {a b : Q2} (ha : IsR a) (hb : IsR b) (h : a.1 * b.2 = b.1 * a.2) : a = b := by
  have e2 : a.2.natAbs = b.2.natAbs := by
    have h' : a.1.natAbs * b.2.natAbs = b.1.natAbs * a.2.natAbs := by rw [← Int.natAbs_mul, ← Int.natAbs_mul, h]
    refine Nat.dvd_antisymm ?_ ?_
    · have : a.2.natAbs ∣ a.1.natAbs * b.2.natAbs := ⟨b.1.natAbs, by rw [h', Nat.mul_comm]⟩
      exact Nat.Coprime.dvd_of_dvd_mul_left (Nat.Coprime.symm ha.cop) this
    · have : b.2.natAbs ∣ b.1.natAbs * a.2.natAbs := ⟨a.1.natAbs, by rw [← h', Nat.mul_comm]⟩
      exact Nat.Coprime.dvd_of_dvd_mul_left (Nat.Coprime.symm hb.cop) this
  have p1 := ha.pos
  have p2 := hb.pos
  have e3 : a.2 = b.2 := by omega
  have e4 : a.1 = b.1 := by
    rw [e3] at h
    exact Int.eq_of_mul_eq_mul_right (by omega) h
  exact Prod.ext e4 e3
theorem lowR_eq {a : Q2} {n d : Int} (ha : IsR a) (hd : 0 < d) (h : a.1 * d = n * a.2) : lowR n d = a := by
  refine IsR.ext (lowR_isR hd) ha ?_
  have c := lowR_cross n d
  -- (lowR).1 * d = n * (lowR).2 and a.1 * d = n * a.2
  have : ((lowR n d).1 * a.2) * d = (a.1 * (lowR n d).2) * d := by
    calc ((lowR n d).1 * a.2) * d = ((lowR n d).1 * d) * a.2 := by rw [Int.mul_right_comm]
      _ = (n * (lowR n d).2) * a.2 := by rw [c]
      _ = (n * a.2) * (lowR n d).2 := by rw [Int.mul_right_comm]
      _ = (a.1 * d) * (lowR n d).2 := by rw [h]
      _ = (a.1 * (lowR n d).2) * d := by rw [Int.mul_right_comm]
  exact Int.eq_of_mul_eq_mul_right (by omega) this
theorem lowR_self {a : Q2} (ha : IsR a) : lowR a.1 a.2 = a := lowR_eq ha ha.pos rfl
theorem lowR_bd {n d : Int} {B : Nat} (hn : Bd B n) : Bd B (lowR n d).1 := by
  refine .of ?_
  unfold lowR
  rw [Int.natAbs_ediv_of_dvd (lowR_dvd n d).1, Int.natAbs_natCast]
  exact Nat.lt_of_le_of_lt (Nat.div_le_self _ _) hn.lt
theorem lowR_bd2 {n d : Int} {B : Nat} (hd : Bd B d) : Bd B (lowR n d).2 := by
  refine .of ?_
  unfold lowR
  rw [Int.natAbs_ediv_of_dvd (lowR_dvd n d).2, Int.natAbs_natCast]
  exact Nat.lt_of_le_of_lt (Nat.div_le_self _ _) hd.lt
theorem lawLow_pos {n d : Int} (h : 0 < d) : lawLow n d = lowR n d := if_neg (by omega)
theorem eR_py (a : Q2) : RD.py (eR a) = some (.tuple [.int a.1, .int a.2]) := rfl
theorem lowR_scale {n d f : Int} (hd : 0 < d) (hf : 0 < f) : lowR (n * f) (d * f) = lowR n d := by
  refine lowR_eq (lowR_isR hd) (Int.mul_pos hd hf) ?_
  have c := lowR_cross n d
  rw [← Int.mul_assoc, c, Int.mul_right_comm]
theorem lowR_one (n : Int) : lowR n 1 = (n, 1) := by
  refine lowR_eq ⟨Int.one_pos, ?_⟩ (by decide) (by rfl)
  exact Nat.gcd_one_right _
theorem lowR_zero {d : Int} (hd : 0 < d) : lowR 0 d = (0, 1) := by
  refine lowR_eq ⟨by decide, by decide⟩ hd ?_
  rw [Int.zero_mul, Int.zero_mul]
theorem IsR.low {a : Q2} (h : IsR a) : lawLow a.1 a.2 = a := by rw [lawLow_pos h.pos, lowR_self h]
/-- sums, differences, products, quotients -/
def addR (a b : Q2) : Q2 := lowR (a.1 * b.2 + b.1 * a.2) (a.2 * b.2)
def subR (a b : Q2) : Q2 := lowR (a.1 * b.2 - b.1 * a.2) (a.2 * b.2)
def mulR (a b : Q2) : Q2 := lowR (a.1 * b.1) (a.2 * b.2)
def divR (a b : Q2) : Q2 := if b.1 < 0 then lowR (-a.1 * b.2) (a.2 * -b.1) else lowR (a.1 * b.2) (a.2 * b.1)
theorem addR_isR {a b : Q2} (ha : IsR a) (hb : IsR b) : IsR (addR a b) := lowR_isR (Int.mul_pos ha.pos hb.pos)
theorem subR_isR {a b : Q2} (ha : IsR a) (hb : IsR b) : IsR (subR a b) := lowR_isR (Int.mul_pos ha.pos hb.pos)
theorem mulR_isR {a b : Q2} (ha : IsR a) (hb : IsR b) : IsR (mulR a b) := lowR_isR (Int.mul_pos ha.pos hb.pos)
theorem divR_isR {a b : Q2} (ha : IsR a) (hb : IsR b) (h : b.1 ≠ 0) : IsR (divR a b) := by
  unfold divR
  split
  · exact lowR_isR (Int.mul_pos ha.pos (by omega))
  · exact lowR_isR (Int.mul_pos ha.pos (by omega))
theorem Bd.low {n d : Int} {B C : Nat} (hn : Bd B n) (hd : Bd C d) : Bd B (lowR n d).1 ∧ Bd C (lowR n d).2 := ⟨lowR_bd hn, lowR_bd2 hd⟩
/-- bounds of both parts -/
def Bq (B : Nat) (a : Q2) : Prop := Bd B a.1 ∧ Bd B a.2
theorem Bq.mono {B C : Nat} {a : Q2} (h : Bq B a) (l : B ≤ C) : Bq C a := ⟨h.1.mono l, h.2.mono l⟩
/-- a ratio whose parts are small enough to be reckoned with -/
def Sm (a : Q2) : Prop := Bd 4000 a.1 ∧ Bd 4000 a.2
theorem sm_mul {a b : Q2} (ha : Sm a) (hb : Sm b) : CMulW a.1 b.2 ∧ CMulW b.1 a.2 := ⟨ha.1.wmul hb.2 (by decide) (by decide) (by decide), hb.1.wmul ha.2 (by decide) (by decide) (by decide)⟩
theorem Bq.sm {B : Nat} {a : Q2} (h : Bq B a) (l : B ≤ 4000) : Sm a := h.mono l
theorem addR_bq {a b : Q2} {B C : Nat} (ha : Bq B a) (hb : Bq C b) : Bq (B + C + 1) (addR a b) :=
  ⟨lowR_bd ((ha.1.mul hb.2).add (Nat.add_comm C B ▸ hb.1.mul ha.2)), lowR_bd2 ((ha.2.mul hb.2).mono (Nat.le_succ _))⟩
theorem subR_bq {a b : Q2} {B C : Nat} (ha : Bq B a) (hb : Bq C b) : Bq (B + C + 1) (subR a b) :=
  ⟨lowR_bd ((ha.1.mul hb.2).sub (Nat.add_comm C B ▸ hb.1.mul ha.2)), lowR_bd2 ((ha.2.mul hb.2).mono (Nat.le_succ _))⟩
theorem mulR_bq {a b : Q2} {B C : Nat} (ha : Bq B a) (hb : Bq C b) : Bq (B + C) (mulR a b) := ⟨lowR_bd (ha.1.mul hb.1), lowR_bd2 (ha.2.mul hb.2)⟩
theorem one_bd {B : Nat} (h : 1 ≤ B) : Bd B 1 := Bd.mono (B := 1) (by unfold Bd; decide) h
end RP

set_option Elab.async false
set_option linter.all false
set_option maxRecDepth 100000
set_option maxHeartbeats 2000000
namespace RP
open PySem PySem.Spec PyProof.Rows L2
/-! ### ratios as Rat -/
def ofQ (q : Rat) : Q2 := (q.num, (q.den : Int))
def eQ (q : Rat) : RD := .tup [.int q.num, .int (q.den : Int)]
theorem eQ_eR (q : Rat) : eQ q = eR (ofQ q) := rfl
theorem ofQ_isR (q : Rat) : IsR (ofQ q) := ⟨by show (0 : Int) < (q.den : Int); have := q.den_pos; omega, by show Nat.gcd q.num.natAbs (q.den : Int).natAbs = 1; rw [Int.natAbs_natCast]; exact q.reduced⟩
theorem low_ofQ {n d : Int} (h : 0 < d) : lowR n d = ofQ (Rat.divInt n d) := by
  refine lowR_eq (ofQ_isR _) h ?_
  have e : Rat.divInt (Rat.divInt n d).num ((Rat.divInt n d).den : Int) = Rat.divInt n d := by
    rw [Rat.divInt_ofNat, Rat.mkRat_self]
  have hz := (Rat.divInt n d).den_nz
  rw [Rat.divInt_eq_divInt_iff (by omega) (by omega)] at e
  exact e
theorem eQ_low {n d : Int} (h : 0 < d) : eR (lowR n d) = eQ (Rat.divInt n d) := by rw [low_ofQ h]; rfl
theorem eQ_lawLow {n d : Int} (h : 0 < d) : eR (lawLow n d) = eQ (Rat.divInt n d) := by rw [lawLow_pos h, eQ_low h]
/-- bounds of both parts -/
def Bt (B : Nat) (q : Rat) : Prop := Bd B q.num ∧ Bd B (q.den : Int)
theorem Bt.mono {B C : Nat} {q : Rat} (h : Bt B q) (l : B ≤ C) : Bt C q := ⟨h.1.mono l, h.2.mono l⟩
theorem bt_low {n d : Int} {B : Nat} (h : 0 < d) (hn : Bd B n) (hd : Bd B d) : Bt B (Rat.divInt n d) := by
  have e := low_ofQ (n := n) h
  have h1 := lowR_bd (d := d) hn
  have h2 := lowR_bd2 (n := n) hd
  rw [e] at h1 h2
  exact ⟨h1, h2⟩
theorem den_ne (q : Rat) : (q.den : Int) ≠ 0 := by have := q.den_nz; omega
theorem den_pos' (q : Rat) : (0 : Int) < (q.den : Int) := by have := q.den_pos; omega
theorem num_den (q : Rat) : Rat.divInt q.num (q.den : Int) = q := by rw [Rat.divInt_ofNat, Rat.mkRat_self]
theorem add_divInt (a b : Rat) : Rat.divInt (a.num * b.den + b.num * a.den) (a.den * b.den) = a + b := by
  conv => rhs; rw [← num_den a, ← num_den b, Rat.divInt_add_divInt _ _ (den_ne a) (den_ne b)]
theorem sub_divInt (a b : Rat) : Rat.divInt (a.num * b.den - b.num * a.den) (a.den * b.den) = a - b := by
  conv => rhs; rw [← num_den a, ← num_den b, Rat.divInt_sub_divInt _ _ (den_ne a) (den_ne b)]
theorem mul_divInt (a b : Rat) : Rat.divInt (a.num * b.num) (a.den * b.den) = a * b := by
  conv => rhs; rw [← num_den a, ← num_den b, Rat.divInt_mul_divInt]
theorem div_divInt (a b : Rat) : Rat.divInt (a.num * b.den) (a.den * b.num) = a / b := by
  conv => rhs; rw [Rat.div_def, ← num_den a, ← num_den b, Rat.inv_divInt, Rat.divInt_mul_divInt]
theorem lt_iff' (a b : Rat) : (a.num * b.den < b.num * a.den) = (a < b) := propext (Rat.lt_iff a b).symm
theorem le_iff' (a b : Rat) : (a.num * b.den ≤ b.num * a.den) = (a ≤ b) := propext (Rat.le_iff a b).symm
theorem Bt.add {a b : Rat} {B C : Nat} (ha : Bt B a) (hb : Bt C b) : Bt (B + C + 1) (a + b) := by
  rw [← add_divInt]
  exact bt_low (Int.mul_pos (den_pos' a) (den_pos' b)) ((ha.1.mul hb.2).add (Nat.add_comm C B ▸ hb.1.mul ha.2)) ((ha.2.mul hb.2).mono (Nat.le_succ _))
theorem Bt.sub {a b : Rat} {B C : Nat} (ha : Bt B a) (hb : Bt C b) : Bt (B + C + 1) (a - b) := by
  rw [← sub_divInt]
  exact bt_low (Int.mul_pos (den_pos' a) (den_pos' b)) ((ha.1.mul hb.2).sub (Nat.add_comm C B ▸ hb.1.mul ha.2)) ((ha.2.mul hb.2).mono (Nat.le_succ _))
theorem Bt.mul {a b : Rat} {B C : Nat} (ha : Bt B a) (hb : Bt C b) : Bt (B + C) (a * b) := by
  rw [← mul_divInt]
  exact bt_low (Int.mul_pos (den_pos' a) (den_pos' b)) (ha.1.mul hb.1) (ha.2.mul hb.2)
theorem eQ_py (q : Rat) : RD.py (eQ q) = some (.tuple [.int q.num, .int (q.den : Int)]) := rfl
/-- small enough to be reckoned with -/
abbrev Sq (q : Rat) : Prop := Bt 4000 q
theorem Sq.wmul {a b : Rat} (ha : Sq a) (hb : Sq b) : CMulW a.num b.num ∧ CMulW a.num b.den ∧ CMulW a.den b.num ∧ CMulW a.den b.den :=
  ⟨ha.1.wmul hb.1 (by decide) (by decide) (by decide), ha.1.wmul hb.2 (by decide) (by decide) (by decide), ha.2.wmul hb.1 (by decide) (by decide) (by decide), ha.2.wmul hb.2 (by decide) (by decide) (by decide)⟩
theorem Sq.dd {a b : Rat} (ha : Sq a) (hb : Sq b) : (a.den : Int) * (b.den : Int) ≠ 0 ∧ Bd 9000 ((a.den : Int) * (b.den : Int)) := by
  refine ⟨?_, (ha.2.mul hb.2).mono (by decide)⟩
  have := Int.mul_pos (den_pos' a) (den_pos' b)
  omega
theorem bt_int {B : Nat} {n : Int} (h : Bd B n) (hB : 1 ≤ B) : Bt B (n : Rat) := ⟨h, by show Bd B (((n : Rat).den : Nat) : Int); exact one_bd hB⟩
theorem eQ_int (n : Int) : eQ (n : Rat) = .tup [.int n, .int 1] := rfl
end RP

set_option Elab.async false
set_option linter.all false
set_option maxRecDepth 100000
set_option maxHeartbeats 2000000
namespace RP
open PySem PySem.Spec PyProof.Rows L2
/-! ### lists and rows of ratios -/
def eL (qs : List Rat) : RD := .lst (qs.map eQ)
def eM (rows : List (List Rat)) : RD := .lst (rows.map eL)
def pQ (q : Rat) : PyData := .tuple [.int q.num, .int (q.den : Int)]
def pL (qs : List Rat) : PyData := .list (qs.map pQ)
def pM (rows : List (List Rat)) : PyData := .list (rows.map pL)
theorem pys_map {α : Type} {e : α → RD} {p : α → PyData} (h : ∀ x, RD.py (e x) = some (p x)) : ∀ xs : List α, RD.pys (xs.map e) = some (xs.map p)
  | [] => rfl
  | x :: r => by
    simp only [List.map_cons, RD.pys, h x, pys_map h r]
theorem eQ_pQ (q : Rat) : RD.py (eQ q) = some (pQ q) := rfl
theorem eL_py (qs : List Rat) : RD.py (eL qs) = some (pL qs) := by
  show (RD.pys (qs.map eQ)).map _ = _
  rw [pys_map eQ_pQ]
  rfl
theorem eM_py (rows : List (List Rat)) : RD.py (eM rows) = some (pM rows) := by
  show (RD.pys (rows.map eL)).map _ = _
  rw [pys_map eL_py]
  rfl
/-- data that may be laid, of a depth -/
def Shp (n : Nat) (p : PyData) : Prop := p.canLay0 = true ∧ p.depth ≤ n
theorem Shp.shaped {n : Nat} {p : PyData} (h : Shp n p) (hn : n ≤ 64) : SeqAt.shaped p = true := by
  unfold SeqAt.shaped
  rw [h.1, decide_eq_true (Nat.le_trans h.2 hn)]
  rfl
theorem canLayAll_map {α : Type} {p : α → PyData} : ∀ (xs : List α), (∀ x ∈ xs, (p x).canLay0 = true) → PyData.canLayAll0 (xs.map p) = true
  | [], _ => rfl
  | x :: r, h => by
    show ((p x).canLay0 && PyData.canLayAll0 (r.map p)) = true
    rw [h x List.mem_cons_self, canLayAll_map r fun y hy => h y (List.mem_cons_of_mem _ hy)]
    rfl
theorem depthAll_map {α : Type} {p : α → PyData} {n : Nat} : ∀ (xs : List α), (∀ x ∈ xs, (p x).depth ≤ n) → PyData.depthAll (xs.map p) ≤ n
  | [], _ => Nat.zero_le _
  | x :: r, h => by
    show max (p x).depth (PyData.depthAll (r.map p)) ≤ n
    have h1 := h x List.mem_cons_self
    have h2 := depthAll_map r fun y hy => h y (List.mem_cons_of_mem _ hy)
    omega
theorem shp_list {α : Type} {p : α → PyData} {n : Nat} {xs : List α} (h : ∀ x ∈ xs, Shp n (p x)) : Shp (n + 1) (.list (xs.map p)) :=
  ⟨canLayAll_map xs fun x hx => (h x hx).1, Nat.succ_le_succ (depthAll_map xs fun x hx => (h x hx).2)⟩
theorem shp_pQ (q : Rat) : Shp 1 (pQ q) := ⟨rfl, Nat.le_refl _⟩
theorem shp_pL (qs : List Rat) : Shp 2 (pL qs) := shp_list fun q _ => shp_pQ q
theorem shp_pM (rows : List (List Rat)) : Shp 3 (pM rows) := shp_list fun r _ => shp_pL r
theorem shp_pair {n : Nat} {p q : PyData} (h : Shp n p) (k : Shp n q) : Shp (n + 1) (.tuple [p, q]) := by
  refine ⟨?_, ?_⟩
  · show (p.canLay0 && (q.canLay0 && true)) = true
    rw [h.1, k.1]; rfl
  · show max p.depth (max q.depth 0) + 1 ≤ n + 1
    have h1 := h.2
    have h2 := k.2
    omega
section
variable {K : PySem.W.Frag} {S : Sg} {d : RD}
theorem ro_eqL {qs : List Rat} : RO K (rEqD K) (eL qs) (eL qs) (.bl true) := ro_eqS (eL_py qs) ((shp_pL qs).shaped (by decide))
theorem ro_neL {qs : List Rat} : RO K (rNeD K) (eL qs) (eL qs) (.bl false) := ro_neS (eL_py qs) ((shp_pL qs).shaped (by decide))
theorem rc_listL {ds : List RD} : RC K (rListK K) [.lst ds] (.lst ds) := fun G H vs e r Q q => by
  cases r with
  | cons a r =>
    cases r
    obtain ⟨p, xs, rfl, hs, ha⟩ := a.lst_inv
    refine ⟨p, xs, rfl, .inl (Evl.sq_of (e _ _ hs)), fun l hl => ?_⟩
    have sn := Sx.new (o := .lst xs) e hl
    exact q _ _ _ sn (.lst upd_same (ha.mono sn.g))
end
theorem atI_nat' {α : Type} {xs : List α} {i : Nat} (h : i < xs.length) : atI xs (i : Int) = some xs[i] := atI_nat (List.getElem?_eq_getElem h)
theorem atI_mapQ {xs : List Rat} {i : Int} {q : Rat} (h : atI xs i = some q) : atI (xs.map eQ) i = some (eQ q) := atI_map h
/-- all within a bound -/
def BL (B : Nat) (qs : List Rat) : Prop := ∀ q ∈ qs, Bt B q
def BM (B : Nat) (rows : List (List Rat)) : Prop := ∀ r ∈ rows, BL B r
theorem BL.mono {B C : Nat} {qs : List Rat} (h : BL B qs) (l : B ≤ C) : BL C qs := fun q hq => (h q hq).mono l
/-- products of rows -/
def dot (row vs : List Rat) : Rat := ((row.zip vs).map fun p => p.1 * p.2).sum
theorem bt_zero {B : Nat} (h : 1 ≤ B) : Bt B (0 : Rat) := ⟨bd_zero, one_bd h⟩
theorem sum_take {qs : List Rat} {i : Nat} (h : i < qs.length) : (qs.take (i + 1)).sum = (qs.take i).sum + qs[i] := by
  rw [List.take_add_one, List.sum_append, List.getElem?_eq_getElem h]
  show (qs.take i).sum + [qs[i]].sum = _
  rw [List.sum_cons, List.sum_nil, Rat.add_zero]
theorem bt_sum {B : Nat} (hB : 1 ≤ B) : ∀ {qs : List Rat}, BL B qs → Bt (qs.length * (B + 1) + 1) qs.sum
  | [], _ => bt_zero (by omega)
  | q :: r, h => by
    rw [List.sum_cons]
    refine ((h q List.mem_cons_self).add (bt_sum hB fun x hx => h x (List.mem_cons_of_mem _ hx))).mono ?_
    rw [List.length_cons, Nat.add_mul]
    omega
end RP

set_option Elab.async false
set_option linter.all false
set_option maxRecDepth 100000
set_option maxHeartbeats 2000000
namespace RP
open PySem PySem.Spec PyProof.Rows L2
/-! ### Gauss and Jordan over rows of ratios -/
/-- an entry -/
def En (t : List (List Rat)) (i j : Nat) : Rat := (t.getD i []).getD j 0
def scaleR (row : List Rat) (p : Rat) : List Rat := row.map fun v => v / p
def clearR (row lead : List Rat) (k : Nat) : List Rat := (row.zip lead).map fun p => p.1 - row.getD k 0 * p.2
def othersT (t : List (List Rat)) (p : Nat) : List (List Rat) := t.take p ++ t.drop (p + 1)
def leadT (t : List (List Rat)) (k p : Nat) : List Rat := scaleR (t.getD p []) (En t p k)
def restT (t : List (List Rat)) (k p : Nat) : List (List Rat) := (othersT t p).map fun r => clearR r (leadT t k p) k
def stepT (t : List (List Rat)) (k p : Nat) : List (List Rat) := (restT t k p).take k ++ (leadT t k p :: (restT t k p).drop k)
def leadGo (t : List (List Rat)) (k : Nat) : Nat → Nat → Option Nat
  | 0, _ => none
  | n + 1, p => if En t p k = 0 then leadGo t k n (p + 1) else some p
theorem leadGo_some {t : List (List Rat)} {k : Nat} : ∀ {n p q : Nat}, leadGo t k n p = some q → p ≤ q ∧ q < p + n ∧ En t q k ≠ 0 ∧ ∀ j, p ≤ j → j < q → En t j k = 0
  | 0, _, _, h => by cases h
  | n + 1, p, q, h => by
    unfold leadGo at h
    split at h
    · rename_i hz
      obtain ⟨a, b, c, d⟩ := leadGo_some h
      refine ⟨by omega, by omega, c, fun j h1 h2 => ?_⟩
      by_cases e : j = p
      · rw [e]; exact hz
      · exact d j (by omega) h2
    · rename_i hz
      cases h
      exact ⟨Nat.le_refl _, by omega, hz, fun j h1 h2 => by omega⟩
theorem leadGo_none {t : List (List Rat)} {k : Nat} : ∀ {n p : Nat}, leadGo t k n p = none → ∀ j, p ≤ j → j < p + n → En t j k = 0
  | 0, _, _ => fun j h1 h2 => by omega
  | n + 1, p, h => by
    unfold leadGo at h
    split at h
    · rename_i hz
      have d := leadGo_none h
      intro j h1 h2
      by_cases e : j = p
      · rw [e]; exact hz
      · exact d j (by omega) (by omega)
    · cases h
def leadOf (t : List (List Rat)) (k : Nat) : Option Nat := leadGo t k (t.length - k) k
def gj (t : List (List Rat)) : Nat → Option (List (List Rat))
  | 0 => some t
  | i + 1 => match gj t i with
    | none => none
    | some u => match leadOf u i with
      | none => none
      | some p => some (stepT u i p)
/-! zeros -/
def Zr (t : List (List Rat)) (z : List Rat) : Prop := ∀ row ∈ t, dot row z = 0
theorem dot_nil (z : List Rat) : dot [] z = 0 := rfl
theorem dot_nilR (r : List Rat) : dot r [] = 0 := by unfold dot; rw [List.zip_nil_right]; rfl
theorem dot_cons (a b : Rat) (r v : List Rat) : dot (a :: r) (b :: v) = a * b + dot r v := by
  unfold dot
  rw [List.zip_cons_cons, List.map_cons, List.sum_cons]
theorem dot_scale (p : Rat) : ∀ (row z : List Rat), dot (scaleR row p) z = dot row z / p
  | [], z => by
    show (0 : Rat) = dot [] z / p
    rw [dot_nil]
    grind
  | a :: r, [] => by
    rw [dot_nilR, dot_nilR]
    grind
  | a :: r, b :: z => by
    have h := dot_scale p r z
    show dot ((a / p) :: scaleR r p) (b :: z) = _
    rw [dot_cons, dot_cons, h]
    grind
theorem dot_sub (c : Rat) : ∀ (row lead z : List Rat), row.length = lead.length → dot ((row.zip lead).map fun p => p.1 - c * p.2) z = dot row z - c * dot lead z
  | [], lead, z, h => by
    cases lead with
    | nil =>
      show (0 : Rat) = dot [] z - c * dot [] z
      rw [dot_nil]
      grind
    | cons _ _ => cases h
  | a :: r, [], z, h => by cases h
  | a :: r, l :: ls, [], h => by
    rw [dot_nilR, dot_nilR, dot_nilR]
    grind
  | a :: r, l :: ls, b :: z, h => by
    have ih := dot_sub c r ls z (Nat.succ.inj h)
    show dot ((a - c * l) :: ((r.zip ls).map fun p => p.1 - c * p.2)) (b :: z) = _
    rw [dot_cons, dot_cons, dot_cons, ih]
    grind
theorem dot_clear {row lead z : List Rat} {k : Nat} (h : row.length = lead.length) : dot (clearR row lead k) z = dot row z - row.getD k 0 * dot lead z := dot_sub _ _ _ _ h
/-! shape -/
/-- rows of a length -/
structure Sh (n m : Nat) (t : List (List Rat)) : Prop where
  len : t.length = n
  row : ∀ r ∈ t, r.length = m
theorem Sh.get {n m : Nat} {t : List (List Rat)} (h : Sh n m t) {i : Nat} (hi : i < n) : t.getD i [] ∈ t ∧ (t.getD i []).length = m := by
  have hi' : i < t.length := by rw [h.len]; exact hi
  have e : t.getD i [] = t[i] := by simp [List.getD_eq_getElem?_getD, List.getElem?_eq_getElem, hi']
  rw [e]
  exact ⟨List.getElem_mem _, h.row _ (List.getElem_mem _)⟩
theorem scale_len (row : List Rat) (p : Rat) : (scaleR row p).length = row.length := List.length_map ..
theorem clear_len {row lead : List Rat} {k : Nat} (h : row.length = lead.length) : (clearR row lead k).length = row.length := by
  unfold clearR
  rw [List.length_map, List.length_zip]
  omega
theorem others_mem {t : List (List Rat)} {p : Nat} {r : List Rat} (h : r ∈ othersT t p) : r ∈ t := by
  unfold othersT at h
  rw [List.mem_append] at h
  rcases h with h | h
  · exact List.mem_of_mem_take h
  · exact List.mem_of_mem_drop h
theorem others_split {t : List (List Rat)} {p : Nat} {r : List Rat} (hp : p < t.length) (h : r ∈ t) : r = t.getD p [] ∨ r ∈ othersT t p := by
  have e : t.getD p [] = t[p] := by simp [List.getD_eq_getElem?_getD, List.getElem?_eq_getElem, hp]
  have e2 : t = t.take p ++ (t[p] :: t.drop (p + 1)) := by rw [List.getElem_cons_drop, List.take_append_drop]
  rw [e2, List.mem_append, List.mem_cons] at h
  rw [e]
  unfold othersT
  rw [List.mem_append]
  rcases h with h | h | h
  · exact .inr (.inl h)
  · exact .inl h
  · exact .inr (.inr h)
theorem step_mem {t : List (List Rat)} {k p : Nat} {r : List Rat} : r ∈ stepT t k p ↔ r = leadT t k p ∨ ∃ s ∈ othersT t p, r = clearR s (leadT t k p) k := by
  unfold stepT
  rw [List.mem_append, List.mem_cons]
  have e : r ∈ restT t k p ↔ (r ∈ (restT t k p).take k ∨ r ∈ (restT t k p).drop k) := by
    conv => lhs; rw [← List.take_append_drop k (restT t k p)]
    rw [List.mem_append]
  have e2 : r ∈ restT t k p ↔ ∃ s ∈ othersT t p, r = clearR s (leadT t k p) k := by
    unfold restT
    rw [List.mem_map]
    constructor
    · rintro ⟨s, h1, h2⟩; exact ⟨s, h1, h2.symm⟩
    · rintro ⟨s, h1, h2⟩; exact ⟨s, h1, h2.symm⟩
  rw [← e2, e]
  constructor
  · rintro (h | h | h)
    · exact .inr (.inl h)
    · exact .inl h
    · exact .inr (.inr h)
  · rintro (h | h | h)
    · exact .inr (.inl h)
    · exact .inl h
    · exact .inr (.inr h)
theorem others_len {n m : Nat} {t : List (List Rat)} (h : Sh n m t) {p : Nat} (hp : p < n) : (othersT t p).length = n - 1 := by
  unfold othersT
  rw [List.length_append, List.length_take, List.length_drop, h.len]
  omega
theorem lead_len {n m : Nat} {t : List (List Rat)} (h : Sh n m t) {k p : Nat} (hp : p < n) : (leadT t k p).length = m := by
  unfold leadT
  rw [scale_len]
  exact (h.get hp).2
theorem step_sh {n m : Nat} {t : List (List Rat)} (h : Sh n m t) {k p : Nat} (hk : k < n) (hp : p < n) : Sh n m (stepT t k p) := by
  refine ⟨?_, fun r hr => ?_⟩
  · unfold stepT restT
    rw [List.length_append, List.length_cons, List.length_take, List.length_drop, List.length_map, others_len h hp]
    omega
  · rcases step_mem.mp hr with rfl | ⟨s, hs, rfl⟩
    · exact lead_len h hp
    · have hs2 := h.row s (others_mem hs)
      rw [clear_len (by rw [hs2, lead_len h hp]), hs2]
/-- a step keeps what solves -/
theorem step_zr {n m : Nat} {t : List (List Rat)} (h : Sh n m t) {k p : Nat} (hp : p < n) (hz : En t p k ≠ 0) {z : List Rat} : Zr (stepT t k p) z ↔ Zr t z := by
  have hl : dot (leadT t k p) z = dot (t.getD p []) z / En t p k := dot_scale _ _ _
  constructor
  · intro hs r hr
    have h0 := hs _ (step_mem.mpr (.inl rfl))
    rcases others_split (by rw [h.len]; exact hp) hr with rfl | ho
    · rw [hl] at h0
      grind
    · have h1 := hs _ (step_mem.mpr (.inr ⟨r, ho, rfl⟩))
      rw [dot_clear (by rw [h.row r hr, lead_len h hp]), h0] at h1
      grind
  · intro hs r hr
    have h0 : dot (leadT t k p) z = 0 := by
      rw [hl, hs _ (h.get hp).1]
      grind
    rcases step_mem.mp hr with rfl | ⟨s, hs2, rfl⟩
    · exact h0
    · rw [dot_clear (by rw [h.row s (others_mem hs2), lead_len h hp]), h0, hs s (others_mem hs2)]
      grind
/-! entries -/
def srcI (k p i : Nat) : Nat := if i < k then i else if i ≤ p then i - 1 else i
theorem getD_map0 {f : Rat → Rat} {row : List Rat} {j : Nat} (h : j < row.length) : (row.map f).getD j 0 = f (row.getD j 0) := by
  simp [List.getD_eq_getElem?_getD, List.getElem?_eq_getElem, h]
theorem getD_get {r : List Rat} {k : Nat} (h : k < r.length) : r.getD k 0 = r[k] := by simp [List.getD_eq_getElem?_getD, List.getElem?_eq_getElem, h]
theorem clear_get {row lead : List Rat} {k j : Nat} (h : row.length = lead.length) (hj : j < row.length) : (clearR row lead k).getD j 0 = row.getD j 0 - row.getD k 0 * lead.getD j 0 := by
  have hj2 : j < lead.length := by omega
  have hz : j < (row.zip lead).length := by rw [List.length_zip]; omega
  have e : (row.zip lead)[j]? = some (row[j], lead[j]) := by rw [List.getElem?_eq_getElem hz]; simp
  unfold clearR
  rw [List.getD_eq_getElem?_getD, List.getElem?_map, e, getD_get hj, getD_get hj2]
  rfl
theorem others_get {t : List (List Rat)} {p i : Nat} (hp : p < t.length) (hi : i + 1 < t.length) : (othersT t p).getD i [] = t.getD (if i < p then i else i + 1) [] := by
  unfold othersT
  simp only [List.getD_eq_getElem?_getD, List.getElem?_append, List.length_take, List.getElem?_take, List.getElem?_drop]
  by_cases h : i < p
  · rw [if_pos (by omega), if_pos h, if_pos h]
  · rw [if_neg (by omega), if_neg h]
    congr 2
    omega
theorem step_en {n m : Nat} {t : List (List Rat)} (h : Sh n m t) {k p i j : Nat} (hk : k ≤ p) (hp : p < n) (hi : i < n) (hj : j < m) :
    En (stepT t k p) i j = if i = k then En t p j / En t p k else En t (srcI k p i) j - En t (srcI k p i) k * (En t p j / En t p k) := by
  have hl : (leadT t k p).getD j 0 = En t p j / En t p k := by
    unfold leadT scaleR
    rw [getD_map0 (by rw [(h.get hp).2]; exact hj)]
    rfl
  have hr : ∀ o, o + 1 < n → ((restT t k p).getD o []).getD j 0 = En t (if o < p then o else o + 1) j - En t (if o < p then o else o + 1) k * (En t p j / En t p k) := by
    intro o ho
    have e : (restT t k p).getD o [] = clearR ((othersT t p).getD o []) (leadT t k p) k := by
      have ho2 : o < (othersT t p).length := by rw [others_len h hp]; omega
      unfold restT
      simp [List.getD_eq_getElem?_getD, List.getElem?_eq_getElem, ho2]
    have hs : (if o < p then o else o + 1) < n := by split <;> omega
    rw [e, others_get (by rw [h.len]; exact hp) (by rw [h.len]; exact ho), clear_get (by rw [(h.get hs).2, lead_len h hp]) (by rw [(h.get hs).2]; exact hj), hl]
    rfl
  have hlen : (restT t k p).length = n - 1 := by unfold restT; rw [List.length_map, others_len h hp]
  unfold En stepT
  rw [List.getD_eq_getElem?_getD (l := _ ++ _), List.getElem?_append, List.length_take, hlen]
  by_cases h1 : i < k
  · rw [if_pos (by omega), List.getElem?_take, if_pos h1, if_neg (by omega), ← List.getD_eq_getElem?_getD, hr i (by omega)]
    unfold srcI
    rw [if_pos h1, if_pos (by omega)]
    rfl
  · rw [if_neg (by omega)]
    have e : min k (n - 1) = k := by omega
    rw [e]
    by_cases h2 : i = k
    · subst h2
      rw [Nat.sub_self, List.getElem?_cons_zero, if_pos rfl]
      exact hl
    · obtain ⟨o, ho⟩ : ∃ o, i = k + 1 + o := ⟨i - (k + 1), by omega⟩
      have e2 : i - k = o + 1 := by omega
      rw [e2, List.getElem?_cons_succ, List.getElem?_drop, if_neg h2, ← List.getD_eq_getElem?_getD, hr (k + o) (by omega)]
      unfold srcI
      rw [if_neg h1]
      by_cases h3 : i ≤ p
      · have e3 : i - 1 = k + o := by omega
        rw [if_pos h3, if_pos (by omega), e3]
        rfl
      · have e3 : k + o + 1 = i := by omega
        rw [if_neg h3, if_neg (by omega), e3]
        rfl
/-- columns that are done -/
def Un (n k : Nat) (t : List (List Rat)) : Prop := ∀ i j, i < n → j < k → En t i j = if i = j then 1 else 0
theorem step_un {n m : Nat} {t : List (List Rat)} (h : Sh n m t) {k p : Nat} (hk : k ≤ p) (hp : p < n) (hm : n ≤ m) (hz : En t p k ≠ 0) (hu : Un n k t) : Un n (k + 1) (stepT t k p) := by
  intro i j hi hj
  rw [step_en h hk hp hi (by omega)]
  by_cases h1 : i = k
  · rw [if_pos h1]
    by_cases h2 : j = k
    · subst h2
      rw [if_pos h1]
      grind
    · rw [hu p j hp (by omega), if_neg (by omega), if_neg (by omega)]
      grind
  · rw [if_neg h1]
    by_cases h2 : j = k
    · subst h2
      rw [if_neg h1]
      grind
    · have hs : srcI k p i < n := by unfold srcI; split; omega; split <;> omega
      rw [hu p j hp (by omega), if_neg (by omega), hu _ j hs (by omega)]
      have e : (srcI k p i = j) = (i = j) := by
        apply propext
        unfold srcI
        split
        · rfl
        · split <;> constructor <;> intro z <;> omega
      simp only [e]
      grind
/-! bits -/
def CD (B : Nat) (row : List Rat) : Prop := ∃ D : Int, 0 < D ∧ Bd B D ∧ ∀ q ∈ row, ∃ m : Int, Bd B m ∧ q = Rat.divInt m D
theorem CD.bl {B : Nat} {row : List Rat} (h : CD B row) : BL B row := fun q hq => by
  obtain ⟨D, h1, h2, h3⟩ := h
  obtain ⟨m, hm, rfl⟩ := h3 q hq
  exact bt_low h1 hm h2
theorem CD.mono {B C : Nat} {row : List Rat} (h : CD B row) (l : B ≤ C) : CD C row := by
  obtain ⟨D, h1, h2, h3⟩ := h
  refine ⟨D, h1, h2.mono l, fun q hq => ?_⟩
  obtain ⟨m, hm, e⟩ := h3 q hq
  exact ⟨m, hm.mono l, e⟩
theorem divInt_rat (a b : Int) : Rat.divInt a b = (a : Rat) / (b : Rat) := Rat.divInt_eq_div a b
theorem rat_ne {a : Int} (h : a ≠ 0) : (a : Rat) ≠ 0 := fun z => h (Rat.intCast_eq_zero_iff.mp z)
theorem bd_neg {B : Nat} {m : Int} (h : Bd B m) : Bd B (-m) := h.neg
theorem CD.scale {B : Nat} {row : List Rat} {p : Rat} (h : CD B row) (hp : p ∈ row) (hz : p ≠ 0) : CD B (scaleR row p) := by
  obtain ⟨D, h1, h2, h3⟩ := h
  obtain ⟨a, ha, ea⟩ := h3 p hp
  have hD := rat_ne (a := D) (by omega)
  rw [divInt_rat] at ea
  have ha0 : a ≠ 0 := fun z => hz (by rw [ea, z]; grind)
  have ha1 := rat_ne ha0
  by_cases hs : 0 < a
  · refine ⟨a, hs, ha, fun q hq => ?_⟩
    obtain ⟨q0, hq0, rfl⟩ := List.mem_map.mp hq
    obtain ⟨m, hm, em⟩ := h3 q0 hq0
    refine ⟨m, hm, ?_⟩
    rw [divInt_rat] at em ⊢
    rw [em, ea]
    grind
  · refine ⟨-a, by omega, bd_neg ha, fun q hq => ?_⟩
    obtain ⟨q0, hq0, rfl⟩ := List.mem_map.mp hq
    obtain ⟨m, hm, em⟩ := h3 q0 hq0
    refine ⟨-m, bd_neg hm, ?_⟩
    rw [divInt_rat] at em ⊢
    rw [em, ea, Rat.intCast_neg, Rat.intCast_neg]
    grind
theorem CD.clear {B : Nat} {row lead : List Rat} {k : Nat} (h : CD B row) (hl : CD B lead) (hk : k < row.length) : CD (2 * B + 1) (clearR row lead k) := by
  obtain ⟨D, h1, h2, h3⟩ := h
  obtain ⟨L, l1, l2, l3⟩ := hl
  have hD := rat_ne (a := D) (by omega)
  have hL := rat_ne (a := L) (by omega)
  have hc : row.getD k 0 ∈ row := by
    have e : row.getD k 0 = row[k] := by simp [List.getD_eq_getElem?_getD, List.getElem?_eq_getElem, hk]
    rw [e]; exact List.getElem_mem _
  obtain ⟨c, hc1, ec⟩ := h3 _ hc
  refine ⟨D * L, Int.mul_pos h1 l1, (h2.mul l2).mono (by omega), fun q hq => ?_⟩
  obtain ⟨p, hp, rfl⟩ := List.mem_map.mp hq
  obtain ⟨m, hm, em⟩ := h3 p.1 (List.of_mem_zip hp).1
  obtain ⟨l, hl, el⟩ := l3 p.2 (List.of_mem_zip hp).2
  refine ⟨m * L - c * l, ((hm.mul l2).sub (hc1.mul hl)).mono (by omega), ?_⟩
  rw [divInt_rat] at em el ec ⊢
  rw [em, el, ec, Rat.intCast_sub, Rat.intCast_mul, Rat.intCast_mul, Rat.intCast_mul]
  grind
def bitsG (B : Nat) : Nat → Nat
  | 0 => B
  | i + 1 => 2 * bitsG B i + 1
theorem bitsG_le {B : Nat} (h : B ≤ 40) : ∀ i, i ≤ 6 → bitsG B i ≤ 2623 ∧ (i ≤ 5 → bitsG B i ≤ 1311) := by
  have e0 : bitsG B 0 = B := rfl
  have e1 : bitsG B 1 = 2 * B + 1 := rfl
  have e2 : bitsG B 2 = 2 * (2 * B + 1) + 1 := rfl
  have e3 : bitsG B 3 = 2 * (2 * (2 * B + 1) + 1) + 1 := rfl
  have e4 : bitsG B 4 = 2 * (2 * (2 * (2 * B + 1) + 1) + 1) + 1 := rfl
  have e5 : bitsG B 5 = 2 * (2 * (2 * (2 * (2 * B + 1) + 1) + 1) + 1) + 1 := rfl
  have e6 : bitsG B 6 = 2 * (2 * (2 * (2 * (2 * (2 * B + 1) + 1) + 1) + 1) + 1) + 1 := rfl
  intro i hi
  have : i = 0 ∨ i = 1 ∨ i = 2 ∨ i = 3 ∨ i = 4 ∨ i = 5 ∨ i = 6 := by omega
  rcases this with rfl | rfl | rfl | rfl | rfl | rfl | rfl <;> omega
theorem getD_mem {row : List Rat} {j : Nat} (h : j < row.length) : row.getD j 0 ∈ row := by
  have e : row.getD j 0 = row[j] := by simp [List.getD_eq_getElem?_getD, List.getElem?_eq_getElem, h]
  rw [e]; exact List.getElem_mem _
theorem step_cd {n m B : Nat} {t : List (List Rat)} (h : Sh n m t) {k p : Nat} (hp : p < n) (hm : k < m) (hz : En t p k ≠ 0) (hc : ∀ r ∈ t, CD B r) : ∀ r ∈ stepT t k p, CD (2 * B + 1) r := by
  have hl : CD B (leadT t k p) := (hc _ (h.get hp).1).scale (getD_mem (by rw [(h.get hp).2]; exact hm)) hz
  intro r hr
  rcases step_mem.mp hr with rfl | ⟨s, hs, rfl⟩
  · exact hl.mono (by omega)
  · exact (hc s (others_mem hs)).clear hl (by rw [h.row s (others_mem hs)]; exact hm)
structure GOk (n m B : Nat) (t : List (List Rat)) (i : Nat) (u : List (List Rat)) : Prop where
  sh : Sh n m u
  un : Un n i u
  cd : ∀ r ∈ u, CD (bitsG B i) r
  zr : ∀ z, Zr u z ↔ Zr t z
theorem leadOf_some {n m : Nat} {t : List (List Rat)} (h : Sh n m t) {k p : Nat} (e : leadOf t k = some p) : k ≤ p ∧ p < n ∧ En t p k ≠ 0 ∧ ∀ j, k ≤ j → j < p → En t j k = 0 := by
  obtain ⟨a, b, c, d⟩ := leadGo_some e
  rw [h.len] at b
  exact ⟨a, by omega, c, d⟩
theorem leadOf_none {n m : Nat} {t : List (List Rat)} (h : Sh n m t) {k : Nat} (e : leadOf t k = none) : ∀ j, k ≤ j → j < n → En t j k = 0 := by
  have d := leadGo_none e
  rw [h.len] at d
  exact fun j h1 h2 => d j h1 (by omega)
theorem gj_ok {n m B : Nat} {t : List (List Rat)} (h : Sh n m t) (hm : n ≤ m) (hc : ∀ r ∈ t, CD B r) : ∀ i, i ≤ n → ∀ u, gj t i = some u → GOk n m B t i u
  | 0, _, u, e => by
    cases e
    exact ⟨h, fun i j _ hj => absurd hj (Nat.not_lt_zero _), hc, fun z => Iff.rfl⟩
  | i + 1, hi, u, e => by
    unfold gj at e
    split at e
    · cases e
    · rename_i v hv
      have g := gj_ok h hm hc i (by omega) v hv
      split at e
      · cases e
      · rename_i p hp
        cases e
        obtain ⟨a, b, c, _⟩ := leadOf_some g.sh hp
        exact ⟨step_sh g.sh (by omega) b, step_un g.sh a b hm c g.un, step_cd g.sh b (by omega) c g.cd, fun z => (step_zr g.sh b c).trans (g.zr z)⟩
/-! solutions -/
theorem dot_append : ∀ (a c b d : List Rat), a.length = c.length → dot (a ++ b) (c ++ d) = dot a c + dot b d := fun a c b d h => by
  unfold dot
  rw [List.zip_append h, List.map_append, List.sum_append]
theorem dot_zero : ∀ (row z : List Rat), (∀ j, j < row.length → row.getD j 0 = 0) → dot row z = 0
  | [], z, _ => rfl
  | a :: r, [], _ => dot_nilR _
  | a :: r, b :: z, h => by
    have h0 : a = 0 := h 0 (Nat.succ_pos _)
    rw [dot_cons, dot_zero r z fun j hj => h (j + 1) (Nat.succ_lt_succ hj), h0]
    grind
theorem dot_sel : ∀ (row z : List Rat) (i : Nat), row.length = z.length → i < row.length → (∀ j, j < row.length → j ≠ i → row.getD j 0 = 0) → dot row z = row.getD i 0 * z.getD i 0
  | [], z, i, _, h, _ => by cases h
  | a :: r, [], i, h, _, _ => by cases h
  | a :: r, b :: z, 0, hl, _, h => by
    rw [dot_cons, dot_zero r z fun j hj => h (j + 1) (Nat.succ_lt_succ hj) (by omega)]
    show _ = a * b
    grind
  | a :: r, b :: z, i + 1, hl, hi, h => by
    have h0 : a = 0 := h 0 (Nat.succ_pos _) (by omega)
    rw [dot_cons, dot_sel r z i (Nat.succ.inj hl) (Nat.lt_of_succ_lt_succ hi) fun j hj hne => h (j + 1) (Nat.succ_lt_succ hj) (by omega), h0]
    show _ = r.getD i 0 * z.getD i 0
    grind
theorem dot_zeroR : ∀ (row : List Rat) (m : Nat), dot row (List.replicate m 0) = 0
  | [], _ => rfl
  | a :: r, 0 => dot_nilR _
  | a :: r, m + 1 => by
    rw [List.replicate_succ, dot_cons, dot_zeroR r m]
    grind
theorem getD_take {row : List Rat} {n j : Nat} (h : j < n) : (row.take n).getD j 0 = row.getD j 0 := by
  rw [List.getD_eq_getElem?_getD, List.getElem?_take, if_pos h, ← List.getD_eq_getElem?_getD]
def lastC (n : Nat) (u : List (List Rat)) : List Rat := (List.range n).map fun i => En u i n
theorem lastC_len (n : Nat) (u : List (List Rat)) : (lastC n u).length = n := by unfold lastC; rw [List.length_map, List.length_range]
theorem lastC_get {n : Nat} {u : List (List Rat)} {i : Nat} (h : i < n) : (lastC n u).getD i 0 = En u i n := by
  unfold lastC
  simp [List.getD_eq_getElem?_getD, List.getElem?_range, h]
theorem ext_getD {a b : List Rat} (h : a.length = b.length) (e : ∀ i, i < a.length → a.getD i 0 = b.getD i 0) : a = b := by
  apply List.ext_getElem h
  intro i h1 h2
  have := e i h1
  simpa [List.getD_eq_getElem?_getD, List.getElem?_eq_getElem, h1, h2] using this
theorem row_mem {n m : Nat} {u : List (List Rat)} (h : Sh n m u) {r : List Rat} (hr : r ∈ u) : ∃ i, i < n ∧ r = u.getD i [] := by
  obtain ⟨i, hi, e⟩ := List.getElem_of_mem hr
  exact ⟨i, by rw [← h.len]; exact hi, by rw [← e]; simp [List.getD_eq_getElem?_getD, List.getElem?_eq_getElem, hi]⟩
theorem split_last {n : Nat} {r : List Rat} (h : r.length = n + 1) : r = r.take n ++ [r.getD n 0] := by
  have e : r.getD n 0 = r[n] := by simp [List.getD_eq_getElem?_getD, List.getElem?_eq_getElem, h]
  have e2 := List.take_append_drop n r
  have e3 : r.drop n = [r[n]] := by
    rw [List.drop_eq_getElem_cons (by omega)]
    rw [List.drop_eq_nil_of_le (by omega)]
  rw [e3] at e2
  rw [e]
  exact e2.symm
/-- when all columns are done: one solution -/
theorem gj_sol {n B : Nat} {t u : List (List Rat)} (g : GOk n (n + 1) B t n u) {y : List Rat} (hy : y.length = n) : Zr t (y ++ [-1]) ↔ y = lastC n u := by
  rw [← g.zr]
  have key : ∀ i, i < n → dot (u.getD i []) (y ++ [-1]) = y.getD i 0 - En u i n := by
    intro i hi
    have hl := (g.sh.get hi).2
    rw [split_last hl, dot_append _ _ _ _ (by rw [List.length_take, hl, hy]; omega), dot_cons, dot_nil]
    have hs := dot_sel ((u.getD i []).take n) y i (by rw [List.length_take, hl, hy]; omega) (by rw [List.length_take, hl]; omega) (fun j hj hne => by
      rw [List.length_take, hl] at hj
      rw [getD_take (by omega)]
      have := g.un i j hi (by omega)
      rw [if_neg (by omega)] at this
      exact this)
    rw [hs, getD_take hi]
    have h1 := g.un i i hi hi
    rw [if_pos rfl] at h1
    have h2 : (u.getD i []).getD i 0 = 1 := h1
    rw [h2]
    show _ = _ - (u.getD i []).getD n 0
    grind
  constructor
  · intro h
    refine ext_getD (by rw [hy, lastC_len]) fun i hi => ?_
    rw [hy] at hi
    have h1 := key i hi
    rw [h _ (g.sh.get hi).1] at h1
    rw [lastC_get hi]
    grind
  · intro h r hr
    obtain ⟨i, hi, rfl⟩ := row_mem g.sh hr
    rw [key i hi, h, lastC_get hi]
    grind
/-- no leading row: more than one or none -/
theorem gj_ker {n B k : Nat} {t u : List (List Rat)} (g : GOk n (n + 1) B t k u) (hk : k < n) (e : leadOf u k = none) : ∃ y : List Rat, y.length = n ∧ y.getD k 0 = 1 ∧ Zr t (y ++ [0]) := by
  have hz := leadOf_none g.sh e
  refine ⟨((List.range k).map fun j => -(En u j k)) ++ (1 :: List.replicate (n - k - 1) 0), ?_, ?_, ?_⟩
  · rw [List.length_append, List.length_map, List.length_range, List.length_cons, List.length_replicate]; omega
  · rw [List.getD_eq_getElem?_getD, List.getElem?_append_right (by rw [List.length_map, List.length_range]; exact Nat.le_refl _), List.length_map, List.length_range, Nat.sub_self]
    rfl
  · rw [← g.zr]
    intro r hr
    obtain ⟨i, hi, rfl⟩ := row_mem g.sh hr
    have hl := (g.sh.get hi).2
    have e1 : (((List.range k).map fun j => -(En u j k)) ++ (1 :: List.replicate (n - k - 1) 0)) ++ [0] = ((List.range k).map fun j => -(En u j k)) ++ (1 :: List.replicate (n - k) 0) := by
      rw [List.append_assoc, List.cons_append, ← List.replicate_succ']
      congr 3
      omega
    have hr1 : u.getD i [] = (u.getD i []).take k ++ ((u.getD i []).getD k 0 :: (u.getD i []).drop (k + 1)) := by
      have e4 : (u.getD i []).getD k 0 = (u.getD i [])[k]'(by omega) := getD_get (by omega)
      rw [e4, List.getElem_cons_drop, List.take_append_drop]
    have hd : dot ((u.getD i []).take k) ((List.range k).map fun j => -(En u j k)) = -(En u i k) := by
      by_cases hik : i < k
      · rw [dot_sel _ _ i (by rw [List.length_take, hl, List.length_map, List.length_range]; omega) (by rw [List.length_take, hl]; omega) (fun j hj hne => by
          rw [List.length_take, hl] at hj
          rw [getD_take (by omega)]
          have := g.un i j hi (by omega)
          rw [if_neg (by omega)] at this
          exact this), getD_take hik]
        have h1 := g.un i i hi hik
        rw [if_pos rfl] at h1
        have h2 : (u.getD i []).getD i 0 = 1 := h1
        rw [h2]
        have h3 : ((List.range k).map fun j => -(En u j k)).getD i 0 = -(En u i k) := by
          simp [List.getD_eq_getElem?_getD, List.getElem?_range, hik]
        rw [h3]
        grind
      · rw [hz i (by omega) hi, dot_zero _ _ fun j hj => by
          rw [List.length_take, hl] at hj
          rw [getD_take (by omega)]
          have := g.un i j hi (by omega)
          rw [if_neg (by omega)] at this
          exact this]
        grind
    rw [e1]
    conv => lhs; rw [hr1]
    rw [dot_append _ _ _ _ (by rw [List.length_take, hl, List.length_map, List.length_range]; omega), dot_cons, dot_zeroR, hd]
    show -(En u i k) + (En u i k * 1 + 0) = 0
    grind
end RP

set_option Elab.async false
set_option linter.all false
set_option maxRecDepth 100000
set_option maxHeartbeats 2000000
namespace RP
open PySem PySem.Spec PyProof.Rows L2
theorem pa_starK {X : Cx} {e : Expr} {es : List Expr} {te : TE} {t : TA} {p : Pos} (K : PySem.W.Frag) (h : X.K = K) (he : PE X e te) (hr : PA X es t) (hs : starEach (e.Starred p :: es) X.env = (true, eval e X.env) :: starEach es X.env := by rfl) : PA X (e.Starred p :: es) (StX.tStar K te t) := by
  subst h; exact StX.pa_star he hr hs
section
variable {K : PySem.W.Frag} {S : Sg} {te : TE} {tr : TA} {as bs : List RD}
theorem aa_star (h : AE K te S (.lst as)) (hr : AA K tr S bs) : AA K (StX.tStar K te tr) S (as ++ bs) := fun G0 H0 G H σ A Q q =>
  h G0 H0 G H σ A _ fun v G1 H1 s1 r1 => by
    obtain ⟨p, xs, rfl, hs, ha⟩ := r1.lst_inv
    exact ⟨p, xs, rfl, .inr (Evl.sq_of (s1.s _ _ hs)), hr G0 H0 G1 H1 σ (A.ext s1) _ fun ys G2 H2 s2 r2 => q _ G2 H2 (s1.trans s2) ((ha.mono s2.g).append r2)⟩
end
/-! slices at a place -/
theorem cut_to {ds : List RD} {p : Nat} (h : p ≤ ds.length) : cutD ds none (some (p : Int)) = ds.take p := by
  have e1 : HT.sIx ds.length 0 none = 0 := rfl
  have e2 : HT.sIx ds.length ds.length (some (p : Int)) = p := by
    show (if (p : Int) < 0 then ((p : Int) + (ds.length : Int)).toNat else min (p : Int).toNat ds.length) = p
    rw [if_neg (by omega)]
    omega
  unfold cutD
  rw [e1, e2, List.drop_zero, Nat.sub_zero]
theorem cut_from {ds : List RD} {p : Nat} {i : Int} (hi : i = (p : Int)) (h : p ≤ ds.length) : cutD ds (some i) none = ds.drop p := by
  subst hi
  have e1 : HT.sIx ds.length ds.length none = ds.length := rfl
  have e2 : HT.sIx ds.length 0 (some (p : Int)) = p := by
    show (if (p : Int) < 0 then ((p : Int) + (ds.length : Int)).toNat else min (p : Int).toNat ds.length) = p
    rw [if_neg (by omega)]
    omega
  unfold cutD
  rw [e1, e2]
  exact List.take_of_length_le (by rw [List.length_drop]; exact Nat.le_refl _)
theorem cut_all0 {ds : List RD} : cutD ds none none = ds := by
  have e1 : HT.sIx ds.length ds.length none = ds.length := rfl
  have e2 : HT.sIx ds.length 0 none = 0 := rfl
  unfold cutD
  rw [e1, e2, List.drop_zero, Nat.sub_zero, List.take_length]
/-! entries of rows -/
theorem atI_getD {xs : List Rat} {j : Nat} (h : j < xs.length) : atI xs (j : Int) = some (xs.getD j 0) := by rw [atI_nat' h, getD_get h]
theorem atI_row {n m : Nat} {t : List (List Rat)} (h : Sh n m t) {i : Nat} (hi : i < n) : atI (t.map eL) (i : Int) = some (eL (t.getD i [])) := by
  have hi2 : i < t.length := by rw [h.len]; exact hi
  have e : t.getD i [] = t[i] := by simp [List.getD_eq_getElem?_getD, List.getElem?_eq_getElem, hi2]
  rw [e]
  exact atI_map (atI_nat' hi2)
theorem atI_last {α : Type} {xs : List α} {n : Nat} (h : xs.length = n + 1) : atI xs (-1) = some (xs[n]'(by omega)) := by
  have e : ixN xs.length (-1) = some n := by
    unfold ixN
    rw [h]
    simp
    try omega
  unfold atI
  rw [e]
  exact List.getElem?_eq_getElem (by omega)
section
variable {K : PySem.W.Frag} {S : Sg} {te ta tb : TE}
theorem ae_row {n m : Nat} {t : List (List Rat)} (h : Sh n m t) {i : Nat} (hi : i < n) (h1 : AE K ta S (eM t)) (h2 : AE K tb S (.int (i : Int))) : AE K (tOp (rIx K) ta tb) S (eL (t.getD i [])) :=
  ae_op h1 h2 (ro_ixsL (atI_row h hi))
theorem ae_at {xs : List Rat} {j : Nat} (hj : j < xs.length) (h1 : AE K ta S (eL xs)) (h2 : AE K tb S (.int (j : Int))) : AE K (tOp (rIx K) ta tb) S (eQ (xs.getD j 0)) :=
  ae_op h1 h2 (ro_ixsL (atI_mapQ (atI_getD hj)))
theorem ae_en {n m : Nat} {t : List (List Rat)} (h : Sh n m t) {i j : Nat} (hi : i < n) (hj : j < m) {tc : TE} (h1 : AE K ta S (eM t)) (h2 : AE K tb S (.int (i : Int))) (h3 : AE K tc S (.int (j : Int))) : AE K (tOp (rIx K) (tOp (rIx K) ta tb) tc) S (eQ (En t i j)) :=
  ae_at (by rw [(h.get hi).2]; exact hj) (ae_row h hi h1 h2) h3
end
/-! the way of the elimination -/
theorem gj_mono {t : List (List Rat)} : ∀ {n : Nat} {u : List (List Rat)}, gj t n = some u → ∀ i, i ≤ n → ∃ v, gj t i = some v
  | 0, u, h, i, hi => by
    have : i = 0 := by omega
    subst this
    exact ⟨t, rfl⟩
  | n + 1, u, h, i, hi => by
    by_cases e : i = n + 1
    · subst e; exact ⟨u, h⟩
    · unfold gj at h
      split at h
      · cases h
      · rename_i v hv
        exact gj_mono hv i (by omega)
theorem gj_first {t : List (List Rat)} : ∀ {n : Nat}, gj t n = none → ∃ m u, m < n ∧ gj t m = some u ∧ leadOf u m = none
  | 0, h => by cases h
  | n + 1, h => by
    unfold gj at h
    split at h
    · rename_i hv
      obtain ⟨m, u, a, b, c⟩ := gj_first hv
      exact ⟨m, u, by omega, b, c⟩
    · rename_i v hv
      split at h
      · rename_i hl
        exact ⟨n, v, Nat.lt_succ_self _, hv, hl⟩
      · cases h
theorem gj_step {t u v : List (List Rat)} {i : Nat} (h : gj t i = some u) (h2 : gj t (i + 1) = some v) : ∃ p, leadOf u i = some p ∧ v = stepT u i p := by
  unfold gj at h2
  rw [h] at h2
  simp only at h2
  split at h2
  · cases h2
  · rename_i p hp
    cases h2
    exact ⟨p, hp, rfl⟩
def augT (rows : List (List Rat)) (right : List Rat) : List (List Rat) := (rows.zip right).map fun p => p.1 ++ [p.2]
theorem aug_sh {n : Nat} {rows : List (List Rat)} {right : List Rat} (h : Sh n n rows) (hr : right.length = n) : Sh n (n + 1) (augT rows right) := by
  refine ⟨?_, fun r hr2 => ?_⟩
  · unfold augT
    rw [List.length_map, List.length_zip, h.len, hr]
    omega
  · obtain ⟨p, hp, rfl⟩ := List.mem_map.mp hr2
    rw [List.length_append, h.row _ (List.of_mem_zip hp).1]
    rfl
def solveR (C : Addr) (n : Nat) (t : List (List Rat)) : Res := match gj t n with
  | some u => .ok (eL (lastC n u))
  | none => .exc (.ref C)
/-! all -/
section
variable {K : PySem.W.Frag} {G : Hp}
theorem bls_inv : ∀ {bs : List Bool} {vs : List V}, RpAll K G vs (bs.map RD.bl) → vs = bs.map V.bl
  | [], _, h => by cases h; rfl
  | b :: bs, _, h => by
    cases h with
    | cons a r => cases a; rw [bls_inv r]; rfl
theorem rc_all {bs : List Bool} : RC K (rAll K) [.lst (bs.map RD.bl)] (.bl (bs.all id)) := fun G H vs e r Q q => by
  cases r with
  | cons a r =>
    cases r
    obtain ⟨p, xs, rfl, hs, ha⟩ := a.lst_inv
    have := bls_inv ha
    subst this
    exact ⟨p, bs, rfl, Evl.sq_of (e _ _ hs), q _ G H (.refl e) (.bl _)⟩
end
/-! sizes without sign -/
def absQ (q : Rat) : Rat := if q.num < 0 then -q else q
theorem absQ_num (q : Rat) : (absQ q).num = (q.num.natAbs : Int) := by
  unfold absQ
  split
  · rw [Rat.neg_num]; omega
  · omega
theorem absQ_den (q : Rat) : (absQ q).den = q.den := by
  unfold absQ
  split
  · rw [Rat.neg_den]
  · rfl
theorem eQ_abs (q : Rat) : eQ (absQ q) = .tup [.int (q.num.natAbs : Int), .int (q.den : Int)] := by
  unfold eQ
  rw [absQ_num, absQ_den]
theorem absQ_bt {B : Nat} {q : Rat} (h : Bt B q) : Bt B (absQ q) := by
  refine ⟨?_, by rw [absQ_den]; exact h.2⟩
  rw [absQ_num]
  exact .of (by rw [Int.natAbs_natCast]; exact h.1.lt)
theorem absQ_nonneg (q : Rat) : 0 ≤ absQ q := by
  rw [← Rat.num_nonneg, absQ_num]
  omega
theorem absQ_eq (q : Rat) : absQ q = if q < 0 then -q else q := by
  unfold absQ
  have e : (q.num < 0) ↔ q < 0 := by
    rw [← Rat.not_le, ← Rat.num_nonneg]
    omega
  by_cases h : q < 0
  · rw [if_pos h, if_pos (e.mpr h)]
  · rw [if_neg h, if_neg (fun z => h (e.mp z))]
theorem getD_mapQ {row : List Rat} {i : Nat} (h : i < row.length) : (row.map eQ).getD i RD.non = eQ (row.getD i 0) := by
  rw [List.getD_eq_getElem?_getD, List.getElem?_map, List.getElem?_eq_getElem h, getD_get h]
  rfl
/-- the sum of the others' sizes, by the first i -/
def offI (row : List Rat) (k : Nat) : Nat → Rat
  | 0 => 0
  | i + 1 => if i = k then offI row k i else offI row k i + absQ (row.getD i 0)
theorem offI_bt {row : List Rat} {B k : Nat} (h : BL B row) : ∀ i, i ≤ row.length → Bt (i * (B + 1) + 1) (offI row k i)
  | 0, _ => bt_zero (by omega)
  | i + 1, hi => by
    have ih := offI_bt (k := k) h i (by omega)
    unfold offI
    have e : (i + 1) * (B + 1) = i * (B + 1) + (B + 1) := Nat.succ_mul ..
    split
    · exact ih.mono (by omega)
    · exact (ih.add (absQ_bt (h _ (getD_mem (by omega))))).mono (by omega)
def domB (n : Nat) (rows : List (List Rat)) : Bool := (List.range n).all fun i => decide (offI (rows.getD i []) i n < absQ (En rows i i))
end RP

set_option Elab.async false
set_option linter.all false
set_option maxRecDepth 100000
set_option maxHeartbeats 2000000
namespace RP
open PySem PySem.Spec PyProof.Rows L2
/-! ### a def that is run with no repr under way -/
/-- what a def's call does where nothing guards -/
def RunG (P : Program) (w : World) (K : PySem.W.Frag) (mg : Str → Option Value) (base : Heap) (CX : CXT) (k : Nat) (f : Addr) (fd : FuncData) (ps : List Str) (sp : Sp) : Prop :=
  ∀ (A : Around) (outer : List Env) (s : Shared) (H : Hp) (args : Args) (us : List Value) (vs : List V) (Q : VK) (E : XK),
    A.guards = some [] → Room k A → Env0 P w K mg base A outer s H → BindsTo s fd args (ps.zip us) → Vals vs us → sp vs H Q E →
      codeAny (model P w) A (Code.call (Value.ref f) args) (CR CX outer P w H s Q E) s
theorem runG_ok {P : Program} {w : World} {K : PySem.W.Frag} {mg : Str → Option Value} {base : Heap} {x qual : Str} {st : Stmt} {f : Addr} {fd : FuncData} {N ps : List Str} {k : Nat} {sp : Sp}
    (F : Fun K x qual st f fd) (S : FnScope N ps (defScope st)) (len : ∀ vs H Q E, sp vs H Q E → vs.length = ps.length)
    (hbody : ∀ (cdv : Value) (A : Around) (outer : List Env) (s : Shared) (H : Hp) (vs : List V) (Q : VK) (E : XK), A.guards = some [] →
      Room k (A.deeper (envOfC qual (defScope st) s.heap.objs.size f cdv)) → sp vs H Q E →
        ∃ t, PSs (cxOf (CX P w) P w K mg base N qual (defScope st) f cdv A outer s H E) (defBody st) t ∧ t { nx := fun _ H' => Q .non H', rt := Q } (L2.start N vs) H) :
    RunG P w K mg base (CX P w) (k + 1) f fd ps sp := by
  obtain ⟨oc, od, kV, doc, pm, an, cdv, ct, osl, rfl, lk, hcd⟩ := F.ex
  intro A outer s H args us vs Q E hg hr e0 hb r hsp
  have hl := len vs H Q E hsp
  have KX := PySem.W.Frag.In.keeps e0.mod.kin fun b o e => (e0.bs b o e).1
  have lim := Heap.NoLimit.keeps e0.mod.nolimit fun b o e => (e0.bs b o e).1
  refine codeAny_call_function hr.depth (KX f _ lk) rfl S.co S.gen rfl (PySem.W.codeRec_of KX hcd) (hb _ A.in1 _ _ ?_)
  refine wpAny_newFunctionEnv_cells S.kind (fun x hy => ?_) fun env he s1 z => ?_
  · rcases S.par x.1 (List.of_mem_zip (a := x.1) (b := x.2) hy).1 with q | q
    · exact .inl q
    · exact .inr ⟨q, PySem.W.cellsFrom_some _ _ _ (.inl q)⟩
  · subst he
    refine ⟨Heap.NoLimit.keeps lim z.toInCall.keep, codeAny_func ?_⟩
    obtain ⟨t, ht, hq⟩ := hbody cdv A outer s H vs Q E hg (hr.deeper _) hsp
    have I := inv_start (CX := CX P w) (E := E) S hr.hd e0 hl r z
    refine wpAny_mono (ht.run [] s1 (L2.start N vs) H _ I hq) (fun fl s' hs => ?_) (fun e s' hs => hs)
    cases fl with
    | next =>
      obtain ⟨σ', H', J, q⟩ := hs
      exact ⟨V.non, H', J.os, J.bare, J.base, J.hok, rfl, q⟩
    | ret u =>
      obtain ⟨v, σ', H', J, rv, q⟩ := hs
      exact ⟨v, H', J.os, J.bare, J.base, J.hok, rv, q⟩
    | brk => obtain ⟨_, _, _, q⟩ := hs; exact q.elim
    | cont => obtain ⟨_, _, _, q⟩ := hs; exact q.elim
/-- the law's call, from outside -/
theorem law_callG {P : Program} {w : World} {K : PySem.W.Frag} {mg mb : Str → Option Value} {CX : CXT} {k : Nat} {fa a : Addr} {fd : FuncData} {x : Str} {sp : Sp} {s₁ : Shared} {vs : List Value} {ns : List Int}
    (KX : K.In s₁.heap) (hns : s₁.heap.Ns mainGlobals mg) (hb : s₁.heap.Ns builtinsNs mb) (hbb : ∀ x, x ≠ Str.ofString "__name__" → mb x = bootBuiltins x) (hlim : s₁.heap.NoLimit) (hg : s₁.gens = #[])
    (ha : s₁.heap.get? a = some { cls := Value.type "list", data := Data.seq vs.toArray }) (hi : IntsAre vs ns) (hl : ns.length ≤ sizeLine) (hr : Room k callerA)
    (F : ∀ base : Heap, K.In base → base.Ns mainGlobals mg → RunG P w K mg base CX k fa fd [x] sp)
    (hbind : ∀ (s : Shared) (u : Value), BindsTo s fd { pos := [u] } [(x, u)])
    (hsp : ∀ H : Hp, Only H → SqL K H a (ns.map V.int) → sp [V.ref a] H (fun v _ => v = V.bl true) (fun _ _ _ => False))
    (hCX : ∀ (H : Hp) (e : Value) (s' : Shared), CX [] H s₁ (fun _ _ _ => False) e s' → False) :
    codeAny (model P w) callerA (Code.call (Value.ref fa) { pos := [Value.ref a] }) (fun r s' => r = .ok (.ret (.bool true)) ∧ OldK s₁.heap s'.heap ∧ s'.os = s₁.os ∧ AllBare s'.gens) s₁ := by
  have core : ∀ H : Hp, Only H → SqL K H a (ns.map V.int) → HOk P w H s₁.heap → (∀ b, H b ≠ none → b = a) → (H a ≠ none → List.lookup a K = none) →
      codeAny (model P w) callerA (Code.call (Value.ref fa) { pos := [Value.ref a] }) (fun r s' => r = .ok (.ret (.bool true)) ∧ OldK s₁.heap s'.heap ∧ s'.os = s₁.os ∧ AllBare s'.gens) s₁ := by
    intro H hO hS hok hA hK
    have other : ∀ {b : Addr}, b ≠ a → H b = none := fun {b} hne => by
      cases e : H b with
      | none => rfl
      | some u => exact absurd (hA b (by rw [e]; exact fun z => nomatch z)) hne
    have kin : K.In (hidT s₁.heap H) := fun b o e => by
      refine hidT_get (KX b o e) ?_
      by_cases h : b = a
      · subst h
        cases e2 : H b with
        | none => rfl
        | some u =>
          have := hK (by rw [e2]; exact fun z => nomatch z)
          rw [e] at this
          cases this
      · exact other h
    have nsK : ∀ {b : Addr} {m : Str → Option Value}, s₁.heap.Ns b m → (hidT s₁.heap H).Ns b m := fun {b m} h => by
      obtain ⟨o, es, ep, e, d, r⟩ := h
      refine ⟨o, es, ep, hidT_get e (other fun z => ?_), d, r⟩
      subst z
      rw [ha] at e
      cases e
      cases d
    have e0 : Env0 P w K mg (hidT s₁.heap H) callerA [] s₁ H :=
      ⟨rfl, ⟨kin, nsK hns, ⟨mb, nsK hb, hbb⟩, by obtain ⟨mc, h1, h2⟩ := hlim; exact ⟨mc, nsK h1, h2⟩⟩, fun b o e => of_hidT e, Nat.le_of_eq (hidT_size s₁.heap H), trivial, (fun b hb => nomatch hb), hok, AllBare.of_eq hg⟩
    refine codeAny_mono (F _ kin (nsK hns) callerA [] s₁ H _ [Value.ref a] [V.ref a] _ _ rfl hr e0 (hbind s₁ (Value.ref a)) (.cons rfl .nil) (hsp H hO hS)) fun r s' h => ?_
    cases r with
    | error e => exact (hCX H e s' h).elim
    | ok fl =>
      cases fl with
      | next => exact h.elim
      | brk => exact h.elim
      | cont => exact h.elim
      | ret u =>
        obtain ⟨v, H', os, bare, un, hok', rv, q⟩ := h
        subst q
        refine ⟨by rw [show u = Value.bool true from rv], OldK.of_keep fun b o e => ?_, os, bare⟩
        cases e1 : H b with
        | none => exact un.keep b o e e1 (fun z => nomatch z) (fun z => nomatch z)
        | some u2 =>
          rcases hO b with z | ⟨ob, xs, z⟩
          · rw [z] at e1; cases e1
          · have z2 := un.frzs b ob _ z
            have y1 := (hok b _ z).1
            have y2 := (hok' b _ z2).1
            rw [e] at y1
            cases y1
            exact y2
  have rv : Vals (ns.map V.int) vs := vals_ints hi
  have lenV : vs.length = ns.length := IntsAre.length hi
  cases hk : List.lookup a K with
  | none =>
    refine core (fun b => if b = a then some (HO.frz { cls := Value.type "list", data := Data.seq vs.toArray } (HO.lst (ns.map V.int))) else none) (fun b => ?_) (.inl (.inr ⟨_, if_pos rfl⟩)) (fun b u z => ?_) (fun b z => ?_) (fun _ => hk)
    · by_cases hb : b = a
      · exact .inr ⟨_, _, if_pos hb⟩
      · exact .inl (if_neg hb)
    · by_cases hb : b = a
      · have z' := (if_pos hb).symm.trans z
        cases z'
        subst hb
        exact ⟨ha, by rw [List.length_map]; exact hl, vs, _, rv, ha⟩
      · have z' := (if_neg hb).symm.trans z
        cases z'
    · by_cases hb : b = a
      · exact hb
      · exact absurd (if_neg hb) z
  | some o =>
    have e := KX a o hk
    rw [ha] at e
    cases e
    refine core (fun _ => none) (fun _ => .inl rfl) (.inr ⟨_, vs.toArray, _, hk, rfl, rfl, rfl, ?_, rv⟩) (fun b u z => nomatch z) (fun b z => absurd rfl z) (fun z => absurd rfl z)
    rw [List.size_toArray, lenV]
    exact hl
/-- the whole claim, from a law's run where nothing guards -/
theorem walk_ofG {l : PySem.W.OpenLaw} {n k : Nat} {q : Program} {loose : List Str} {XP : (Str → Option Value) → Heap → Prop} {YP : World → Heap → Prop} {d : DefRec} {K : Params → PySem.W.Frag} {CX : World → CXT} {sp : World → Sp} {x : Str}
    (hn : l.most = some n) (hn2 : n ≤ sizeLine) (hdf : d.params.defaults = []) (hr : Room k callerA) (hY : ∀ w h, YP w h → (K w.params).In h)
    (F : ∀ (w : World) (mg : Str → Option Value) (fa : Addr) (h : Heap), (K w.params).In h → h.Ns mainGlobals mg → mg d.name = some (Value.ref fa) →
      ∃ fd, (∀ (s : Shared) (u : Value), BindsTo s fd { pos := [u] } [(x, u)]) ∧ ∀ base : Heap, (K w.params).In base → base.Ns mainGlobals mg → RunG l.prog w (K w.params) mg base (CX w) k fa fd [x] (sp w))
    (hsp : ∀ (w : World) (H : Hp) (a : Addr) (ns : List Int), ns.length ≤ n → Only H → SqL (K w.params) H a (ns.map V.int) → sp w [V.ref a] H (fun v _ => v = V.bl true) (fun _ _ _ => False))
    (hCX : ∀ (w : World) (H : Hp) (s : Shared) (e : Value) (s' : Shared), CX w [] H s (fun _ _ _ => False) e s' → False) :
    PySem.W.WalkO q loose XP YP l.row.toRowW d [] fun f vs => PySem.call f vs :=
  Att.attach_call hn hdf fun w s₀ s₁ mg mb fa o pm cd doc a vs ns G Y ho hd hcd hmg hobj hints hlen hg => by
    have KX := hY w s₁.heap Y
    obtain ⟨fd, hb, hF⟩ := F w mg fa s₁.heap KX G.T.g hmg
    exact law_callG KX G.T.g G.T.b G.T.builtins G.T.nolimit hg hobj hints (Nat.le_trans hlen hn2) hr hF hb (fun H hO hS => hsp w H a ns hlen hO hS) (fun H e s' => hCX w H s₁ e s')
/-! ### repr of lists, where nothing guards -/
def rRepr (K : PySem.W.Frag) : List V → Hp → VK → Prop := fun xs H Q => ∃ (a : Addr) (p : PyData), xs = [V.ref a] ∧ Dp K H (V.ref a) p ∧ p.showable = true ∧ p.hasDict = false ∧ p.depth ≤ 64 ∧ p.shown.length ≤ sizeLine ∧ Q (V.str p.shown) H
theorem call_reprK {X : Cx} (K : PySem.W.Frag) (h : X.K = K) (hg : X.A.guards = some []) (hu : X.A.units + 66 < cLine) : CallR X (.builtin "repr") (rRepr K) := by
  subst h
  intro pins s σ H xs us Q I r h
  obtain ⟨a, p, rfl, hd, hs, hdc, hdp, hl, q⟩ := h
  cases r with
  | cons ra r =>
    cases r
    obtain ⟨as, hr⟩ := Dp.reads I p _ _ hd ra
    rename_i u
    have eu : u = Value.ref a := ra
    subst eu
    refine repr_of_reads' hr hs (fun z => ?_) hg (by omega) (fun b o e => e) (fun h' u tk hk => ?_) hl
    · rw [hdc] at z; cases z
    · exact ⟨V.str p.shown, H, I.turnedL (ch := []) (fun b o _ e => hk b o e) (fun b z => nomatch z), ⟨u, rfl⟩, q⟩
/-- data whose text is short enough -/
structure Rep (W D : Nat) (p : PyData) : Prop where
  ls : PyData.leavesShort 13 p = true
  sh : p.showable = true
  hd : p.hasDict = false
  wt : p.weight ≤ W
  dp : p.depth ≤ D
theorem Rep.mono {W D W' D' : Nat} {p : PyData} (h : Rep W D p) (a : W ≤ W') (b : D ≤ D') : Rep W' D' p := ⟨h.ls, h.sh, h.hd, Nat.le_trans h.wt a, Nat.le_trans h.dp b⟩
theorem rep_int {i : Int} (h : Bd 39 i) : Rep 39 0 (.int i) := by
  have hb := h.lt
  have hlog : i.natAbs.log2 < 39 := by
    by_cases z : i.natAbs = 0
    · rw [z]; decide
    · exact (Nat.log2_lt z).mpr hb
  refine ⟨?_, ?_, rfl, ?_, Nat.le_refl _⟩
  · have := PyData.intsShortAll_ints [i] (fun n hn => by
      rw [List.mem_singleton] at hn
      subst hn
      exact Nat.lt_of_lt_of_le hb (by decide))
    rw [PyData.leavesShort.eq_3]
    have e : PyData.intsShortAll 13 ([i].map PyData.int) = (decide ((PyData.int i).shown.length ≤ 13) && true) := rfl
    rw [e, Bool.and_true] at this
    exact this
  · show decide (i.natAbs.log2 < 1920) = true
    exact decide_eq_true (by omega)
  · rw [PyData.weight.eq_5]
    split <;> omega
theorem rep_all {W D : Nat} : ∀ {ps : List PyData}, (∀ p ∈ ps, Rep W D p) → PyData.leavesShortAll 13 ps = true ∧ PyData.showableAll ps = true ∧ PyData.hasDictAll ps = false ∧ PyData.weightAll ps ≤ ps.length * (W + 1) ∧ PyData.depthAll ps ≤ D
  | [], _ => ⟨rfl, rfl, rfl, Nat.zero_le _, Nat.zero_le _⟩
  | p :: ps, h => by
    obtain ⟨a, b, c, d, e⟩ := rep_all (ps := ps) fun x hx => h x (List.mem_cons_of_mem _ hx)
    have q := h p List.mem_cons_self
    refine ⟨?_, ?_, ?_, ?_, ?_⟩
    · show (PyData.leavesShort 13 p && PyData.leavesShortAll 13 ps) = true
      rw [q.ls, a]; rfl
    · show (p.showable && PyData.showableAll ps) = true
      rw [q.sh, b]; rfl
    · show (p.hasDict || PyData.hasDictAll ps) = false
      rw [q.hd, c]; rfl
    · rw [PyData.weightAll.eq_2, List.length_cons, Nat.succ_mul]
      have := q.wt
      omega
    · show max p.depth (PyData.depthAll ps) ≤ D
      have := q.dp
      omega
theorem rep_lst {W D : Nat} {ps : List PyData} (h : ∀ p ∈ ps, Rep W D p) : Rep (ps.length * (W + 1)) (D + 1) (.list ps) := by
  obtain ⟨a, b, c, d, e⟩ := rep_all h
  exact ⟨a, b, c, d, Nat.succ_le_succ e⟩
theorem rep_tup {W D : Nat} {ps : List PyData} (h : ∀ p ∈ ps, Rep W D p) : Rep (ps.length * (W + 1)) (D + 1) (.tuple ps) := by
  obtain ⟨a, b, c, d, e⟩ := rep_all h
  exact ⟨a, b, c, d, Nat.succ_le_succ e⟩
theorem rep_pQ {q : Rat} (h : Bt 39 q) : Rep 80 1 (pQ q) := by
  refine (rep_tup (W := 39) (D := 0) (ps := [.int q.num, .int (q.den : Int)]) fun p hp => ?_).mono (Nat.le_refl 80) (by decide)
  simp only [List.mem_cons, List.not_mem_nil, or_false] at hp
  rcases hp with rfl | rfl
  · exact rep_int h.1
  · exact rep_int h.2
theorem rep_pL {qs : List Rat} {n : Nat} (h : BL 39 qs) (hl : qs.length ≤ n) : Rep (n * 81) 2 (pL qs) := by
  refine (rep_lst (W := 80) (D := 1) (ps := qs.map pQ) fun p hp => ?_).mono ?_ (by decide)
  · obtain ⟨q, hq, rfl⟩ := List.mem_map.mp hp
    exact rep_pQ (h q hq)
  · rw [List.length_map]
    exact Nat.mul_le_mul_right _ hl
theorem rep_pM {rows : List (List Rat)} {n m : Nat} (h : BM 39 rows) (hr : ∀ r ∈ rows, r.length ≤ m) (hl : rows.length ≤ n) : Rep (n * (m * 81 + 1)) 3 (pM rows) := by
  refine (rep_lst (W := m * 81) (D := 2) (ps := rows.map pL) fun p hp => ?_).mono ?_ (by decide)
  · obtain ⟨q, hq, rfl⟩ := List.mem_map.mp hp
    exact rep_pL (h q hq) (hr q hq)
  · rw [List.length_map]
    exact Nat.mul_le_mul_right _ hl
section
variable {K : PySem.W.Frag} {S : Sg}
theorem rc_repr {ds : List RD} {p : PyData} {W D : Nat} (hp : RD.py (.lst ds) = some p) (h : Rep W D p) (hW : W ≤ 1000000) (hD : D ≤ 64) : RC K (rRepr K) [.lst ds] (.str p.shown) := fun G H vs e r Q q => by
  cases r with
  | cons x r =>
    cases r
    have hdp := dp_ex e x hp
    obtain ⟨a, xs, rfl, hs, ha⟩ := x.lst_inv
    exact ⟨a, p, rfl, hdp, h.sh, h.hd, Nat.le_trans h.dp hD, PyData.shown_fits (B := 13) (by decide) (by decide) h.ls (Nat.le_trans h.wt (Nat.le_trans hW (by decide))), q _ G H (.refl e) (.str _)⟩
end
theorem room66 {k : Nat} {A : Around} (r : Room k A) : A.units + 66 < cLine := by have := r.un; omega
/-! is not, of bools -/
def rNB : R2 := fun x y H Q => ∃ a b : Bool, x = V.bl a ∧ y = V.bl b ∧ Q (V.bl (!decide (a = b))) H
theorem op_notBl {X : Cx} : OpR X (compareOp .IsNot) rNB := by
  intro pins s σ H x y v u Q I rx ry h
  obtain ⟨a, b, rfl, rfl, q⟩ := h
  have e1 : v = Value.bool a := rx
  have e2 : u = Value.bool b := ry
  subst e1
  subst e2
  exact wpAny_isNot_plain rfl (fin_bl I q (by cases a <;> cases b <;> rfl))
theorem ro_notB {K : PySem.W.Frag} {a b : Bool} : RO K rNB (.bl a) (.bl b) (.bl (!decide (a = b))) := fun G H x y e hx hy Q k => by
  cases hx
  cases hy
  exact ⟨a, b, rfl, rfl, k _ G H (.refl e) (.bl _)⟩
end RP

set_option Elab.async false
set_option linter.all false
set_option maxRecDepth 100000
set_option maxHeartbeats 2000000
namespace RP
open PySem PySem.Spec PyProof.Rows L2
/-! ### rows whose own entry is greater than the others together -/
theorem abs_ge (q : Rat) : q ≤ absQ q := by
  rw [absQ_eq]
  split
  · grind
  · exact Rat.le_refl
theorem abs_neg_ge (q : Rat) : -q ≤ absQ q := by
  rw [absQ_eq]
  split
  · exact Rat.le_refl
  · grind
theorem mul_abs_le {a b M : Rat} (h : absQ b ≤ M) : a * b ≤ absQ a * M ∧ -(a * b) ≤ absQ a * M := by
  have h1 : b ≤ M := Rat.le_trans (abs_ge b) h
  have h2 : -b ≤ M := Rat.le_trans (abs_neg_ge b) h
  by_cases ha : a < 0
  · have e : absQ a = -a := by rw [absQ_eq, if_pos ha]
    have n : 0 ≤ -a := by grind
    have x1 := Rat.mul_le_mul_of_nonneg_left h1 n
    have x2 := Rat.mul_le_mul_of_nonneg_left h2 n
    rw [e]
    constructor <;> grind
  · have e : absQ a = a := by rw [absQ_eq, if_neg ha]
    have n : 0 ≤ a := by grind
    have x1 := Rat.mul_le_mul_of_nonneg_left h1 n
    have x2 := Rat.mul_le_mul_of_nonneg_left h2 n
    rw [e]
    constructor <;> grind
def dpI (row y : List Rat) : Nat → Rat
  | 0 => 0
  | i + 1 => dpI row y i + row.getD i 0 * y.getD i 0
theorem dpI_cons (a b : Rat) (r y : List Rat) : ∀ i, dpI (a :: r) (b :: y) (i + 1) = a * b + dpI r y i
  | 0 => by
    show 0 + a * b = a * b + 0
    grind
  | i + 1 => by
    show dpI (a :: r) (b :: y) (i + 1) + r.getD i 0 * y.getD i 0 = a * b + (dpI r y i + r.getD i 0 * y.getD i 0)
    rw [dpI_cons a b r y i]
    grind
theorem dpI_dot : ∀ (row y : List Rat), row.length = y.length → dpI row y row.length = dot row y
  | [], y, _ => rfl
  | a :: r, [], h => by cases h
  | a :: r, b :: y, h => by
    rw [List.length_cons, dpI_cons, dot_cons, dpI_dot r y (Nat.succ.inj h)]
theorem offI_nonneg (row : List Rat) (k : Nat) : ∀ i, 0 ≤ offI row k i
  | 0 => Rat.le_refl
  | i + 1 => by
    have ih := offI_nonneg row k i
    unfold offI
    split
    · exact ih
    · have := absQ_nonneg (row.getD i 0)
      grind
theorem dp_off {row y : List Rat} {k n : Nat} {M : Rat} (hM : ∀ j, j < n → absQ (y.getD j 0) ≤ M) : ∀ i, i ≤ n → (dpI row y i - (if k < i then row.getD k 0 * y.getD k 0 else 0)) ≤ offI row k i * M ∧ -(dpI row y i - (if k < i then row.getD k 0 * y.getD k 0 else 0)) ≤ offI row k i * M
  | 0, _ => by
    rw [if_neg (by omega)]
    unfold dpI offI
    constructor <;> grind
  | i + 1, hi => by
    obtain ⟨h1, h2⟩ := dp_off (row := row) (k := k) hM i (by omega)
    unfold dpI offI
    by_cases e : i = k
    · subst e
      rw [if_neg (by omega)] at h1 h2
      rw [if_pos (by omega), if_pos rfl]
      constructor <;> grind
    · rw [if_neg e]
      obtain ⟨m1, m2⟩ := mul_abs_le (a := row.getD i 0) (hM i (by omega))
      by_cases l : k < i
      · rw [if_pos l] at h1 h2
        rw [if_pos (by omega)]
        constructor <;> grind
      · rw [if_neg l] at h1 h2
        rw [if_neg (by omega)]
        constructor <;> grind
theorem max_at (y : List Rat) : ∀ n, 0 < n → ∃ k, k < n ∧ ∀ j, j < n → absQ (y.getD j 0) ≤ absQ (y.getD k 0)
  | 0, h => by omega
  | 1, _ => ⟨0, by omega, fun j hj => by
      have : j = 0 := by omega
      subst this
      exact Rat.le_refl⟩
  | n + 2, _ => by
    obtain ⟨k, hk, h⟩ := max_at y (n + 1) (by omega)
    by_cases c : absQ (y.getD (n + 1) 0) ≤ absQ (y.getD k 0)
    · refine ⟨k, by omega, fun j hj => ?_⟩
      by_cases e : j = n + 1
      · subst e; exact c
      · exact h j (by omega)
    · refine ⟨n + 1, by omega, fun j hj => ?_⟩
      by_cases e : j = n + 1
      · subst e; exact Rat.le_refl
      · have := h j (by omega)
        grind
theorem domB_at {n : Nat} {rows : List (List Rat)} (h : domB n rows = true) {i : Nat} (hi : i < n) : offI (rows.getD i []) i n < absQ (En rows i i) := by
  unfold domB at h
  rw [List.all_eq_true] at h
  exact of_decide_eq_true (h i (List.mem_range.mpr hi))
theorem abs_zero_iff {q : Rat} (h : absQ q ≤ 0) : q = 0 := by
  have h1 := Rat.le_trans (abs_ge q) h
  have h2 := Rat.le_trans (abs_neg_ge q) h
  grind
/-- dominant rows have nothing that they make zero -/
theorem dom_ker {n : Nat} {rows : List (List Rat)} (hs : Sh n n rows) (hd : domB n rows = true) {y : List Rat} (hy : y.length = n) (hz : ∀ r ∈ rows, dot r y = 0) : ∀ j, j < n → y.getD j 0 = 0 := by
  intro j hj
  obtain ⟨k, hk, hmax⟩ := max_at y n (by omega)
  have hg := hs.get hk
  have hdot := hz _ hg.1
  rw [← dpI_dot _ _ (by rw [hg.2, hy]), hg.2] at hdot
  have ho := dp_off (row := rows.getD k []) (y := y) (k := k) hmax n (Nat.le_refl _)
  rw [if_pos hk, hdot] at ho
  have hlt := domB_at hd hk
  have e1 : En rows k k = (rows.getD k []).getD k 0 := rfl
  rw [e1] at hlt
  generalize (rows.getD k []).getD k 0 = a at ho hlt
  generalize offI (rows.getD k []) k n = f at ho hlt
  apply abs_zero_iff
  refine Rat.le_trans (hmax j hj) ?_
  generalize y.getD k 0 = b at ho
  by_cases c : absQ b ≤ 0
  · exact c
  · exfalso
    have hpos : 0 < absQ b := by grind
    have m : f * absQ b < absQ a * absQ b := Rat.mul_lt_mul_of_pos_right hlt hpos
    have e2 : absQ a * absQ b = a * b ∨ absQ a * absQ b = -(a * b) := by
      rw [absQ_eq a, absQ_eq b]
      split <;> split
      · left; grind
      · right; grind
      · right; grind
      · left; grind
    rcases e2 with e | e <;> rw [e] at m <;> grind
/-! what solves, of the rows with their right sides -/
theorem aug_mem {n : Nat} {rows : List (List Rat)} {right : List Rat} (hs : Sh n n rows) (hr : right.length = n) {r : List Rat} : r ∈ augT rows right ↔ ∃ i, i < n ∧ r = rows.getD i [] ++ [right.getD i 0] := by
  have hl := hs.len
  unfold augT
  rw [List.mem_map]
  constructor
  · rintro ⟨p, hp, rfl⟩
    obtain ⟨i, hi, e⟩ := List.getElem_of_mem hp
    rw [List.length_zip] at hi
    have h1 : i < rows.length := by omega
    have h2 : i < right.length := by omega
    refine ⟨i, by omega, ?_⟩
    have e1 : rows.getD i [] = rows[i] := by simp [List.getD_eq_getElem?_getD, List.getElem?_eq_getElem, h1]
    rw [← e, e1, getD_get h2]
    simp
  · rintro ⟨i, hi, rfl⟩
    have h1 : i < rows.length := by omega
    have h2 : i < right.length := by omega
    have e1 : rows.getD i [] = rows[i] := by simp [List.getD_eq_getElem?_getD, List.getElem?_eq_getElem, h1]
    refine ⟨(rows[i], right[i]), ?_, by rw [e1, getD_get h2]⟩
    have hz : i < (rows.zip right).length := by rw [List.length_zip]; omega
    have e2 : (rows.zip right)[i] = (rows[i], right[i]) := by simp
    rw [← e2]
    exact List.getElem_mem _
theorem zr_aug {n : Nat} {rows : List (List Rat)} {right x : List Rat} {c : Rat} (hs : Sh n n rows) (hr : right.length = n) (hx : x.length = n) : Zr (augT rows right) (x ++ [c]) ↔ ∀ i, i < n → dot (rows.getD i []) x + right.getD i 0 * c = 0 := by
  have key : ∀ i, i < n → dot (rows.getD i [] ++ [right.getD i 0]) (x ++ [c]) = dot (rows.getD i []) x + right.getD i 0 * c := by
    intro i hi
    rw [dot_append _ _ _ _ (by rw [(hs.get hi).2, hx]), dot_cons, dot_nil]
    grind
  constructor
  · intro h i hi
    rw [← key i hi]
    exact h _ ((aug_mem hs hr).mpr ⟨i, hi, rfl⟩)
  · intro h r hr2
    obtain ⟨i, hi, rfl⟩ := (aug_mem hs hr).mp hr2
    rw [key i hi]
    exact h i hi
/-- nothing but zeros is made zero -/
def Ker0 (n : Nat) (rows : List (List Rat)) : Prop := ∀ y : List Rat, y.length = n → (∀ r ∈ rows, dot r y = 0) → ∀ j, j < n → y.getD j 0 = 0
theorem dom_ker0 {n : Nat} {rows : List (List Rat)} (hs : Sh n n rows) (hd : domB n rows = true) : Ker0 n rows := fun y hy hz => dom_ker hs hd hy hz
/-- then the elimination comes to its end, with the one solution -/
theorem solve_ex {n B : Nat} {rows : List (List Rat)} {right : List Rat} (hs : Sh n n rows) (hr : right.length = n) (hc : ∀ r ∈ augT rows right, CD B r) (hk : Ker0 n rows) :
    ∃ u, gj (augT rows right) n = some u ∧ GOk n (n + 1) B (augT rows right) n u ∧ ∀ y : List Rat, y.length = n → ((∀ i, i < n → dot (rows.getD i []) y = right.getD i 0) ↔ y = lastC n u) := by
  have ash := aug_sh hs hr
  have ok := gj_ok ash (Nat.le_succ n) hc
  cases e : gj (augT rows right) n with
  | none =>
    exfalso
    obtain ⟨m, u, hm, hu, hl⟩ := gj_first e
    obtain ⟨y, hy, h1, hz⟩ := gj_ker (ok m (by omega) u hu) hm hl
    have hz2 := (zr_aug hs hr hy).mp hz
    have := hk y hy (fun r hr2 => by
      obtain ⟨i, hi, rfl⟩ := row_mem hs hr2
      have := hz2 i hi
      grind) m hm
    rw [h1] at this
    exact absurd this (by decide)
  | some u =>
    have g := ok n (Nat.le_refl n) u e
    refine ⟨u, rfl, g, fun y hy => ?_⟩
    rw [← gj_sol g hy, zr_aug hs hr hy]
    constructor
    · intro h i hi
      have := h i hi
      grind
    · intro h i hi
      have := h i hi
      grind
def rotT {α : Type} (t : Nat) (xs : List α) : List α := xs.drop t ++ xs.take t
theorem rotT_mem {α : Type} {t : Nat} {xs : List α} {x : α} : x ∈ rotT t xs ↔ x ∈ xs := by
  unfold rotT
  rw [List.mem_append]
  conv => rhs; rw [← List.take_append_drop t xs, List.mem_append]
  exact or_comm
theorem rotT_len {α : Type} {t : Nat} {xs : List α} : (rotT t xs).length = xs.length := by
  unfold rotT
  rw [List.length_append, List.length_drop, List.length_take]
  omega
def mulL (p : Rat) (xs : List Rat) : List Rat := xs.map fun v => p * v
theorem mulL_len (p : Rat) (xs : List Rat) : (mulL p xs).length = xs.length := List.length_map ..
theorem dot_mulL (p : Rat) : ∀ (row z : List Rat), dot (mulL p row) z = p * dot row z
  | [], z => by
    show (0 : Rat) = p * dot [] z
    rw [dot_nil]
    grind
  | a :: r, [] => by
    rw [dot_nilR, dot_nilR]
    grind
  | a :: r, b :: z => by
    have h := dot_mulL p r z
    show dot ((p * a) :: mulL p r) (b :: z) = _
    rw [dot_cons, dot_cons, h]
    grind
theorem dot_mulR (p : Rat) : ∀ (row z : List Rat), dot row (mulL p z) = p * dot row z
  | [], z => by
    rw [dot_nil, dot_nil]
    grind
  | a :: r, [] => by
    show dot (a :: r) [] = _
    rw [dot_nilR]
    grind
  | a :: r, b :: z => by
    have h := dot_mulR p r z
    show dot (a :: r) ((p * b) :: mulL p z) = _
    rw [dot_cons, dot_cons, h]
    grind
theorem getD_mulL {p : Rat} {xs : List Rat} {i : Nat} (h : i < xs.length) : (mulL p xs).getD i 0 = p * xs.getD i 0 := getD_map0 h
theorem aug_turn {t : Nat} {p : Rat} {rows : List (List Rat)} {right : List Rat} (hl : rows.length = right.length) : augT ((rotT t rows).map (mulL p)) (mulL p (rotT t right)) = (rotT t (augT rows right)).map (mulL p) := by
  have e : (rotT t rows).zip (rotT t right) = rotT t (rows.zip right) := by
    unfold rotT
    rw [List.zip_append (by rw [List.length_drop, List.length_drop, hl])]
    congr 1
    · simp [List.zip, List.drop_zipWith]
    · simp [List.zip, List.take_zipWith]
  unfold augT
  unfold mulL
  rw [List.zip_map, e, List.map_map]
  unfold rotT
  have ef : ((fun q : List Rat × Rat => q.1 ++ [q.2]) ∘ Prod.map (fun xs => List.map (fun v => p * v) xs) fun v => p * v) = ((fun xs => List.map (fun v => p * v) xs) ∘ fun q : List Rat × Rat => q.1 ++ [q.2]) := by
    funext q
    simp
  simp only [List.map_append, List.map_drop, List.map_take, List.map_map, ef]
/-! parts of 2520 -/
def E25 (N : Nat) (q : Rat) : Prop := ∃ m : Int, m.natAbs ≤ N ∧ q = Rat.divInt m 2520
theorem E25.mono {N M : Nat} {q : Rat} (h : E25 N q) (l : N ≤ M) : E25 M q := by
  obtain ⟨m, a, b⟩ := h
  exact ⟨m, Nat.le_trans a l, b⟩
theorem e25_zero {N : Nat} : E25 N 0 := ⟨0, Nat.zero_le _, by rw [Rat.zero_divInt]⟩
theorem E25.add {N M : Nat} {p q : Rat} (h : E25 N p) (k : E25 M q) : E25 (N + M) (p + q) := by
  obtain ⟨m, a, rfl⟩ := h
  obtain ⟨l, b, rfl⟩ := k
  refine ⟨m + l, by omega, ?_⟩
  rw [divInt_rat, divInt_rat, divInt_rat, Rat.intCast_add]
  grind
theorem E25.neg {N : Nat} {q : Rat} (h : E25 N q) : E25 N (-q) := by
  obtain ⟨m, a, rfl⟩ := h
  exact ⟨-m, by omega, by rw [Rat.neg_divInt]⟩
theorem E25.abs {N : Nat} {q : Rat} (h : E25 N q) : E25 N (absQ q) := by
  unfold absQ
  split
  · exact h.neg
  · exact h
theorem e25_of {n d : Int} {N : Nat} (hd : 0 < d ∧ d ≤ 9) (hn : n.natAbs ≤ N) : E25 (N * 2520) (Rat.divInt n d) := by
  have hk : ∃ k : Int, d * k = 2520 ∧ 0 ≤ k ∧ k ≤ 2520 := by
    have : d = 1 ∨ d = 2 ∨ d = 3 ∨ d = 4 ∨ d = 5 ∨ d = 6 ∨ d = 7 ∨ d = 8 ∨ d = 9 := by omega
    rcases this with rfl | rfl | rfl | rfl | rfl | rfl | rfl | rfl | rfl
    · exact ⟨2520, by decide⟩
    · exact ⟨1260, by decide⟩
    · exact ⟨840, by decide⟩
    · exact ⟨630, by decide⟩
    · exact ⟨504, by decide⟩
    · exact ⟨420, by decide⟩
    · exact ⟨360, by decide⟩
    · exact ⟨315, by decide⟩
    · exact ⟨280, by decide⟩
  obtain ⟨k, hk, k0, k1⟩ := hk
  refine ⟨n * k, ?_, ?_⟩
  · rw [Int.natAbs_mul]
    exact Nat.mul_le_mul hn (by omega)
  · rw [Rat.divInt_eq_divInt_iff (by omega) (by decide), Int.mul_assoc, Int.mul_comm k d, hk]
theorem e25_off {row : List Rat} {N k : Nat} (h : ∀ q ∈ row, E25 N q) : ∀ i, i ≤ row.length → E25 (i * N) (offI row k i)
  | 0, _ => e25_zero
  | i + 1, hi => by
    have ih := e25_off (k := k) h i (by omega)
    unfold offI
    split
    · exact ih.mono (Nat.mul_le_mul_right _ (by omega))
    · rw [Nat.succ_mul]
      exact ih.add (h _ (getD_mem (by omega))).abs
theorem cd_e25 {row : List Rat} (h : ∀ q ∈ row, E25 131071 q) : CD 17 row := by
  refine ⟨2520, by decide, .of (by decide), fun q hq => ?_⟩
  obtain ⟨m, a, b⟩ := h q hq
  exact ⟨m, .of (Nat.lt_of_le_of_lt a (by decide)), b⟩
theorem bt_e25 {q : Rat} (h : E25 131071 q) : Bt 17 q := (cd_e25 (row := [q]) (fun x hx => by rw [List.mem_singleton] at hx; rw [hx]; exact h)).bl q List.mem_cons_self
/-- a row times a small part -/
theorem cd_mulL {row : List Rat} {p : Rat} (h : ∀ q ∈ row, E25 131071 q) (hp : Bt 4 p) : CD 21 (mulL p row) := by
  refine ⟨(p.den : Int) * 2520, Int.mul_pos (den_pos' p) (by decide), ((hp.2.mul (Bd.of (B := 12) (by decide)))).mono (by decide), fun q hq => ?_⟩
  obtain ⟨v, hv, rfl⟩ := List.mem_map.mp hq
  obtain ⟨m, a, rfl⟩ := h v hv
  refine ⟨p.num * m, (hp.1.mul (Bd.of (B := 17) (Nat.lt_of_le_of_lt a (by decide)))), ?_⟩
  conv => lhs; rw [← num_den p]
  rw [Rat.divInt_mul_divInt]
/-- an own entry set -/
theorem off_set {row : List Rat} {k : Nat} {v : Rat} : ∀ i, offI (row.set k v) k i = offI row k i
  | 0 => rfl
  | i + 1 => by
    unfold offI
    rw [off_set i]
    by_cases e : i = k
    · rw [if_pos e, if_pos e]
    · rw [if_neg e, if_neg e]
      congr 2
      rw [List.getD_eq_getElem?_getD, List.getD_eq_getElem?_getD, List.getElem?_set_ne (fun z => e z.symm)]
theorem get_set {row : List Rat} {k : Nat} {v : Rat} (h : k < row.length) : (row.set k v).getD k 0 = v := by
  rw [List.getD_eq_getElem?_getD, List.getElem?_set_self h]
  rfl
theorem set_cut {α : Type} {row : List α} {k : Nat} {v : α} (h : k < row.length) : row.take k ++ [v] ++ row.drop (k + 1) = row.set k v := by
  rw [List.set_eq_take_append_cons_drop, if_pos h, List.append_assoc]
  rfl
/-- the others' sum, as a list -/
theorem off_sum {row : List Rat} {k : Nat} : ∀ n, (((List.range n).filter fun (i : Nat) => !decide (i = k)).map fun i => absQ (row.getD i 0)).sum = offI row k n
  | 0 => by
    show ([] : List Rat).sum = 0
    rw [List.sum_nil]
  | n + 1 => by
    rw [List.range_succ, List.filter_append, List.map_append, List.sum_append, off_sum n]
    show _ = (if n = k then offI row k n else offI row k n + absQ (row.getD n 0))
    by_cases e : n = k
    · rw [if_pos e]
      have : ([n].filter fun (i : Nat) => !decide (i = k)) = [] := by simp [e]
      rw [this]
      show offI row k n + ([] : List Rat).sum = _
      rw [List.sum_nil, Rat.add_zero]
    · rw [if_neg e]
      have : ([n].filter fun (i : Nat) => !decide (i = k)) = [n] := by
        simp [e]
      rw [this]
      show offI row k n + [absQ (row.getD n 0)].sum = _
      rw [List.sum_cons, List.sum_nil, Rat.add_zero]
end RP

set_option Elab.async false
set_option linter.all false
set_option maxRecDepth 100000
set_option maxHeartbeats 2000000
namespace RS
open PySem PySem.Spec PyProof.Rows L2
open Evl (Ex)

/-! ### the exception of an except suite -/
abbrev En.at (E : En) (a : Addr) (c : Value) (d : Option Addr) : En := { E with xa := a, xc := c, xd := d }
section
variable {E : En} {Γ : Gd} {H : Hp} {xa : Addr} {xc : Value} {xd : Option Addr}
mutual
theorem Rp.at : ∀ {v : V} {d : RD}, Rp E Γ v d → Rp (E.at xa xc xd) Γ v d
  | _, _, .non => .non
  | _, _, .bl b => .bl b
  | _, _, .int i => .int i
  | _, _, .str x => .str x
  | _, _, .tup h r => .tup h (RpAll.at r)
  | _, _, .ktup h => .ktup h
  | _, _, .lst h r => .lst h (RpAll.at r)
  | _, _, .scr h => .scr h
  | _, _, .dk h a b r => .dk h a b (RpAll.at r)
  | _, _, .dt h a b r => .dt h a b (RpAll.at r)
  | _, _, .fk h a b r => .fk h a b (RpAll.at r)
  | _, _, .ft h a b r => .ft h a b (RpAll.at r)
  | _, _, .obj h a b r => .obj h a b (RpAll.at r)
  | _, _, .ty n => .ty n
  | _, _, .cls c => .cls (E := E.at xa xc xd) c
  | _, _, .fn c => .fn (E := E.at xa xc xd) c
  | _, _, .loc h => .loc h
theorem RpAll.at : ∀ {vs : List V} {ds : List RD}, RpAll E Γ vs ds → RpAll (E.at xa xc xd) Γ vs ds
  | _, _, .nil => .nil
  | _, _, .cons a b => .cons (Rp.at a) (RpAll.at b)
end
mutual
theorem Rp.off : ∀ {v : V} {d : RD}, Rp (E.at xa xc xd) Γ v d → Rp E Γ v d
  | _, _, .non => .non
  | _, _, .bl b => .bl b
  | _, _, .int i => .int i
  | _, _, .str x => .str x
  | _, _, .tup h r => .tup h (RpAll.off r)
  | _, _, .ktup h => .ktup h
  | _, _, .lst h r => .lst h (RpAll.off r)
  | _, _, .scr h => .scr h
  | _, _, .dk h a b r => .dk h a b (RpAll.off r)
  | _, _, .dt h a b r => .dt h a b (RpAll.off r)
  | _, _, .fk h a b r => .fk h a b (RpAll.off r)
  | _, _, .ft h a b r => .ft h a b (RpAll.off r)
  | _, _, .obj h a b r => .obj h a b (RpAll.off r)
  | _, _, .ty n => .ty n
  | _, _, .cls c => .cls (E := E) c
  | _, _, .fn c => .fn (E := E) c
  | _, _, .loc h => .loc h
theorem RpAll.off : ∀ {vs : List V} {ds : List RD}, RpAll (E.at xa xc xd) Γ vs ds → RpAll E Γ vs ds
  | _, _, .nil => .nil
  | _, _, .cons a b => .cons (Rp.off a) (RpAll.off b)
end
theorem CellAt.at {a : Addr} {c : Cell} (h : CellAt E Γ H a c) : CellAt (E.at xa xc xd) Γ H a c := by
  cases h with
  | lst h r => exact .lst h r.at
  | dk h l r => exact .dk h l r.at
  | dt h l r => exact .dt h l r.at
  | obj h l r => exact .obj h l r.at
theorem CellAt.off {a : Addr} {c : Cell} (h : CellAt (E.at xa xc xd) Γ H a c) : CellAt E Γ H a c := by
  cases h with
  | lst h r => exact .lst h r.off
  | dk h l r => exact .dk h l r.off
  | dt h l r => exact .dt h l r.off
  | obj h l r => exact .obj h l r.off
theorem ExD.at {f : Option (Str × RD)} {dd : Option Addr} (h : ExD E Γ H f dd) : ExD (E.at xa xc xd) Γ H f dd := by
  cases f with
  | none => exact h
  | some p => obtain ⟨d, v, h1, h2, h3, h4⟩ := h; exact ⟨d, v, h1, h2, h3, h4.at⟩
end
def SV.nx : SV → SV
  | .exc => .un
  | s => s
def clr (sl : List SV) : List SV := sl.map SV.nx
theorem clr_get {sl : List SV} {i : Nat} {s : SV} (h : (clr sl)[i]? = some s) (hs : s ≠ .un) : sl[i]? = some s ∧ s ≠ .exc := by
  unfold clr at h
  rw [List.getElem?_map] at h
  cases e : sl[i]? with
  | none => rw [e] at h; cases h
  | some x =>
    rw [e] at h
    cases h
    cases x with
    | exc => exact absurd rfl hs
    | un => exact absurd rfl hs
    | dat d => exact ⟨rfl, fun z => nomatch z⟩
    | own c => exact ⟨rfl, fun z => nomatch z⟩
def inX (i : Option Nat) (e : Exn) (S : Sg) : Sg := ⟨match i with | some i => (clr S.sl).set i .exc | none => clr S.sl, S.ce, some e⟩
def outX (i : Option Nat) (S : Sg) : Sg := ⟨match i with | some i => (clr S.sl).set i .un | none => clr S.sl, S.ce, none⟩
section
variable {E : En} {F : Fr} {Γ : Gd} {H : Hp} {σ : L2.St} {S : Sg}
theorem Abs.clr (A : Abs E F Γ H σ S) (e : Option Exn) {xa : Addr} {xc : Value} {xd : Option Addr} (he : ∀ x, e = some x → xc = .ref (E.cl x.c) ∧ ExD E Γ H x.f xd) : Abs (E.at xa xc xd) F Γ H σ ⟨clr S.sl, S.ce, e⟩ where
  fh := A.fh
  le := A.le
  fn := A.fn
  fc := A.fc
  gh := A.gh
  nd := A.nd
  ml := A.ml
  cel := fun k c h => by obtain ⟨a, h1, h2, h3⟩ := A.cel k c h; exact ⟨a, h1, h2, h3.at⟩
  len := by show σ.length = (RS.clr S.sl).length; unfold RS.clr; rw [List.length_map]; exact A.len
  dat := fun i d h => by obtain ⟨v, h1, h2⟩ := A.dat i d (clr_get h fun z => nomatch z).1; exact ⟨v, h1, h2.at⟩
  own := fun i c h => by obtain ⟨a, h1, h2, h3, h4, h5⟩ := A.own i c (clr_get h fun z => nomatch z).1; exact ⟨a, h1, h2, h3, h4, h5.at⟩
  sep := fun i j c e a h k => A.sep i j c e a (clr_get h fun z => nomatch z).1 (clr_get k fun z => nomatch z).1
  exs := fun i h => absurd rfl (clr_get h fun z => nomatch z).2
  exn := fun x h => ⟨(he x h).1, (he x h).2.at⟩
  fx := A.fx
theorem Abs.setX {i : Nat} (A : Abs E F Γ H σ S) : Abs E F Γ H (σ.set i (some (.ref E.xa))) { S with sl := S.sl.set i .exc } := by
  have key : ∀ {j : Nat} {x : SV}, (S.sl.set i .exc)[j]? = some x → (i = j ∧ i < S.sl.length ∧ x = .exc) ∨ (i ≠ j ∧ S.sl[j]? = some x) := fun {j x} h => by
    by_cases hij : i = j
    · subst hij
      have hl : i < S.sl.length := by
        have := (List.getElem?_eq_some_iff.mp h).1
        rw [List.length_set] at this; exact this
      rw [List.getElem?_set_self hl] at h
      cases h
      exact .inl ⟨rfl, hl, rfl⟩
    · rw [List.getElem?_set_ne hij] at h; exact .inr ⟨hij, h⟩
  have ne : ∀ {j : Nat}, i ≠ j → (σ.set i (some (V.ref E.xa)))[j]? = σ[j]? := fun h => List.getElem?_set_ne h
  refine ⟨A.fh, A.le, A.fn, A.fc, A.gh, A.nd, A.ml, A.cel, by simp [A.len], fun j e hj => ?_, fun j e hj => ?_, fun j k e f b hj hk ej ek => ?_, fun j hj => ?_, A.exn, A.fx⟩
  · rcases key hj with ⟨_, _, z⟩ | ⟨n, hj⟩
    · cases z
    · obtain ⟨w, h1, h2⟩ := A.dat j e hj; exact ⟨w, by rw [ne n]; exact h1, h2⟩
  · rcases key hj with ⟨_, _, z⟩ | ⟨n, hj⟩
    · cases z
    · obtain ⟨w, h1, h2⟩ := A.own j e hj; exact ⟨w, by rw [ne n]; exact h1, h2⟩
  · rcases key hj with ⟨_, _, z⟩ | ⟨n1, hj⟩
    · cases z
    · rcases key hk with ⟨_, _, z⟩ | ⟨n2, hk⟩
      · cases z
      · rw [ne n1] at ej
        rw [ne n2] at ek
        exact A.sep j k e f b hj hk ej ek
  · rcases key hj with ⟨rfl, hl, _⟩ | ⟨n, hj⟩
    · exact List.getElem?_set_self (by rw [A.len]; exact hl)
    · rw [ne n]; exact A.exs j hj
theorem Abs.inX {i : Nat} {e : Exn} {a : Addr} {cls : Value} {dd : Option Addr} (A : Abs E F Γ H σ S) (hc : cls = .ref (E.cl e.c)) (hd : ExD E Γ H e.f dd) : Abs (E.at a cls dd) F Γ H (σ.set i (some (.ref a))) (RS.inX (some i) e S) :=
  (A.clr (xa := a) (some e) fun x h => by cases h; exact ⟨hc, hd⟩).setX
theorem Abs.inX0 {e : Exn} {a : Addr} {cls : Value} {dd : Option Addr} (A : Abs E F Γ H σ S) (hc : cls = .ref (E.cl e.c)) (hd : ExD E Γ H e.f dd) : Abs (E.at a cls dd) F Γ H σ (RS.inX none e S) :=
  A.clr (xa := a) (some e) fun x h => by cases h; exact ⟨hc, hd⟩
theorem Abs.off {a : Addr} {cls : Value} {dd : Option Addr} (A : Abs (E.at a cls dd) F Γ H σ S) : Abs E F Γ H σ ⟨RS.clr S.sl, S.ce, none⟩ where
  fh := A.fh
  le := A.le
  fn := A.fn
  fc := A.fc
  gh := A.gh
  nd := A.nd
  ml := A.ml
  cel := fun k c h => by obtain ⟨a, h1, h2, h3⟩ := A.cel k c h; exact ⟨a, h1, h2, h3.off⟩
  len := by show σ.length = (RS.clr S.sl).length; unfold RS.clr; rw [List.length_map]; exact A.len
  dat := fun i d h => by obtain ⟨v, h1, h2⟩ := A.dat i d (clr_get h fun z => nomatch z).1; exact ⟨v, h1, h2.off⟩
  own := fun i c h => by obtain ⟨a, h1, h2, h3, h4, h5⟩ := A.own i c (clr_get h fun z => nomatch z).1; exact ⟨a, h1, h2, h3, h4, h5.off⟩
  sep := fun i j c e a h k => A.sep i j c e a (clr_get h fun z => nomatch z).1 (clr_get k fun z => nomatch z).1
  exs := fun i h => absurd rfl (clr_get h fun z => nomatch z).2
  exn := fun x h => nomatch h
  fx := A.fx
end
/-! ### try .. except -/
def mTry (i : Option Nat) (em : Str → Option Bool) (b s : MS) : MS := fun S => match b S with
  | .ex e S1 => match em e.c with
    | some true => match s (inX i e S1) with
      | .nx S2 => .nx (outX i S2)
      | .rt d S2 => .rt d (outX i S2)
      | .bk S2 => .bk (outX i S2)
      | .ct S2 => .ct (outX i S2)
      | _ => .st
    | some false => .ex e S1
    | none => .st
  | o => o
section
variable {E : En} {W : WX} {X : Cx}
theorem ss_tryAs {i : Nat} {C : Value} {em : Str → Option Bool} {tb : WX → TS} {ts : Addr → Value → Option Addr → TS} {b s : MS} (hb : ∀ W, SS E W (tb W) b) (hs : ∀ a cls d, SS (E.at a cls d) W0 (ts a cls d) s)
    (hem : ∀ n k, em n = some k → PySem.W.exmOne E.K (.ref (E.cl n)) C = some k) : SS E W (fun D σ H => tb (wAs E.K C i ts W D) D σ H) (mTry (some i) em b s) := fun F Γ H σ S A => by
  refine RunS.mk fun D hD => ?_
  have z := hb (wAs E.K C i ts W D) F Γ H σ S A
  unfold mTry at hD
  cases e1 : b S with
  | nx S1 => rw [e1] at z hD; exact z D hD
  | rt d S1 => rw [e1] at z hD; exact z D hD
  | bk S1 => rw [e1] at z hD; exact z D hD
  | ct S1 => rw [e1] at z hD; exact z D hD
  | st => rw [e1] at hD; exact hD.elim
  | ex e S1 =>
    rw [e1] at z hD
    simp only at hD
    refine z (fun Γ1 H1 σ1 dd l1 A1 r1 => ?_) D
    cases e2 : em e.c with
    | none => rw [e2] at hD; exact hD.elim
    | some k =>
      rw [e2] at hD
      refine ⟨k, hem _ _ e2, fun hk a ha => ?_, fun hk => ?_⟩
      · subst hk
        simp only at hD
        have zs := hs a (.ref (E.cl e.c)) dd F Γ1 H1 (σ1.set i (some (.ref a))) (RS.inX (some i) e S1) (A1.inX rfl r1)
        cases e3 : s (RS.inX (some i) e S1) with
        | nx S2 => rw [e3] at zs hD; exact zs _ fun Γ2 H2 σ2 l2 A2 => hD Γ2 H2 _ (l1.trans l2) A2.off.setU
        | rt d S2 => rw [e3] at zs hD; exact zs _ fun v Γ2 H2 σ2 l2 A2 r2 => hD v Γ2 H2 _ (l1.trans l2) (A2.off.setU (z := none)) r2.off
        | bk S2 => rw [e3] at zs hD; exact zs _ fun Γ2 H2 σ2 l2 A2 => hD Γ2 H2 _ (l1.trans l2) A2.off.setU
        | ct S2 => rw [e3] at zs hD; exact zs _ fun Γ2 H2 σ2 l2 A2 => hD Γ2 H2 _ (l1.trans l2) A2.off.setU
        | ex x S2 => rw [e3] at hD; exact hD.elim
        | st => rw [e3] at hD; exact hD.elim
      · subst hk
        exact hD Γ1 H1 σ1 dd l1 A1 r1
theorem ss_tryOnly {C : Value} {em : Str → Option Bool} {tb : WX → TS} {ts : Addr → Value → Option Addr → TS} {b s : MS} (hb : ∀ W, SS E W (tb W) b) (hs : ∀ a cls d, SS (E.at a cls d) W0 (ts a cls d) s)
    (hem : ∀ n k, em n = some k → PySem.W.exmOne E.K (.ref (E.cl n)) C = some k) : SS E W (fun D σ H => tb (wOnly E.K C ts W D) D σ H) (mTry none em b s) := fun F Γ H σ S A => by
  refine RunS.mk fun D hD => ?_
  have z := hb (wOnly E.K C ts W D) F Γ H σ S A
  unfold mTry at hD
  cases e1 : b S with
  | nx S1 => rw [e1] at z hD; exact z D hD
  | rt d S1 => rw [e1] at z hD; exact z D hD
  | bk S1 => rw [e1] at z hD; exact z D hD
  | ct S1 => rw [e1] at z hD; exact z D hD
  | st => rw [e1] at hD; exact hD.elim
  | ex e S1 =>
    rw [e1] at z hD
    simp only at hD
    refine z (fun Γ1 H1 σ1 dd l1 A1 r1 => ?_) D
    cases e2 : em e.c with
    | none => rw [e2] at hD; exact hD.elim
    | some k =>
      rw [e2] at hD
      refine ⟨k, hem _ _ e2, fun hk a ha => ?_, fun hk => ?_⟩
      · subst hk
        simp only at hD
        have zs := hs a (.ref (E.cl e.c)) dd F Γ1 H1 σ1 (RS.inX none e S1) (A1.inX0 rfl r1)
        cases e3 : s (RS.inX none e S1) with
        | nx S2 => rw [e3] at zs hD; exact zs _ fun Γ2 H2 σ2 l2 A2 => hD Γ2 H2 _ (l1.trans l2) A2.off
        | rt d S2 => rw [e3] at zs hD; exact zs _ fun v Γ2 H2 σ2 l2 A2 r2 => hD v Γ2 H2 _ (l1.trans l2) A2.off r2.off
        | bk S2 => rw [e3] at zs hD; exact zs _ fun Γ2 H2 σ2 l2 A2 => hD Γ2 H2 _ (l1.trans l2) A2.off
        | ct S2 => rw [e3] at zs hD; exact zs _ fun Γ2 H2 σ2 l2 A2 => hD Γ2 H2 _ (l1.trans l2) A2.off
        | ex x S2 => rw [e3] at hD; exact hD.elim
        | st => rw [e3] at hD; exact hD.elim
      · subst hk
        exact hD Γ1 H1 σ1 dd l1 A1 r1
theorem qs_tryAs {x n : Str} {c : Value} {i : Nat} {body suite : List Stmt} {b₀ : Stmt} {np pos pos' : Pos} {em : Str → Option Bool} {b s : MS} (hK : X.K = E.K) (hs : X.stack = X.env :: X.outer) (hf : X.env.frame = some X.env.locals) (hN : X.N.Nodup) (hi : X.N[i]? = some n) (hln : X.env.kindOf n = some .local) (hc : Names X x c) (tk : Takes X W)
    (hb : ∀ (W : WX) (pn : List (Addr × Obj)) (xe : Value → Shared → Prop), Takes (X.tr pn xe) W → PassesOwn (model X.prog X.w) X.A X.env xe → QSs (X.tr pn xe) E W body b)
    (hsu : ∀ (a : Addr) (oe : Obj) (cls : Value) (d : Option Addr) (pn : List (Addr × Obj)), Zc cls d oe → (∃ vs, oe.data = .fields vs) → QSs (X.suite a ((a, oe) :: pn)) (E.at a cls d) W0 (b₀ :: suite) s)
    (hem : ∀ n k, em n = some k → PySem.W.exmOne E.K (.ref (E.cl n)) c = some k) :
    QS X E W (.Try body [.ExceptHandler (some (.Name x np)) (some n) (b₀ :: suite) pos'] [] [] pos) (mTry (some i) em b s) := by
  have h1 : ∀ W : WX, ∃ tb, (∀ pn xe, Takes (X.tr pn xe) W → PassesOwn (model X.prog X.w) X.A X.env xe → PSs (X.tr pn xe) body tb) ∧ SS E W tb b := fun W => by
    obtain ⟨tb, t1, t2⟩ := QSs.all (Xs := fun p : { p : List (Addr × Obj) × (Value → Shared → Prop) // Takes (X.tr p.1 p.2) W ∧ PassesOwn (model X.prog X.w) X.A X.env p.2 } => X.tr p.1.1 p.1.2) fun p => hb W p.1.1 p.1.2 p.2.1 p.2.2
    exact ⟨tb, fun pn xe h k => t1 ⟨(pn, xe), h, k⟩, t2⟩
  have h2 : ∀ (a : Addr) (cls : Value) (d : Option Addr), ∃ ts, (∀ oe pn, Zc cls d oe → (∃ vs, oe.data = .fields vs) → PSs (X.suite a ((a, oe) :: pn)) (b₀ :: suite) ts) ∧ SS (E.at a cls d) W0 ts s := fun a cls d => by
    obtain ⟨ts, t1, t2⟩ := QSs.all (Xs := fun p : { p : Obj × List (Addr × Obj) // Zc cls d p.1 ∧ ∃ vs, p.1.data = .fields vs } => X.suite a ((a, p.1.1) :: p.1.2)) fun p => hsu a p.1.1 cls d p.1.2 p.2.1 p.2.2
    exact ⟨ts, fun oe pn h k => t1 ⟨(oe, pn), h, k⟩, t2⟩
  refine ⟨_, ps_try_as (tb := fun W => Classical.choose (h1 W)) (ts := fun a cls d => Classical.choose (h2 a cls d)) (i := i) hs hf hN hi hln hc tk (fun W pn xe t p => (Classical.choose_spec (h1 W)).1 pn xe t p) (fun a oe cls d pn z f => (Classical.choose_spec (h2 a cls d)).1 oe pn z f), ?_⟩
  rw [hK]
  exact ss_tryAs (fun W => (Classical.choose_spec (h1 W)).2) (fun a cls d => (Classical.choose_spec (h2 a cls d)).2) hem
theorem qs_tryOnly {x : Str} {c : Value} {body suite : List Stmt} {b₀ : Stmt} {np pos pos' : Pos} {em : Str → Option Bool} {b s : MS} (hK : X.K = E.K) (hs : X.stack = X.env :: X.outer) (hf : X.env.frame = some X.env.locals) (hc : Names X x c) (tk : Takes X W)
    (hb : ∀ (W : WX) (pn : List (Addr × Obj)) (xe : Value → Shared → Prop), Takes (X.tr pn xe) W → PassesOwn (model X.prog X.w) X.A X.env xe → QSs (X.tr pn xe) E W body b)
    (hsu : ∀ (a : Addr) (oe : Obj) (cls : Value) (d : Option Addr) (pn : List (Addr × Obj)), Zc cls d oe → (∃ vs, oe.data = .fields vs) → QSs (X.suite a ((a, oe) :: pn)) (E.at a cls d) W0 (b₀ :: suite) s)
    (hem : ∀ n k, em n = some k → PySem.W.exmOne E.K (.ref (E.cl n)) c = some k) :
    QS X E W (.Try body [.ExceptHandler (some (.Name x np)) none (b₀ :: suite) pos'] [] [] pos) (mTry none em b s) := by
  have h1 : ∀ W : WX, ∃ tb, (∀ pn xe, Takes (X.tr pn xe) W → PassesOwn (model X.prog X.w) X.A X.env xe → PSs (X.tr pn xe) body tb) ∧ SS E W tb b := fun W => by
    obtain ⟨tb, t1, t2⟩ := QSs.all (Xs := fun p : { p : List (Addr × Obj) × (Value → Shared → Prop) // Takes (X.tr p.1 p.2) W ∧ PassesOwn (model X.prog X.w) X.A X.env p.2 } => X.tr p.1.1 p.1.2) fun p => hb W p.1.1 p.1.2 p.2.1 p.2.2
    exact ⟨tb, fun pn xe h k => t1 ⟨(pn, xe), h, k⟩, t2⟩
  have h2 : ∀ (a : Addr) (cls : Value) (d : Option Addr), ∃ ts, (∀ oe pn, Zc cls d oe → (∃ vs, oe.data = .fields vs) → PSs (X.suite a ((a, oe) :: pn)) (b₀ :: suite) ts) ∧ SS (E.at a cls d) W0 ts s := fun a cls d => by
    obtain ⟨ts, t1, t2⟩ := QSs.all (Xs := fun p : { p : Obj × List (Addr × Obj) // Zc cls d p.1 ∧ ∃ vs, p.1.data = .fields vs } => X.suite a ((a, p.1.1) :: p.1.2)) fun p => hsu a p.1.1 cls d p.1.2 p.2.1 p.2.2
    exact ⟨ts, fun oe pn h k => t1 ⟨(oe, pn), h, k⟩, t2⟩
  refine ⟨_, ps_try_only (tb := fun W => Classical.choose (h1 W)) (ts := fun a cls d => Classical.choose (h2 a cls d)) hs hf hc tk (fun W pn xe t p => (Classical.choose_spec (h1 W)).1 pn xe t p) (fun a oe cls d pn z f => (Classical.choose_spec (h2 a cls d)).1 oe pn z f), ?_⟩
  rw [hK]
  exact ss_tryOnly (fun W => (Classical.choose_spec (h1 W)).2) (fun a cls d => (Classical.choose_spec (h2 a cls d)).2) hem
/-- isinstance(e, C) of the caught one -/
def fIsEx (ist : Str → Str → Option Bool) : ML := fun ps S => match ps, S.xn with
  | [.exc, .d (.cls n)], some ⟨c, none⟩ => match ist c n with
    | some b => .ok (.d (.bl b)) S
    | none => .st
  | _, _ => .st
theorem sc_isEx {a : Addr} {cls : Value} {d : Option Addr} {ist : Str → Str → Option Bool} (h : ∀ c n b, ist c n = some b → ExcC E.K (E.cl c) ∧ PySem.W.kitOne E.K (.ref (E.cl c)) (.ref (E.cl n)) = some b) : SC (E.at a cls d) W0 (RP.rIsEx E.K cls d a) (fIsEx ist) := fun F Γ H σ S xs ps A r => by
  unfold fIsEx
  split
  · rename_i n c ex
    split
    · rename_i b eb
      obtain ⟨h1, h2⟩ := h _ _ _ eb
      obtain ⟨e1, e2⟩ := A.exn _ ex
      have e1 : cls = .ref (E.cl c) := e1
      have e2 : d = none := e2
      cases r with
      | cons x r => cases r with
        | cons y r =>
          cases r
          cases x
          cases y with
          | d y => cases y; exact RunR.val A (.bl b) fun Q q => ⟨_, e1, e2, h1, _, _, b, rfl, fun u hu => hu, h2, q⟩
    · trivial
  · trivial
theorem q_isEx {a : Addr} {cls : Value} {d : Option Addr} {oe : Obj} {pn : List (Addr × Obj)} {ist : Str → Str → Option Bool} {e : Expr} {es : List Expr} {p pos : Pos} {g : MA} (hK : X.K = E.K) (hz : Zc cls d oe) (hf : ∃ vs, oe.data = .fields vs)
    (h : ∀ c n b, ist c n = some b → ExcC E.K (E.cl c) ∧ PySem.W.kitOne E.K (.ref (E.cl c)) (.ref (E.cl n)) = some b) (hg : Gl (X.suite a ((a, oe) :: pn)) "isinstance") (hm : X.mg "isinstance" = none) (hv : bootBuiltins "isinstance" = some (.builtin "isinstance")) (ha : QA (X.suite a ((a, oe) :: pn)) (E.at a cls d) W0 (e :: es) g)
    (he : starEach (e :: es) X.env = (false, eval e X.env) :: starEach es X.env := by rfl) (hpl : (backTo pos (starEach es X.env)).any (·.1) = false := by rfl) : QE (X.suite a ((a, oe) :: pn)) (E.at a cls d) W0 (.Call (.Name "isinstance" p) (e :: es) [] pos) (mCB (fIsEx ist) g) := by
  refine q_cb (X := X.suite a ((a, oe) :: pn)) ⟨_, RP.call_isEx hz hf, ?_⟩ hg hm hv ha (by decide) (by decide) he hpl
  show SC _ _ (RP.rIsEx X.K cls d a) _
  rw [hK]
  exact sc_isEx h
end
/-! ### defs of the other layer -/
mutual
def toR : RD → Option RP.RD
  | .non => some .non
  | .bl b => some (.bl b)
  | .int i => some (.int i)
  | .str x => some (.str x)
  | .tup ds => (toRs ds).map .tup
  | .lst ds => (toRs ds).map .lst
  | .scr ns => some (.scr ns)
  | .ty n => some (.ty n)
  | _ => none
def toRs : List RD → Option (List RP.RD)
  | [] => some []
  | d :: ds => match toR d, toRs ds with
    | some a, some r => some (a :: r)
    | _, _ => none
end
def intsR : List RP.RD → Option (List Int)
  | [] => some []
  | .int i :: r => (intsR r).map (i :: ·)
  | _ :: _ => none
mutual
def toS : RP.RD → Option RD
  | .non => some .non
  | .bl b => some (.bl b)
  | .int i => some (.int i)
  | .str x => some (.str x)
  | .tup ds => (intsR ds).map fun ns => .tup (ns.map .int)
  | .lst ds => (toSs ds).map .lst
  | .ty n => some (.ty n)
  | _ => none
def toSs : List RP.RD → Option (List RD)
  | [] => some []
  | d :: ds => match toS d, toSs ds with
    | some a, some r => some (a :: r)
    | _, _ => none
end
section
variable {E : En} {Γ : Gd}
mutual
theorem Rp.toR : ∀ {v : V} {d : RD} {e : RP.RD}, Rp E Γ v d → RS.toR d = some e → RP.Rp E.K Γ.g v e
  | _, _, _, .non, h => by cases h; exact .non
  | _, _, _, .bl b, h => by cases h; exact .bl b
  | _, _, _, .int i, h => by cases h; exact .int i
  | _, _, _, .str x, h => by cases h; exact .str x
  | _, .tup ds, e, .tup s r, h => by
    simp only [RS.toR] at h
    cases e1 : toRs ds with
    | none => rw [e1] at h; cases h
    | some es => rw [e1] at h; cases h; exact .tup (Evl.st_of s) (RpAll.toR r e1)
  | _, _, e, .ktup (ns := ns) s, h => by
    simp only [RS.toR] at h
    cases e1 : toRs (ns.map RD.int) with
    | none => rw [e1] at h; cases h
    | some es => rw [e1] at h; cases h; exact .tup s (RpAll.toR (RpAll.ints (E := E) (Γ := Γ) ns) e1)
  | _, .lst ds, e, .lst s r, h => by
    simp only [RS.toR] at h
    cases e1 : toRs ds with
    | none => rw [e1] at h; cases h
    | some es => rw [e1] at h; cases h; exact .lst s (RpAll.toR r e1)
  | _, .scr ns, e, .scr s, h => by cases h; exact .scr s
  | _, _, e, .ty n, h => by cases h; exact .ty n
  | _, _, e, .dk _ _ _ _, h => by cases h
  | _, _, e, .dt _ _ _ _, h => by cases h
  | _, _, e, .obj _ _ _ _, h => by cases h
  | _, _, e, .fk _ _ _ _, h => by cases h
  | _, _, e, .ft _ _ _ _, h => by cases h
  | _, _, e, .cls _, h => by cases h
  | _, _, e, .fn _, h => by cases h
  | _, _, e, .loc _, h => by cases h
theorem RpAll.toR : ∀ {vs : List V} {ds : List RD} {es : List RP.RD}, RpAll E Γ vs ds → toRs ds = some es → RP.RpAll E.K Γ.g vs es
  | _, _, _, .nil, h => by cases h; exact .nil
  | _, d :: ds, es, .cons a b, h => by
    simp only [toRs] at h
    cases e1 : RS.toR d with
    | none => rw [e1] at h; cases h
    | some q => cases e2 : toRs ds with
      | none => rw [e1, e2] at h; cases h
      | some qs => rw [e1, e2] at h; cases h; exact .cons (Rp.toR a e1) (RpAll.toR b e2)
end
theorem ints_back {K : PySem.W.Frag} {G : Hp} : ∀ {vs : List V} {ds : List RP.RD} {ns : List Int}, RP.RpAll K G vs ds → intsR ds = some ns → vs = ns.map V.int
  | _, [], ns, .nil, h => by cases h; rfl
  | _, d :: ds, ns, .cons a b, h => by
    cases d with
    | int i =>
      unfold intsR at h
      cases e : intsR ds with
      | none => rw [e] at h; cases h
      | some ms => rw [e] at h; cases h; rw [a.int_inv, ints_back b e]; rfl
    | _ => cases h
mutual
theorem rp_toS {m : List Addr} {G : Hp} : ∀ {v : V} {e : RP.RD} {d : RD}, RP.Rp E.K G v e → toS e = some d → Rp E ⟨G, m⟩ v d
  | _, _, _, .non, h => by cases h; exact .non
  | _, _, _, .bl b, h => by cases h; exact .bl b
  | _, _, _, .int i, h => by cases h; exact .int i
  | _, _, _, .str x, h => by cases h; exact .str x
  | _, .tup ds, d, .tup s r, h => by
    simp only [toS] at h
    cases e1 : intsR ds with
    | none => rw [e1] at h; cases h
    | some ns => rw [e1] at h; cases h; rw [ints_back r e1] at s; exact .ktup s
  | _, .lst ds, d, .lst s r, h => by
    simp only [toS] at h
    cases e1 : toSs ds with
    | none => rw [e1] at h; cases h
    | some es => rw [e1] at h; cases h; exact .lst s (rpAll_toS r e1)
  | _, _, _, .scr _, h => by cases h
  | _, _, _, .dk _ _ _ _, h => by cases h
  | _, _, _, .dt _ _ _ _, h => by cases h
  | _, _, _, .obj _ _ _ _, h => by cases h
  | _, _, _, .ty n, h => by cases h; exact .ty n
  | _, _, _, .cls _, h => by cases h
theorem rpAll_toS {m : List Addr} {G : Hp} : ∀ {vs : List V} {es : List RP.RD} {ds : List RD}, RP.RpAll E.K G vs es → toSs es = some ds → RpAll E ⟨G, m⟩ vs ds
  | _, _, _, .nil, h => by cases h; exact .nil
  | _, e :: es, ds, .cons a b, h => by
    simp only [toSs] at h
    cases e1 : toS e with
    | none => rw [e1] at h; cases h
    | some q => cases e2 : toSs es with
      | none => rw [e1, e2] at h; cases h
      | some qs => rw [e1, e2] at h; cases h; exact .cons (rp_toS a e1) (rpAll_toS b e2)
end
end
open Classical in
/-- what a promise over the other layer's data gives -/
noncomputable def brg (E : En) (nm : Str) (R : List RP.RD → RP.Res → Prop) : MF := fun ds ce => match toRs ds with
  | none => .st
  | some es => if h : ∃ r, R es r then match Classical.choose h with
    | .ok d => match toS d with
      | some x => .ok x ce
      | none => .st
    | .exc c => if c = .ref (E.cl nm) then .ex ⟨nm, none⟩ ce else .st
    else .st
section
variable {E : En}
theorem brg_ok {P : Program} {w : World} {mg : Str → Option Value} {base : Heap} {CX : CXT} {k n : Nat} {f : Addr} {fd : FuncData} {ps : List Str} {R : List RP.RD → RP.Res → Prop} (nm : Str) (F : FnOk P w E.K mg base CX k f fd ps (RP.spF E.K n R)) : FnOk P w E.K mg base CX k f fd ps (spS E n (brg E nm R)) := by
  refine F.imp fun vs H Q X h => ?_
  obtain ⟨Γ, ds, ce, hn, P, ra, q⟩ := h
  unfold brg at q
  cases e1 : toRs ds with
  | none => rw [e1] at q; exact q.elim
  | some es =>
    rw [e1] at q
    simp only at q
    split at q
    · rename_i d ce' eq
      split at eq
      · rename_i hx
        have hR := Classical.choose_spec hx
        split at eq
        · rename_i d0 e2
          rw [e2] at hR
          split at eq
          · rename_i x e3
            cases eq
            refine ⟨Γ.g, es, .ok d0, hn, P.gh, ra.toR e1, hR, fun v G' H' s r => q v ⟨G', Γ.m⟩ H' ?_ (rp_toS r e3)⟩
            have le : Γ.Le ⟨G', Γ.m⟩ := ⟨s.g, List.prefix_rfl⟩
            refine ⟨fun a o h _ => s.h _ _ h, le, fun a h => s.n a h, fun a h => .inl h, s.s, P.nd, P.ml, fun k c h => ?_⟩
            obtain ⟨a, h1, h2, h3⟩ := P.cel k c h
            obtain ⟨o, ho⟩ := h3.there
            refine ⟨a, h1, ?_, h3.mono le ((s.h _ _ ho).trans ho.symm)⟩
            cases e4 : G' a with
            | none => exact e4
            | some u =>
              rcases s.n a (by rw [e4]; simp) with z | z
              · exact absurd h2 z
              · rw [z] at ho; cases ho
          · cases eq
        · split at eq <;> cases eq
      · cases eq
    · rename_i x ce' eq
      split at eq
      · rename_i hx
        have hR := Classical.choose_spec hx
        split at eq
        · split at eq <;> cases eq
        · rename_i c e2
          rw [e2] at hR
          split at eq
          · rename_i hc
            cases eq
            subst hc
            refine ⟨Γ.g, es, _, hn, P.gh, ra.toR e1, hR, fun H' e => q none Γ H' ?_ rfl⟩
            refine ⟨fun a o h _ => e _ _ h, Gd.Le.refl _, fun a h => .inl h, fun a h => .inl h, P.gh.trans e, P.nd, P.ml, fun k c h => ?_⟩
            obtain ⟨a, h1, h2, h3⟩ := P.cel k c h
            obtain ⟨o, ho⟩ := h3.there
            exact ⟨a, h1, h2, h3.mono (Gd.Le.refl _) ((e _ _ ho).trans ho.symm)⟩
          · cases eq
      · cases eq
    · exact q.elim
theorem brg_ret {nm : Str} {R : List RP.RD → RP.Res → Prop} {ds : List RD} {es : List RP.RD} {d : RP.RD} {x : RD} {ce : List Cell} (h : R es (.ok d)) (hu : ∀ r, R es r → r = .ok d) (h1 : toRs ds = some es) (h2 : toS d = some x) : brg E nm R ds ce = .ok x ce := by
  unfold brg
  rw [h1]
  have hx : ∃ r, R es r := ⟨_, h⟩
  simp only [dif_pos hx]
  rw [hu _ (Classical.choose_spec hx)]
  simp only [h2]
theorem brg_exc {nm : Str} {R : List RP.RD → RP.Res → Prop} {ds : List RD} {es : List RP.RD} {ce : List Cell} (h : R es (.exc (.ref (E.cl nm)))) (hu : ∀ r, R es r → r = .exc (.ref (E.cl nm))) (h1 : toRs ds = some es) : brg E nm R ds ce = .ex ⟨nm, none⟩ ce := by
  unfold brg
  rw [h1]
  have hx : ∃ r, R es r := ⟨_, h⟩
  simp only [dif_pos hx]
  rw [hu _ (Classical.choose_spec hx)]
  simp only [if_true]
end
/-! ### the end of a law -/
def R_lawS (ds : List RP.RD) (r : RP.Res) : Prop := ∃ ns : List Int, ds = [.scr ns] ∧ ns.length ≤ 100 ∧ r = .ok (.bl true)
theorem end_law {E : En} {P : Program} {w : World} {mg : Str → Option Value} {base : Heap} {CX : CXT} {k : Nat} {a : Addr} {fd : FuncData} {ps : List Str} {f : MF} (F : FnOk P w E.K mg base CX k a fd ps (spS E 1 f)) (h : ∀ ns : List Int, ns.length ≤ 100 → ∃ ce, f [.scr ns] [] = .ok (.bl true) ce) : FnOk P w E.K mg base CX k a fd ps (RP.spF E.K 1 R_lawS) := by
  refine F.imp fun vs H Q X hs => ?_
  obtain ⟨G, ds, r, hn, e, ra, ⟨ns, rfl, hl, rfl⟩, q⟩ := hs
  have ra : RpAll E ⟨G, []⟩ vs [.scr ns] := by
    cases ra with
    | cons x ra =>
      cases ra
      cases x with
      | scr s => exact .cons (.scr s) .nil
  refine ⟨⟨G, []⟩, [.scr ns], [], hn, ⟨e, List.nodup_nil, rfl, fun k c h => by cases h⟩, ra, ?_⟩
  obtain ⟨ce, hce⟩ := h ns hl
  rw [hce]
  intro v Γ' H' P r
  rw [r.bl_inv]
  exact q _ Γ'.g H' ⟨fun a o h => P.fh a o h (by simp), P.le.g, P.gh, P.fn⟩ (.bl true)
end RS
namespace RS
open PySem PySem.Spec PyProof.Rows L2
theorem room65 {k : Nat} {A : Around} (r : Room k A) : A.units + 65 < cLine := by have := r.un; omega
end RS

set_option Elab.async false
set_option linter.all false
set_option maxRecDepth 100000
set_option maxHeartbeats 2000000
namespace RS
open PySem PySem.Spec PyProof.Rows L2

/-! ### reckoning -/
section
variable {α β : Type} {S S1 S2 : Sg}
theorem out_ok {a : α} {f : α → Sg → Out} : (Rr.ok a S).out f = f a S := rfl
theorem out_ex {e : Exn} {f : α → Sg → Out} : (Rr.ex e S : Rr α).out f = .ex e S := rfl
theorem toD_d {d : RD} : toD (.d d) S = .ok d S := rfl
theorem toD_own {i : Nat} {c : Cell} (h : S.sl[i]? = some (.own c)) : toD (.sl i) S = .ok c.rd { S with sl := S.sl.set i (.dat c.rd) } := by unfold toD; simp only [h]
theorem deref_int {i : Int} : deref S (.d (.int i)) = some (.int i) := rfl
theorem deref_bl {i : Bool} : deref S (.d (.bl i)) = some (.bl i) := rfl
theorem deref_str {i : Str} : deref S (.d (.str i)) = some (.str i) := rfl
theorem deref_non : deref S (.d .non) = some .non := rfl
theorem deref_tupD {ds : List RD} : deref S (.d (.tup ds)) = some (.tup ds) := rfl
theorem deref_lstD {ds : List RD} : deref S (.d (.lst ds)) = some (.lst ds) := rfl
theorem deref_scr {ns : List Int} : deref S (.d (.scr ns)) = some (.scr ns) := rfl
theorem deref_ty {n : String} : deref S (.d (.ty n)) = some (.ty n) := rfl
theorem deref_loc {k : Nat} : deref S (.d (.loc k)) = (S.ce[k]?).map Cell.rd := rfl
theorem deref_sl {i : Nat} {c : Cell} (h : S.sl[i]? = some (.own c)) : deref S (.sl i) = some c.rd := by unfold deref; simp only [h]
theorem toBl_bl {b : Bool} : toBl (.d (.bl b)) S = .ok b S := rfl
theorem toInt_int {b : Int} : toInt (.d (.int b)) S = .ok b S := rfl
theorem var_dat {i : Nat} {d : RD} (h : S.sl[i]? = some (.dat d)) : mVar i S = .ok (.d d) S := by unfold mVar; rw [h]
theorem var_own {i : Nat} {c : Cell} (h : S.sl[i]? = some (.own c)) : mVar i S = .ok (.sl i) S := by unfold mVar; rw [h]
theorem var_exc {i : Nat} (h : S.sl[i]? = some .exc) : mVar i S = .ok .exc S := by unfold mVar; rw [h]
theorem seq_nx {a b : MS} (h : a S = .nx S1) : mSeq a b S = b S1 := by unfold mSeq; rw [h]
theorem seq_rt {a b : MS} {d : RD} (h : a S = .rt d S1) : mSeq a b S = .rt d S1 := by unfold mSeq; rw [h]
theorem seq_ex {a b : MS} {e : Exn} (h : a S = .ex e S1) : mSeq a b S = .ex e S1 := by unfold mSeq; rw [h]
theorem asg_set {e : ME} {i : Nat} {d : RD} (h : e S = .ok (.d d) S1) : mAsg e (gSet i) S = .nx { S1 with sl := S1.sl.set i (.dat d) } := by unfold mAsg; rw [h]; rfl
theorem ret_d {e : ME} {d : RD} (h : e S = .ok (.d d) S1) : mRet e S = .rt d S1 := by unfold mRet; rw [h]; rfl
theorem ret_own {e : ME} {i : Nat} {c : Cell} (h : e S = .ok (.sl i) S1) (k : S1.sl[i]? = some (.own c)) : mRet e S = .rt c.rd { S1 with sl := S1.sl.set i (.dat c.rd) } := by unfold mRet; rw [h, out_ok, toD_own k]; rfl
theorem drop_ok {e : ME} {p : PV} (h : e S = .ok p S1) : mDrop e S = .nx S1 := by unfold mDrop; rw [h]; rfl
theorem drop_ex {e : ME} {x : Exn} (h : e S = .ex x S1) : mDrop e S = .ex x S1 := by unfold mDrop; rw [h]; rfl
theorem if_t {t : MT} {a b : MS} (h : t S = .ok true S1) : mIfS t a b S = a S1 := by unfold mIfS; rw [h]; rfl
theorem if_f {t : MT} {a b : MS} (h : t S = .ok false S1) : mIfS t a b S = b S1 := by unfold mIfS; rw [h]; rfl
theorem test_bl {a : ME} {b : Bool} (h : a S = .ok (.d (.bl b)) S1) : mTest a S = .ok b S1 := by unfold mTest; rw [h]; rfl
theorem not_ok {a : MT} {b : Bool} (h : a S = .ok b S1) : mNot a S = .ok (!b) S1 := by unfold mNot; rw [h]; rfl
theorem and_t {a b : MT} (h : a S = .ok true S1) : mAnd a b S = b S1 := by unfold mAnd; rw [h]; rfl
theorem and_f {a b : MT} (h : a S = .ok false S1) : mAnd a b S = .ok false S1 := by unfold mAnd; rw [h]; rfl
theorem or_t {a b : MT} (h : a S = .ok true S1) : mOr a b S = .ok true S1 := by unfold mOr; rw [h]; rfl
theorem or_f {a b : MT} (h : a S = .ok false S1) : mOr a b S = b S1 := by unfold mOr; rw [h]; rfl
theorem op2 {f : RD → RD → Option RD} {a b : ME} {p q : PV} {x y z : RD} (ha : a S = .ok p S1) (hb : b S1 = .ok q S2) (h1 : deref S2 p = some x) (h2 : deref S2 q = some y) (h : f x y = some z) : mOp (lift2 f) a b S = .ok (.d z) S2 := by
  unfold mOp; rw [ha, Rr.bind_ok, hb, Rr.bind_ok]; unfold lift2; rw [h1, h2]; simp only [h, retO]
theorem args_nil : aNil S = .ok [] S := rfl
theorem args_cons {a : ME} {r : MA} {p : PV} {ps : List PV} (ha : a S = .ok p S1) (hr : r S1 = .ok ps S2) : aCons a r S = .ok (p :: ps) S2 := by unfold aCons; rw [ha, Rr.bind_ok, hr, Rr.bind_ok]
theorem toDs_nil : toDs [] S = .ok [] S := rfl
theorem toDs_d {d : RD} {ps : List PV} {ds : List RD} (h : toDs ps S = .ok ds S1) : toDs (.d d :: ps) S = .ok (d :: ds) S1 := by unfold toDs; rw [toD_d, Rr.bind_ok, h, Rr.bind_ok]
theorem toDs_map {ds : List RD} : toDs (ds.map .d) S = .ok ds S := by
  induction ds with
  | nil => rfl
  | cons d ds ih => exact toDs_d ih
theorem tup_ok {a : MA} {ps : List PV} {ds : List RD} (ha : a S = .ok ps S1) (h : toDs ps S1 = .ok ds S2) (hl : ds.length ≤ 100000) : mTup a S = .ok (.d (.tup ds)) S2 := by unfold mTup; rw [ha, Rr.bind_ok, h, Rr.bind_ok, if_pos hl]
theorem lst_ok {a : MA} {ps : List PV} {ds : List RD} (ha : a S = .ok ps S1) (h : toDs ps S1 = .ok ds S2) (hl : ds.length ≤ 100000) : mLst a S = .ok (.d (.lst ds)) S2 := by unfold mLst; rw [ha, Rr.bind_ok, h, Rr.bind_ok, if_pos hl]
theorem call_ok {n : Nat} {f : MF} {es : List RD} {a : MA} {ps : List PV} {ds : List RD} {d : RD} {ce : List Cell} (ha : a S = .ok ps S1) (h : toDs ps S1 = .ok ds S2) (hn : (ds ++ es).length = n) (hf : f (ds ++ es) S2.ce = .ok d ce) : mCall n f es a S = .ok (.d d) { S2 with ce := ce } := by
  unfold mCall; rw [ha, Rr.bind_ok, h, Rr.bind_ok, if_pos hn, hf]
theorem call_ex {n : Nat} {f : MF} {es : List RD} {a : MA} {ps : List PV} {ds : List RD} {e : Exn} {ce : List Cell} (ha : a S = .ok ps S1) (h : toDs ps S1 = .ok ds S2) (hn : (ds ++ es).length = n) (hf : f (ds ++ es) S2.ce = .ex e ce) : mCall n f es a S = .ex e { S2 with ce := ce } := by
  unfold mCall; rw [ha, Rr.bind_ok, h, Rr.bind_ok, if_pos hn, hf]
theorem cb_ok {f : List RD → Option RD} {a : MA} {ps : List PV} {ds : List RD} {d : RD} (ha : a S = .ok ps S1) (h : derefs S1 ps = some ds) (hf : f ds = some d) : mCB (liftL f) a S = .ok (.d d) S1 := by
  unfold mCB; rw [ha, Rr.bind_ok]; unfold liftL; rw [h]; simp only [hf, retO]
theorem derefs_nil : derefs S [] = some [] := rfl
theorem derefs_cons {p : PV} {ps : List PV} {d : RD} {ds : List RD} (h : deref S p = some d) (k : derefs S ps = some ds) : derefs S (p :: ps) = some (d :: ds) := by unfold derefs; rw [h, k]
theorem sl_ok {a : ME} {lo hi : MO} {p : PV} {l u : Option Int} {S3 : Sg} {x z : RD} (ha : a S = .ok p S1) (hl : lo S1 = .ok l S2) (hu : hi S2 = .ok u S3) (h : deref S3 p = some x) (hf : fSl l u x = some z) : mSl a lo hi S = .ok (.d z) S3 := by
  unfold mSl; rw [ha, Rr.bind_ok, hl, Rr.bind_ok, hu, Rr.bind_ok, h]; simp only [hf, retO]
theorem part_ok {a : ME} {i : Int} (h : a S = .ok (.d (.int i)) S1) : mPart a S = .ok (some i) S1 := by unfold mPart; rw [h]; rfl
theorem frz_ok {m : MN} {c : Cell} {d : RD} (h : m S = .ok (c, S1) S1) (hc : frzC c = some d) : mFrz m S = .ok (.d d) S1 := by unfold mFrz; rw [h, Rr.bind_ok]; simp only [hc, retO]
theorem cell_ok {m : MN} {c : Cell} (h : m S = .ok (c, S1) S1) : mCell m S = .ok (.d (.loc S1.ce.length)) { S1 with ce := S1.ce ++ [c] } := by unfold mCell; rw [h]; rfl
theorem own_ok {m : MN} {c : Cell} {i : Nat} (h : m S = .ok (c, S1) S1) : mOwn i m S = .nx { S1 with sl := S1.sl.set i (.own c) } := by unfold mOwn; rw [h]; rfl
theorem nlst_ok {a : MA} {ps : List PV} {ds : List RD} (ha : a S = .ok ps S1) (h : toDs ps S1 = .ok ds S2) (hl : ds.length ≤ 100000) : nLst a S = .ok (.lst ds, S2) S2 := by unfold nLst; rw [ha, Rr.bind_ok, h, Rr.bind_ok, if_pos hl]
/-- a slot's own list grows -/
theorem app_own {i : Nat} {e : ME} {ds : List RD} {d : RD} (hs : S.sl[i]? = some (.own (.lst ds))) (he : e S = .ok (.d d) S1) (hs1 : S1.sl[i]? = some (.own (.lst ds))) (hl : ds.length < 100000) : mDrop (mBM "list" fAppend (mVar i) (aCons e aNil)) S = .nx { S1 with sl := S1.sl.set i (.own (.lst (ds ++ [d]))) } := by
  refine drop_ok (p := .d .non) ?_
  unfold mBM
  rw [var_own hs, Rr.bind_ok, deref_sl hs]
  show (if tyD "list" (.lst ds) = true then _ else _) = _
  rw [if_pos (by rfl), args_cons he args_nil, Rr.bind_ok]
  unfold fAppend
  simp only [toD_d, Rr.bind_ok]
  have hc : cellOf S1 (.sl i) = some (.lst ds) := by unfold cellOf; simp only [hs1]
  simp only [hc, if_pos hl]
  rfl
end
/-! ### loops -/
theorem forL_at {ok : Sg → Prop} {g : MG} {b : MS} : ∀ {k : Nat} {ds : List RD} (Z : Nat → Sg) (_ : k ≤ ds.length) (_ : ∀ i, i < k → ok (Z i)) (_ : ∀ i d, i < k → ds[i]? = some d → ∃ S1, g d (Z i) = some S1 ∧ b S1 = .nx (Z (i + 1))), forL ok g b ds (Z 0) = forL ok g b (ds.drop k) (Z k)
  | 0, ds, Z, _, _, _ => by rw [List.drop_zero]
  | k + 1, [], Z, h, _, _ => by simp at h
  | k + 1, d :: ds, Z, h, hok, hs => by
    obtain ⟨S1, h1, h2⟩ := hs 0 d (by omega) rfl
    conv => lhs; unfold forL
    rw [if_pos (hok 0 (by omega)), h1]
    simp only [h2]
    exact forL_at (k := k) (ds := ds) (fun i => Z (i + 1)) (by simpa using h) (fun i hi => hok (i + 1) (by omega)) fun i d' hi hd => hs (i + 1) d' (by omega) (by simpa using hd)
theorem forL_all {ok : Sg → Prop} {g : MG} {b : MS} {ds : List RD} (Z : Nat → Sg) (hok : ∀ i, i ≤ ds.length → ok (Z i)) (hs : ∀ i d, ds[i]? = some d → ∃ S1, g d (Z i) = some S1 ∧ b S1 = .nx (Z (i + 1))) : forL ok g b ds (Z 0) = .nx (Z ds.length) := by
  rw [forL_at (k := ds.length) Z (Nat.le_refl _) (fun i hi => hok i (Nat.le_of_lt hi)) fun i d _ h => hs i d h, List.drop_length]
  unfold forL
  rw [if_pos (hok _ (Nat.le_refl _))]
/-- a turn that goes out -/
theorem forL_out {ok : Sg → Prop} {g : MG} {b : MS} {ds : List RD} {k : Nat} {d : RD} {S1 : Sg} {o : Out} (Z : Nat → Sg) (hk : ds[k]? = some d) (hok : ∀ i, i ≤ k → ok (Z i)) (hs : ∀ i d, i < k → ds[i]? = some d → ∃ S1, g d (Z i) = some S1 ∧ b S1 = .nx (Z (i + 1))) (h1 : g d (Z k) = some S1) (h2 : b S1 = o)
    (ho : (∃ r S2, o = .rt r S2) ∨ ∃ e S2, o = .ex e S2) : forL ok g b ds (Z 0) = o := by
  have hl := (List.getElem?_eq_some_iff.mp hk)
  rw [forL_at (k := k) Z (Nat.le_of_lt hl.1) (fun i hi => hok i (by omega)) hs, List.drop_eq_getElem_cons hl.1, hl.2]
  unfold forL
  rw [if_pos (hok k (Nat.le_refl _)), h1]
  rcases ho with ⟨r, S2, rfl⟩ | ⟨e, S2, rfl⟩ <;> simp only [h2]
theorem for_ok {i : MI} {g : MG} {b : MS} {S S1 : Sg} {its : Its} {o : Out} (hi : i S = .ok its S1) (h : forL its.ok g b its.ds S1 = o) : mFor i g b S = o := by unfold mFor; rw [hi, out_ok, h]
theorem iter_lst {e : ME} {S S1 : Sg} {ds : List RD} (h : e S = .ok (.d (.lst ds)) S1) : mIter e S = .ok ⟨ds, fun _ => True⟩ S1 := by unfold mIter; rw [h, Rr.bind_ok]; rfl
theorem iter_scr {e : ME} {S S1 : Sg} {ns : List Int} (h : e S = .ok (.d (.scr ns)) S1) : mIter e S = .ok ⟨ns.map .int, fun _ => True⟩ S1 := by unfold mIter; rw [h, Rr.bind_ok]; rfl
theorem iter_tup {e : ME} {S S1 : Sg} {ds : List RD} (h : e S = .ok (.d (.tup ds)) S1) : mIter e S = .ok ⟨ds, fun _ => True⟩ S1 := by unfold mIter; rw [h, Rr.bind_ok]; rfl
theorem iter_loc {e : ME} {S S1 : Sg} {k : Nat} {ds : List RD} (h : e S = .ok (.d (.loc k)) S1) (hc : S1.ce[k]? = some (.lst ds)) : mIter e S = .ok ⟨ds, fun S => S.ce[k]? = some (.lst ds)⟩ S1 := by
  unfold mIter; rw [h, Rr.bind_ok]; unfold seqIts; rw [deref_loc, hc]; rfl
theorem iter_str {e : ME} {S S1 : Sg} {z : Str} (h : e S = .ok (.d (.str z)) S1) : mIter e S = .ok ⟨z.cps.toList.map fun c => .str ⟨#[c]⟩, fun _ => True⟩ S1 := by unfold mIter; rw [h, Rr.bind_ok]; rfl
theorem range1_ok {a : MA} {S S1 : Sg} {j : Int} (h : a S = .ok [.d (.int j)] S1) (hj : -1000000000 ≤ j ∧ j ≤ 1000000000) : mRange1 a S = .ok ⟨(List.range j.toNat).map fun i => .int (i : Nat), fun _ => True⟩ S1 := by
  unfold mRange1; rw [h, Rr.bind_ok]; simp only; rw [if_pos hj]
theorem range2_ok {a : MA} {S S1 : Sg} {i j : Int} (h : a S = .ok [.d (.int i), .d (.int j)] S1) (hi : -1000000000 ≤ i ∧ i ≤ 1000000000) (hj : -1000000000 ≤ j ∧ j ≤ 1000000000) : mRange2 a S = .ok ⟨(List.range (j - i).toNat).map fun k => .int (i + (k : Nat)), fun _ => True⟩ S1 := by
  unfold mRange2; rw [h, Rr.bind_ok]; simp only; rw [if_pos ⟨hi, hj⟩]
/-! ### comprehensions -/
theorem lcL_map {ok : Sg → Prop} {g : MG} {t : MT} {e : ME} {vs : List Nat} {S : Sg} {α : Type} (enc f : α → RD) (hok : ok S) : ∀ (xs : List α) (acc : List RD), (∀ x ∈ xs, ∃ S1 S2 p S3 S4, g (enc x) (wipeS vs S) = some S1 ∧ t S1 = .ok true S2 ∧ e S2 = .ok p S3 ∧ toD p S3 = .ok (f x) S4 ∧ backS vs S S4 = S) → lcL ok g t e vs (xs.map enc) acc S = .ok (acc ++ xs.map f) S
  | [], acc, _ => by rw [List.map_nil, List.map_nil, List.append_nil]; unfold lcL; rw [if_pos hok]
  | x :: xs, acc, h => by
    obtain ⟨S1, S2, p, S3, S4, h1, h2, h3, h4, h5⟩ := h x List.mem_cons_self
    rw [List.map_cons, List.map_cons]
    unfold lcL
    rw [if_pos hok, h1]
    simp only [h2, h3, h4, h5]
    rw [lcL_map enc f hok xs (acc ++ [f x]) fun y hy => h y (List.mem_cons_of_mem _ hy), List.append_assoc]
    rfl
/-- with a test -/
theorem lcL_filter {ok : Sg → Prop} {g : MG} {t : MT} {e : ME} {vs : List Nat} {S : Sg} {α : Type} (enc f : α → RD) (c : α → Bool) (hok : ok S) : ∀ (xs : List α) (acc : List RD), (∀ x ∈ xs, ∃ S1 S2, g (enc x) (wipeS vs S) = some S1 ∧ t S1 = .ok (c x) S2 ∧ backS vs S S2 = S ∧ (c x = true → ∃ p S3 S4, e S2 = .ok p S3 ∧ toD p S3 = .ok (f x) S4 ∧ backS vs S S4 = S)) → lcL ok g t e vs (xs.map enc) acc S = .ok (acc ++ (xs.filter c).map f) S
  | [], acc, _ => by rw [List.map_nil, List.filter_nil, List.map_nil, List.append_nil]; unfold lcL; rw [if_pos hok]
  | x :: xs, acc, h => by
    obtain ⟨S1, S2, h1, h2, h5, h6⟩ := h x List.mem_cons_self
    have ih := fun acc => lcL_filter enc f c hok xs acc fun y hy => h y (List.mem_cons_of_mem _ hy)
    rw [List.map_cons]
    unfold lcL
    rw [if_pos hok, h1]
    cases hc : c x with
    | true =>
      obtain ⟨p, S3, S4, h3, h4, h7⟩ := h6 hc
      rw [hc] at h2
      simp only [h2, h3, h4, h7]
      rw [ih, List.filter_cons_of_pos hc, List.append_assoc]
      rfl
    | false =>
      rw [hc] at h2
      simp only [h2, h5]
      rw [ih, List.filter_cons_of_neg (by rw [hc]; decide)]
theorem nlc_ok {i : MI} {g : MG} {t : MT} {e : ME} {vs : List Nat} {S S1 : Sg} {its : Its} {ds : List RD} (hi : i S = .ok its S1) (hl : its.ds.length ≤ 100000) (h : lcL its.ok g t e vs its.ds [] S1 = .ok ds S1) : nLc i g t e vs S = .ok (.lst ds, S1) S1 := by
  unfold nLc; rw [hi, Rr.bind_ok, if_pos hl, h, Rr.bind_ok]
theorem yes_ok {S : Sg} : (fun S => Rr.ok true S : MT) S = .ok true S := rfl
/-! ### ratios -/
def sQ (q : Rat) : RD := .tup [.int q.num, .int (q.den : Int)]
def sL (qs : List Rat) : RD := .lst (qs.map sQ)
def sM (rows : List (List Rat)) : RD := .lst (rows.map sL)
theorem toR_sQ (q : Rat) : toR (sQ q) = some (RP.eQ q) := rfl
theorem toS_eQ (q : Rat) : toS (RP.eQ q) = some (sQ q) := rfl
theorem toRs_map {α : Type} {f : α → RD} {g : α → RP.RD} (h : ∀ x, toR (f x) = some (g x)) : ∀ xs : List α, toRs (xs.map f) = some (xs.map g)
  | [] => rfl
  | x :: xs => by rw [List.map_cons, List.map_cons]; unfold toRs; rw [h x, toRs_map h xs]
theorem toSs_map {α : Type} {f : α → RD} {g : α → RP.RD} (h : ∀ x, toS (g x) = some (f x)) : ∀ xs : List α, toSs (xs.map g) = some (xs.map f)
  | [] => rfl
  | x :: xs => by rw [List.map_cons, List.map_cons]; unfold toSs; rw [h x, toSs_map h xs]
theorem toR_sL (qs : List Rat) : toR (sL qs) = some (RP.eL qs) := by unfold sL RP.eL; simp only [toR]; rw [toRs_map toR_sQ]; rfl
theorem toS_eL (qs : List Rat) : toS (RP.eL qs) = some (sL qs) := by unfold sL RP.eL; simp only [toS]; rw [toSs_map toS_eQ]; rfl
theorem toR_sM (rows : List (List Rat)) : toR (sM rows) = some (RP.eM rows) := by unfold sM RP.eM; simp only [toR]; rw [toRs_map toR_sL]; rfl
theorem toS_eM (rows : List (List Rat)) : toS (RP.eM rows) = some (sM rows) := by unfold sM RP.eM; simp only [toS]; rw [toSs_map toS_eL]; rfl
theorem eQ_inj {a b : Rat} (h : RP.eQ a = RP.eQ b) : a = b := by
  unfold RP.eQ at h
  injection h with h
  injection h with h1 h2
  injection h2 with h2 _
  injection h1 with h1
  injection h2 with h2
  exact Rat.ext h1 (by exact_mod_cast h2)
theorem map_inj {α β : Type} {f : α → β} (h : ∀ a b, f a = f b → a = b) : ∀ {xs ys : List α}, xs.map f = ys.map f → xs = ys
  | [], [], _ => rfl
  | [], _ :: _, e => by cases e
  | _ :: _, [], e => by cases e
  | x :: xs, y :: ys, e => by
    rw [List.map_cons, List.map_cons] at e
    injection e with e1 e2
    rw [h _ _ e1, map_inj h e2]
theorem eL_inj {a b : List Rat} (h : RP.eL a = RP.eL b) : a = b := by
  unfold RP.eL at h
  injection h with h
  exact map_inj (fun _ _ => eQ_inj) h
theorem eM_inj {a b : List (List Rat)} (h : RP.eM a = RP.eM b) : a = b := by
  unfold RP.eM at h
  injection h with h
  exact map_inj (fun _ _ => eL_inj) h
/-! ### sizes -/
theorem okMul_of {i j : Int} {a b : Nat} (hi : i.natAbs < 2 ^ a) (hj : j.natAbs < 2 ^ b) (h : a + b < 134000000) : okMul i j := by
  unfold okMul
  have h1 : i.natAbs.log2 ≤ a := by
    by_cases z : i.natAbs = 0
    · rw [z]; exact Nat.zero_le _
    · exact Nat.le_of_lt ((Nat.log2_lt z).mpr hi)
  have h2 : j.natAbs.log2 ≤ b := by
    by_cases z : j.natAbs = 0
    · rw [z]; exact Nat.zero_le _
    · exact Nat.le_of_lt ((Nat.log2_lt z).mpr hj)
  omega
theorem okDiv_of {j : Int} {b : Nat} (h0 : 0 < j) (hj : j.natAbs < 2 ^ b) (h : b ≤ 9000) : okDiv j := by
  refine ⟨h0, ?_⟩
  have : j.natAbs.log2 < b := (Nat.log2_lt (by omega)).mpr hj
  omega
end RS
namespace RS
open PySem PySem.Spec PyProof.Rows L2
section
variable {S S1 S2 : Sg}
theorem c_ok {d : RD} : mC d S = .ok (.d d) S := rfl
theorem noPart_ok : mNoPart S = .ok none S := rfl
theorem fMul_ok {i j : Int} (h : okMul i j) : fMul (.int i) (.int j) = some (.int (i * j)) := by simp only [fMul, if_pos h]
theorem fDiv_ok {i j : Int} (h : okDiv j) : fDiv (.int i) (.int j) = some (.int (i / j)) := by simp only [fDiv, if_pos h]
theorem fMod_ok {i j : Int} (h : 0 < j) : fMod (.int i) (.int j) = some (.int (i % j)) := by simp only [fMod, if_pos h]
theorem fAddL {a b : List RD} (h : a.length + b.length ≤ 100000) : fAdd (.lst a) (.lst b) = some (.lst (a ++ b)) := by simp only [fAdd, if_pos h]
theorem fAddS {a b : Str} (h : a.length + b.length ≤ 100000) : fAdd (.str a) (.str b) = some (.str (a ++ b)) := by simp only [fAdd, if_pos h]
theorem and_p {a b : MT} {x y : Bool} (ha : a S = .ok x S) (hb : x = true → b S = .ok y S) : mAnd a b S = .ok (x && y) S := by
  cases x with
  | true => rw [and_t ha, hb rfl]; rfl
  | false => rw [and_f ha]; rfl
theorem or_p {a b : MT} {x y : Bool} (ha : a S = .ok x S) (hb : x = false → b S = .ok y S) : mOr a b S = .ok (x || y) S := by
  cases x with
  | true => rw [or_t ha]; rfl
  | false => rw [or_f ha, hb rfl]; rfl
theorem andV_p {a b : ME} {x y : Bool} (ha : a S = .ok (.d (.bl x)) S) (hb : x = true → b S = .ok (.d (.bl y)) S) : mAndV a b S = .ok (.d (.bl (x && y))) S := by
  unfold mAndV
  rw [ha, Rr.bind_ok, toBl_bl, Rr.bind_ok]
  cases x with
  | true => rw [if_pos rfl, hb rfl]; rfl
  | false => rfl
theorem ev_is {e : ME} {d d' : RD} (h : e S = .ok (.d d) S1) (k : d = d') : e S = .ok (.d d') S1 := by rw [h, k]
theorem t_is {e : MT} {d d' : Bool} (h : e S = .ok d S1) (k : d = d') : e S = .ok d' S1 := by rw [h, k]
theorem out_is {m : MS} {o o' : Out} (h : m S = o) (k : o = o') : m S = o' := by rw [h, k]
/-- what a body gives -/
theorem fun_rt {n : Nat} {m : MS} {ds : List RD} {ce : List Cell} {d : RD} {S : Sg} (h : m ⟨startL n ds, ce, none⟩ = .rt d S) : funOf n m ds ce = .ok d S.ce := by unfold funOf; rw [h]
theorem fun_nx {n : Nat} {m : MS} {ds : List RD} {ce : List Cell} {S : Sg} (h : m ⟨startL n ds, ce, none⟩ = .nx S) : funOf n m ds ce = .ok .non S.ce := by unfold funOf; rw [h]
theorem fun_ex {n : Nat} {m : MS} {ds : List RD} {ce : List Cell} {e : Exn} {S : Sg} (h : m ⟨startL n ds, ce, none⟩ = .ex e S) : funOf n m ds ce = .ex e S.ce := by unfold funOf; rw [h]
theorem try_rt {i : Option Nat} {em : Str → Option Bool} {b s : MS} {d : RD} (h : b S = .rt d S1) : mTry i em b s S = .rt d S1 := by unfold mTry; rw [h]
theorem try_nx {i : Option Nat} {em : Str → Option Bool} {b s : MS} (h : b S = .nx S1) : mTry i em b s S = .nx S1 := by unfold mTry; rw [h]
theorem try_exR {i : Option Nat} {em : Str → Option Bool} {b s : MS} {e : Exn} {d : RD} (h : b S = .ex e S1) (he : em e.c = some true) (hs : s (inX i e S1) = .rt d S2) : mTry i em b s S = .rt d (outX i S2) := by unfold mTry; simp only [h, he, hs]
end
end RS
namespace RS
open PySem PySem.Spec PyProof.Rows L2
theorem cut_to {α : Type} {ds : List α} {p : Nat} (h : p ≤ ds.length) : cutD ds none (some (p : Int)) = ds.take p := by
  have e1 : HT.sIx ds.length 0 none = 0 := rfl
  have e2 : HT.sIx ds.length ds.length (some (p : Int)) = p := by
    show (if (p : Int) < 0 then ((p : Int) + (ds.length : Int)).toNat else min (p : Int).toNat ds.length) = p
    rw [if_neg (by omega)]
    omega
  unfold cutD
  rw [e1, e2, List.drop_zero, Nat.sub_zero]
theorem cut_from {α : Type} {ds : List α} {p : Nat} {i : Int} (hi : i = (p : Int)) (h : p ≤ ds.length) : cutD ds (some i) none = ds.drop p := by
  subst hi
  have e1 : HT.sIx ds.length ds.length none = ds.length := rfl
  have e2 : HT.sIx ds.length 0 (some (p : Int)) = p := by
    show (if (p : Int) < 0 then ((p : Int) + (ds.length : Int)).toNat else min (p : Int).toNat ds.length) = p
    rw [if_neg (by omega)]
    omega
  unfold cutD
  rw [e1, e2, List.take_of_length_le (by rw [List.length_drop]; exact Nat.le_refl _)]
section
variable {S S1 S2 : Sg}
theorem star_lst {a : ME} {r : MA} {p : PV} {ds : List RD} {ps : List PV} (ha : a S = .ok p S1) (hd : deref S1 p = some (.lst ds)) (hr : r S1 = .ok ps S2) : aStar a r S = .ok (ds.map .d ++ ps) S2 := by
  unfold aStar
  rw [ha, Rr.bind_ok]
  simp only [hd, seqOf, hr, Rr.bind_ok]
theorem toDs_app {ds : List RD} {ps : List PV} {es : List RD} (h : toDs ps S = .ok es S1) : toDs (ds.map .d ++ ps) S = .ok (ds ++ es) S1 := by
  induction ds with
  | nil => exact h
  | cons d ds ih => exact toDs_d ih
/-- two lists walked abreast -/
theorem its_any {S1 : Sg} {d : RD} {ds : List RD} (hd : deref S1 (.d d) = some (.lst ds)) : itK (.d d) S1 = 0 ∧ ∃ ok : Sg → Prop, seqIts (.d d) S1 = .ok ⟨ds, ok⟩ S1 ∧ ∀ S2 : Sg, S2.ce = S1.ce → ok S2 := by
  refine ⟨by unfold itK; simp only [hd], ?_⟩
  cases d with
  | loc k =>
    rw [deref_loc] at hd
    cases e1 : S1.ce[k]? with
    | none => rw [e1] at hd; cases hd
    | some c =>
      rw [e1] at hd
      cases c with
      | lst es =>
        cases hd
        refine ⟨fun S => S.ce[k]? = some (.lst ds), ?_, fun S2 hS => by show S2.ce[k]? = _; rw [hS]; exact e1⟩
        unfold seqIts
        rw [deref_loc, e1]
        rfl
      | dk _ _ => cases hd
      | dt _ _ => cases hd
      | obj _ _ _ => cases hd
  | lst es => cases hd; exact ⟨fun _ => True, rfl, fun _ _ => trivial⟩
  | _ => cases hd
theorem zip2_any {a : MA} {d e : RD} {ds es : List RD} (h : a S = .ok [.d d, .d e] S1) (hd : deref S1 (.d d) = some (.lst ds)) (he : deref S1 (.d e) = some (.lst es)) : ∃ ok : Sg → Prop, mZip2 a S = .ok ⟨(ds.zip es).map fun z => .tup [z.1, z.2], ok⟩ S1 ∧ ∀ S2 : Sg, S2.ce = S1.ce → ok S2 := by
  obtain ⟨k1, ok1, i1, o1⟩ := its_any hd
  obtain ⟨k2, ok2, i2, o2⟩ := its_any he
  refine ⟨fun S => ok1 S ∧ ok2 S, ?_, fun S2 hS => ⟨o1 S2 hS, o2 S2 hS⟩⟩
  unfold mZip2
  rw [h, Rr.bind_ok]
  simp only [k1, if_true, i1, Rr.bind_ok, k2, i2, if_pos (o1 S1 rfl)]
/-- a cell's list grows -/
theorem app_loc {o e : ME} {L : Nat} {ds : List RD} {d : RD} (ho : o S = .ok (.d (.loc L)) S1) (hs : S1.ce[L]? = some (.lst ds)) (he : e S1 = .ok (.d d) S2) (hs1 : S2.ce[L]? = some (.lst ds)) (hl : ds.length < 100000) : mDrop (mBM "list" fAppend o (aCons e aNil)) S = .nx { S2 with ce := S2.ce.set L (.lst (ds ++ [d])) } := by
  refine drop_ok (p := .d .non) ?_
  unfold mBM
  rw [ho, Rr.bind_ok, deref_loc, hs]
  show (if tyD "list" (.lst ds) = true then _ else _) = _
  rw [if_pos (by rfl), args_cons he args_nil, Rr.bind_ok]
  unfold fAppend
  have hc : cellOf S2 (.d (.loc L)) = some (.lst ds) := hs1
  simp only [toD_d, Rr.bind_ok, hc, if_pos hl]
  rfl
/-- o[i] = e in a cell -/
theorem set_loc {o i e : ME} {L j : Nat} {n : Int} {ds : List RD} {d : RD} {S3 : Sg} (he : e S = .ok (.d d) S1) (ho : o S1 = .ok (.d (.loc L)) S2) (hi : i S2 = .ok (.d (.int n)) S3) (hs : S3.ce[L]? = some (.lst ds)) (hj : ixN ds.length n = some j) : mSetIx e o i S = .nx { S3 with ce := S3.ce.set L (.lst (ds.set j d)) } := by
  unfold mSetIx
  rw [he, out_ok, ho, out_ok, hi, out_ok, toD_d, out_ok]
  have hc : cellOf S3 (.d (.loc L)) = some (.lst ds) := hs
  simp only [hc, hj]
  rfl
theorem ixN_nat {n i : Nat} (h : i < n) : ixN n (i : Int) = some i := by
  unfold ixN
  rw [if_pos (by omega), if_pos (by omega)]
  simp
end
end RS
namespace RS
theorem asg_ex {e : ME} {g : MG} {x : Exn} {S S1 : Sg} (h : e S = .ex x S1) : mAsg e g S = .ex x S1 := by unfold mAsg; rw [h]; rfl
theorem ret_ex {e : ME} {x : Exn} {S S1 : Sg} (h : e S = .ex x S1) : mRet e S = .ex x S1 := by unfold mRet; rw [h]; rfl
end RS
namespace RS
/-- for i in range(n) -/
theorem forL_range {ok : Sg → Prop} {g : MG} {b : MS} {n : Nat} (Z : Nat → Sg) (hok : ∀ i, i ≤ n → ok (Z i)) (hs : ∀ i, i < n → ∃ S1, g (.int (i : Nat)) (Z i) = some S1 ∧ b S1 = .nx (Z (i + 1))) : forL ok g b ((List.range n).map fun i => RD.int (i : Nat)) (Z 0) = .nx (Z n) := by
  have hl : ((List.range n).map fun i => RD.int (i : Nat)).length = n := by rw [List.length_map, List.length_range]
  have := forL_all (ok := ok) (g := g) (b := b) (ds := (List.range n).map fun i => RD.int (i : Nat)) Z (fun i hi => hok i (by omega)) fun i d hd => by
    have hi : i < n := by
      have := (List.getElem?_eq_some_iff.mp hd).1
      omega
    rw [List.getElem?_map, List.getElem?_range hi] at hd
    cases hd
    exact hs i hi
  rw [hl] at this
  exact this
/-- .. over any list of data -/
theorem forL_map {ok : Sg → Prop} {g : MG} {b : MS} {α : Type} {enc : α → RD} {xs : List α} (Z : Nat → Sg) (hok : ∀ i, i ≤ xs.length → ok (Z i)) (hs : ∀ i (h : i < xs.length), ∃ S1, g (enc xs[i]) (Z i) = some S1 ∧ b S1 = .nx (Z (i + 1))) : forL ok g b (xs.map enc) (Z 0) = .nx (Z xs.length) := by
  have := forL_all (ok := ok) (g := g) (b := b) (ds := xs.map enc) Z (fun i hi => hok i (by simpa using hi)) fun i d hd => by
    have hi : i < xs.length := by
      have := (List.getElem?_eq_some_iff.mp hd).1
      simpa using this
    rw [List.getElem?_map, List.getElem?_eq_getElem hi] at hd
    cases hd
    exact hs i hi
  rw [List.length_map] at this
  exact this
end RS
namespace RS
open PySem PySem.Spec PyProof.Rows L2
theorem ncat_ok {a b : ME} {S S1 S2 : Sg} {p q : PV} {as bs : List RD} (ha : a S = .ok p S1) (hb : b S1 = .ok q S2) (h1 : deref S2 p = some (.lst as)) (h2 : deref S2 q = some (.lst bs)) (hl : as.length + bs.length ≤ 100000) : nCat a b S = .ok (.lst (as ++ bs), S2) S2 := by
  unfold nCat
  rw [ha, Rr.bind_ok, hb, Rr.bind_ok, h1, h2]
  simp only [if_pos hl]
end RS

set_option Elab.async false
set_option linter.all false
set_option maxRecDepth 100000
set_option maxHeartbeats 2000000
namespace RS
open PySem PySem.Spec PyProof.Rows L2
open Evl (Ex)
/-! ### methods of texts -/
def RD.strs : List RD → Option (List Str)
  | [] => some []
  | .str x :: r => (RD.strs r).map (x :: ·)
  | _ :: _ => none
def gSplit : RD → List RD → Option RD
  | .str a, [.str b] => if (b.length == 0) = false ∧ a.length + 2 ≤ 100000 then some (.lst ((Txt.split a b).map .str)) else none
  | _, _ => none
def gPartition : RD → List RD → Option RD
  | .str a, [.str b] => if (b.length == 0) = false ∧ a.length ≤ 100000 then some (.tup [.str (Txt.partition a b).1, .str (Txt.partition a b).2.1, .str (Txt.partition a b).2.2]) else none
  | _, _ => none
def gJoin : RD → List RD → Option RD
  | .str a, [.lst ds] => match RD.strs ds with
    | some ys => if (ys.map (·.length)).sum + ys.length * a.length ≤ 100000 then some (.str (Txt.join a ys)) else none
    | none => none
  | _, _ => none
def gStarts : RD → List RD → Option RD
  | .str a, [.str b] => some (.bl (Txt.startswith a b))
  | _, _ => none
def gRemovePrefix : RD → List RD → Option RD
  | .str a, [.str b] => if a.length ≤ 100000 then some (.str (Txt.removeprefix a b)) else none
  | _, _ => none
def gZfill : RD → List RD → Option RD
  | .str a, [.int i] => if PadOk i = true then some (.str (Txt.zfill a i)) else none
  | _, _ => none
section
variable {X : Cx} {E : En} {W : WX}
theorem strs_all {Γ : Gd} : ∀ {xs : List V} {ds : List RD} {ys : List Str}, RpAll E Γ xs ds → RD.strs ds = some ys → xs = ys.map V.str
  | _, [], _, .nil, e => by cases e; rfl
  | _, d :: ds, ys, .cons r rs, e => by
    cases d with
    | str x =>
      unfold RD.strs at e
      cases e1 : RD.strs ds with
      | none => rw [e1] at e; cases e
      | some zs => rw [e1] at e; cases e; rw [r.str_inv, strs_all rs e1]; rfl
    | _ => cases e
theorem rp_strs {Γ : Gd} : ∀ ys : List Str, RpAll E Γ (ys.map V.str) (ys.map RD.str)
  | [] => .nil
  | y :: r => .cons (.str y) (rp_strs r)
theorem mb_split : MbQ X E W "str.split" (liftM gSplit) := ⟨_, mt_split, sm_lift fun h1 h2 e Q w => by
  unfold gSplit at e
  split at e
  · split at e
    · cases e
      rename_i hc
      obtain ⟨y, q, rfl, h3⟩ := h2.one
      exact ⟨_, _, h1.str, by rw [h3.str], hc.1, by rw [sizeLine_eq]; omega, w.lst h1.A (rp_strs _)⟩
    · cases e
  · cases e⟩
theorem mb_partition : MbQ X E W "str.partition" (liftM gPartition) := ⟨_, mt_partition, sm_lift fun h1 h2 e Q w => by
  unfold gPartition at e
  split at e
  · split at e
    · cases e
      rename_i hc
      obtain ⟨y, q, rfl, h3⟩ := h2.one
      exact ⟨_, _, h1.str, by rw [h3.str], hc.1, Evl.sz_of hc.2, w.tup h1.A (.cons (.str _) (.cons (.str _) (.cons (.str _) .nil)))⟩
    · cases e
  · cases e⟩
theorem mb_join (hK : X.K = E.K) : MbQ X E W "str.join" (liftM gJoin) := ⟨_, mt_join, sm_lift fun h1 h2 e Q w => by
  rw [hK]
  unfold gJoin at e
  split at e
  · rename_i a ds
    cases e1 : RD.strs ds with
    | none => rw [e1] at e; cases e
    | some ys =>
      rw [e1] at e
      simp only at e
      split at e
      · cases e
        rename_i hc
        obtain ⟨y, q, rfl, h3⟩ := h2.one
        obtain ⟨b, xs, rfl, hs, ra⟩ := h3.lst
        have := strs_all ra e1
        subst this
        exact ⟨_, b, ys, h1.str, rfl, .inl (Evl.sq_of hs), by omega, w.val h1.A (.str _)⟩
      · cases e
  · cases e⟩
theorem mb_starts : MbQ X E W "str.startswith" (liftM gStarts) := ⟨_, mt_startswith, sm_lift fun h1 h2 e Q w => by
  unfold gStarts at e
  split at e
  · cases e
    obtain ⟨y, q, rfl, h3⟩ := h2.one
    exact ⟨_, _, h1.str, by rw [h3.str], w.val h1.A (.bl _)⟩
  · cases e⟩
theorem mb_removeprefix : MbQ X E W "str.removeprefix" (liftM gRemovePrefix) := ⟨_, mt_removeprefix, sm_lift fun h1 h2 e Q w => by
  unfold gRemovePrefix at e
  split at e
  · split at e
    · cases e
      rename_i hc
      obtain ⟨y, q, rfl, h3⟩ := h2.one
      exact ⟨_, _, h1.str, by rw [h3.str], Evl.sz_of hc, w.val h1.A (.str _)⟩
    · cases e
  · cases e⟩
theorem mb_zfill : MbQ X E W "str.zfill" (liftM gZfill) := ⟨_, mt_zfill, sm_lift fun h1 h2 e Q w => by
  unfold gZfill at e
  split at e
  · split at e
    · cases e
      rename_i hc
      obtain ⟨y, q, rfl, h3⟩ := h2.one
      exact ⟨_, _, h1.str, by rw [h3.int], hc, w.val h1.A (.str _)⟩
    · cases e
  · cases e⟩
end
/-! ### divmod of great ints; xs[::-1]; tests by truth -/
def fDivmodW : List RD → Option RD
  | [.int i, .int j] => if 0 < j ∧ i.natAbs.log2 ≤ 3900 then some (.tup [.int (i / j), .int (i % j)]) else none
  | _ => none
def mRev (m : ME) : ME := fun S => (m S).bind fun p S1 => match deref S1 p with
  | some d => match seqOf d with
    | some ds => .ok (.d (.lst ds.reverse)) S1
    | none => .st
  | none => .st
def fTru : RD → Option Bool
  | .non => some false
  | .bl b => some b
  | .int i => some (i != 0)
  | .str y => if y.length ≤ 100000 then some ((y.length : Int) != 0) else none
  | .lst ds => some (!ds.isEmpty)
  | .tup ds => some (!ds.isEmpty)
  | _ => none
def mTru (m : ME) : MT := fun S => (m S).bind fun p S1 => match deref S1 p with
  | some d => match fTru d with
    | some b => .ok b S1
    | none => .st
  | none => .st
section
variable {X : Cx} {E : En} {W : WX}
theorem cb_divmod : CbQ X E W (.builtin "divmod") (liftL fDivmodW) := ⟨_, call_divmodW, sc_lift fun A h e Q w => by
  unfold fDivmodW at e
  split at e
  · split at e
    · cases e
      rename_i i j hc
      obtain ⟨x, y, p, q, rfl, h1, h2⟩ := h.two
      rw [h1.int, h2.int]
      refine ⟨_, _, rfl, divp_ok hc.1 ?_, w.tup A (.cons (.int _) (.cons (.int _) .nil))⟩
      have b : Builtin.Int.intBits i ≤ i.natAbs.log2 + 1 := by unfold Builtin.Int.intBits; split <;> omega
      omega
    · cases e
  · cases e⟩
theorem q_revL {e : Expr} {m : ME} {k : Nat} {p1 p2 p3 pos : Pos} (hK : X.K = E.K) (he : QE X E W e m) : QE X E W (.Subscript e (.Slice none none (some (.UnaryOp .USub (.Constant (.int 1) k p1) p2)) p3) pos) (mRev m) := by
  obtain ⟨te, h1, h2⟩ := he
  refine ⟨_, pe_revL h1, fun F Γ H σ S A => ?_⟩
  rw [hK]
  refine RunR.bind (fun Q x H1 => ∃ a xs, x = .ref a ∧ SqL E.K H1 a xs ∧ ∀ p, H1 p = none → Q (.ref p) (upd H1 p (.lst xs.reverse))) (fun Q h => h) (h2 F Γ H σ S A) fun p S1 x Γ1 H1 _ l1 A1 r1 => ?_
  split
  · rename_i d ed
    split
    · rename_i ds es
      obtain ⟨a, xs, rfl, hs, ra⟩ := deref_seq A1 r1 ed es
      exact RunR.step A1 fun Q w => ⟨a, xs, rfl, hs, Wish.lst A1 w ra.rev⟩
    · trivial
  · trivial
theorem qt_truth {e : Expr} {m : ME} (hK : X.K = E.K) (he : QE X E W e m) (hb : ∀ whole, isTrue e X.env whole = (do let v ← whole; standAt e.pos; holding [v] (truthy v)) := by intro _; rfl) : QT X E W e (mTru m) := by
  obtain ⟨te, h1, h2⟩ := he
  refine ⟨_, pt_truth h1 hb, fun F Γ H σ S A => ?_⟩
  rw [hK]
  refine RunR.bind (fun Q x H1 => ∃ k, TruV E.K x H1 k ∧ Q k H1) (fun Q h => h) (h2 F Γ H σ S A) fun p S1 x Γ1 H1 _ l1 A1 r1 => ?_
  split
  · rename_i d ed
    split
    · rename_i b eb
      have at1 : At E F Γ1 H1 σ S1 x p d := ⟨A1, r1, ed⟩
      refine RunR.pure A1 rfl fun Q q => ⟨b, ?_, q⟩
      unfold fTru at eb
      split at eb
      · cases eb; rw [at1.non]; rfl
      · cases eb; rw [at1.bl]; rfl
      · cases eb; rw [at1.int]; rfl
      · split at eb
        · rename_i hl; cases eb; rw [at1.str]; exact ⟨Evl.sz_of hl, rfl⟩
        · cases eb
      · cases eb
        obtain ⟨a, xs, rfl, hs, ra⟩ := at1.lst
        refine .inl ⟨xs, Evl.sq_of hs, ?_⟩
        cases ra <;> rfl
      · cases eb
        obtain ⟨a, xs, rfl, hs, ra⟩ := at1.tup
        refine .inr (.inl ⟨xs, hs, ?_⟩)
        cases ra <;> rfl
      · cases eb
    · trivial
  · trivial
end
/-! ### an own error with a field -/
/-- P.__init__(self, ..), P an own class over ValueError without __init__ -/
theorem pe_cinit {X : Cx} {P : Str} {PA_ : Addr} {pl : Sem Bool} {e : Expr} {es : List Expr} {ta : TA} {p1 p2 pos : Pos} (hg : Gl X P) (hm : X.mg P = some (.ref PA_)) (hsp : PySem.W.specialIn X.K (.ref PA_) "__getattribute__" = some (some (.builtin "type.__getattribute__"))) (hr : PySem.W.readsIn X.K PA_ (.type "type") = true)
    (hv : PySem.W.findCls X.K (.ref PA_) (.type "type") "__init__" = some (.val (.builtin "ValueError.__init__"))) (ha : L2.PA X (e :: es) ta) (hdb : (P == ("__debug__" : Str)) = false := by decide)
    (hc : eval (.Call (.Attribute (.Name P p1) "__init__" p2) (e :: es) [] pos) X.env = (do
      let ov ← eval (.Name P p1) X.env
      standAt p2.atName
      let (f, first) ← holding [ov] (getMethod ov "__init__" pl)
      callWith pos f first (backTo pos (starEach (e :: es) X.env)) (backToKw pos (keywordEach [] X.env))) := by rfl)
    (he : starEach (e :: es) X.env = (false, eval e X.env) :: starEach es X.env := by rfl) (hpl : (backTo pos (starEach es X.env)).any (·.1) = false := by rfl) :
    PE X (.Call (.Attribute (.Name P p1) "__init__" p2) (e :: es) [] pos) (tVeI X.K ta) := by
  refine ⟨fun pins s σ H Q I h => ?_⟩
  refine PySem.W.methodCall_KW (ld_glob I hg hm ?_ hdb) hc
  refine PySem.W.method_cls I.kIn hsp (PySem.W.cls_value I.kIn hr hv (by decide +kernel) ?_)
  show wpAny _ _ (callWith pos (Value.builtin "ValueError.__init__") [] (backTo pos (starEach (e :: es) X.env)) []) _ _ _
  refine PyProof.Rows.callWith_method1 (thn (ha.run pos pins _ σ H _ (I.tok _) h) fun us s1 ⟨vs, H1, I1, r1, a, C, ws, ev, hl, T, ea, q⟩ => ?_) he hpl
  subst ev
  cases r1 with
  | @cons _ u0 _ ur ra rw' =>
    obtain rfl : u0 = Value.ref a := ra
    have hlen : ur.length ≤ sizeLine := by
      rw [← Paired.length rw', sizeLine_eq]
      omega
    exact oinit_ok T I1 ea hlen fun s' J => ⟨.non, H1, J, rfl, q⟩
/-- what C(n) asks of C's __init__, which stores n under f -/
def spI (C : Addr) (f : Str) : Sp := fun vs H Q _ => ∃ (a : Addr) (n : Int), vs = [.ref a, .int n] ∧ n.natAbs.log2 < 1000 ∧ H a = some (exo a C none) ∧ ∀ d, H d = none → d ≠ a → Q .non (upd (upd H d (exd d [(f, .int n)])) a (exo a C (some d)))
def mRaiseI (c f : Str) (e : ME) : MS := fun S => (e S).out fun p S1 => match p with
  | .d (.int n) => if n.natAbs.log2 < 1000 then .ex ⟨c, some (f, .int n)⟩ S1 else .st
  | _ => .st
theorem qs_raiseI {X : Cx} {E : En} {W : WX} {c f : Str} {C fI : Addr} {k : Nat} {fd : FuncData} {ps : List Str} {e : Expr} {m : ME} {x : Str} {p pos rpos : Pos} (hC : E.cl c = C) (hcm : X.calm = true) (tk : Takes X W) (T : OexC X.K C) (iC : PySem.W.findIn X.K (.ref C) "__init__" = some (some (.ref fI))) (tI : PySem.W.typeIn X.K (.ref fI) = some (.type "function"))
    (F1 : FnOk X.prog X.w X.K X.mg X.base (L2.CX X.prog X.w) k fI fd ps (spI C f)) (hr : Room (k + 1) X.A) (hb : Binds X.K fd ps []) (hx : Passes (L2.CX X.prog X.w) X (fun _ _ _ => False)) (hg : Gl X x) (hm : X.mg x = some (.ref C)) (he : QE X E W e m) (hdb : (x == ("__debug__" : Str)) = false := by decide) (hse : starEach [e] X.env = (false, eval e X.env) :: starEach [] X.env := by rfl) (hpl : (backTo pos (starEach [] X.env)).any (·.1) = false := by rfl) :
    QS X E W (.Raise (some (.Call (.Name x p) [e] [] pos)) none rpos) (mRaiseI c f m) := by
  obtain ⟨te, h1, h2⟩ := he
  refine ⟨_, L2.ps_raise hcm tk (pmk_oex T iC tI F1 hr hb .nil hx hg hm (pa_cons h1 pa_nil hse) hdb hse hpl), fun F Γ H σ S A => ?_⟩
  refine RunS.of (fun D v H1 => [v].length ≤ 1000 ∧ ∀ a, H1 a = none → spI C f (.ref a :: ([v] ++ [])) (upd H1 a (exo a C none)) (fun v H2 => v = .non ∧ ∃ (d : Addr) (fs : List (Str × V)), H2 a = some (exo a C (some d)) ∧ H2 d = some (exd d fs) ∧ H1 d = none ∧ W (.ref C) (some d) σ (upd (del H2 a) d (.xd fs))) (fun _ _ _ => False)) (fun D h => h) (h2 F Γ H σ S A) fun p S1 x Γ1 H1 _ l1 A1 r1 => ?_
  split
  · rename_i n _
    split
    · rename_i hn
      cases r1 with
      | d r1 =>
        cases r1
        refine fun w D => ⟨Nat.le_of_ble_eq_true rfl, fun a ha => ⟨a, n, rfl, hn, upd_same, fun d hd hda => ⟨rfl, d, [(f, .int n)], upd_same, ?_, ?_, ?_⟩⟩⟩
        · rw [upd_ne hda, upd_same]
        · rw [upd_ne hda] at hd; exact hd
        · have hd1 : H1 d = none := by rw [upd_ne hda] at hd; exact hd
          have eH : upd (del (upd (upd (upd H1 a (exo a C none)) d (exd d [(f, .int n)])) a (exo a C (some d))) a) d (.xd [(f, .int n)]) = upd H1 d (.xd [(f, .int n)]) := by
            funext b
            by_cases hbd : b = d
            · subst hbd; rw [upd_same, upd_same]
            · rw [upd_ne hbd, upd_ne hbd]
              by_cases hba : b = a
              · subst hba; rw [del_same, ha]
              · rw [del_ne hba, upd_ne hba, upd_ne hbd, upd_ne hba]
          rw [eH, ← hC]
          have sn := Sx.new (Γ := Γ1) (o := .xd [(f, .int n)]) A1.gh hd1
          exact w _ _ σ (some d) sn.le (A1.ext sn) ⟨d, .int n, rfl, upd_same, upd_same, .int n⟩
    · trivial
  · trivial
/-- e.f of the caught one -/
def mXf (f : Str) (m : ME) : ME := fun S => (m S).bind fun p S1 => match p, S1.xn with
  | .exc, some ⟨_, some (g, d)⟩ => if g = f then .ok (.d d) S1 else .st
  | _, _ => .st
theorem q_xf {X : Cx} {E : En} {a : Addr} {cls : Value} {d : Option Addr} {oe : Obj} {pn : List (Addr × Obj)} {e : Expr} {m : ME} {pos : Pos} {f : Str} (hK : X.K = E.K) (hT : ∀ c : Str, c = f ∨ True → True) {cn : Str} (T : XfC X.K (E.cl cn)) (hno : PySem.W.findIn X.K (.ref (E.cl cn)) f = some none) (hz : Zc cls d oe) (hf : ∃ vs, oe.data = .fields vs)
    (he : QE (X.suite a ((a, oe) :: pn)) (E.at a cls d) W0 e m) (hb : attributeBase e f X.env (eval e X.env) = eval e X.env := by rfl) : QE (X.suite a ((a, oe) :: pn)) (E.at a cls d) W0 (.Attribute e f pos) (fun S => match S.xn with
      | some ⟨c, _⟩ => if c = cn then mXf f m S else .st
      | none => .st) := by
  obtain ⟨te, h1, h2⟩ := he
  refine ⟨_, pe_xf T hno hz hf h1 hb, fun F Γ H σ S A => ?_⟩
  dsimp only
  cases ex : S.xn with
  | none => trivial
  | some z =>
    obtain ⟨c, fo⟩ := z
    dsimp only
    split
    · rename_i hc
      subst hc
      have e0 : cls = .ref (E.cl c) := (A.exn _ ex).1
      refine RunR.bind (fun Q x H1 => x = .ref a ∧ cls = .ref (E.cl c) ∧ ∃ (dd : Addr) (fs : List (Str × V)) (v : V), d = some dd ∧ H1 dd = some (.xd fs) ∧ fs.lookup f = some v ∧ Q v H1) (fun Q h => h) (h2 F Γ H σ S A) fun p S1 x Γ1 H1 _ l1 A1 r1 => ?_
      unfold mXf at *
      split
      · rename_i c2 g d' ex1 _
        split
        · rename_i hg
          subst hg
          obtain ⟨_, e2⟩ := A1.exn _ ex1
          obtain ⟨dd, v, e3, e4, e5, e6⟩ := e2
          cases r1
          exact RunR.val A1 e6 fun Q q => ⟨rfl, e0, dd, _, v, e3, e4, by simp [List.lookup], q⟩
        · trivial
      · trivial
    · trivial
/-- isinstance of the caught one, which has a field -/
def rIsED (K : PySem.W.Frag) (cls : Value) (d : Option Addr) (a : Addr) : List V → Hp → VK → Prop := fun xs H Q => ∃ (D dd : Addr) (fs : List (Str × V)) (c : V) (cv : Value) (b : Bool), cls = .ref D ∧ d = some dd ∧ H dd = some (.xd fs) ∧ ExcC K D ∧ xs = [.ref a, c] ∧ (∀ u, RelV c u → u = cv) ∧ PySem.W.kitOne K (.ref D) cv = some b ∧ Q (.bl b) H
theorem call_isED {X : Cx} {a : Addr} {cls : Value} {d : Option Addr} {oe : Obj} {pn : List (Addr × Obj)} (hz : Zc cls d oe) (hf : ∃ vs, oe.data = .fields vs) : CallR (X.suite a ((a, oe) :: pn)) (.builtin "isinstance") (rIsED X.K cls d a) := by
  intro pins s σ H xs us Q I r h
  obtain ⟨D, dd, fs, c, cv, b, rfl, rfl, hdd, C, rfl, hcv, e, q⟩ := h
  cases r with
  | cons rx rr =>
    cases rr with
    | cons rt rr =>
      cases rr
      cases rx
      have ec := hcv _ rt
      subst ec
      obtain ⟨hget, _⟩ := I.pin (a, oe) (List.mem_append.mpr (.inl List.mem_cons_self))
      obtain ⟨vs, hv⟩ := hf
      have hx : ObjOk X.prog X.w H s.heap dd (.xd fs) := I.hok dd _ hdd
      obtain ⟨mA, hns, hr⟩ := hx
      obtain ⟨od, ho, hl⟩ := lookIn_ns hns
      have J : PySem.W.InstAt s.heap a oe D (some od) := ⟨hget, hz.1, by unfold PySem.W.notCls; rw [hv] <;> rfl, by rw [hz.2]; exact ho⟩
      have hcl : (PySem.W.clsIn X.K D).isSome = true := by
        have := C.hd
        unfold PySem.W.hasDictIn at this
        cases z : PySem.W.clsIn X.K D with
        | none => rw [z] at this; cases this
        | some _ => rfl
      exact PySem.W.kia_one (PySem.W.kitx_exc (od := some od) hcl C.hg C.hk C.hs C.ha C.hn C.ht C.hm) I.kIn J e (fun z => nomatch z) fun tk => ⟨.bl b, H, I.kept (t' := tk) fun _ _ z => z, rfl, q⟩
def fIsExD (ist : Str → Str → Option Bool) : ML := fun ps S => match ps, S.xn with
  | [.exc, .d (.cls n)], some ⟨c, some _⟩ => match ist c n with
    | some b => .ok (.d (.bl b)) S
    | none => .st
  | _, _ => .st
theorem q_isExD {X : Cx} {E : En} {a : Addr} {cls : Value} {d : Option Addr} {oe : Obj} {pn : List (Addr × Obj)} {ist : Str → Str → Option Bool} {e : Expr} {es : List Expr} {p pos : Pos} {g : MA} (hK : X.K = E.K) (hz : Zc cls d oe) (hf : ∃ vs, oe.data = .fields vs)
    (h : ∀ c n b, ist c n = some b → ExcC E.K (E.cl c) ∧ PySem.W.kitOne E.K (.ref (E.cl c)) (.ref (E.cl n)) = some b) (hg : Gl (X.suite a ((a, oe) :: pn)) "isinstance") (hm : X.mg "isinstance" = none) (hv : bootBuiltins "isinstance" = some (.builtin "isinstance")) (ha : QA (X.suite a ((a, oe) :: pn)) (E.at a cls d) W0 (e :: es) g)
    (he : starEach (e :: es) X.env = (false, eval e X.env) :: starEach es X.env := by rfl) (hpl : (backTo pos (starEach es X.env)).any (·.1) = false := by rfl) : QE (X.suite a ((a, oe) :: pn)) (E.at a cls d) W0 (.Call (.Name "isinstance" p) (e :: es) [] pos) (mCB (fIsExD ist) g) := by
  refine q_cb (X := X.suite a ((a, oe) :: pn)) ⟨_, call_isED hz hf, ?_⟩ hg hm hv ha (by decide) (by decide) he hpl
  show SC _ _ (rIsED X.K cls d a) _
  rw [hK]
  intro F Γ H σ S xs ps A r
  unfold fIsExD
  split
  · rename_i n c fo ex
    split
    · rename_i b eb
      obtain ⟨h1, h2⟩ := h _ _ _ eb
      obtain ⟨e1, e2⟩ := A.exn _ ex
      obtain ⟨f, rd⟩ := fo
      obtain ⟨dd, v, e3, e4, _, _⟩ := e2
      cases r with
      | cons x r => cases r with
        | cons y r =>
          cases r
          cases x
          cases y with
          | d y => cases y; exact RunR.val A (.bl b) fun Q q => ⟨_, dd, _, _, _, b, e1, e3, e4, h1, rfl, fun u hu => hu, h2, q⟩
    · trivial
  · trivial
def mXfC (cn f : Str) (m : ME) : ME := fun S => match S.xn with
  | some ⟨c, _⟩ => if c = cn then mXf f m S else .st
  | none => .st
theorem q_xfC {X : Cx} {E : En} {a : Addr} {cls : Value} {d : Option Addr} {oe : Obj} {pn : List (Addr × Obj)} {e : Expr} {m : ME} {pos : Pos} {f : Str} {cn : Str} {C : Addr} (hK : X.K = E.K) (eC : E.cl cn = C) (T : XfC X.K C) (hno : PySem.W.findIn X.K (.ref C) f = some none) (hz : Zc cls d oe) (hf : ∃ vs, oe.data = .fields vs)
    (he : QE (X.suite a ((a, oe) :: pn)) (E.at a cls d) W0 e m) (hb : attributeBase e f X.env (eval e X.env) = eval e X.env := by rfl) : QE (X.suite a ((a, oe) :: pn)) (E.at a cls d) W0 (.Attribute e f pos) (mXfC cn f m) :=
  q_xf hK (fun _ _ => trivial) (cn := cn) (eC ▸ T) (eC ▸ hno) hz hf he hb
theorem spI_len {C : Addr} {f : Str} {vs : List V} {H : Hp} {Q : VK} {E : XK} (h : spI C f vs H Q E) : vs.length = 2 := by
  obtain ⟨a, n, rfl, _⟩ := h
  rfl
/-- the body of an own `__init__`: P.__init__(self, f'..{x}'); self.f = x -/
theorem spI_body {K : PySem.W.Frag} {C : Addr} {f pre : Str} {vs : List V} {H : Hp} {Q : VK} {E : XK} (T : OexC K C) (hno : PySem.W.findIn K (.ref C) f = some none) (hp : pre.length ≤ 1000) (h : spI C f vs H Q E) :
    tSeq (tDrop (tVeI K (tCons (tVar 0) (tCons (fun σ H Q => tJs [tC (.str pre), tFmt (tVar 1)] Str.empty σ H fun out H1 => Q (.str out) H1) tNil)))) (tOst K f (tVar 0) (tVar 1)) { nx := fun _ H' => Q .non H', rt := Q } (vs.map some) H := by
  obtain ⟨a, n, rfl, hn, ha, h⟩ := h
  have hl : (pre ++ (Str.ofString (toString n) : Str)).length ≤ sizeLine := by
    have e := int_text_len_1921 (i := n) (by omega)
    have e2 : (pre ++ (Str.ofString (toString n) : Str)).length = pre.length + (Str.ofString (toString n)).length := by
      show (pre.cps ++ _).size = _
      rw [Array.size_append]; rfl
    rw [e2, sizeLine_eq]; omega
  have e0 : (Str.empty ++ pre : Str) = pre := by
    show Str.mk (#[] ++ pre.cps) = pre
    rw [Array.empty_append]
  refine ⟨.ref a, rfl, pre, rfl, ?_, .int n, rfl, .inr ⟨n, rfl, by omega, _, rfl, ?_, a, C, _, rfl, Nat.le_of_ble_eq_true rfl, T, ha, ?_⟩⟩
  · rw [e0, sizeLine_eq]; omega
  · rw [e0]; exact hl
  · exact ⟨.int n, rfl, .ref a, rfl, a, C, rfl, T, hno, .inl ⟨ha, fun d hd hne => h d hd hne⟩⟩
end RS

set_option Elab.async false
set_option linter.all false
set_option maxRecDepth 100000
set_option maxHeartbeats 4000000
namespace TM
open PySem PySem.Spec TL SX NumText
/-! ### digits -/
def isDg (l : List Nat) : Bool := l.all fun c => decide (48 ≤ c) && decide (c ≤ 57)
theorem isDg_all {l : List Nat} (h : isDg l = true) : AllDigits l := fun c hc => by
  have := List.all_eq_true.mp h c hc
  rw [Bool.and_eq_true] at this
  exact ⟨of_decide_eq_true this.1, of_decide_eq_true this.2⟩
theorem isDg_of {l : List Nat} (h : AllDigits l) : isDg l = true := List.all_eq_true.mpr fun c hc => by
  rw [Bool.and_eq_true]
  exact ⟨decide_eq_true (h c hc).1, decide_eq_true (h c hc).2⟩
theorem isDg_num (n : Nat) : isDg (numL n) = true := isDg_of (numL_digits n)
theorem val_snoc (l : List Nat) (c : Nat) : digitsVal (l ++ [c]) = digitsVal l * 10 + (c - 48) := by
  unfold digitsVal
  rw [List.foldl_append]
  rfl
theorem canon : ∀ (k : Nat) (l : List Nat), l.length = k → AllDigits l → l ≠ [] → (l = [48] ∨ l.head? ≠ some 48) → numL (digitsVal l) = l
  | 0, l, hk, _, hn, _ => absurd (List.eq_nil_of_length_eq_zero hk) hn
  | k + 1, l, hk, hd, hn, hh => by
    have e : l = l.dropLast ++ [l.getLast hn] := (List.dropLast_concat_getLast hn).symm
    generalize l.getLast hn = c at e
    generalize hp : l.dropLast = p at e
    have hc := hd c (by rw [e]; simp)
    rw [e, val_snoc]
    by_cases hpn : p = []
    · subst hpn
      have : digitsVal ([] : List Nat) = 0 := rfl
      rw [this, Nat.zero_mul, Nat.zero_add, numL_lt (by omega)]
      show [48 + (c - 48)] = [c]
      congr 1; omega
    · have hpl : p.length = k := by
        have := congrArg List.length e
        rw [List.length_append, List.length_singleton] at this
        omega
      have hh2 : l.head? ≠ some 48 := by
        rcases hh with h | h
        · rw [h] at hk
          have : k = 0 := by simpa using hk.symm
          subst this
          exact absurd (List.eq_nil_of_length_eq_zero hpl) hpn
        · exact h
      have hph : p.head? ≠ some 48 := by
        intro z
        apply hh2
        rw [e]
        cases p with
        | nil => cases z
        | cons a r => exact z
      have ih := canon k p hpl (fun c hc => hd c (by rw [e]; exact List.mem_append_left _ hc)) hpn (.inr hph)
      have h1 : 1 ≤ digitsVal p := by
        cases hz : digitsVal p with
        | zero =>
          rw [hz, numL_lt (by decide)] at ih
          rw [← ih] at hph
          exact absurd rfl hph
        | succ m => omega
      rw [numL_step (by omega)]
      have e1 : (digitsVal p * 10 + (c - 48)) / 10 = digitsVal p := by omega
      have e2 : (digitsVal p * 10 + (c - 48)) % 10 = c - 48 := by omega
      rw [e1, e2, ih]
      congr 2; omega
theorem numL_head {n : Nat} (h : numL n ≠ [48]) : (numL n).head? ≠ some 48 := by
  induction n using Nat.strongRecOn with
  | _ n ih =>
    by_cases h1 : n < 10
    · rw [numL_lt h1] at h ⊢
      intro z
      injection z with z
      exact h (by rw [z])
    · rw [numL_step (by omega)]
      have h2 : numL (n / 10) ≠ [48] := fun z => by
        have e := congrArg digitsVal z
        rw [numL_val] at e
        have : digitsVal [48] = 0 := rfl
        omega
      have := ih (n / 10) (by omega) h2
      intro z
      apply this
      cases e : numL (n / 10) with
      | nil => exact absurd e (numL_ne _)
      | cons a r => rw [e] at z; exact z
/-! ### pieces of digits -/
def dk : Nat → Nat → List Nat
  | 0, _ => []
  | k + 1, m => dk k (m / 10) ++ [48 + m % 10]
theorem numL_cut : ∀ (k n : Nat), 10 ^ k ≤ n → numL n = numL (n / 10 ^ k) ++ dk k (n % 10 ^ k)
  | 0, n, _ => by
    rw [Nat.pow_zero, Nat.div_one]
    exact (List.append_nil _).symm
  | k + 1, n, h => by
    have hp : 0 < 10 ^ k := Nat.pow_pos (by decide)
    have e0 : 10 ^ (k + 1) = 10 * 10 ^ k := by rw [Nat.pow_succ, Nat.mul_comm]
    rw [e0] at h ⊢
    have h1 : 10 ^ k ≤ n / 10 := by
      rw [Nat.le_div_iff_mul_le (by decide), Nat.mul_comm]; exact h
    rw [numL_step (by omega), numL_cut k (n / 10) h1]
    have e1 : n / (10 * 10 ^ k) = n / 10 / 10 ^ k := (Nat.div_div_eq_div_mul n 10 (10 ^ k)).symm
    have e2 : n % (10 * 10 ^ k) / 10 = n / 10 % 10 ^ k := Nat.mod_mul_right_div_self n 10 (10 ^ k)
    have e3 : n % (10 * 10 ^ k) % 10 = n % 10 := Nat.mod_mul_right_mod n 10 (10 ^ k)
    show _ = _ ++ (dk k (n % (10 * 10 ^ k) / 10) ++ [48 + n % (10 * 10 ^ k) % 10])
    rw [e1, e2, e3, List.append_assoc]
theorem dk_zero : ∀ k : Nat, dk k 0 = List.replicate k 48
  | 0 => rfl
  | k + 1 => by
    show dk k (0 / 10) ++ [48 + 0 % 10] = _
    rw [Nat.zero_div, dk_zero k, List.replicate_succ']
theorem dk_pad : ∀ (k m : Nat), 1 ≤ k → m < 10 ^ k → dk k m = List.replicate (k - (numL m).length) 48 ++ numL m
  | 0, _, h, _ => absurd h (by decide)
  | k + 1, m, _, h => by
    show dk k (m / 10) ++ [48 + m % 10] = _
    by_cases hm : m < 10
    · rw [numL_lt hm, Nat.div_eq_of_lt hm, dk_zero, Nat.mod_eq_of_lt hm]
      rfl
    · have h1 : m / 10 < 10 ^ k := by
        rw [Nat.div_lt_iff_lt_mul (by decide), ← Nat.pow_succ]; exact h
      have hk : 1 ≤ k := by
        cases k with
        | zero => have : m / 10 < 1 := h1; omega
        | succ k => omega
      rw [numL_step (n := m) (by omega), dk_pad k (m / 10) hk h1, List.length_append, List.append_assoc]
      congr 2
      show k - _ = k + 1 - (_ + 1)
      omega
theorem S_tl2 (x : Str) : S (tl x) = x := mk_tl x
theorem zfill_num {m : Nat} (h : m < 10 ^ 18) : Txt.zfill (S (numL m)) 18 = S (dk 18 m) := by
  rw [dk_pad 18 m (by decide) h]
  have hl : (S (numL m)).length = (numL m).length := S_len _
  have hle : (numL m).length ≤ 18 := numL_len (by decide) h
  unfold Txt.zfill
  split
  · rename_i h1
    rw [hl] at h1
    have : (numL m).length = 18 := by omega
    rw [this]; rfl
  · rename_i h1
    have e : (18 : Int).toNat - (S (numL m)).length = 18 - (numL m).length := by rw [hl]; rfl
    rw [e]
    have hz : ∀ n, zfilled (S (numL m)) n = Builtin.Str.padded (S (numL m)) n 0 48 := fun n => by
      unfold zfilled
      cases e1 : numL m with
      | nil => exact absurd e1 (numL_ne m)
      | cons c r =>
        have hc := numL_digits m c (by rw [e1]; simp)
        have : (S (c :: r)).cps[0]? = some c := rfl
        rw [this]
        split
        · rename_i z; injection z with z; omega
        · rename_i z; injection z with z; omega
        · rfl
    rw [hz]
    refine ext_tl ?_
    show ((Array.replicate _ 48 ++ (numL m).toArray ++ Array.replicate 0 48).toList) = _
    simp [tl]
/-! ### ratios' texts -/
abbrev Q2 := Int × Int
/-- the text of a ratio -/
def fmt (a : Q2) : List Nat := (if a.1 < 0 then [45] else []) ++ numL a.1.natAbs ++ (if a.2 ≠ 1 then 47 :: numL a.2.natAbs else [])
def small (a : Q2) : Bool := decide ((numL a.1.natAbs).length ≤ 18) && decide ((numL a.2.natAbs).length ≤ 18)
def rdN (l : List Nat) : Option Nat := if (1 ≤ l.length ∧ l.length ≤ 18) ∧ isDg l = true then some (digitsVal l) else none
def lwN (l : List Nat) : Option Nat := if ((1 ≤ l.length ∧ l.length ≤ 18) ∧ isDg l = true) ∧ ¬ (l ≠ [48] ∧ l.head? = some 48) then some (digitsVal l) else none
theorem rdN_num (n : Nat) : rdN (numL n) = if (numL n).length ≤ 18 then some n else none := by
  unfold rdN
  have h1 : 1 ≤ (numL n).length := by
    cases e : numL n with
    | nil => exact absurd e (numL_ne n)
    | cons _ _ => simp
  by_cases h : (numL n).length ≤ 18
  · rw [if_pos ⟨⟨h1, h⟩, isDg_num n⟩, if_pos h, numL_val]
  · rw [if_neg (fun z => h z.1.2), if_neg h]
theorem lwN_some {l : List Nat} {n : Nat} (h : lwN l = some n) : l = numL n ∧ l.length ≤ 18 := by
  unfold lwN at h
  split at h
  · rename_i hc
    injection h with h
    obtain ⟨⟨⟨h1, h2⟩, h3⟩, h4⟩ := hc
    refine ⟨?_, h2⟩
    rw [← h]
    refine (canon _ l rfl (isDg_all h3) (fun z => by subst z; simp at h1) ?_).symm
    by_cases h5 : l = [48]
    · exact .inl h5
    · exact .inr fun z => h4 ⟨h5, z⟩
  · cases h
theorem lwN_num (n : Nat) : lwN (numL n) = if (numL n).length ≤ 18 then some n else none := by
  have e := rdN_num n
  unfold rdN at e
  unfold lwN
  have h4 : ¬ (numL n ≠ [48] ∧ (numL n).head? = some 48) := fun z => numL_head z.1 z.2
  by_cases h : (1 ≤ (numL n).length ∧ (numL n).length ≤ 18) ∧ isDg (numL n) = true
  · rw [if_pos h] at e
    rw [if_pos ⟨h, h4⟩, e]
  · rw [if_neg h] at e
    exact (if_neg (fun z => h z.1)).trans e
/-! ### the two readers -/
def unm : List Nat → List Nat
  | 45 :: r => r
  | l => l
def neg (l : List Nat) : Bool := decide (l.head? = some 45)
def sgn (b : Bool) (n : Nat) : Int := if b = true then -(n : Int) else (n : Int)
/-- the program's -/
def rdP (l : List Nat) : Option Q2 :=
  let tb : List Nat × Option (List Nat) := match par [47] [] l with | some (p, q) => (p, some q) | none => (l, none)
  match rdN (unm tb.1), (match tb.2 with | some q => rdN q | none => some 1) with
  | some n, some d => if d = 0 then none else if fmt (RP.lowR (sgn (neg tb.1) n) d) = l then some (RP.lowR (sgn (neg tb.1) n) d) else none
  | _, _ => none
/-- the law's -/
def rdL (l : List Nat) : Option Q2 :=
  match spl [47] 0 [] (unm l) with
  | [] => none
  | p :: ps => match lwN p with
    | none => none
    | some t => if ps.length > 1 ∨ (neg l = true ∧ t = 0) then none else match ps with
      | [] => some (sgn (neg l) t, 1)
      | q :: _ => match lwN q with
        | none => none
        | some b => if b < 2 ∨ Nat.gcd t b ≠ 1 then none else some (sgn (neg l) t, b)
theorem spl_joinL (s : Nat) : ∀ (l acc : List Nat), joinL [s] (spl [s] 0 acc l) = acc ++ l
  | [], acc => by rw [spl_nil]; exact (List.append_nil _).symm
  | c :: r, acc => by
    by_cases h : c = s
    · subst h
      have hp : pre [c] (c :: r) = true := by show ([c] == [c]) = true; exact beq_self_eq_true _
      rw [spl_hit hp]
      show joinL [c] (acc :: spl [c] 0 [] r) = _
      have ih := spl_joinL c r []
      cases e : spl [c] 0 [] r with
      | nil =>
        exfalso
        cases r with
        | nil => rw [spl_nil] at e; cases e
        | cons d r =>
          by_cases hd : pre [c] (d :: r) = true
          · rw [spl_hit hd] at e; cases e
          · rw [spl_miss (by simpa using hd)] at e
            exact spl_ne c _ _ e
      | cons x y =>
        rw [e] at ih
        show acc ++ ([c] ++ joinL [c] (x :: y)) = _
        rw [ih]; rfl
    · have hp : pre [s] (c :: r) = false := by
        show ([c] == [s]) = false
        simpa using h
      rw [spl_miss hp, spl_joinL s r (acc ++ [c]), List.append_assoc]; rfl
where spl_ne (s : Nat) : ∀ (l acc : List Nat), spl [s] 0 acc l ≠ []
  | [], acc => by rw [spl_nil]; simp
  | c :: r, acc => by
    by_cases h : pre [s] (c :: r) = true
    · rw [spl_hit h]; simp
    · rw [spl_miss (by simpa using h)]; exact spl_ne s r _
theorem unm_num (n : Nat) (r : List Nat) : unm (numL n ++ r) = numL n ++ r ∧ neg (numL n ++ r) = false := by
  cases e : numL n with
  | nil => exact absurd e (numL_ne n)
  | cons c t =>
    have hc := numL_digits n c (by rw [e]; simp)
    have h45 : c ≠ 45 := by omega
    refine ⟨?_, ?_⟩
    · show unm (c :: (t ++ r)) = _
      unfold unm
      split
      · rename_i z; injection z with z; exact absurd z h45
      · rfl
    · show decide (some c = some 45) = false
      exact decide_eq_false fun z => h45 (by injection z)
/-- a text of a ratio: its sign, what stands behind it -/
theorem fmt_parts (a : Q2) : ∃ r, fmt a = (if a.1 < 0 then [45] else []) ++ (numL a.1.natAbs ++ r) ∧ unm (fmt a) = numL a.1.natAbs ++ r ∧ neg (fmt a) = decide (a.1 < 0) ∧ r = (if a.2 ≠ 1 then 47 :: numL a.2.natAbs else []) := by
  refine ⟨_, by unfold fmt; rw [List.append_assoc], ?_, ?_, rfl⟩
  · unfold fmt
    rw [List.append_assoc]
    split
    · rfl
    · exact (unm_num _ _).1
  · unfold fmt
    rw [List.append_assoc]
    split
    · rename_i h; rw [decide_eq_true h]; rfl
    · rename_i h; rw [decide_eq_false h]; exact (unm_num _ _).2
theorem sgn_back (i : Int) : sgn (decide (i < 0)) i.natAbs = i := by
  unfold sgn
  by_cases h : i < 0
  · rw [decide_eq_true h, if_pos rfl]; omega
  · rw [decide_eq_false h, if_neg (by decide)]; omega
theorem rdP_fmt {a : Q2} (ha : RP.IsR a) : rdP (fmt a) = if small a = true then some a else none := by
  obtain ⟨r, e1, e2, e3, e4⟩ := fmt_parts a
  have hp : 0 < a.2 := ha.pos
  have top : ∀ q : List Nat, unm ((if a.1 < 0 then [45] else []) ++ numL a.1.natAbs ++ q) = numL a.1.natAbs ++ q ∧ neg ((if a.1 < 0 then [45] else []) ++ numL a.1.natAbs ++ q) = decide (a.1 < 0) := fun q => by
    rw [List.append_assoc]
    split
    · rename_i h; rw [decide_eq_true h]; exact ⟨rfl, rfl⟩
    · rename_i h; rw [decide_eq_false h]; exact unm_num _ _
  have h47 : 47 ∉ (if a.1 < 0 then [45] else []) ++ numL a.1.natAbs := fun hm => by
    rcases List.mem_append.mp hm with hm | hm
    · split at hm
      · rw [List.mem_singleton] at hm; omega
      · cases hm
    · exact numL_free (.inl (by decide)) hm
  have hlow : RP.lowR (sgn (decide (a.1 < 0)) a.1.natAbs) (a.2.natAbs : Nat) = a := by
    rw [sgn_back, show ((a.2.natAbs : Nat) : Int) = a.2 by omega]
    exact RP.lowR_self ha
  obtain ⟨t1, t2⟩ := top []
  rw [List.append_nil, List.append_nil] at t1
  rw [List.append_nil] at t2
  have lsm : ∀ x : Option Q2, (if (numL a.1.natAbs).length ≤ 18 then (if (numL a.2.natAbs).length ≤ 18 then x else none) else none) = if small a = true then x else none := fun x => by
    unfold small
    by_cases h1 : (numL a.1.natAbs).length ≤ 18
    · by_cases h2 : (numL a.2.natAbs).length ≤ 18
      · simp [h1, h2]
      · simp [h1, h2]
    · simp [h1]
  unfold rdP
  by_cases h1 : a.2 = 1
  · have ef : fmt a = (if a.1 < 0 then [45] else []) ++ numL a.1.natAbs := by
      unfold fmt; rw [if_neg (c := a.2 ≠ 1) (fun z => z h1), List.append_nil]
    have ep : par [47] [] (fmt a) = none := by rw [ef]; exact par_none1 h47
    rw [ep]
    dsimp only
    rw [ef, t1, t2, rdN_num, ← lsm]
    rw [h1] at hlow
    have hn1 : (numL a.2.natAbs).length ≤ 18 := by rw [h1]; decide
    rw [if_pos hn1]
    split
    · rename_i n d en ed
      cases ed
      split at en
      · rename_i hl
        cases en
        rw [if_neg (by decide)]
        have : RP.lowR (sgn (decide (a.1 < 0)) a.1.natAbs) ((1 : Nat) : Int) = a := hlow
        rw [this, ef, if_pos rfl]
        first | rfl | rw [if_pos hl]
      · cases en
    · rename_i hno
      split
      · rename_i hl
        exact absurd rfl (hno _ _ (by rw [if_pos hl]))
      · rfl
  · have ef : fmt a = ((if a.1 < 0 then [45] else []) ++ numL a.1.natAbs) ++ ([47] ++ numL a.2.natAbs) := by
      unfold fmt; rw [if_pos (c := a.2 ≠ 1) h1]; rfl
    have ep : par [47] [] (fmt a) = some ((if a.1 < 0 then [45] else []) ++ numL a.1.natAbs, numL a.2.natAbs) := by
      rw [ef]; exact (par_part1 h47).trans (by rw [List.nil_append])
    rw [ep]
    dsimp only
    rw [t1, t2, rdN_num, rdN_num, ← lsm]
    have hd0 : ¬ a.2.natAbs = 0 := by omega
    by_cases l1 : (numL a.1.natAbs).length ≤ 18
    · by_cases l2 : (numL a.2.natAbs).length ≤ 18
      · simp only [if_pos l1, if_pos l2]
        rw [if_neg hd0, hlow, if_pos rfl]
      · simp only [if_pos l1, if_neg l2]
    · simp only [if_neg l1]
theorem rdP_some {l : List Nat} {a : Q2} (h : rdP l = some a) : l = fmt a ∧ RP.IsR a := by
  unfold rdP at h
  generalize (match par [47] [] l with | some (p, q) => (p, some q) | none => (l, none) : List Nat × Option (List Nat)) = tb at h
  dsimp only at h
  split at h
  · rename_i n d _ _
    by_cases hd : d = 0
    · rw [if_pos hd] at h; cases h
    · rw [if_neg hd] at h
      by_cases hf : fmt (RP.lowR (sgn (neg tb.1) n) d) = l
      · rw [if_pos hf] at h
        injection h with h
        rw [← h]
        exact ⟨hf.symm, RP.lowR_isR (by omega)⟩
      · rw [if_neg hf] at h; cases h
  · cases h
theorem rdL_fmt {a : Q2} (ha : RP.IsR a) (hs : small a = true) : rdL (fmt a) = some a := by
  obtain ⟨r, e1, e2, e3, e4⟩ := fmt_parts a
  have hp : 0 < a.2 := ha.pos
  unfold small at hs
  rw [Bool.and_eq_true] at hs
  have l1 := of_decide_eq_true hs.1
  have l2 := of_decide_eq_true hs.2
  have h47 : ∀ n, 47 ∉ numL n := fun n => numL_free (.inl (by decide))
  have hz : ¬ (decide (a.1 < 0) = true ∧ a.1.natAbs = 0) := fun z => by
    have := of_decide_eq_true z.1; omega
  unfold rdL
  rw [e2, e3, e4]
  by_cases h1 : a.2 = 1
  · rw [if_neg (fun z => z h1), List.append_nil, spl_last1 (h47 _), List.nil_append]
    dsimp only
    rw [lwN_num, if_pos l1]
    dsimp only
    rw [if_neg (fun z => by rcases z with z | z; simp at z; exact hz z), sgn_back, ← h1]
  · rw [if_pos h1]
    have : spl [47] 0 [] (numL a.1.natAbs ++ 47 :: numL a.2.natAbs) = [numL a.1.natAbs, numL a.2.natAbs] := by
      rw [show numL a.1.natAbs ++ 47 :: numL a.2.natAbs = numL a.1.natAbs ++ ([47] ++ numL a.2.natAbs) from rfl, spl_part1 (h47 _), spl_last1 (h47 _)]; rfl
    rw [this]
    dsimp only
    rw [lwN_num, if_pos l1]
    dsimp only
    rw [if_neg (fun z => by rcases z with z | z; simp at z; exact hz z), lwN_num, if_pos l2]
    dsimp only
    have hg : Nat.gcd a.1.natAbs a.2.natAbs = 1 := ha.cop
    rw [if_neg (fun z => by rcases z with z | z; omega; exact z hg), sgn_back]
    rw [show ((a.2.natAbs : Nat) : Int) = a.2 by omega]
theorem unm_neg : ∀ l : List Nat, l = (if neg l = true then [45] else []) ++ unm l
  | [] => rfl
  | c :: r => by
    by_cases h : c = 45
    · subst h; rfl
    · have h1 : neg (c :: r) = false := decide_eq_false fun z => h (by injection z)
      have h2 : unm (c :: r) = c :: r := by
        unfold unm
        split
        · rename_i z; injection z with z; exact absurd z h
        · rfl
      rw [h1, h2]; rfl
theorem sgn_abs (b : Bool) (n : Nat) : (sgn b n).natAbs = n := by
  unfold sgn; split <;> omega
theorem sgn_lt {b : Bool} {n : Nat} (h : ¬ (b = true ∧ n = 0)) : (sgn b n < 0) = (b = true) := by
  unfold sgn
  cases b with
  | false => simp
  | true =>
    have : n ≠ 0 := fun z => h ⟨rfl, z⟩
    simp; omega
theorem rdL_some {l : List Nat} {a : Q2} (h : rdL l = some a) : l = fmt a ∧ RP.IsR a ∧ small a = true := by
  have hj := spl_joinL 47 (unm l) []
  rw [List.nil_append] at hj
  have hl := unm_neg l
  unfold rdL at h
  split at h
  · cases h
  · rename_i p ps es
    rw [es] at hj
    split at h
    · cases h
    · rename_i t et
      obtain ⟨ep, lp⟩ := lwN_some et
      split at h
      · cases h
      · rename_i hc
        have hc2 : ¬ (neg l = true ∧ t = 0) := fun z => hc (.inr z)
        have hlt := sgn_lt hc2
        split at h
        · cases h
          refine ⟨?_, ⟨(by decide : (0 : Int) < 1), by show Nat.gcd _ 1 = 1; exact Nat.gcd_one_right _⟩, ?_⟩
          · unfold fmt
            simp only [hlt, sgn_abs]
            rw [if_neg (c := (1 : Int) ≠ 1) (fun z => z rfl), List.append_nil, ← ep]
            have : unm l = p := hj.symm
            rw [← this]; exact hl
          · unfold small
            simp only [sgn_abs]
            rw [Bool.and_eq_true]
            exact ⟨decide_eq_true (by rw [← ep]; exact lp), (by decide : decide ((numL (Int.natAbs 1)).length ≤ 18) = true)⟩
        · rename_i q rest
          have hr : rest = [] := by
            cases rest with
            | nil => rfl
            | cons _ _ => exact absurd (.inl (by simp)) hc
          subst hr
          split at h
          · cases h
          · rename_i b eb
            obtain ⟨eq, lq⟩ := lwN_some eb
            split at h
            · cases h
            · rename_i hb
              cases h
              have hb2 : 2 ≤ b := by
                by_cases z : b < 2
                · exact absurd (.inl z) hb
                · omega
              have hg : Nat.gcd t b = 1 := Decidable.byContradiction fun z => hb (.inr z)
              refine ⟨?_, ⟨by show (0 : Int) < (b : Int); omega, by show Nat.gcd (sgn _ t).natAbs (b : Int).natAbs = 1; rw [sgn_abs, Int.natAbs_natCast]; exact hg⟩, ?_⟩
              · unfold fmt
                simp only [hlt, sgn_abs, Int.natAbs_natCast]
                rw [if_pos (c := (b : Int) ≠ 1) (by omega), ← ep, ← eq, List.append_assoc]
                have : unm l = p ++ ([47] ++ q) := hj.symm
                rw [show p ++ 47 :: q = unm l from this.symm]; exact hl
              · unfold small
                simp only [sgn_abs, Int.natAbs_natCast]
                rw [Bool.and_eq_true]
                exact ⟨decide_eq_true (by rw [← ep]; exact lp), decide_eq_true (by rw [← eq]; exact lq)⟩
/-- THE READERS AGREE -/
theorem readers (l : List Nat) : rdP l = rdL l := by
  cases e : rdL l with
  | some a =>
    obtain ⟨h1, h2, h3⟩ := rdL_some e
    rw [h1, rdP_fmt h2, if_pos h3]
  | none =>
    cases e2 : rdP l with
    | none => rfl
    | some a =>
      obtain ⟨h1, h2⟩ := rdP_some e2
      have e3 := rdP_fmt h2
      rw [← h1, e2] at e3
      by_cases hs : small a = true
      · have := rdL_fmt h2 hs
        rw [← h1, e] at this
        cases this
      · rw [if_neg hs] at e3; cases e3
end TM
namespace TM
open PySem PySem.Spec TL SX NumText
theorem dk_len : ∀ k m : Nat, (dk k m).length = k
  | 0, _ => rfl
  | k + 1, m => by
    show (dk k (m / 10) ++ [48 + m % 10]).length = _
    rw [List.length_append, dk_len k]; rfl
theorem joinL_nil : ∀ ls : List (List Nat), joinL [] ls = ls.flatten
  | [] => rfl
  | [p] => by simp [joinL]
  | p :: q :: r => by
    show p ++ ([] ++ joinL [] (q :: r)) = _
    rw [joinL_nil (q :: r)]; rfl
theorem numL_len2 {n : Nat} {B : Nat} (h : n < 2 ^ B) : (numL n).length ≤ B + 1 := by
  refine numL_len (by omega) (Nat.lt_of_lt_of_le h ?_)
  exact Nat.le_trans (Nat.pow_le_pow_left (by decide) B) (Nat.pow_le_pow_right (by decide) (by omega))
theorem log2_lt {n B : Nat} (h : n < 2 ^ B) (hB : 0 < B) : n.log2 < B := by
  by_cases z : n = 0
  · subst z; exact hB
  · exact (Nat.log2_lt z).mpr h
/-! ### Euclid -/
def eu : Nat → Nat × Nat → Nat × Nat
  | 0, p => p
  | k + 1, p => let q := eu k p; if 0 < q.2 then (q.2, q.1 % q.2) else q
theorem eu_gcd (p : Nat × Nat) : ∀ k, Nat.gcd (eu k p).1 (eu k p).2 = Nat.gcd p.1 p.2
  | 0 => rfl
  | k + 1 => by
    have ih := eu_gcd p k
    unfold eu
    dsimp only
    split
    · rw [← ih, Nat.gcd_comm (eu k p).2, ← Nat.gcd_rec, Nat.gcd_comm]
    · exact ih
theorem eu_dec (p : Nat × Nat) : ∀ k, (eu (k + 1) p).2 ≤ (eu k p).2 := fun k => by
  show (if 0 < (eu k p).2 then ((eu k p).2, (eu k p).1 % (eu k p).2) else eu k p).2 ≤ _
  split
  · exact Nat.le_of_lt (Nat.mod_lt _ (by assumption))
  · exact Nat.le_refl _
theorem eu_half (p : Nat × Nat) (k : Nat) : 2 * (eu (k + 2) p).2 ≤ (eu k p).2 := by
  have s : ∀ j, eu (j + 1) p = if 0 < (eu j p).2 then ((eu j p).2, (eu j p).1 % (eu j p).2) else eu j p := fun j => rfl
  rw [s (k + 1)]
  have h1 := s k
  generalize eu k p = q at h1
  generalize eu (k + 1) p = r at h1
  obtain ⟨a, b⟩ := q
  obtain ⟨c, d⟩ := r
  dsimp only at h1 ⊢
  split at h1
  · rename_i hb
    injection h1 with e1 e2
    subst e1
    have hd : d < c := by rw [e2]; exact Nat.mod_lt _ hb
    split
    · rename_i hd0
      show 2 * (c % d) ≤ c
      have h2 := Nat.mod_lt c hd0
      have h3 := Nat.div_add_mod c d
      have h4 : 1 ≤ c / d := Nat.div_pos (Nat.le_of_lt hd) hd0
      have h5 : d ≤ d * (c / d) := Nat.le_mul_of_pos_right d h4
      omega
    · show 2 * d ≤ c
      omega
  · rename_i hb
    injection h1 with e1 e2
    subst e1 e2
    rw [if_neg hb]
    show 2 * d ≤ d
    omega
theorem eu_zero (p : Nat × Nat) : ∀ k, p.2 < 2 ^ k → (eu (2 * k) p).2 = 0 := fun k h => by
  have : ∀ j, 2 ^ j * (eu (2 * j) p).2 ≤ p.2 := fun j => by
    induction j with
    | zero => show 1 * p.2 ≤ p.2; omega
    | succ j ih =>
      have := eu_half p (2 * j)
      rw [Nat.mul_succ, Nat.pow_succ, Nat.mul_assoc]
      exact Nat.le_trans (Nat.mul_le_mul_left _ this) ih
  have := this k
  cases e : (eu (2 * k) p).2 with
  | zero => rfl
  | succ m =>
    rw [e] at this
    have : 2 ^ k ≤ 2 ^ k * (m + 1) := Nat.le_mul_of_pos_right _ (by omega)
    omega
theorem eu_stay (p : Nat × Nat) {k : Nat} (h : (eu k p).2 = 0) : ∀ j, (eu (k + j) p) = eu k p
  | 0 => rfl
  | j + 1 => by
    have ih := eu_stay p h j
    show (if 0 < (eu (k + j) p).2 then _ else eu (k + j) p) = _
    rw [ih, if_neg (by omega)]
theorem eu_end {a b : Nat} (h : b < 2 ^ 150) : eu 300 (a, b) = (Nat.gcd a b, 0) := by
  have h1 := eu_zero (a, b) 150 h
  have h2 := eu_gcd (a, b) 300
  have h1 : (eu 300 (a, b)).2 = 0 := h1
  rw [h1, Nat.gcd_zero_right] at h2
  exact Prod.ext h2 h1
end TM

set_option Elab.async false
set_option linter.all false
set_option maxRecDepth 100000
set_option maxHeartbeats 2000000
namespace RS
open PySem PySem.Spec PyProof.Rows L2
open TL (numL tl)
open SX (S_cat S_len)
/-! ### == and in -/
section
variable {ce : List Cell} {S S1 S2 S3 : Sg}
theorem eqB_of {a b : RD} {u v : PyData} {c : Bool} (h1 : scalR a = none ∨ scalR b = none) (ha : resD ce a = some u) (hb : resD ce b = some v) (su : SeqAt.shaped u = true) (sv : SeqAt.shaped v = true) (hc : PyData.eqv u v = c) : eqB ce a b = some c := by
  unfold eqB
  split
  · rename_i x y ex ey
    rcases h1 with h | h
    · rw [h] at ex; cases ex
    · rw [h] at ey; cases ey
  · rw [ha, hb]
    simp only [su, sv, and_self, if_true, hc]
theorem eq_ok {a b : ME} {p q : PV} {x y : RD} {c : Bool} (ha : a S = .ok p S1) (hb : b S1 = .ok q S2) (h1 : deref S2 p = some x) (h2 : deref S2 q = some y) (h : eqB S2.ce x y = some c) : mOp mEq a b S = .ok (.d (.bl c)) S2 := by
  unfold mOp; rw [ha, Rr.bind_ok, hb, Rr.bind_ok]; unfold mEq; rw [h1, h2]; simp only [h, retO, Option.map_some]
theorem ne_ok {a b : ME} {p q : PV} {x y : RD} {c : Bool} (ha : a S = .ok p S1) (hb : b S1 = .ok q S2) (h1 : deref S2 p = some x) (h2 : deref S2 q = some y) (h : eqB S2.ce x y = some c) : mOp mNe a b S = .ok (.d (.bl (!c))) S2 := by
  unfold mOp; rw [ha, Rr.bind_ok, hb, Rr.bind_ok]; unfold mNe; rw [h1, h2]; simp only [h, retO, Option.map_some]
theorem eqB_int {i j : Int} : eqB ce (.int i) (.int j) = some (decide (i = j)) := by
  unfold eqB
  simp only [scalR, scal, if_true]
  congr 1
  exact decide_eq_decide.mpr ⟨fun h => by injection h, fun h => by rw [h]⟩
theorem eqB_str {i j : Str} : eqB ce (.str i) (.str j) = some (decide (i = j)) := by
  unfold eqB
  simp only [scalR, scal, if_true]
  congr 1
  exact decide_eq_decide.mpr ⟨fun h => by injection h, fun h => by rw [h]⟩
theorem in_sign {neg : Bool} {a b : ME} {p q : PV} {c : Nat} {z : Str} (ha : a S = .ok p S1) (hb : b S1 = .ok q S2) (h1 : deref S2 p = some (.str ⟨#[c]⟩)) (h2 : deref S2 q = some (.str z)) : mOp (mIn neg) a b S = .ok (.d (.bl (if neg then !decide (c ∈ z.cps.toList) else decide (c ∈ z.cps.toList)))) S2 := by
  unfold mOp; rw [ha, Rr.bind_ok, hb, Rr.bind_ok]; unfold mIn; rw [h1, h2]
  rfl
/-! ### methods of texts -/
theorem bm_ok {T : String} {g : RD → List RD → Option RD} {o : ME} {a : MA} {p : PV} {ps : List PV} {d r : RD} {ds : List RD} (ho : o S = .ok p S1) (h1 : deref S1 p = some d) (ht : tyD T d = true) (ha : a S1 = .ok ps S2) (h2 : deref S2 p = some d) (h3 : derefs S2 ps = some ds) (h : g d ds = some r) : mBM T (liftM g) o a S = .ok (.d r) S2 := by
  unfold mBM; rw [ho, Rr.bind_ok, h1]; simp only [ht, if_true]; rw [ha, Rr.bind_ok]; unfold liftM; rw [h2, h3]; simp only [h, retO]
/-- o.pop(i), the list in a cell -/
theorem pop_loc {o i : ME} {L k : Nat} {n : Int} {ds : List RD} {d : RD} (ho : o S = .ok (.d (.loc L)) S1) (hs : S1.ce[L]? = some (.lst ds)) (hi : i S1 = .ok (.d (.int n)) S1) (hk : seqIndex? n ds.length = some k) (hd : ds[k]? = some d) (hn : -1000000000 ≤ n ∧ n ≤ 1000000000) : mBM "list" fPopAt o (aCons i aNil) S = .ok (.d d) { S1 with ce := S1.ce.set L (.lst (ds.eraseIdx k)) } := by
  unfold mBM
  rw [ho, Rr.bind_ok, deref_loc, hs]
  show (if tyD "list" (.lst ds) = true then _ else _) = _
  rw [if_pos (by rfl), args_cons hi args_nil, Rr.bind_ok]
  unfold fPopAt
  have hc : cellOf S1 (.d (.loc L)) = some (.lst ds) := hs
  simp only [hc, hk, hd, if_pos hn]
  rfl
/-! ### tests, values by a test, chains -/
theorem tru_ok {a : ME} {p : PV} {d : RD} {b : Bool} (h : a S = .ok p S1) (h1 : deref S1 p = some d) (h2 : fTru d = some b) : mTru a S = .ok b S1 := by unfold mTru; rw [h, Rr.bind_ok, h1]; simp only [h2]
theorem ife_t {t : MT} {a b : ME} (h : t S = .ok true S1) : mIf t a b S = a S1 := by unfold mIf; rw [h]; rfl
theorem ife_f {t : MT} {a b : ME} (h : t S = .ok false S1) : mIf t a b S = b S1 := by unfold mIf; rw [h]; rfl
theorem chain_le {a b c : ME} {i j k : Int} (ha : a S = .ok (.d (.int i)) S) (hb : b S = .ok (.d (.int j)) S) (hc : c S = .ok (.d (.int k)) S) : mChain (lift2 fLe) (lift2 fLe) a b c S = .ok (.d (.bl (decide (i ≤ j) && decide (j ≤ k)))) S := by
  unfold mChain
  rw [ha, Rr.bind_ok, hb, Rr.bind_ok]
  show (Rr.ok (PV.d (.bl (decide (i ≤ j)))) S).bind _ = _
  rw [Rr.bind_ok, toBl_bl, Rr.bind_ok]
  by_cases h : i ≤ j
  · rw [decide_eq_true h, if_pos rfl, hc, Rr.bind_ok]; rfl
  · rw [decide_eq_false h, if_neg (by decide)]; rfl
theorem neg_ok {a : ME} {i : Int} (h : a S = .ok (.d (.int i)) S1) : mUn (lift1 fNeg) a S = .ok (.d (.int (-i))) S1 := by
  unfold mUn; rw [h, Rr.bind_ok]; rfl
theorem rev_ok {a : ME} {p : PV} {ds : List RD} (h : a S = .ok p S1) (hd : deref S1 p = some (.lst ds)) : mRev a S = .ok (.d (.lst ds.reverse)) S1 := by
  unfold mRev; rw [h, Rr.bind_ok, hd]; rfl
theorem par_ok {a b : ME} {i j : Nat} {x y : RD} (ha : a S = .ok (.d x) S1) (hb : b S1 = .ok (.d y) S2) : mPar i j (aCons a (aCons b aNil)) S = .nx { S2 with sl := (S2.sl.set i (.dat x)).set j (.dat y) } := by
  unfold mPar; rw [args_cons ha (args_cons hb args_nil), out_ok, toDs_d (toDs_d toDs_nil), out_ok]
/-! ### while -/
theorem while_st {t : MT} {b : MS} {o : Out} (h : t S = .ok true S1) (hb : b S1 = .nx S2) (hr : ∃ n, whileN t b n S2 = o) (ho : o ≠ .st) : ∃ n, whileN t b n S = o := by
  obtain ⟨n, hn⟩ := hr
  exact ⟨n + 1, by unfold whileN; rw [h]; simp only [hb]; exact hn⟩
theorem while_end {t : MT} {b : MS} (h : t S = .ok false S1) : ∃ n, whileN t b n S = .nx S1 := ⟨1, by unfold whileN; rw [h]⟩
theorem while_of {t : MT} {b : MS} {o : Out} (hr : ∃ n, whileN t b n S = o) (ho : o ≠ .st) : mWhile t b S = o := by
  obtain ⟨n, hn⟩ := hr
  exact mWhile_eq hn ho
end
/-! ### texts by their signs -/
abbrev sS (l : List Nat) : RD := .str (SX.S l)
theorem str_num (n : Nat) : (Str.ofString (toString (n : Int)) : Str) = SX.S (numL n) := SX.num_S n
theorem str_int (i : Int) : (Str.ofString (toString i) : Str) = SX.S ((if i < 0 then [45] else []) ++ numL i.natAbs) := by
  refine TL.ext_tl ?_
  by_cases h : i < 0
  · rw [if_pos h]
    cases i with
    | ofNat n => exact absurd h (by simp)
    | negSucc n =>
      show tl (Str.ofString (toString (Int.negSucc n))) = _
      rw [TL.tl_ofString]
      have e := TL.tl_num (n + 1)
      rw [TL.tl_ofString] at e
      show (("-" ++ toString (n + 1) : String).toList.map Char.toNat) = [45] ++ numL (n + 1)
      rw [String.toList_append, List.map_append]
      have e2 : (toString ((n + 1 : Nat) : Int)) = toString (n + 1) := rfl
      rw [e2] at e
      rw [e]; rfl
  · rw [if_neg h]
    have : i = (i.natAbs : Int) := by omega
    rw [this]
    exact TL.tl_num _
theorem fStr_int {i : Int} (h : i.natAbs.log2 < 1920) : fStr [.int i] = some (sS ((if i < 0 then [45] else []) ++ numL i.natAbs)) := by
  simp only [fStr, if_pos h]
  rw [show (↑(toString i) : Str) = _ from str_int i]
theorem fStr_nat {n : Nat} (h : n.log2 < 1920) : fStr [.int (n : Int)] = some (sS (numL n)) := by
  rw [fStr_int (by rw [Int.natAbs_natCast]; exact h), if_neg (by omega)]; rfl
theorem fLen_S {l : List Nat} (h : l.length ≤ 100000) : fLen [sS l] = some (.int (l.length : Int)) := by
  simp only [fLen]
  rw [S_len, if_pos h]
theorem fAdd_S {a b : List Nat} (h : a.length + b.length ≤ 100000) : fAdd (sS a) (sS b) = some (sS (a ++ b)) := by
  rw [fAddS (by rw [S_len, S_len]; exact h), S_cat]
theorem eqB_S {ce : List Cell} {a b : List Nat} : eqB ce (sS a) (sS b) = some (decide (a = b)) := by
  rw [eqB_str]
  congr 1
  exact decide_eq_decide.mpr ⟨SX.S_inj, fun h => by rw [h]⟩
theorem fSl_to {l : List Nat} {p : Nat} (hl : l.length ≤ 100000) (h : p ≤ l.length) : fSl none (some (p : Int)) (sS l) = some (sS (l.take p)) := by
  simp only [fSl]
  rw [S_len, if_pos hl]
  congr 2
  unfold cutS
  rw [S_len]
  have e1 : HT.sIx l.length 0 none = 0 := rfl
  have e2 : HT.sIx l.length l.length (some (p : Int)) = p := by
    show (if (p : Int) < 0 then ((p : Int) + (l.length : Int)).toNat else min (p : Int).toNat l.length) = p
    rw [if_neg (by omega)]; omega
  rw [e1, e2, List.drop_zero, Nat.sub_zero]
theorem fSl_to1 {l : List Nat} (hl : l.length ≤ 100000) : fSl none (some 1) (sS l) = some (sS (l.take 1)) := by
  cases l with
  | nil => rfl
  | cons c r => exact fSl_to (p := 1) hl (by simp)
theorem fSl_from {l : List Nat} {p : Nat} (hl : l.length ≤ 100000) : fSl (some (p : Int)) none (sS l) = some (sS (l.drop p)) := by
  simp only [fSl]
  rw [S_len, if_pos hl]
  congr 2
  unfold cutS
  rw [S_len]
  have e1 : HT.sIx l.length l.length none = l.length := rfl
  have e2 : HT.sIx l.length 0 (some (p : Int)) = min p l.length := by
    show (if (p : Int) < 0 then ((p : Int) + (l.length : Int)).toNat else min (p : Int).toNat l.length) = _
    rw [if_neg (by omega)]; omega
  rw [e1, e2]
  congr 1
  by_cases h : p ≤ l.length
  · rw [Nat.min_eq_left h, List.take_of_length_le (by simp)]
  · rw [Nat.min_eq_right (by omega), List.drop_length, List.drop_of_length_le (by omega), List.take_nil]
theorem fIx_S {l : List Nat} {i : Nat} (hl : l.length ≤ 100000) (h : i < l.length) : fIx (sS l) (.int (i : Int)) = some (sS [l[i]]) := by
  simp only [fIx]
  rw [S_len, if_pos hl]
  show (atI l (i : Int)).map _ = _
  rw [atI_nat (List.getElem?_eq_getElem h)]; rfl
theorem strs_S : ∀ ls : List (List Nat), RD.strs (ls.map sS) = some (ls.map SX.S)
  | [] => rfl
  | l :: r => by
    rw [List.map_cons]
    show (RD.strs (r.map sS)).map _ = _
    rw [strs_S r]; rfl
theorem sum_S (ls : List (List Nat)) : ((ls.map SX.S).map (·.length)).sum = (ls.map (·.length)).sum := by
  rw [List.map_map]
  exact congrArg List.sum (List.map_congr_left fun l _ => S_len l)
theorem gJoin_S {a : List Nat} {ls : List (List Nat)} (h : (ls.map (·.length)).sum + ls.length * a.length ≤ 100000) : gJoin (sS a) [.lst (ls.map sS)] = some (sS (TL.joinL a ls)) := by
  simp only [gJoin, strs_S]
  rw [sum_S, List.length_map, S_len, if_pos h, SX.join_S]
theorem gSplit_S {a b : List Nat} (hb : b ≠ []) (hk : b.all (· < 256) = true) (h : a.length + 2 ≤ 100000) : gSplit (sS a) [sS b] = some (.lst ((TL.spl b 0 [] a).map sS)) := by
  simp only [gSplit]
  rw [S_len, S_len, if_pos ⟨by cases b with | nil => exact absurd rfl hb | cons _ _ => rfl, h⟩, SX.split_S hb hk, List.map_map]; rfl
theorem gPartition_S {a b : List Nat} (hb : b ≠ []) (h : a.length ≤ 100000) : gPartition (sS a) [sS b] = some (.tup (match TL.par b [] a with | some (p, q) => [sS p, sS b, sS q] | none => [sS a, sS [], sS []])) := by
  simp only [gPartition]
  rw [S_len, S_len, if_pos ⟨by cases b with | nil => exact absurd rfl hb | cons _ _ => rfl, h⟩]
  cases e : TL.par b [] a with
  | none => rw [SX.partition_none hb e]
  | some pq => obtain ⟨p, q⟩ := pq; rw [SX.partition_some hb e]
theorem gStarts_1 {l : List Nat} {c : Nat} : gStarts (sS l) [sS [c]] = some (.bl (decide (l.head? = some c))) := by
  simp only [gStarts]
  congr 2
  unfold Txt.startswith Builtin.Str.subAt
  rw [S_len, S_len]
  cases l with
  | nil => rfl
  | cons d r =>
    show (decide (0 + 1 ≤ (d :: r).length) && ((SX.S (d :: r)).cps.extract 0 (0 + 1) == (SX.S [c]).cps)) = decide (some d = some c)
    rw [decide_eq_true (by simp), Bool.true_and]
    have e : (SX.S (d :: r)).cps.extract 0 (0 + 1) = #[d] := by
      apply Array.toList_inj.mp
      simp
    rw [e]
    show (#[d] == #[c]) = _
    by_cases h : d = c
    · subst h; simp
    · simp [h]
def cutHead (c : Nat) : List Nat → List Nat
  | [] => []
  | d :: r => if d = c then r else d :: r
theorem gRemovePrefix_1 {l : List Nat} {c : Nat} (h : l.length ≤ 100000) : gRemovePrefix (sS l) [sS [c]] = some (sS (cutHead c l)) := by
  simp only [gRemovePrefix]
  rw [S_len, if_pos h]
  congr 2
  unfold Txt.removeprefix Builtin.Str.subAt
  rw [S_len, S_len]
  cases l with
  | nil =>
    show Txt.affix (SX.S []) (if ((SX.S []).cps.extract 0 (0 + 1) == (SX.S [c]).cps) = true then some (1, 0) else none) = SX.S []
    have e : ((SX.S []).cps.extract 0 (0 + 1) == (SX.S [c]).cps) = false := by
      show (#[].extract 0 1 == #[c]) = false
      simp
    rw [e]; rfl
  | cons d r =>
    have e : (SX.S (d :: r)).cps.extract 0 (0 + [c].length) = #[d] := by
      apply Array.toList_inj.mp
      simp
    rw [e]
    by_cases hd : d = c
    · subst hd
      rw [if_pos (by show (#[d] == #[d]) = true; simp)]
      show (if ((d :: r).length - 1 == (SX.S (d :: r)).length) = true then _ else Builtin.Str.strSub (SX.S (d :: r)) 1 (d :: r).length) = _
      rw [S_len, if_neg (by simp)]
      refine TL.ext_tl ?_
      rw [TL.tl_strSub]
      show ((d :: r).drop 1).take _ = (if d = d then r else d :: r)
      rw [if_pos rfl]
      simp
    · rw [if_neg (by show ¬ (#[d] == #[c]) = true; simp [hd])]
      show SX.S (d :: r) = SX.S (if d = c then r else d :: r)
      rw [if_neg hd]
theorem fInt_S {l : List Nat} (hd : TM.isDg l = true) (h1 : 1 ≤ l.length) (h : l.length ≤ 640) : fInt [sS l] = some (.int (NumText.digitsVal l : Nat)) := by
  simp only [fInt]
  rw [S_len, if_pos h, SX.int_S hd (fun z => by subst z; simp at h1) (by omega)]; rfl
end RS
namespace RS
open PySem PySem.Spec PyProof.Rows L2
/-- a walk that keeps a word -/
theorem forL_inv {ok : Sg → Prop} {g : MG} {b : MS} (I : Sg → Prop) (hok : ∀ S, I S → ok S) : ∀ (ds : List RD) (S : Sg), (∀ d ∈ ds, ∀ S, I S → ∃ S1 S2, g d S = some S1 ∧ b S1 = .nx S2 ∧ I S2) → I S → ∃ S', forL ok g b ds S = .nx S' ∧ I S'
  | [], S, _, h => ⟨S, by unfold forL; rw [if_pos (hok S h)], h⟩
  | d :: ds, S, hs, h => by
    obtain ⟨S1, S2, h1, h2, h3⟩ := hs d List.mem_cons_self S h
    obtain ⟨S', h4, h5⟩ := forL_inv I hok ds S2 (fun e he => hs e (List.mem_cons_of_mem _ he)) h3
    refine ⟨S', ?_, h5⟩
    unfold forL
    rw [if_pos (hok S h), h1]
    simp only [h2]
    exact h4
theorem lstC_ok {a : MA} {ps : List PV} {ds : List RD} {S S1 S2 : Sg} (ha : a S = .ok ps S1) (h : toDs ps S1 = .ok ds S2) (hl : ds.length ≤ 100000) : mLstC a S = .ok (.d (.loc S2.ce.length)) { S2 with ce := S2.ce ++ [.lst ds] } := by
  unfold mLstC; rw [ha, Rr.bind_ok, h, Rr.bind_ok, if_pos hl]
theorem raiseI_ok {c f : Str} {e : ME} {n : Int} {S S1 : Sg} (h : e S = .ok (.d (.int n)) S1) (hn : n.natAbs.log2 < 1000) : mRaiseI c f e S = .ex ⟨c, some (f, .int n)⟩ S1 := by
  unfold mRaiseI; rw [h, out_ok]; simp only [if_pos hn]
theorem seq_0 {n : Nat} : PySem.seqIndex? 0 (n + 1) = some 0 := by
  unfold PySem.seqIndex?
  simp
end RS

set_option Elab.async false
set_option linter.all false
set_option maxRecDepth 100000
set_option maxHeartbeats 2000000
namespace RS
open PySem PySem.Spec PyProof.Rows L2
open Evl (Ex)
/-! ### a new dict is locked for good -/
def tFz (te : TE) : TE := fun σ H Q => te σ H fun v H1 => ∃ d u, v = .ref d ∧ H1 d = some u ∧ Mut (some u) ∧ ∀ od, Q v (upd H1 d (.frz od u))
theorem pe_fz {X : Cx} {e : Expr} {te : TE} (h : PE X e te) : PE X e (tFz te) := ⟨fun pins s σ H Q I hw => thn (h.run pins s σ H _ I hw) fun v s1 ⟨x, H1, I1, r, d, u, e, hd, mu, q⟩ => by
  obtain ⟨od, I2⟩ := I1.lock hd mu
  exact ⟨x, _, I2, r, q od⟩⟩
def mFz (m : MN) : ME := fun S => (m S).bind fun cs S1 => match cs.1 with
  | .dk ks ds => .ok (.d (.fk ks ds)) S1
  | .dt ks ds => .ok (.d (.ft ks ds)) S1
  | _ => .st
section
variable {X : Cx} {E : En} {W : WX}
theorem se_fz {te : TE} {m : MN} (h : SN E W te m) : SE E W (tFz te) (mFz m) := fun F Γ H σ S A => by
  obtain ⟨h1, h2⟩ := h F Γ H σ S A
  refine RunR.bind (fun Q v H1 => ∃ d u, v = .ref d ∧ H1 d = some u ∧ Mut (some u) ∧ ∀ od, Q v (upd H1 d (.frz od u))) (fun Q h => h) h1 fun cs S1 v Γ1 H1 e l1 A1 r1 => ?_
  have es := h2 cs.1 cs.2 S1 (by rw [e])
  obtain ⟨p, rfl, hc, ap⟩ := r1
  rw [es] at ap
  obtain ⟨c, S2⟩ := cs
  cases c with
  | dk ks ds =>
    cases hc with
    | @dk xs _ _ hh hl hr =>
      refine fun Q q => ⟨p, _, rfl, hh, trivial, fun od => ?_⟩
      have A2 := A1.mutU (o := .frz od (.dK (ks.zip xs))) ap
      obtain ⟨le, A3⟩ := A2.adopt ap upd_same
      exact q _ _ _ le A3 (.d (.fk upd_same rfl hl (hr.mono le)))
  | dt ks ds =>
    cases hc with
    | @dt xs _ _ hh hl hr =>
      refine fun Q q => ⟨p, _, rfl, hh, trivial, fun od => ?_⟩
      have A2 := A1.mutU (o := .frz od (.dT (ks.zip xs))) ap
      obtain ⟨le, A3⟩ := A2.adopt ap upd_same
      exact q _ _ _ le A3 (.d (.ft upd_same rfl hl (hr.mono le)))
  | lst _ => trivial
  | obj _ _ _ => trivial
theorem q_fz {e : Expr} {m : MN} (h : QN X E W e m) : QE X E W e (mFz m) := by obtain ⟨te, h1, h2⟩ := h; exact ⟨_, pe_fz h1, se_fz h2⟩
/-! ### {} -/
def nDk : MN := fun S => .ok (.dk [] [], S) S
def nDt : MN := fun S => .ok (.dt [] [], S) S
theorem qn_dnewK {pos : Pos} : QN X E W (.Dict [] [] pos) nDk := ⟨_, pe_dnewK, fun F Γ H σ S A => ⟨RunR.new A fun Q q p hp => q p _ hp (.dk (xs := []) upd_same rfl .nil), fun c S2 S1 e => by cases e; rfl⟩⟩
theorem qn_dnewT {pos : Pos} : QN X E W (.Dict [] [] pos) nDt := ⟨_, pe_dnewT, fun F Γ H σ S A => ⟨RunR.new A fun Q q p hp => q p _ hp (.dt (xs := []) upd_same rfl .nil), fun c S2 S1 e => by cases e; rfl⟩⟩
end
/-! ### keys -/
def keyD : RD → Option Key
  | .str x => some (.inr x)
  | .int i => some (.inl i)
  | _ => none
def keyR : Key → RD
  | .inl i => .int i
  | .inr x => .str x
def keysD : List RD → Option (List Key)
  | [] => some []
  | d :: ds => match keyD d, keysD ds with
    | some k, some ks => some (k :: ks)
    | _, _ => none
def keyT : RD → Option (List Key)
  | .tup (.str x :: ds) => (keysD ds).map (.inr x :: ·)
  | _ => none
def valR {κ α : Type} [DecidableEq κ] (ks : List κ) (ds : List α) (k : κ) : Option α := ((ks.zip ds).find? fun kv => decide (kv.1 = k)).map (·.2)
theorem keyD_rp {E : En} {Γ : Gd} {v : V} {d : RD} {k : Key} (r : Rp E Γ v d) (e : keyD d = some k) : v = kV k := by
  cases d with
  | str x => cases e; exact r.str_inv
  | int i => cases e; exact r.int_inv
  | _ => cases e
theorem keyR_rp {E : En} {Γ : Gd} (k : Key) : Rp E Γ (kV k) (keyR k) := by
  cases k with
  | inl i => exact .int i
  | inr x => exact .str x
theorem keysD_rp {E : En} {Γ : Gd} : ∀ {vs : List V} {ds : List RD} {ks : List Key}, RpAll E Γ vs ds → keysD ds = some ks → vs = ks.map kV
  | _, [], _, .nil, e => by cases e; rfl
  | _, d :: ds, ks, .cons a b, e => by
    unfold keysD at e
    cases e1 : keyD d with
    | none => simp only [e1] at e; cases e
    | some k =>
      cases e2 : keysD ds with
      | none => simp only [e1, e2] at e; cases e
      | some ks' =>
        simp only [e1, e2] at e
        cases e
        rw [keyD_rp a e1, keysD_rp b e2]; rfl
theorem keyT_rp {E : En} {Γ : Gd} {v : V} {d : RD} {k : List Key} (r : Rp E Γ v d) (e : keyT d = some k) : ∃ b, v = .ref b ∧ Γ.g b = some (.tup (k.map kV)) := by
  unfold keyT at e
  split at e
  · rename_i x ds
    obtain ⟨a, xs, rfl, h1, h2⟩ := r.tup_str
    cases e1 : keysD ds with
    | none => rw [e1] at e; cases e
    | some ks =>
      rw [e1] at e
      cases e
      refine ⟨a, rfl, ?_⟩
      have := keysD_rp (ks := .inr x :: ks) h2 (by unfold keysD; rw [e1]; rfl)
      rw [h1, this]
  · cases e
theorem val_rel {κ : Type} [DecidableEq κ] {E : En} {Γ : Gd} (k : κ) : ∀ {ks : List κ} {xs : List V} {ds : List RD}, ks.length = xs.length → RpAll E Γ xs ds → match valR ks ds k with
    | some d => ∃ v, valV (ks.zip xs) k = some v ∧ Rp E Γ v d
    | none => valV (ks.zip xs) k = none
  | [], [], _, _, .nil => rfl
  | [], _ :: _, _, h, _ => by cases h
  | _ :: _, [], _, h, _ => by cases h
  | κ0 :: ks, x :: xs, _, h, .cons (d := d) (ds := ds) a b => by
    have ih := val_rel k (ks := ks) (by simpa using h) b
    unfold valR valV at *
    rw [List.zip_cons_cons, List.zip_cons_cons]
    by_cases hk : κ0 = k
    · rw [List.find?_cons_of_pos (by simpa using hk), List.find?_cons_of_pos (by simpa using hk)]
      exact ⟨x, rfl, a⟩
    · rw [List.find?_cons_of_neg (by simpa using hk), List.find?_cons_of_neg (by simpa using hk)]
      exact ih
/-- what a dict holds under a key -/
def dgetD (c a : RD) : Option (Option RD) := match c with
  | .dk ks ds => (keyD a).map fun k => valR ks ds k
  | .fk ks ds => (keyD a).map fun k => valR ks ds k
  | .dt ks ds => (keyT a).map fun k => valR ks ds k
  | .ft ks ds => (keyT a).map fun k => valR ks ds k
  | _ => none
section
variable {E : En} {F : Fr} {Γ : Gd} {H : Hp} {σ : L2.St} {S : Sg} {x y : V} {p q : PV} {c a : RD}
theorem deref_fk (A : Abs E F Γ H σ S) (r : Pp E F σ Γ x p) {ks : List Key} {ds : List RD} (h : deref S p = some (.fk ks ds)) : ∃ a o xs, x = .ref a ∧ Γ.g a = some (.frz o (.dK (ks.zip xs))) ∧ ks.length = xs.length ∧ RpAll E Γ xs ds := by
  rcases deref_cases A r h with ⟨r, _⟩ | ⟨a, c, rfl, e, q⟩
  · cases r with
    | fk h1 e l h2 => subst e; exact ⟨_, _, _, rfl, h1, l, h2⟩
  · cases q <;> cases e
theorem deref_ft (A : Abs E F Γ H σ S) (r : Pp E F σ Γ x p) {ks : List (List Key)} {ds : List RD} (h : deref S p = some (.ft ks ds)) : ∃ a o xs, x = .ref a ∧ Γ.g a = some (.frz o (.dT (ks.zip xs))) ∧ ks.length = xs.length ∧ RpAll E Γ xs ds := by
  rcases deref_cases A r h with ⟨r, _⟩ | ⟨a, c, rfl, e, q⟩
  · cases r with
    | ft h1 e l h2 => subst e; exact ⟨_, _, _, rfl, h1, l, h2⟩
  · cases q <;> cases e
def DRes (E : En) (Γ : Gd) (H : Hp) (b : Addr) (y : V) : Option RD → Prop
  | some d => ∃ v, DGet H b y (some v) ∧ Rp E Γ v d
  | none => DGet H b y none
/-- .. on the heap -/
theorem dget_ok (A : Abs E F Γ H σ S) (rc : Pp E F σ Γ x p) (ra : Pp E F σ Γ y q) (hc : deref S p = some c) (ha : deref S q = some a) {o : Option RD} (h : dgetD c a = some o) : ∃ b, x = .ref b ∧ IsD H b ∧ DRes E Γ H b y o := by
  have key1 : ∀ {k}, keyD a = some k → y = kV k := fun {k} e => by
    cases a with
    | str z => cases e; exact (At.mk A ra ha).str
    | int z => cases e; exact (At.mk A ra ha).int
    | _ => cases e
  have key2 : ∀ {k}, keyT a = some k → ∃ b, y = .ref b ∧ H b = some (.tup (k.map kV)) := fun {k} e => by
    rcases deref_cases A ra ha with ⟨r, _⟩ | ⟨b, cc, rfl, e2, q⟩
    · obtain ⟨b, h1, h2⟩ := keyT_rp r e
      exact ⟨b, h1, A.gh _ _ h2⟩
    · cases q <;> (subst e2; cases e)
  cases c with
  | dk ks ds =>
    obtain ⟨b, xs, rfl, hb, hl, hr⟩ := deref_dk A rc hc
    cases e1 : keyD a with
    | none => simp only [dgetD, e1, Option.map_none] at h; cases h
    | some k =>
      simp only [dgetD, e1, Option.map_some] at h
      cases h
      refine ⟨b, rfl, .inl ⟨_, .inl hb⟩, ?_⟩
      have := val_rel k hl hr
      cases e2 : valR ks ds k with
      | some d => rw [e2] at this; obtain ⟨v, h1, h2⟩ := this; exact ⟨v, .inl ⟨_, k, .inl hb, key1 e1, h1.symm⟩, h2⟩
      | none => rw [e2] at this; exact .inl ⟨_, k, .inl hb, key1 e1, Eq.symm this⟩
  | fk ks ds =>
    obtain ⟨b, ob, xs, rfl, hb, hl, hr⟩ := deref_fk A rc hc
    have hb := A.gh _ _ hb
    cases e1 : keyD a with
    | none => simp only [dgetD, e1, Option.map_none] at h; cases h
    | some k =>
      simp only [dgetD, e1, Option.map_some] at h
      cases h
      refine ⟨b, rfl, .inl ⟨_, .inr ⟨_, hb⟩⟩, ?_⟩
      have := val_rel k hl hr
      cases e2 : valR ks ds k with
      | some d => rw [e2] at this; obtain ⟨v, h1, h2⟩ := this; exact ⟨v, .inl ⟨_, k, .inr ⟨_, hb⟩, key1 e1, h1.symm⟩, h2⟩
      | none => rw [e2] at this; exact .inl ⟨_, k, .inr ⟨_, hb⟩, key1 e1, Eq.symm this⟩
  | dt ks ds =>
    obtain ⟨b, xs, rfl, hb, hl, hr⟩ := deref_dt A rc hc
    cases e1 : keyT a with
    | none => simp only [dgetD, e1, Option.map_none] at h; cases h
    | some k =>
      simp only [dgetD, e1, Option.map_some] at h
      cases h
      obtain ⟨t, ht, ht2⟩ := key2 e1
      refine ⟨b, rfl, .inr ⟨_, .inl hb⟩, ?_⟩
      have := val_rel k hl hr
      cases e2 : valR ks ds k with
      | some d => rw [e2] at this; obtain ⟨v, h1, h2⟩ := this; exact ⟨v, .inr ⟨_, k, t, .inl hb, ht, ht2, h1.symm⟩, h2⟩
      | none => rw [e2] at this; exact .inr ⟨_, k, t, .inl hb, ht, ht2, Eq.symm this⟩
  | ft ks ds =>
    obtain ⟨b, ob, xs, rfl, hb, hl, hr⟩ := deref_ft A rc hc
    have hb := A.gh _ _ hb
    cases e1 : keyT a with
    | none => simp only [dgetD, e1, Option.map_none] at h; cases h
    | some k =>
      simp only [dgetD, e1, Option.map_some] at h
      cases h
      obtain ⟨t, ht, ht2⟩ := key2 e1
      refine ⟨b, rfl, .inr ⟨_, .inr ⟨_, hb⟩⟩, ?_⟩
      have := val_rel k hl hr
      cases e2 : valR ks ds k with
      | some d => rw [e2] at this; obtain ⟨v, h1, h2⟩ := this; exact ⟨v, .inr ⟨_, k, t, .inr ⟨_, hb⟩, ht, ht2, h1.symm⟩, h2⟩
      | none => rw [e2] at this; exact .inr ⟨_, k, t, .inr ⟨_, hb⟩, ht, ht2, Eq.symm this⟩
  | _ => cases h
end
/-! ### in, not in; d[k]; d.get(k, x) -/
def dIn (neg : Bool) : M2 := fun p q S => match deref S p, deref S q with
  | some a, some c => match dgetD c a with
    | some o => .ok (.d (.bl (if neg then !o.isSome else o.isSome))) S
    | none => .st
  | _, _ => .st
def dGet : M2 := fun q p S => match deref S p, deref S q with
  | some a, some c => match dgetD c a with
    | some (some d) => .ok (.d d) S
    | _ => .st
  | _, _ => .st
def isDD : RD → Bool
  | .dk _ _ => true
  | .dt _ _ => true
  | .fk _ _ => true
  | .ft _ _ => true
  | _ => false
def dGet2R (p q z : PV) (S3 : Sg) : Rr PV := match deref S3 p, deref S3 q with
  | some a, some c => match dgetD c a with
    | some (some d) => .ok (.d d) S3
    | some none => match z with
      | .d e => .ok (.d e) S3
      | _ => .st
    | none => .st
  | _, _ => .st
def mDGet2 (m k x : ME) : ME := fun S => (m S).bind fun q S1 => match deref S1 q with
  | some c => if isDD c = true then (k S1).bind fun p S2 => (x S2).bind fun z S3 => dGet2R p q z S3 else .st
  | none => .st
section
variable {X : Cx} {E : En} {W : WX} {i o e f : Expr} {m n k : ME} {pos : Pos}
theorem se_din {ty td : TE} (hi : SE E W ty m) (ho : SE E W td n) : SE E W (tDIn ty td) (mOp (dIn false) m n) := fun F Γ H σ S A =>
  RunR.bind (fun Q y H1 => td σ H1 fun x H2 => ∃ a o, x = .ref a ∧ DGet H2 a y o ∧ Q (.bl o.isSome) H2) (fun Q h => h) (hi F Γ H σ S A) fun p S1 y Γ1 H1 _ l1 A1 r1 =>
    RunR.bind (fun Q x H2 => ∃ a o, x = .ref a ∧ DGet H2 a y o ∧ Q (.bl o.isSome) H2) (fun Q h => h) (ho F Γ1 H1 σ S1 A1) fun q S2 x Γ2 H2 _ l2 A2 r2 => by
      unfold dIn
      cases e1 : deref S2 p with
      | none => trivial
      | some a =>
        cases e2 : deref S2 q with
        | none => trivial
        | some c =>
          simp only
          cases e3 : dgetD c a with
          | none => trivial
          | some o =>
            obtain ⟨b, rfl, _, h⟩ := dget_ok A2 r2 (r1.mono l2) e2 e1 e3
            cases o with
            | some d => obtain ⟨v, hv, _⟩ := h; exact RunR.val A2 (.bl _) fun Q q => ⟨b, _, rfl, hv, q⟩
            | none => exact RunR.val A2 (.bl _) fun Q q => ⟨b, _, rfl, h, q⟩
theorem se_dnin {ty td : TE} (hi : SE E W ty m) (ho : SE E W td n) : SE E W (tDNotIn ty td) (mOp (dIn true) m n) := fun F Γ H σ S A =>
  RunR.bind (fun Q y H1 => td σ H1 fun x H2 => ∃ a o, x = .ref a ∧ DGet H2 a y o ∧ Q (.bl (!o.isSome)) H2) (fun Q h => h) (hi F Γ H σ S A) fun p S1 y Γ1 H1 _ l1 A1 r1 =>
    RunR.bind (fun Q x H2 => ∃ a o, x = .ref a ∧ DGet H2 a y o ∧ Q (.bl (!o.isSome)) H2) (fun Q h => h) (ho F Γ1 H1 σ S1 A1) fun q S2 x Γ2 H2 _ l2 A2 r2 => by
      unfold dIn
      cases e1 : deref S2 p with
      | none => trivial
      | some a =>
        cases e2 : deref S2 q with
        | none => trivial
        | some c =>
          simp only
          cases e3 : dgetD c a with
          | none => trivial
          | some o =>
            obtain ⟨b, rfl, _, h⟩ := dget_ok A2 r2 (r1.mono l2) e2 e1 e3
            cases o with
            | some d => obtain ⟨v, hv, _⟩ := h; exact RunR.val A2 (.bl _) fun Q q => ⟨b, _, rfl, hv, q⟩
            | none => exact RunR.val A2 (.bl _) fun Q q => ⟨b, _, rfl, h, q⟩
theorem se_dget {td ty : TE} (ho : SE E W td n) (hi : SE E W ty m) : SE E W (tDGet td ty) (mOp dGet n m) := fun F Γ H σ S A =>
  RunR.bind (fun Q x H1 => ty σ H1 fun y H2 => ∃ a v, x = .ref a ∧ DGet H2 a y (some v) ∧ Q v H2) (fun Q h => h) (ho F Γ H σ S A) fun q S1 x Γ1 H1 _ l1 A1 r1 =>
    RunR.bind (fun Q y H2 => ∃ a v, x = .ref a ∧ DGet H2 a y (some v) ∧ Q v H2) (fun Q h => h) (hi F Γ1 H1 σ S1 A1) fun p S2 y Γ2 H2 _ l2 A2 r2 => by
      unfold dGet
      cases e1 : deref S2 p with
      | none => trivial
      | some a =>
        cases e2 : deref S2 q with
        | none => trivial
        | some c =>
          simp only
          cases e3 : dgetD c a with
          | none => trivial
          | some o =>
            obtain ⟨b, rfl, _, h⟩ := dget_ok A2 (r1.mono l2) r2 e2 e1 e3
            cases o with
            | some d => obtain ⟨v, hv, rv⟩ := h; exact RunR.val A2 rv fun Q q => ⟨b, _, rfl, hv, q⟩
            | none => trivial
theorem isD_of {F : Fr} {Γ : Gd} {H : Hp} {σ : L2.St} {S : Sg} {x : V} {p : PV} {c : RD} (A : Abs E F Γ H σ S) (r : Pp E F σ Γ x p) (h : deref S p = some c) (hd : isDD c = true) : ∃ b, x = .ref b ∧ IsD H b := by
  cases c with
  | dk ks ds => obtain ⟨b, xs, rfl, hb, _⟩ := deref_dk A r h; exact ⟨b, rfl, .inl ⟨_, .inl hb⟩⟩
  | dt ks ds => obtain ⟨b, xs, rfl, hb, _⟩ := deref_dt A r h; exact ⟨b, rfl, .inr ⟨_, .inl hb⟩⟩
  | fk ks ds => obtain ⟨b, o, xs, rfl, hb, _⟩ := deref_fk A r h; exact ⟨b, rfl, .inl ⟨_, .inr ⟨_, A.gh _ _ hb⟩⟩⟩
  | ft ks ds => obtain ⟨b, o, xs, rfl, hb, _⟩ := deref_ft A r h; exact ⟨b, rfl, .inr ⟨_, .inr ⟨_, A.gh _ _ hb⟩⟩⟩
  | _ => cases hd
theorem se_dget2 {td ty tx : TE} {x : ME} (ho : SE E W td n) (hi : SE E W ty m) (hx : SE E W tx x) : SE E W (tDGet2 td ty tx) (mDGet2 n m x) := fun F Γ H σ S A =>
  RunR.bind (fun Q x H1 => ∃ a, x = .ref a ∧ IsD H1 a ∧ ty σ H1 fun y H2 => tx σ H2 fun z H3 => ∃ o, DGet H3 a y o ∧ Q (o.getD z) H3) (fun Q h => h) (ho F Γ H σ S A) fun q S1 x Γ1 H1 _ l1 A1 r1 => by
    cases e1 : deref S1 q with
    | none => trivial
    | some c =>
      simp only
      split
      · rename_i hd
        obtain ⟨b, rfl, hb⟩ := isD_of A1 r1 e1 hd
        refine RunR.bind (fun Q y H2 => tx σ H2 fun z H3 => ∃ o, DGet H3 b y o ∧ Q (o.getD z) H3) (fun Q q => ⟨b, rfl, hb, q⟩) (hi F Γ1 H1 σ S1 A1) fun p S2 y Γ2 H2 _ l2 A2 r2 => ?_
        refine RunR.bind (fun Q z H3 => ∃ o, DGet H3 b y o ∧ Q (o.getD z) H3) (fun Q q => q) (hx F Γ2 H2 σ S2 A2) fun z S3 w Γ3 H3 _ l3 A3 r3 => ?_
        unfold dGet2R
        cases e2 : deref S3 p with
        | none => trivial
        | some a =>
          cases e3 : deref S3 q with
          | none => trivial
          | some c' =>
            simp only
            cases e4 : dgetD c' a with
            | none => trivial
            | some o =>
              obtain ⟨b', eb, _, h⟩ := dget_ok A3 ((r1.mono l2).mono l3) (r2.mono l3) e3 e2 e4
              cases eb
              cases o with
              | some d => obtain ⟨v, hv, rv⟩ := h; exact RunR.val A3 rv fun Q q => ⟨_, hv, q⟩
              | none =>
                simp only
                split
                · rename_i e
                  cases r3 with
                  | d r3 => exact RunR.val A3 r3 fun Q q => ⟨none, h, q⟩
                · trivial
      · trivial
theorem q_din (hK : X.K = E.K) (hu : X.A.units + 1 < cLine) (hi : QE X E W i m) (ho : QE X E W o n) (hm : behindInMarks .In o = false := by with_unfolding_all rfl) : QE X E W (.Compare i [.In] [o] pos) (mOp (dIn false) m n) := by
  obtain ⟨t1, a1, a2⟩ := hi
  obtain ⟨t2, b1, b2⟩ := ho
  exact ⟨_, pe_cmp (pc_din hu a1 b1) hm, se_din a2 b2⟩
theorem qt_din (hK : X.K = E.K) (hu : X.A.units + 1 < cLine) (hi : QE X E W i m) (ho : QE X E W o n) (hm : behindInMarks .In o = false := by with_unfolding_all rfl) : QT X E W (.Compare i [.In] [o] pos) (mTest (mOp (dIn false) m n)) := by
  obtain ⟨t1, a1, a2⟩ := hi
  obtain ⟨t2, b1, b2⟩ := ho
  exact ⟨_, pt_cmp (pc_din hu a1 b1) hm, st_B (se_din a2 b2)⟩
theorem q_dnin (hK : X.K = E.K) (hu : X.A.units + 1 < cLine) (hi : QE X E W i m) (ho : QE X E W o n) (hm : behindInMarks .NotIn o = false := by with_unfolding_all rfl) : QE X E W (.Compare i [.NotIn] [o] pos) (mOp (dIn true) m n) := by
  obtain ⟨t1, a1, a2⟩ := hi
  obtain ⟨t2, b1, b2⟩ := ho
  exact ⟨_, pe_cmp (pc_dnotin hu a1 b1) hm, se_dnin a2 b2⟩
theorem qt_dnin (hK : X.K = E.K) (hu : X.A.units + 1 < cLine) (hi : QE X E W i m) (ho : QE X E W o n) (hm : behindInMarks .NotIn o = false := by with_unfolding_all rfl) : QT X E W (.Compare i [.NotIn] [o] pos) (mTest (mOp (dIn true) m n)) := by
  obtain ⟨t1, a1, a2⟩ := hi
  obtain ⟨t2, b1, b2⟩ := ho
  exact ⟨_, pt_cmp (pc_dnotin hu a1 b1) hm, st_B (se_dnin a2 b2)⟩
theorem q_dgetI (hK : X.K = E.K) (hu : X.A.units + 1 < cLine) (ho : QE X E W o n) (hi : QE X E W i m) (hs : NoSl i := by exact fun _ _ => rfl) : QE X E W (.Subscript o i pos) (mOp dGet n m) := by
  obtain ⟨t1, a1, a2⟩ := hi
  obtain ⟨t2, b1, b2⟩ := ho
  exact ⟨_, pe_dget hu b1 a1 hs, se_dget b2 a2⟩
theorem q_dget2 {x : ME} {apos cpos : Pos} (hK : X.K = E.K) (hu : X.A.units + 1 < cLine) (ho : QE X E W o n) (he : QE X E W e m) (hf : QE X E W f x) (m2 : L2.M2 X o "get" apos e f cpos := by exact ⟨rfl, rfl, rfl, rfl⟩) : QE X E W (.Call (.Attribute o "get" apos) [e, f] [] cpos) (mDGet2 n m x) := by
  obtain ⟨t1, a1, a2⟩ := ho
  obtain ⟨t2, b1, b2⟩ := he
  obtain ⟨t3, c1, c2⟩ := hf
  exact ⟨_, pe_dget2 hu a1 b1 c1 m2, se_dget2 a2 b2 c2⟩
end
/-! ### d[k] = v -/
def pk {κ : Type} [DecidableEq κ] (ks : List κ) (k : κ) : List κ := if k ∈ ks then ks else ks ++ [k]
def pv {κ α : Type} [DecidableEq κ] (ks : List κ) (xs : List α) (k : κ) (v : α) : List α := if k ∈ ks then List.zipWith (fun k' x => if k' = k then v else x) ks xs else xs ++ [v]
theorem put_zip {κ : Type} [DecidableEq κ] {ks : List κ} {xs : List V} (k : κ) (v : V) (hl : ks.length = xs.length) : putK (ks.zip xs) k v = (pk ks k).zip (pv ks xs k v) := by
  have ea : (ks.zip xs).any (fun kv => decide (kv.1 = k)) = decide (k ∈ ks) := by
    induction ks generalizing xs with
    | nil => rfl
    | cons a r ih =>
      cases xs with
      | nil => cases hl
      | cons x xs =>
        rw [List.zip_cons_cons, List.any_cons, ih (by simpa using hl)]
        by_cases h : a = k
        · subst h; simp
        · simp [h, Ne.symm h]
  unfold putK pk pv
  rw [ea]
  by_cases h : k ∈ ks
  · rw [if_pos (by simpa using h), if_pos h, if_pos h]
    clear h ea
    induction ks generalizing xs with
    | nil => rfl
    | cons a r ih =>
      cases xs with
      | nil => cases hl
      | cons x xs =>
        rw [List.zip_cons_cons, List.map_cons, List.zipWith_cons_cons, List.zip_cons_cons, ih (by simpa using hl)]
        by_cases h : a = k
        · subst h; simp
        · simp [h]
  · rw [if_neg (by simpa using h), if_neg h, if_neg h, List.zip_append hl]; rfl
theorem pkv_len {κ α : Type} [DecidableEq κ] {ks : List κ} {xs : List α} (k : κ) (v : α) (hl : ks.length = xs.length) : (pk ks k).length = (pv ks xs k v).length := by
  unfold pk pv
  split
  · rw [List.length_zipWith]; omega
  · simp [hl]
theorem pv_rel {κ : Type} [DecidableEq κ] {E : En} {Γ : Gd} (k : κ) {v : V} {d : RD} (rv : Rp E Γ v d) {ks : List κ} {xs : List V} {ds : List RD} (hl : ks.length = xs.length) (r : RpAll E Γ xs ds) : RpAll E Γ (pv ks xs k v) (pv ks ds k d) := by
  unfold pv
  split
  · rename_i h
    clear h
    induction ks generalizing xs ds with
    | nil => exact .nil
    | cons a ks ih =>
      cases r with
      | nil => cases hl
      | cons x y =>
        rw [List.zipWith_cons_cons, List.zipWith_cons_cons]
        refine .cons ?_ (ih (by simpa using hl) y)
        split
        · exact rv
        · exact x
  · exact r.append (.cons rv .nil)
def putDC (c : Cell) (a d : RD) : Option Cell := match c with
  | .dk ks ds => if ks.length < 100000 then (keyD a).map fun k => .dk (pk ks k) (pv ks ds k d) else none
  | .dt ks ds => if ks.length < 100000 then (keyT a).map fun k => .dt (pk ks k) (pv ks ds k d) else none
  | _ => none
def mPut (e o i : ME) : MS := fun S => (e S).out fun p S1 => (o S1).out fun q S2 => (i S2).out fun k S3 => (toD p S3).out fun d S4 => match deref S4 k, cellOf S4 q with
  | some a, some c => match putDC c a d with
    | some c' => .nx (putC q c' S4)
    | none => .st
  | _, _ => .st
section
variable {X : Cx} {E : En} {W : WX} {i o e : Expr} {m n k : ME} {pos tpos : Pos}
theorem qs_put (hK : X.K = E.K) (hu : X.A.units + 1 < cLine) (ho : QE X E W o m) (hi : QE X E W i n) (he : QE X E W e k) (hs : swapsWith e (some (.Subscript o i tpos)) pos.line X.env = pure false := by rfl) : QS X E W (.Assign [.Subscript o i tpos] e pos) (mPut k m n) := by
  obtain ⟨te, a1, a2⟩ := he
  obtain ⟨to, b1, b2⟩ := ho
  obtain ⟨ti, c1, c2⟩ := hi
  refine ⟨_, ps_dput hu b1 c1 a1 hs, fun F Γ H σ S A => ?_⟩
  refine RunS.of (fun D v H1 => to σ H1 fun x H2 => ti σ H2 fun y H3 => ∃ a H4, x = .ref a ∧ DPut H3 a y v H4 ∧ D.nx σ H4) (fun D h => h) (a2 F Γ H σ S A) fun p S1 v Γ1 H1 _ l1 A1 r1 =>
    RunS.of (fun D x H2 => ti σ H2 fun y H3 => ∃ a H4, x = .ref a ∧ DPut H3 a y v H4 ∧ D.nx σ H4) (fun D h => h) (b2 F Γ1 H1 σ S1 A1) fun q S2 x Γ2 H2 _ l2 A2 r2 =>
    RunS.of (fun D y H3 => ∃ a H4, x = .ref a ∧ DPut H3 a y v H4 ∧ D.nx σ H4) (fun D h => h) (c2 F Γ2 H2 σ S2 A2) fun kk S3 y Γ3 H3 ek l3 A3 r3 =>
    toD_out A3 ((r1.mono l2).mono l3) fun d S4 Γ4 l4 A4 r4 => ?_
  have r2 := (r2.mono l3).mono l4
  have r3 := r3.mono l4
  cases e1 : deref S4 kk with
  | none => trivial
  | some a =>
    cases e2 : cellOf S4 q with
    | none => trivial
    | some c =>
      simp only
      cases e3 : putDC c a d with
      | none => trivial
      | some c' =>
        obtain ⟨b, rfl, hc, hp⟩ := A4.put (c' := c') r2 e2
        unfold putDC at e3
        cases c with
        | dk ks ds =>
          simp only at e3
          split at e3
          · rename_i hl
            cases e4 : keyD a with
            | none => rw [e4] at e3; cases e3
            | some κ =>
              rw [e4] at e3
              cases e3
              cases hc with
              | @dk xs _ _ hh hn hr =>
                have ey : y = kV κ := by
                  cases a with
                  | str z => cases e4; exact (At.mk A4 r3 e1).str
                  | int z => cases e4; exact (At.mk A4 r3 e1).int
                  | _ => cases e4
                refine fun D w => ⟨b, _, rfl, .inl ⟨ks.zip xs, κ, hh, ey, Evl.sz_lt (Nat.lt_of_le_of_lt (Nat.le_of_eq (by rw [List.length_zip, ← hn, Nat.min_self])) hl), rfl⟩, w Γ4 _ σ (Gd.Le.refl _) (hp _ ?_)⟩
                rw [put_zip κ v hn]
                exact .dk upd_same (pkv_len κ v hn) (pv_rel κ r4 hn hr)
          · cases e3
        | dt ks ds =>
          simp only at e3
          split at e3
          · rename_i hl
            cases e4 : keyT a with
            | none => rw [e4] at e3; cases e3
            | some κ =>
              rw [e4] at e3
              cases e3
              cases hc with
              | @dt xs _ _ hh hn hr =>
                have ey : ∃ t, y = .ref t ∧ H3 t = some (.tup (κ.map kV)) := by
                  rcases deref_cases A4 r3 e1 with ⟨r, _⟩ | ⟨t, cc, rfl, e5, q⟩
                  · obtain ⟨t, h1, h2⟩ := keyT_rp r e4
                    exact ⟨t, h1, A4.gh _ _ h2⟩
                  · cases q <;> (subst e5; cases e4)
                obtain ⟨t, ht, ht2⟩ := ey
                refine fun D w => ⟨b, _, rfl, .inr ⟨ks.zip xs, κ, t, hh, ht, ht2, Evl.sz_lt (Nat.lt_of_le_of_lt (Nat.le_of_eq (by rw [List.length_zip, ← hn, Nat.min_self])) hl), rfl⟩, w Γ4 _ σ (Gd.Le.refl _) (hp _ ?_)⟩
                rw [put_zip κ v hn]
                exact .dt upd_same (pkv_len κ v hn) (pv_rel κ r4 hn hr)
          · cases e3
        | lst _ => cases e3
        | obj _ _ _ => cases e3
/-! ### for k in d -/
def mKeys (m : ME) : MI := fun S => (m S).bind fun p S1 => match deref S1 p with
  | some (.fk ks _) => .ok ⟨ks.map keyR, fun _ => True⟩ S1
  | _ => .st
theorem qi_keys {tg : Expr} (he : QE X E W e m) : QI X E W tg e (mKeys m) := by
  obtain ⟨te, h1, h2⟩ := he
  refine ⟨_, pi_keys h1, fun F Γ H σ S A => ?_⟩
  refine RunR.bind (fun R x H1 => ∃ d o, x = .ref d ∧ ((∃ kvs, H1 d = some (.frz o (.dK kvs)) ∧ R (Itk d o kvs) H1) ∨ ∃ kvs, H1 d = some (.frz o (.dT kvs)) ∧ R (Itkt d o kvs) H1)) (fun Q h => h) (h2 F Γ H σ S A) fun p S1 x Γ1 H1 _ l1 A1 r1 => ?_
  split
  · rename_i ks ds e1
    obtain ⟨a, ob, xs, rfl, hb, hl, hr⟩ := deref_fk A1 r1 e1
    refine RunR.pure A1 (b := Itk a ob (ks.zip xs)) ?_ fun Q q => ⟨a, ob, rfl, .inl ⟨_, A1.gh _ _ hb, q⟩⟩
    intro Γ2 H2 σ2 S2 l2 A2 _
    have hb2 := A2.gh _ _ (l2.g _ _ hb)
    have hlen : (ks.zip xs).length = ks.length := by rw [List.length_zip]; omega
    refine ⟨fun i hi => ⟨⟨hb2, by rw [List.length_map] at hi; omega⟩, fun x H' hy => ?_⟩, hb2, by rw [List.length_map]; omega⟩
    obtain ⟨rfl, k, v, h3, rfl⟩ := hy
    refine ⟨Γ2, keyR k, ?_, Sx.refl A2.gh, keyR_rp k⟩
    rw [List.getElem?_map]
    have : ks[i]? = some k := by
      have h4 := congrArg (Option.map Prod.fst) h3
      rw [← List.getElem?_map, List.map_fst_zip (by omega)] at h4
      exact h4
    rw [this]; rfl
  · trivial
end
end RS

set_option Elab.async false
set_option linter.all false
set_option maxRecDepth 100000
set_option maxHeartbeats 2000000
namespace RS
open PySem PySem.Spec PyProof.Rows L2
open Evl (Ex)
/-! ### {k: v for ..} -/
open Classical in
noncomputable def dcL (ok : Sg → Prop) (g : MG) (t : MT) (ek ev : ME) (vs : List Nat) : List RD → List Key × List RD → Sg → Rr (List Key × List RD)
  | [], acc, S => if ok S then .ok acc S else .st
  | d :: ds, acc, S => if ok S then match g d (wipeS vs S) with
    | none => .st
    | some S1 => match t S1 with
      | .ok true S2 => match ek S2 with
        | .ok (.d dk) S3 => match keyD dk with
          | some κ => match ev S3 with
            | .ok p S4 => match toD p S4 with
              | .ok r S5 => dcL ok g t ek ev vs ds (pk acc.1 κ, pv acc.1 acc.2 κ r) (backS vs S S5)
              | _ => .st
            | _ => .st
          | none => .st
        | _ => .st
      | .ok false S2 => dcL ok g t ek ev vs ds acc (backS vs S S2)
      | _ => .st
    else .st
theorem dcL_noex {ok : Sg → Prop} {g : MG} {t : MT} {ek ev : ME} {vs : List Nat} {x : Exn} {S' : Sg} : ∀ {ds : List RD} {acc : List Key × List RD} {S : Sg}, dcL ok g t ek ev vs ds acc S ≠ .ex x S'
  | [], acc, S, h => by unfold dcL at h; split at h <;> cases h
  | d :: ds, acc, S, h => by
    unfold dcL at h
    split at h
    · split at h
      · cases h
      · split at h
        · split at h
          · split at h
            · split at h
              · split at h
                · exact dcL_noex h
                · cases h
              · cases h
            · cases h
          · cases h
        · exact dcL_noex h
        · cases h
    · cases h
noncomputable def nDc (i : MI) (g : MG) (t : MT) (ek ev : ME) (vs : List Nat) : MN := fun S => (i S).bind fun its S1 => if its.ds.length ≤ 100000 then (dcL its.ok g t ek ev vs its.ds ([], []) S1).bind fun a S2 => .ok (.dk a.1 a.2, S2) S2 else .st
theorem pk_le {κ : Type} [DecidableEq κ] (ks : List κ) (k : κ) : (pk ks k).length ≤ ks.length + 1 := by
  unfold pk
  split
  · omega
  · simp
section
variable {X : Cx} {E : En} {W : WX}
theorem sn_dc {wi : TI} {i : MI} {g : TG} {mg : MG} {tt : TT} {t : MT} {tk tv : TE} {ek ev : ME} {l vs : List Nat} (hi : SI E W wi i) (hg : SG E g mg l) (hl : ∀ k ∈ l, k ∈ vs) (ht : ST E W0 tt t) (hk : SE E W0 tk ek) (he : SE E W0 tv ev) : SN E W (tDc wi g tt tk tv vs) (nDc i mg t ek ev vs) := fun F Γ H σ S A => by
  constructor
  · refine RunR.bind (fun Q J H1 => ∀ D, H1 D = none → ∃ W : Nat → Nat → Hp → Prop, (∃ m, W 0 m (upd H1 D (.dK []))) ∧ ∀ i m H, W i m H →
      (J.stop i H ∧ Q (.ref D) H) ∨ (J.go i H ∧ ∃ Nx : Hp → Prop, (∀ H', Nx H' → ∃ m', m' < m ∧ W (i + 1) m' H') ∧ ∀ x H', J.yld i H x H' → g x (wipe σ vs) H' fun σ2 H2 => wipe σ2 vs = wipe σ vs ∧ tt σ2 H2 fun b H3 =>
        if b = true then tk σ2 H3 fun y H4 => tv σ2 H4 fun z H5 => ∃ kvs k, y = kV k ∧ H5 D = some (.dK kvs) ∧ kvs.length < sizeLine ∧ Nx (upd H5 D (.dK (putK kvs k z))) else Nx H3)) (fun Q h => h) (hi F Γ H σ S A) fun its S1 J Γ1 H1 _ l1 A1 hw => ?_
    split
    · rename_i hsz
      cases er : dcL its.ok mg t ek ev vs its.ds ([], []) S1 with
      | st => trivial
      | ex x S2 => exact absurd er dcL_noex
      | ok dsF SF =>
        intro Q q D hD
        have ap0 := A1.apart hD
        refine ⟨fun i k H' => k = its.ds.length - i ∧ i ≤ its.ds.length ∧ ∃ Γ' S' ks acc accD, Γ1.Le Γ' ∧ Abs E F Γ' H' σ S' ∧ Apart F Γ' σ S' D ∧ H' D = some (.dK (ks.zip acc)) ∧ ks.length = acc.length ∧ RpAll E Γ' acc accD ∧ ks.length ≤ i ∧ dcL its.ok mg t ek ev vs (its.ds.drop i) (ks, accD) S' = .ok dsF SF,
          ⟨its.ds.length, by omega, Nat.zero_le _, Γ1, S1, [], [], [], Gd.Le.refl _, A1.mutU ap0, ap0, upd_same, rfl, .nil, Nat.le_refl _, by rw [List.drop_zero]; exact er⟩, ?_⟩
        rintro i k H' ⟨rfl, hin, Γ', S', ks, acc, accD, l', A', ap', hacc, hkl, racc, hlen, hr⟩
        by_cases hlt : i < its.ds.length
        · rw [List.drop_eq_getElem_cons hlt] at hr
          unfold dcL at hr
          by_cases hok : its.ok S'
          · rw [if_pos hok] at hr
            obtain ⟨hgo, hy⟩ := (hw Γ' H' σ S' l' A' hok).1 i hlt
            refine .inr ⟨hgo, fun H2 => ∃ Γ' S' ks acc accD, Γ1.Le Γ' ∧ Abs E F Γ' H2 σ S' ∧ Apart F Γ' σ S' D ∧ H2 D = some (.dK (ks.zip acc)) ∧ ks.length = acc.length ∧ RpAll E Γ' acc accD ∧ ks.length ≤ i + 1 ∧ dcL its.ok mg t ek ev vs (its.ds.drop (i + 1)) (ks, accD) S' = .ok dsF SF, fun H2 w => ⟨its.ds.length - (i + 1), by omega, rfl, by omega, w⟩, fun x H2 hx => ?_⟩
            obtain ⟨Γ2, d, hd, s2, r2⟩ := hy x H2 hx
            rw [List.getElem?_eq_getElem hlt] at hd
            cases hd
            have A2 := A'.ext s2
            have ap2 := ap'.step hacc s2
            have hacc2 := s2.h D _ hacc
            have An := A2.now
            have Aw := An.wipe vs
            cases e1 : mg its.ds[i] (RS.wipeS vs S') with
            | none => rw [e1] at hr; cases hr
            | some S3 =>
              rw [e1] at hr
              refine hg _ Γ2 H2 (wipe σ vs) (RS.wipeS vs S') x _ Aw r2 S3 e1 _ fun σ3 A3 l3 k3 => ?_
              have k4 : ∀ k, k ∉ vs → σ3[k]? = σ[k]? := fun k hk => by rw [k3 k fun z => hk (hl k z), wipe_out hk]
              have l4 : σ3.length = σ.length := by rw [l3, wipe_length]
              refine ⟨wipe_congr vs l4 k4, ?_⟩
              have zt := ht _ Γ2 H2 σ3 S3 A3
              cases e2 : t S3 with
              | st => simp only [e2] at hr; cases hr
              | ex x S4 => simp only [e2] at hr; cases hr
              | ok b S4 =>
                rw [e2] at zt
                refine zt _ fun b' Γ4 H4 l5 A4 eb => ?_
                cases eb
                cases b with
                | false =>
                  simp only [e2] at hr
                  have A5 := A2.back A4
                  obtain ⟨ap5, hD5⟩ := A2.apart_on ap2 hacc2 A4
                  exact iteF ⟨Γ4, _, ks, acc, accD, (l'.trans s2.le).trans l5, A2.backS A5 l5 l4 k4, ap5.backS k4, hD5, hkl, racc.mono (s2.le.trans l5), by omega, hr⟩
                | true =>
                  simp only [e2] at hr
                  refine iteT ?_
                  have zk := hk _ Γ4 H4 σ3 S4 A4
                  cases e3 : ek S4 with
                  | st => simp only [e3] at hr; cases hr
                  | ex x S5 => simp only [e3] at hr; cases hr
                  | ok pkk S5 =>
                    rw [e3] at zk
                    refine zk _ fun yk Γ5 H5 l6 A5 r5 => ?_
                    cases pkk with
                    | sl _ => simp only [e3] at hr; cases hr
                    | exc => simp only [e3] at hr; cases hr
                    | d dkk =>
                      simp only [e3] at hr
                      cases e4 : keyD dkk with
                      | none => simp only [e4] at hr; cases hr
                      | some κ =>
                        simp only [e4] at hr
                        have ey : yk = kV κ := by cases r5 with | d r5 => exact keyD_rp r5 e4
                        have ze := he _ Γ5 H5 σ3 S5 A5
                        cases e5 : ev S5 with
                        | st => simp only [e5] at hr; cases hr
                        | ex x S6 => simp only [e5] at hr; cases hr
                        | ok p S6 =>
                          rw [e5] at ze
                          refine ze _ fun y Γ6 H6 l7 A6 r6 => ?_
                          cases e6 : toD p S6 with
                          | st => simp only [e5, e6] at hr; cases hr
                          | ex x S7 => exact absurd e6 toD_noex
                          | ok r S7 =>
                            simp only [e5, e6] at hr
                            obtain ⟨Γ7, l8, A7, r7⟩ := toD_run A6 r6 e6
                            have A8 := A2.back A7
                            obtain ⟨ap8, hD8⟩ := A2.apart_on ap2 hacc2 A7
                            have lx := ((l5.trans l6).trans l7).trans l8
                            have ap9 := ap8.backS (S := S') k4
                            refine ⟨ks.zip acc, κ, ey, hD8, Evl.sz_lt (Nat.lt_of_le_of_lt (Nat.le_of_eq (by rw [List.length_zip, ← hkl, Nat.min_self])) (by omega)), Γ7, _, pk ks κ, pv ks acc κ y, pv ks accD κ r, (l'.trans s2.le).trans lx, (A2.backS A8 lx l4 k4).mutU ap9, ap9, by rw [put_zip κ y hkl]; exact upd_same, pkv_len κ y hkl, pv_rel κ r7 hkl (racc.mono (s2.le.trans lx)), Nat.le_trans (pk_le ks κ) (by omega), hr⟩
          · rw [if_neg hok] at hr; cases hr
        · have him : i = its.ds.length := by omega
          subst him
          rw [List.drop_length] at hr
          unfold dcL at hr
          by_cases hok : its.ok S'
          · rw [if_pos hok] at hr
            cases hr
            exact .inl ⟨(hw Γ' H' σ _ l' A' hok).2, q _ Γ' H' l' A' ⟨D, rfl, .dk hacc hkl racc, ap'⟩⟩
          · rw [if_neg hok] at hr; cases hr
    · trivial
  · intro c S2 S1 h
    unfold nDc at h
    cases e1 : i S with
    | st => rw [e1] at h; cases h
    | ex x S3 => rw [e1] at h; cases h
    | ok its S3 =>
      rw [e1, Rr.bind_ok] at h
      split at h
      · cases e2 : dcL its.ok mg t ek ev vs its.ds ([], []) S3 with
        | st => rw [e2] at h; cases h
        | ex x S4 => rw [e2] at h; cases h
        | ok ds S4 => rw [e2, Rr.bind_ok] at h; cases h; rfl
      · cases h
theorem qn_dc {kx vx tg iter : Expr} {ifs : List Expr} {scope : Scope} {own : List (Str × Nat)} {pos : Pos} {i : MI} {mg : MG} {t : MT} {mk mv : ME} {l : List Nat} (hc : X.calm = true) (hN : X.N.Nodup) (hi : QI X E W tg iter i) (ok : BlkOk X.N X.env.scope scope own)
    (hg : ∀ (s : Shared) (H : Hp) (C : Addr) (cl : List (Str × Addr)) (fp : List Addr), QG (X.blk s H scope (compEnvC scope cl C X.env) fp) E tg mg l)
    (ht : ∀ (s : Shared) (H : Hp) (C : Addr) (cl : List (Str × Addr)) (fp : List Addr), QTs (X.blk s H scope (compEnvC scope cl C X.env) fp) E W0 ifs t)
    (hk : ∀ (s : Shared) (H : Hp) (C : Addr) (cl : List (Str × Addr)) (fp : List Addr), QE (X.blk s H scope (compEnvC scope cl C X.env) fp) E W0 kx mk)
    (he : ∀ (s : Shared) (H : Hp) (C : Addr) (cl : List (Str × Addr)) (fp : List Addr), QE (X.blk s H scope (compEnvC scope cl C X.env) fp) E W0 vx mv) (hl : ∀ k ∈ l, k ∈ own.map (·.2)) (hs : ∀ x, foldedSetIterable iter X.env x = pure x := by intro _; rfl) :
    QN X E W (.DictComp kx vx [⟨tg, iter, ifs, 0⟩] scope pos) (nDc i mg t mk mv (own.map (·.2))) := by
  obtain ⟨wi, i1, i2⟩ := hi
  obtain ⟨g, g1, g2⟩ := QG.all (Xs := fun p : Shared × Hp × Addr × List (Str × Addr) × List Addr => X.blk p.1 p.2.1 scope (compEnvC scope p.2.2.2.1 p.2.2.1 X.env) p.2.2.2.2) fun p => hg p.1 p.2.1 p.2.2.1 p.2.2.2.1 p.2.2.2.2
  obtain ⟨tt, t1, t2⟩ := QTs.all (Xs := fun p : Shared × Hp × Addr × List (Str × Addr) × List Addr => X.blk p.1 p.2.1 scope (compEnvC scope p.2.2.2.1 p.2.2.1 X.env) p.2.2.2.2) fun p => ht p.1 p.2.1 p.2.2.1 p.2.2.2.1 p.2.2.2.2
  obtain ⟨tk, k1, k2⟩ := QE.all (Xs := fun p : Shared × Hp × Addr × List (Str × Addr) × List Addr => X.blk p.1 p.2.1 scope (compEnvC scope p.2.2.2.1 p.2.2.1 X.env) p.2.2.2.2) fun p => hk p.1 p.2.1 p.2.2.1 p.2.2.2.1 p.2.2.2.2
  obtain ⟨te, e1, e2⟩ := QE.all (Xs := fun p : Shared × Hp × Addr × List (Str × Addr) × List Addr => X.blk p.1 p.2.1 scope (compEnvC scope p.2.2.2.1 p.2.2.1 X.env) p.2.2.2.2) fun p => he p.1 p.2.1 p.2.2.1 p.2.2.2.1 p.2.2.2.2
  exact ⟨_, pe_dc hc hN i1 ok (fun s H C cl fp => g1 (s, H, C, cl, fp)) (fun s H C cl fp => t1 (s, H, C, cl, fp)) (fun s H C cl fp => k1 (s, H, C, cl, fp)) (fun s H C cl fp => e1 (s, H, C, cl, fp)) hs, sn_dc i2 g2 hl t2 k2 e2⟩
end
/-! ### list(d.values()) -/
def tListVals (te : TE) : TE := fun σ H Q => te σ H fun x H1 => ∃ (d : Addr) (kvs : List (Key × V)), x = .ref d ∧ Rd H1 d (.dK kvs) ∧ ∀ p, H1 p = none → Q (.ref p) (upd H1 p (.lst (kvs.map (·.2))))
theorem pe_listVals {X : Cx} {e : Expr} {te : TE} {p apos cpos pos : Pos} (hc : X.calm = true) (he : PE X e te) (hg : Gl X "list") (hm : X.mg "list" = none) (hv : bootBuiltins "list" = some (.type "list")) (hbase : attributeBase e "values" X.env (eval e X.env) = eval e X.env := by rfl) (hline : (apos.endLine == cpos.line) = true := by rfl)
    (hs : starEach [.Call (.Attribute e "values" apos) [] [] cpos] X.env = (false, eval (.Call (.Attribute e "values" apos) [] [] cpos) X.env) :: starEach [] X.env := by rfl) :
    PE X (.Call (.Name "list" p) [.Call (.Attribute e "values" apos) [] [] cpos] [] pos) (tListVals te) := by
  refine ⟨fun pins s σ H Q I hq => ?_⟩
  refine wpAny_Call_Name_kw (ld_blt I hg hm hv ?_)
  refine PyProof.Rows.callWith_type1 ?_ hs rfl
  rw [hs]
  show wpAny _ _ (spliced ((false, eval (.Call (.Attribute e "values" apos) [] [] cpos) X.env) :: backTo pos (starEach [] X.env))) _ _ s
  refine Calls.spliced_cons ?_
  refine wpAny_Call_method (T := "dict") (id := "dict.values") hbase rfl hline F.plainAttrs_dict F.slot_dict_values F.type_dict_values (thn (he.run pins s σ H _ I hq) fun u s1 ⟨x, H1, I1, rx, d, kvs, ex, hd, q⟩ => ?_)
  subst ex
  obtain rfl : u = Value.ref d := rx
  obtain ⟨hz, hs0, vs, kv, hdo⟩ := dk_rd I1.hok hd
  obtain ⟨ep, hat⟩ := hdo.dictAt
  have lk : kvs.length = vs.length := Paired.length kv
  refine ⟨hdo.typeIs, hdo.mapOf.noDict, ?_⟩
  show wpAny _ _ (callWith cpos (.builtin "dict.values") [.ref d] [] []) _ X.xe s1
  refine method_meetsIn F.slot_dict_values F.entry_dict_values rfl (PySem.evalArgs_none ⟨rfl, hdo.typeIs, F.args_dict_values_1 _, _, meets_dict_values (mixKind X.prog X.w) d hs0, ⟨vs, hdo⟩, ?_⟩)
  refine Calls.spliced_nil ?_
  have I2 : Inv X pins σ H1 { s1 with heap := s1.heap.push { cls := .type "dict_values", data := .fields #[.ref d] } } := I1.kept (t' := s1.toks) fun b ob q => Heap.get?_push_of_some _ q
  refine PySem.W.kdl_call (PySem.W.kdl_values (knd := mixKind X.prog X.w) (r := s1.heap.objs.size) (d := d) (kvs := vs) (ep := ep)) (I1.ok.hd hc) ⟨⟨_, Heap.get?_push_size _ rfl, rfl, rfl⟩, hat.push _⟩ (by omega) fun h' tk acc c hk hS hacc => ?_
  have hn : H1 (s1.heap.push ({ cls := .type "dict_values", data := .fields #[.ref d] } : Obj)).objs.size = none := I2.hok.fresh (Nat.le_refl _)
  refine ⟨.ref _, _, I2.laid (t' := tk) hk (Nat.le_refl _) (show ObjOk X.prog X.w _ _ _ (.lst (kvs.map (·.2))) from ⟨by rw [List.length_map]; exact hz, acc.toList, c, ?_, by rw [Array.toArray_toList]; exact hS⟩), rfl, q _ hn⟩
  have el : acc.toList.length = acc.size := by simp
  refine vals_of_at (by rw [List.length_map, el, hacc.1, lk]) fun j x w h1 h2 => ?_
  obtain ⟨k, hx⟩ := hacc.2 j w (by rw [← Array.getElem?_toList]; exact h2)
  rw [List.getElem?_map] at h1
  cases e1 : kvs[j]? with
  | none => rw [e1] at h1; cases h1
  | some kx =>
    rw [e1] at h1
    cases h1
    obtain ⟨y, g1, g2, g3⟩ := LiI.paired_get kv e1
    rw [hx] at g1
    cases g1
    exact g3
def mListVals (m : ME) : ME := fun S => (m S).bind fun p S1 => match deref S1 p with
  | some (.dk _ ds) => .ok (.d (.lst ds)) S1
  | some (.fk _ ds) => .ok (.d (.lst ds)) S1
  | _ => .st
theorem q_listVals {X : Cx} {E : En} {W : WX} {e : Expr} {m : ME} {p apos cpos pos : Pos} (hc : X.calm = true) (hg : Gl X "list") (hm : X.mg "list" = none) (he : QE X E W e m) (hbase : attributeBase e "values" X.env (eval e X.env) = eval e X.env := by rfl) (hline : (apos.endLine == cpos.line) = true := by rfl)
    (hs : starEach [.Call (.Attribute e "values" apos) [] [] cpos] X.env = (false, eval (.Call (.Attribute e "values" apos) [] [] cpos) X.env) :: starEach [] X.env := by rfl) :
    QE X E W (.Call (.Name "list" p) [.Call (.Attribute e "values" apos) [] [] cpos] [] pos) (mListVals m) := by
  obtain ⟨te, h1, h2⟩ := he
  refine ⟨_, pe_listVals hc h1 hg hm (by decide +kernel) hbase hline hs, fun F Γ H σ S A => ?_⟩
  refine RunR.bind (fun Q x H1 => ∃ (d : Addr) (kvs : List (Key × V)), x = .ref d ∧ Rd H1 d (.dK kvs) ∧ ∀ p, H1 p = none → Q (.ref p) (upd H1 p (.lst (kvs.map (·.2))))) (fun Q h => h) (h2 F Γ H σ S A) fun p S1 x Γ1 H1 _ l1 A1 r1 => ?_
  have fin : ∀ {b : Addr} {ks : List Key} {xs : List V} {ds : List RD}, x = .ref b → Rd H1 b (.dK (ks.zip xs)) → ks.length = xs.length → RpAll E Γ1 xs ds → RunR E W F Γ1 σ (RP1 E F σ) (fun Q => ∃ (d : Addr) (kvs : List (Key × V)), x = .ref d ∧ Rd H1 d (.dK kvs) ∧ ∀ p, H1 p = none → Q (.ref p) (upd H1 p (.lst (kvs.map (·.2))))) (.ok (.d (.lst ds)) S1) := fun {b ks xs ds} ex hd hl hr =>
    RunR.step A1 fun Q q => ⟨b, _, ex, hd, fun p hp => by
      have e : (ks.zip xs).map (·.2) = xs := List.map_snd_zip (by omega)
      rw [e]
      have sn := Sx.new (o := .lst xs) A1.gh hp
      exact q _ _ _ sn (.lst upd_same (hr.mono sn.le))⟩
  split
  · rename_i ks ds e1
    obtain ⟨a, xs, ex, hb, hl, hr⟩ := deref_dk A1 r1 e1
    exact fin ex (.inl hb) hl hr
  · rename_i ks ds e1
    obtain ⟨a, ob, xs, ex, hb, hl, hr⟩ := deref_fk A1 r1 e1
    exact fin ex (.inr ⟨_, A1.gh _ _ hb⟩) hl hr
  · trivial
end RS

set_option Elab.async false
set_option linter.all false
set_option maxRecDepth 100000
set_option maxHeartbeats 2000000
namespace RS
open PySem PySem.Spec PyProof.Rows L2
open Evl (Ex)
/-! ### sorted texts -/
def leS (a b : Str) : Prop := a.cps.toList ≤ b.cps.toList
theorem rising_pw : ∀ (l : List Str) (p : Str), risingS p l = true → (p :: l).Pairwise leS
  | [], p, _ => by simp
  | x :: r, p, h => by
    unfold risingS at h
    rw [Bool.and_eq_true, Bool.not_eq_true', ltCps_eq, decide_eq_false_iff_not] at h
    have ih := rising_pw r x h.2
    have hpx : leS p x := h.1
    refine List.pairwise_cons.mpr ⟨fun y hy => ?_, ih⟩
    rcases List.mem_cons.mp hy with rfl | hy
    · exact hpx
    · exact List.le_trans hpx ((List.pairwise_cons.mp ih).1 y hy)
theorem sorted_pw {l : List Str} (h : sortedS l = true) : l.Pairwise leS := by
  cases l with
  | nil => exact .nil
  | cons x r => exact rising_pw r x h
theorem sort_one {a b ks : List Str} (ha : a.Perm ks) (hb : b.Perm ks) (sa : sortedS a = true) (sb : sortedS b = true) : a = b :=
  List.Perm.eq_of_pairwise (le := leS) (fun x y _ _ h k => TL.ext_tl (List.le_antisymm h k)) (sorted_pw sa) (sorted_pw sb) (ha.trans hb.symm)
open Classical in
noncomputable def sortT (ks : List Str) : List Str := if h : ∃ ys : List Str, ys.Perm ks ∧ sortedS ys = true then Classical.choose h else []
theorem sortT_is {ys ks : List Str} (h : ys.Perm ks) (hs : sortedS ys = true) : sortT ks = ys := by
  have hx : ∃ ys : List Str, ys.Perm ks ∧ sortedS ys = true := ⟨ys, h, hs⟩
  unfold sortT
  rw [dif_pos hx]
  exact sort_one (Classical.choose_spec hx).1 h (Classical.choose_spec hx).2 hs
theorem sort_ex (ks : List Str) : ∃ ys : List Str, ys.Perm ks ∧ sortedS ys = true := by
  refine ⟨ks.mergeSort (fun a b => !ltCps b.cps.toList a.cps.toList), List.mergeSort_perm _ _, ?_⟩
  refine sortedS_of_pairwise _ ?_
  have := List.pairwise_mergeSort (le := fun a b : Str => !ltCps b.cps.toList a.cps.toList) (fun a b c h1 h2 => by
    rw [Bool.not_eq_true', ltCps_eq, decide_eq_false_iff_not] at *
    exact List.le_trans h1 h2) (fun a b => by
    rw [Bool.or_eq_true, Bool.not_eq_true', Bool.not_eq_true', ltCps_eq, ltCps_eq, decide_eq_false_iff_not, decide_eq_false_iff_not]
    exact List.le_total _ _) ks
  exact this.imp fun h => by simpa using h
theorem sortT_perm (ks : List Str) : (sortT ks).Perm ks := by
  obtain ⟨ys, h1, h2⟩ := sort_ex ks
  rw [sortT_is h1 h2]; exact h1
theorem sortT_sorted (ks : List Str) : sortedS (sortT ks) = true := by
  obtain ⟨ys, h1, h2⟩ := sort_ex ks
  rw [sortT_is h1 h2]; exact h2
def txts : List Key → Option (List Str)
  | [] => some []
  | .inr x :: r => (txts r).map (x :: ·)
  | .inl _ :: _ => none
theorem txts_eq : ∀ {ks : List Key} {xs : List Str}, txts ks = some xs → ks = xs.map Sum.inr
  | [], xs, h => by cases h; rfl
  | .inr x :: r, xs, h => by
    unfold txts at h
    cases e : txts r with
    | none => rw [e] at h; cases h
    | some ys => rw [e] at h; cases h; rw [txts_eq e]; rfl
  | .inl _ :: _, _, h => by cases h
theorem txts_map (xs : List Str) : txts (xs.map Sum.inr) = some xs := by
  induction xs with
  | nil => rfl
  | cons x r ih => rw [List.map_cons]; unfold txts; rw [ih]; rfl
noncomputable def fSorted : List RD → Option RD
  | [.dk ks _] => match txts ks with
    | some xs => if xs.length < 64 then some (.lst ((sortT xs).map .str)) else none
    | none => none
  | [.fk ks _] => match txts ks with
    | some xs => if xs.length < 64 then some (.lst ((sortT xs).map .str)) else none
    | none => none
  | _ => none
noncomputable def fSortedL : List RD → Option RD
  | [.lst ds] => match RD.strs ds with
    | some xs => if xs.length < 64 then some (.lst ((sortT xs).map .str)) else none
    | none => none
  | _ => none
section
variable {X : Cx} {E : En} {W : WX}
theorem cb_sortedD (hc : X.calm = true) : CbQ X E W (.builtin "sorted") (liftL fSorted) := ⟨_, call_sortedD hc, sc_lift fun {F Γ H σ S xs ps ds d} A h e Q w => by
  have fin : ∀ {b : Addr} {ks : List Key} {vs : List V} {ys : List Str}, xs = [.ref b] → Rd H b (.dK (ks.zip vs)) → ks.length = vs.length → txts ks = some ys → ys.length < 64 → d = .lst ((sortT ys).map .str) → ∃ (a : Addr) (kvs : List (Key × V)) (ks : List Str), xs = [.ref a] ∧ Rd H a (.dK kvs) ∧ kvs.map (·.1) = ks.map Sum.inr ∧ ks.length < 64 ∧
    ∀ ys p, ys.Perm ks → sortedS ys = true → H p = none → Q (.ref p) (upd H p (.lst (ys.map V.str))) := fun {b ks vs ys} ex hd hl ht h64 ed => by
    refine ⟨b, _, ys, ex, hd, by rw [List.map_fst_zip (by omega)]; exact txts_eq ht, h64, fun zs p h1 h2 hp => ?_⟩
    have := sortT_is h1 h2
    subst ed
    rw [← this]
    exact w.lst A (rp_strs _) p hp
  unfold fSorted at e
  split at e
  · rename_i ks es
    split at e
    · rename_i ys ht
      split at e
      · rename_i h64
        cases e
        obtain ⟨y, q, rfl, h3⟩ := h.one
        obtain ⟨b, vs, rfl, hb, hl, _⟩ := deref_dk h3.A h3.r h3.e
        exact fin rfl (.inl hb) hl ht h64 rfl
      · cases e
    · cases e
  · rename_i ks es
    split at e
    · rename_i ys ht
      split at e
      · rename_i h64
        cases e
        obtain ⟨y, q, rfl, h3⟩ := h.one
        obtain ⟨b, ob, vs, rfl, hb, hl, _⟩ := deref_fk h3.A h3.r h3.e
        exact fin rfl (.inr ⟨_, h3.A.gh _ _ hb⟩) hl ht h64 rfl
      · cases e
    · cases e
  · cases e⟩
theorem cb_sortedL (hK : X.K = E.K) : CbQ X E W (.builtin "sorted") (liftL fSortedL) := ⟨_, cr_sortedS, sc_lift fun {F Γ H σ S xs ps ds d} A h e Q w => by
  rw [hK]
  unfold fSortedL at e
  split at e
  · rename_i es
    split at e
    · rename_i ys ht
      split at e
      · rename_i h64
        cases e
        obtain ⟨y, q, rfl, h3⟩ := h.one
        obtain ⟨b, vs, rfl, hb, ra⟩ := h3.lst
        have := strs_all ra ht
        subst this
        refine ⟨b, ys, rfl, Evl.sq_of hb, h64, fun zs p h1 h2 hp => ?_⟩
        have := sortT_is h1 h2
        rw [← this]
        exact w.lst A (rp_strs _) p hp
      · cases e
    · cases e
  · cases e⟩
/-! ### xs.insert(i, y) -/
def fInsert : PV → ML := fun p ps S => match ps with
  | [.d (.int i), q] => (toD q S).bind fun d S1 => match cellOf S1 p with
    | some (.lst ds) => if ds.length < 100000 ∧ 0 ≤ i ∧ i ≤ 1000000000 then .ok (.d .non) (putC p (.lst (ds.take i.toNat ++ [d] ++ ds.drop i.toNat)) S1) else .st
    | _ => .st
  | _ => .st
theorem mb_insert : MbQ X E W "list.insert" fInsert := by
  refine ⟨_, mt_insert, fun F Γ H σ S x p xs ps A r1 r2 => ?_⟩
  unfold fInsert
  split
  · rename_i i q
    cases r2 with
    | cons r3 r4 =>
      obtain ⟨y, rfl, r6⟩ := r4.one
      cases r3 with
      | d r3 =>
        cases r3
        cases e : toD q S with
        | st => trivial
        | ex _ _ => exact absurd e toD_noex
        | ok d S1 =>
          obtain ⟨Γ', l, A1, r5⟩ := toD_run A r6 e
          refine RunR.weak l ?_
          show RunR E W F Γ' σ (RP1 E F σ) _ (match cellOf S1 p with | some (.lst ds) => if ds.length < 100000 ∧ 0 ≤ i ∧ i ≤ 1000000000 then Rr.ok (PV.d .non) (putC p (.lst (ds.take i.toNat ++ [d] ++ ds.drop i.toNat)) S1) else .st | _ => .st)
          split
          · rename_i n ds ec
            split
            · rename_i hl
              obtain ⟨a, rfl, hc, hp⟩ := A1.put (c' := .lst (ds.take i.toNat ++ [d] ++ ds.drop i.toNat)) (r1.mono l) ec
              cases hc with
              | lst h ra =>
                exact fun Q q => ⟨a, _, i, y, rfl, rfl, h, Evl.sz_lt (by rw [ra.length]; exact hl.1), hl.2.1, by omega, q _ Γ' _ (Gd.Le.refl _) (hp _ (.lst upd_same (((ra.take i.toNat).append (.cons r5 .nil)).append (ra.drop i.toNat)))) (.d .non)⟩
            · trivial
          · trivial
  · trivial
end
/-! ### f-strings -/
def fFmt : RD → Option Str
  | .str y => if y.length ≤ 100000 then some y else none
  | .int i => if i.natAbs.log2 < 1920 then some (toString i : String) else none
  | _ => none
inductive FPart where
  | s (x : Str) | e (m : ME)
def mFs : List FPart → Str → Sg → Rr Str
  | [], acc, S => .ok acc S
  | .s x :: r, acc, S => if (acc ++ x).length ≤ 100000 then mFs r (acc ++ x) S else .st
  | .e m :: r, acc, S => (m S).bind fun p S1 => match deref S1 p with
    | some d => match fFmt d with
      | some y => if (acc ++ y).length ≤ 100000 then mFs r (acc ++ y) S1 else .st
      | none => .st
    | none => .st
def mFstr (ps : List FPart) : ME := fun S => (mFs ps Str.empty S).bind fun x S1 => .ok (.d (.str x)) S1
section
variable {X : Cx} {E : En} {W : WX}
inductive QF (X : Cx) (E : En) (W : WX) : List Expr → List FPart → Prop
  | nil : QF X E W [] []
  | s {x : Str} {j : Nat} {pos : Pos} {es : List Expr} {ps : List FPart} (r : QF X E W es ps) : QF X E W (.Constant (.str x) j pos :: es) (.s x :: ps)
  | e {e : Expr} {m : ME} {pos : Pos} {es : List Expr} {ps : List FPart} (h : QE X E W e m) (r : QF X E W es ps) : QF X E W (.FormattedValue e (-1) none pos :: es) (.e m :: ps)
theorem qf_run {es : List Expr} {ps : List FPart} (h : QF X E W es ps) : ∃ ts, PJ X es ts ∧ ∀ acc F Γ H σ S, Abs E F Γ H σ S → RunR E W F Γ σ (fun _ _ a b => a = b) (fun Q => tJs ts acc σ H Q) (mFs ps acc S) := by
  induction h with
  | nil => exact ⟨[], .nil, fun acc F Γ H σ S A => RunR.pure A rfl fun Q q => q⟩
  | @s x j pos es ps r ih =>
    obtain ⟨ts, h1, h2⟩ := ih
    refine ⟨_ :: ts, .cons pe_str h1, fun acc F Γ H σ S A => ?_⟩
    unfold mFs
    split
    · rename_i hl
      exact RunR.imp (fun Q q => ⟨x, rfl, Evl.sz_of hl, q⟩) (h2 (acc ++ x) F Γ H σ S A)
    · trivial
  | @e e m pos es ps h r ih =>
    obtain ⟨ts, h1, h2⟩ := ih
    obtain ⟨te, e1, e2⟩ := h
    refine ⟨_ :: ts, .cons (pe_fmt e1) h1, fun acc F Γ H σ S A => ?_⟩
    unfold mFs
    refine RunR.bind (fun Q x H1 => (∃ y : Str, x = .str y ∧ y.length ≤ sizeLine ∧ ∃ z : Str, V.str y = .str z ∧ (acc ++ z).length ≤ sizeLine ∧ tJs ts (acc ++ z) σ H1 Q) ∨ ∃ i : Int, x = .int i ∧ i.natAbs.log2 < 1920 ∧ ∃ z : Str, V.str (toString i : String) = .str z ∧ (acc ++ z).length ≤ sizeLine ∧ tJs ts (acc ++ z) σ H1 Q) (fun Q h => h) (e2 F Γ H σ S A) fun p S1 x Γ1 H1 _ l1 A1 r1 => ?_
    cases ed : deref S1 p with
    | none => trivial
    | some d =>
      simp only
      cases ef : fFmt d with
      | none => trivial
      | some y =>
        simp only
        split
        · rename_i hl
          unfold fFmt at ef
          split at ef
          · split at ef
            · rename_i hy
              cases ef
              exact RunR.imp (fun Q q => .inl ⟨y, (At.mk A1 r1 ed).str, Evl.sz_of hy, y, rfl, Evl.sz_of hl, q⟩) (h2 (acc ++ y) F Γ1 H1 σ S1 A1)
            · cases ef
          · split at ef
            · rename_i i hy
              cases ef
              exact RunR.imp (fun Q q => .inr ⟨i, (At.mk A1 r1 ed).int, hy, _, rfl, Evl.sz_of hl, q⟩) (h2 _ F Γ1 H1 σ S1 A1)
            · cases ef
          · cases ef
        · trivial
theorem q_fstr {v1 v2 : Expr} {rest : List Expr} {ps : List FPart} {pos : Pos} (h : QF X E W (v1 :: v2 :: rest) ps) : QE X E W (.JoinedStr (v1 :: v2 :: rest) pos) (mFstr ps) := by
  obtain ⟨ts, h1, h2⟩ := qf_run h
  exact ⟨_, pe_joined h1, fun F Γ H σ S A => RunR.bind (fun Q x H1 => Q (.str x) H1) (fun Q h => h) (h2 Str.empty F Γ H σ S A) fun x S1 y Γ1 H1 _ l1 A1 r1 => by subst r1; exact RunR.val A1 (.str y) fun Q q => q⟩
end
/-! ### instances -/
theorem lookup_putG {β : Type} (f g : Str) (y : β) (fs : List (Str × β)) : ((f, y) :: fs).lookup g = if g = f then some y else fs.lookup g := by
  by_cases h : g = f
  · subst h; simp [List.lookup]
  · have e : (g == f) = false := by simpa using h
    rw [if_neg h]; simp [List.lookup, e]
def fldD (fs : List Str) (ds : List RD) (f : Str) : Option RD := (fs.zip ds).lookup f
theorem lookup_rel {E : En} {Γ : Gd} (f : Str) : ∀ {fs : List Str} {xs : List V} {ds : List RD} {d : RD}, fs.length = xs.length → RpAll E Γ xs ds → fldD fs ds f = some d → ∃ v, (fs.zip xs).lookup f = some v ∧ Rp E Γ v d
  | [], _, _, _, _, _, h => by cases h
  | _ :: _, [], _, _, h, _, _ => by cases h
  | g :: fs, x :: xs, _, d, hl, .cons (d := d') (ds := ds) a b, h => by
    unfold fldD at h
    rw [List.zip_cons_cons, lookup_putG] at h
    rw [List.zip_cons_cons, lookup_putG]
    by_cases e : f = g
    · rw [if_pos e] at h ⊢
      cases h
      exact ⟨x, rfl, a⟩
    · rw [if_neg e] at h ⊢
      exact lookup_rel f (by simpa using hl) b h
theorem lookup_no {fs : List Str} {xs : List V} {m : Str} (h : m ∉ fs) : (fs.zip xs).lookup m = none := by
  induction fs generalizing xs with
  | nil => rfl
  | cons g r ih =>
    cases xs with
    | nil => rfl
    | cons x xs =>
      rw [List.zip_cons_cons, lookup_put, if_neg (fun z => h (by rw [z]; exact List.mem_cons_self)), ih fun z => h (List.mem_cons_of_mem _ z)]
theorem putF_zip (f : Str) (v : V) : ∀ {fs : List Str} {xs : List V}, fs.Nodup → fs.length = xs.length → putF f v (fs.zip xs) = (pk fs f).zip (pv fs xs f v)
  | [], [], _, _ => rfl
  | [], _ :: _, _, h => by cases h
  | _ :: _, [], _, h => by cases h
  | g :: fs, x :: xs, nd, hl0 => by
    have hl : fs.length = xs.length := by simpa using hl0
    have nd2 := List.nodup_cons.mp nd
    have ih := putF_zip f v nd2.2 hl
    rw [List.zip_cons_cons]
    show (if g = f then (g, v) :: fs.zip xs else (g, x) :: putF f v (fs.zip xs)) = _
    unfold pk pv at ih ⊢
    by_cases e : g = f
    · subst e
      rw [if_pos rfl, if_pos List.mem_cons_self, if_pos List.mem_cons_self, List.zipWith_cons_cons, if_pos rfl, List.zip_cons_cons]
      congr 1
      have : List.zipWith (fun k' x => if k' = g then v else x) fs xs = xs := by
        have hn := nd2.1
        clear ih nd nd2 hl0
        induction fs generalizing xs with
        | nil => cases xs with
          | nil => rfl
          | cons _ _ => cases hl
        | cons a r ih2 => cases xs with
          | nil => cases hl
          | cons y ys =>
            rw [List.zipWith_cons_cons, if_neg (fun z => hn (by rw [z]; exact List.mem_cons_self)), ih2 ys (by simpa using hl) fun z => hn (List.mem_cons_of_mem _ z)]
      rw [this]
    · rw [if_neg e, ih]
      by_cases h : f ∈ fs
      · rw [if_pos h, if_pos h, if_pos (List.mem_cons_of_mem _ h), if_pos (List.mem_cons_of_mem _ h), List.zipWith_cons_cons, if_neg e, List.zip_cons_cons]
      · have h2 : f ∉ g :: fs := fun z => by
          rcases List.mem_cons.mp z with z | z
          · exact e z.symm
          · exact h z
        rw [if_neg h, if_neg h, if_neg h2, if_neg h2]; rfl
/-- e.f -/
def mFld (c f : Str) (m : ME) : ME := fun S => (m S).bind fun p S1 => match deref S1 p with
  | some (.obj c' fs ds) => if c' = c then match fldD fs ds f with
    | some d => .ok (.d d) S1
    | none => .st
    else .st
  | _ => .st
/-- o.f = e -/
def mSetF (c f : Str) (e o : ME) : MS := fun S => (e S).out fun p S1 => (o S1).out fun q S2 => (toD p S2).out fun d S3 => match cellOf S3 q with
  | some (.obj c' fs ds) => if c' = c ∧ fs.Nodup ∧ fs.length < 1000 then .nx (putC q (.obj c' (pk fs f) (pv fs ds f d)) S3) else .st
  | _ => .st
def mMeth (c m : Str) (n : Nat) (f : MF) (o : ME) (a : MA) : ME := fun S => (o S).bind fun q S1 => match q with
  | .d dq => match deref S1 (.d dq) with
    | some (.obj c' fs _) => if c' = c ∧ m ∉ fs then (a S1).bind fun ps S2 => (toDs ps S2).bind fun ds S3 => if (dq :: ds).length = n then match f (dq :: ds) S3.ce with
      | .ok d ce => .ok (.d d) { S3 with ce := ce }
      | .ex e ce => .ex e { S3 with ce := ce }
      | .st => .st
      else .st else .st
    | _ => .st
  | _ => .st
def mMake (c : Str) (n : Nat) (f : MF) (a : MA) : ME := fun S => (a S).bind fun ps S2 => (toDs ps S2).bind fun ds S3 => if (RD.loc S3.ce.length :: ds).length = n then match f (.loc S3.ce.length :: ds) (S3.ce ++ [.obj c [] []]) with
  | .ok .non ce => .ok (.d (.loc S3.ce.length)) { S3 with ce := ce }
  | .ex e ce => .ex e { S3 with ce := ce }
  | _ => .st
  else .st
def tMethSD (C : Addr) (m : Str) (sp : Sp) (dvs : List V) (E : L2.St → XK) (ta : TE) (t : TA) : TE := fun σ H Q => ta σ H fun x H1 => ∃ a dx fs, x = .ref a ∧ H1 a = some (.ins C dx fs) ∧ fs.lookup m = none ∧
  t σ H1 fun vs H2 => sp (x :: (vs ++ dvs)) H2 Q (E σ)
def tMakeSD (C : Addr) (sp : Sp) (dvs : List V) (E : L2.St → XK) (t : TA) : TE := fun σ H Q => t σ H fun vs H1 => ∀ x dx, H1 x = none → H1 dx = none → dx ≠ x →
  sp (.ref x :: (vs ++ dvs)) (upd (upd H1 dx (.own x)) x (.ins C dx [])) (fun v H2 => v = .non ∧ Q (.ref x) H2) (E σ)
section
variable {X : Cx} {CX : CXT} {k : Nat} {f C : Addr} {fd : FuncData} {ps : List Str} {sp : Sp} {dvs : List V} {ds : List Value} {E : L2.St → XK} {x m : Str} {p pos apos : Pos} {e o : Expr} {es : List Expr} {ta : TE} {t : TA}
theorem pe_methSD {pl : Sem Bool} (he : PE X o ta) (c : Cls X.K C) (hm : Meth X.K C m f) (F : FnOk X.prog X.w X.K X.mg X.base CX k f fd ps sp) (hr : Room k X.A) (hb : Binds X.K fd ps ds) (hd : Vals dvs ds) (hx : ∀ σ, PassesAt CX X σ (E σ)) (ha : PA X (e :: es) t)
    (hst : starEach (e :: es) X.env = (false, eval e X.env) :: starEach es X.env := by rfl) (hpl : (backTo pos (starEach es X.env)).any (·.1) = false := by rfl)
    (ht : eval (.Call (.Attribute o m apos) (e :: es) [] pos) X.env = (do
      let ov ← eval o X.env
      standAt apos.atName
      let (f, first) ← holding [ov] (getMethod ov m pl)
      callWith pos f first (backTo pos (starEach (e :: es) X.env)) (backToKw pos (keywordEach [] X.env))) := by rfl) :
    PE X (.Call (.Attribute o m apos) (e :: es) [] pos) (tMethSD C m sp dvs E ta t) := by
  refine ⟨fun pins s σ H Q I h => ?_⟩
  refine PySem.W.methodCall_KW (pl := pl) (thn (he.run pins s σ H _ I h) fun u s1 ⟨x, H1, I1, rx, a, dx, fs, ex, ea, l, q⟩ => ?_) ht
  subst ex
  obtain rfl : u = Value.ref a := rx
  refine getmeth_ok I1 ea c hm l ?_
  refine PySem.W.callWith_K (first := [.ref a]) (h₀ := X.base) I.ok.mod.kin hm.kp (thn (ha.run pos pins s1 σ H1 _ I1 q) fun us s2 ⟨vs, H2, I2, r, q2⟩ => ⟨I2.kIn, ?_⟩) hst hpl
  exact run_fnSD (us := .ref a :: us) (vs := .ref a :: vs) F hr hb hd (hx σ) I2 (.cons rfl r) q2
theorem pe_methSD0 {pl : Sem Bool} (he : PE X o ta) (c : Cls X.K C) (hm : Meth X.K C m f) (F : FnOk X.prog X.w X.K X.mg X.base CX k f fd ps sp) (hr : Room k X.A) (hb : Binds X.K fd ps ds) (hd : Vals dvs ds) (hx : ∀ σ, PassesAt CX X σ (E σ))
    (ht : eval (.Call (.Attribute o m apos) [] [] pos) X.env = (do
      let ov ← eval o X.env
      standAt apos.atName
      let (f, first) ← holding [ov] (getMethod ov m pl)
      callWith pos f first (backTo pos (starEach [] X.env)) (backToKw pos (keywordEach [] X.env))) := by rfl) :
    PE X (.Call (.Attribute o m apos) [] [] pos) (tMethSD C m sp dvs E ta tNil) := by
  refine ⟨fun pins s σ H Q I h => ?_⟩
  refine PySem.W.methodCall_KW (pl := pl) (thn (he.run pins s σ H _ I h) fun u s1 ⟨x, H1, I1, rx, a, dx, fs, ex, ea, l, q⟩ => ?_) ht
  subst ex
  obtain rfl : u = Value.ref a := rx
  refine getmeth_ok I1 ea c hm l ?_
  exact PySem.W.callWith_K0 (first := [.ref a]) I1.kIn hm.kp (run_fnSD (us := [.ref a]) (vs := [.ref a]) F hr hb hd (hx σ) I1 (.cons rfl .nil) q)
theorem run_makeSD {pins : List (Addr × Obj)} {σ : L2.St} {H : Hp} {s : Shared} {Q : VK} {us : List Value} {vs : List V} (M : Mk X.K C f) (F : FnOk X.prog X.w X.K X.mg X.base CX k f fd ps sp) (hr : Room (k + 1) X.A) (hb : Binds X.K fd ps ds) (hd : Vals dvs ds)
    (hx : PassesAt CX X σ (E σ)) (I : Inv X pins σ H s) (r : Vals vs us) (hx2 : ∀ (pins : List (Addr × Obj)) (H : Hp) (s : Shared) (e : Value) (s' : Shared), Inv X pins σ H s → CX X.stack H s (E σ) e s' → X.xe e s' := hx)
    (h : ∀ x dx, H x = none → H dx = none → dx ≠ x → sp (.ref x :: (vs ++ dvs)) (upd (upd H dx (.own x)) x (.ins C dx [])) (fun v H2 => v = .non ∧ Q (.ref x) H2) (E σ)) :
    wpAny (model X.prog X.w) X.A (call (.ref C) us) (EP X pins σ Q) X.xe s := by
  have hq := h (s.heap.objs.size + 1) s.heap.objs.size (I.hok.fresh (Nat.le_succ _)) (I.hok.fresh (Nat.le_refl _)) (Nat.ne_of_lt (Nat.lt_succ_self _))
  have I2 := Inv.made (C := C) I
  have r2 : Vals (V.ref (s.heap.objs.size + 1) :: (vs ++ dvs)) (Value.ref (s.heap.objs.size + 1) :: (us ++ ds)) := .cons rfl (r.append hd)
  have hl : (Value.ref (s.heap.objs.size + 1) :: us ++ ds).length = ps.length := by
    have e := r2.length
    rw [F.len _ _ _ _ hq] at e
    exact e.symm
  refine wpAny_call (make_map (f := f) I.kIn M.makes M.init (beq_iff_eq.mp M.fn) (codeAny_mono (F.run _ X.stack _ _ ⟨Value.ref (s.heap.objs.size + 1) :: us, []⟩ (Value.ref (s.heap.objs.size + 1) :: (us ++ ds)) _ _ (E σ) (hr.make C us [])
    (I2.env0.make C us []) (hb _ (Value.ref (s.heap.objs.size + 1) :: us) I2.kIn hl) r2 hq) fun r s' hq' => ?_))
  cases r with
  | error e => exact hx2 pins _ _ e s' I2 hq'
  | ok fl =>
    cases fl with
    | ret u =>
      obtain ⟨v, H', I3, rv, ev, q3⟩ := I2.after hq'
      subst ev
      exact ⟨rv, ⟨V.ref (s.heap.objs.size + 1), H', I3, rfl, q3⟩⟩
    | next => exact False.elim hq'
    | brk => exact False.elim hq'
    | cont => exact False.elim hq'
theorem pe_makeSD (M : Mk X.K C f) (F : FnOk X.prog X.w X.K X.mg X.base CX k f fd ps sp) (hr : Room (k + 1) X.A) (hg : Gl X x) (hm : X.mg x = some (.ref C)) (hb : Binds X.K fd ps ds) (hd : Vals dvs ds) (hx : ∀ σ, PassesAt CX X σ (E σ))
    (ha : PA X (e :: es) t) (hdb : (x == ("__debug__" : Str)) = false := by decide) (he : starEach (e :: es) X.env = (false, eval e X.env) :: starEach es X.env := by rfl) (hpl : (backTo pos (starEach es X.env)).any (·.1) = false := by rfl) :
    PE X (.Call (.Name x p) (e :: es) [] pos) (tMakeSD C sp dvs E t) := by
  refine ⟨fun pins s σ H Q I h => ?_⟩
  refine wpAny_Call_Name_kw (ld_glob I hg hm ?_ hdb)
  refine PySem.W.callWith_K (h₀ := X.base) I.ok.mod.kin M.kp (thn (ha.run pos pins s σ H _ I h) fun us s1 ⟨vs, H1, I1, r, q⟩ => ⟨I1.kIn, ?_⟩) he hpl
  exact run_makeSD M F hr hb hd (hx σ) I1 r (h := q)
end
section
variable {X : Cx} {E : En} {W : WX} {k : Nat} {fa C : Addr} {fd : FuncData} {ps : List Str} {n : Nat} {f : MF} {c : Str} {x m : Str} {p pos apos : Pos} {e o value : Expr} {es : List Expr} {a : MA} {mo : ME}
theorem q_fld {fl : Str} (hK : X.K = E.K) (hC : Cls X.K (E.cl c)) (hN : NoAttr X.K (E.cl c) fl) (he : QE X E W e mo) (hb : attributeBase e fl X.env (eval e X.env) = eval e X.env := by rfl) : QE X E W (.Attribute e fl pos) (mFld c fl mo) := by
  obtain ⟨te, h1, h2⟩ := he
  refine ⟨_, pe_fld h1 hb, fun F Γ H σ S A => ?_⟩
  refine RunR.bind (fun Q x H1 => ∃ a C dx fs v, x = .ref a ∧ H1 a = some (.ins C dx fs) ∧ Cls X.K C ∧ NoAttr X.K C fl ∧ fs.lookup fl = some v ∧ Q v H1) (fun Q h => h) (h2 F Γ H σ S A) fun p S1 x Γ1 H1 _ l1 A1 r1 => ?_
  split
  · rename_i c' fs ds e1
    split
    · rename_i ec
      subst ec
      split
      · rename_i d e2
        obtain ⟨b, dx, xs, rfl, hb, hl, hr⟩ := deref_obj A1 r1 e1
        obtain ⟨v, h3, h4⟩ := lookup_rel fl hl hr e2
        exact RunR.val A1 h4 fun Q q => ⟨b, _, dx, _, v, rfl, hb, hC, hN, h3, q⟩
      · trivial
    · trivial
  · trivial
theorem qs_fld {fl : Str} {pos' : Pos} {mv : ME} (hK : X.K = E.K) (hC : Cls X.K (E.cl c)) (hN : NoAttr X.K (E.cl c) fl) (ho : QE X E W o mo) (hv : QE X E W value mv) (hs : swapsWith value (some (.Attribute o fl pos')) pos.line X.env = pure false := by rfl) : QS X E W (.Assign [.Attribute o fl pos'] value pos) (mSetF c fl mv mo) := by
  obtain ⟨to, h1, h2⟩ := ho
  obtain ⟨tv, h3, h4⟩ := hv
  refine ⟨_, ps_fld h1 h3 hs, fun F Γ H σ S A => ?_⟩
  refine RunS.of (fun D y H1 => to σ H1 fun x H2 => ∃ a C dx fs, x = .ref a ∧ H2 a = some (.ins C dx fs) ∧ Cls X.K C ∧ NoAttr X.K C fl ∧ fs.length < 1000 ∧ D.nx σ (upd H2 a (.ins C dx (putF fl y fs)))) (fun D h => h) (h4 F Γ H σ S A) fun p S1 y Γ1 H1 _ l1 A1 r1 =>
    RunS.of (fun D x H2 => ∃ a C dx fs, x = .ref a ∧ H2 a = some (.ins C dx fs) ∧ Cls X.K C ∧ NoAttr X.K C fl ∧ fs.length < 1000 ∧ D.nx σ (upd H2 a (.ins C dx (putF fl y fs)))) (fun D h => h) (h2 F Γ1 H1 σ S1 A1) fun q S2 x Γ2 H2 _ l2 A2 r2 =>
    toD_out A2 (r1.mono l2) fun d S3 Γ3 l3 A3 r3 => ?_
  split
  · rename_i c' fs ds ec
    split
    · rename_i hc
      obtain ⟨rfl, nd, hlen⟩ := hc
      obtain ⟨b, rfl, hcell, hp⟩ := A3.put (c' := .obj c' (pk fs fl) (pv fs ds fl d)) (r2.mono l3) ec
      cases hcell with
      | @obj dx xs _ _ _ hh hl hr =>
        refine fun D w => ⟨b, _, dx, _, rfl, hh, hC, hN, by rw [List.length_zip]; omega, w Γ3 _ σ (Gd.Le.refl _) (hp _ ?_)⟩
        rw [putF_zip fl y nd hl]
        exact .obj upd_same (pkv_len fl y hl) (pv_rel fl r3 hl hr)
    · trivial
  · trivial
theorem se_meth {to : TE} {ta : TA} (ho : SE E W to mo) (ha : SA E W ta a) : SE E W (tMethSD (E.cl c) m (spS E n f) [] (WE W) to ta) (mMeth c m n f mo a) := fun F Γ H σ S A =>
  RunR.bind (fun Q x H1 => ∃ a dx fs, x = .ref a ∧ H1 a = some (.ins (E.cl c) dx fs) ∧ fs.lookup m = none ∧ ta σ H1 fun vs H2 => spS E n f (x :: (vs ++ [])) H2 Q (WE W σ)) (fun Q h => h) (ho F Γ H σ S A) fun q S1 x Γ1 H1 _ l1 A1 r1 => by
    split
    · rename_i dq _
      split
      · rename_i c' fs ds0 e1
        split
        · rename_i hc
          obtain ⟨rfl, hm⟩ := hc
          obtain ⟨b, dx, xs, rfl, hb, hl, _⟩ := deref_obj A1 r1 e1
          refine RunR.bind (fun Q vs H2 => spS E n f (.ref b :: (vs ++ [])) H2 Q (WE W σ)) (fun Q q => ⟨b, dx, _, rfl, hb, lookup_no hm, q⟩) (ha F Γ1 H1 σ S1 A1) fun ps S2 vs Γ2 H2 _ l2 A2 r2 =>
            toDs_bind A2 r2 fun ds S3 Γ3 l3 A3 r3 => ?_
          split
          · rename_i hn
            have rq : Rp E Γ3 (.ref b) dq := by cases r1 with | d r1 => exact (r1.mono l2).mono l3
            have ra : RpAll E Γ3 (.ref b :: (vs ++ [])) (dq :: ds) := by rw [List.append_nil]; exact .cons rq r3
            cases e : f (dq :: ds) S3.ce with
            | st => trivial
            | ok d ce => exact fun Q q => ⟨Γ3, _, S3.ce, by rw [ra.length]; exact hn, A3.pre, ra, by rw [e]; exact fun v Γ' H' P r => q v Γ' H' P.le (A3.call P) (.d r)⟩
            | ex x ce => exact fun w Q => ⟨Γ3, _, S3.ce, by rw [ra.length]; exact hn, A3.pre, ra, by rw [e]; exact fun dd Γ' H' P r => w Γ' H' dd P.le (A3.call P) r⟩
          · trivial
        · trivial
      · trivial
    · trivial
theorem q_meth {pl : Sem Bool} (hK : X.K = E.K) (ho : QE X E W o mo) (hC : Cls X.K (E.cl c)) (hm : Meth X.K (E.cl c) m fa) (F : FnOk X.prog X.w X.K X.mg X.base (L2.CX X.prog X.w) k fa fd ps (spS E n f)) (hr : Room k X.A) (hb : Binds X.K fd ps []) (tk : Takes X W) (ha : QA X E W (e :: es) a)
    (hst : starEach (e :: es) X.env = (false, eval e X.env) :: starEach es X.env := by rfl) (hpl : (backTo pos (starEach es X.env)).any (·.1) = false := by rfl)
    (ht : eval (.Call (.Attribute o m apos) (e :: es) [] pos) X.env = (do
      let ov ← eval o X.env
      standAt apos.atName
      let (f, first) ← holding [ov] (getMethod ov m pl)
      callWith pos f first (backTo pos (starEach (e :: es) X.env)) (backToKw pos (keywordEach [] X.env))) := by rfl) : QE X E W (.Call (.Attribute o m apos) (e :: es) [] pos) (mMeth c m n f mo a) := by
  obtain ⟨to, h1, h2⟩ := ho
  obtain ⟨ta, h3, h4⟩ := ha
  exact ⟨_, pe_methSD h1 hC hm F hr hb .nil (fun σ => passAt tk σ) h3 hst hpl ht, se_meth h2 h4⟩
theorem q_meth0 {pl : Sem Bool} (hK : X.K = E.K) (ho : QE X E W o mo) (hC : Cls X.K (E.cl c)) (hm : Meth X.K (E.cl c) m fa) (F : FnOk X.prog X.w X.K X.mg X.base (L2.CX X.prog X.w) k fa fd ps (spS E n f)) (hr : Room k X.A) (hb : Binds X.K fd ps []) (tk : Takes X W)
    (ht : eval (.Call (.Attribute o m apos) [] [] pos) X.env = (do
      let ov ← eval o X.env
      standAt apos.atName
      let (f, first) ← holding [ov] (getMethod ov m pl)
      callWith pos f first (backTo pos (starEach [] X.env)) (backToKw pos (keywordEach [] X.env))) := by rfl) : QE X E W (.Call (.Attribute o m apos) [] [] pos) (mMeth c m n f mo aNil) := by
  obtain ⟨to, h1, h2⟩ := ho
  exact ⟨_, pe_methSD0 h1 hC hm F hr hb .nil (fun σ => passAt tk σ) ht, se_meth h2 sa_nil⟩
theorem se_make {ta : TA} (ha : SA E W ta a) : SE E W (tMakeSD (E.cl c) (spS E n f) [] (WE W) ta) (mMake c n f a) := fun F Γ H σ S A =>
  RunR.bind (fun Q vs H1 => ∀ x dx, H1 x = none → H1 dx = none → dx ≠ x → spS E n f (.ref x :: (vs ++ [])) (upd (upd H1 dx (.own x)) x (.ins (E.cl c) dx [])) (fun v H2 => v = .non ∧ Q (.ref x) H2) (WE W σ)) (fun Q h => h) (ha F Γ H σ S A) fun ps S2 vs Γ2 H2 _ l2 A2 r2 =>
    toDs_bind A2 r2 fun ds S3 Γ3 l3 A3 r3 => by
      split
      · rename_i hn
        have go : ∀ {x dx : Addr}, H2 x = none → H2 dx = none → dx ≠ x → ∃ Γ4, Γ3.Le Γ4 ∧ Abs E F Γ4 (upd (upd H2 dx (.own x)) x (.ins (E.cl c) dx [])) σ { S3 with ce := S3.ce ++ [.obj c [] []] } ∧ RpAll E Γ4 (.ref x :: (vs ++ [])) (.loc S3.ce.length :: ds) ∧ Γ4.m[S3.ce.length]? = some x := fun {x dx} hx hdx ne => by
          have s1 := Sx.newH (Γ := Γ3) (o := .own x) A3.gh hdx
          have A4 := A3.ext s1
          have hx1 : (upd H2 dx (.own x)) x = none := by rw [upd_ne (Ne.symm ne)]; exact hx
          obtain ⟨l5, A5⟩ := A4.cell (o := .ins (E.cl c) dx []) (c := .obj c [] []) hx1 (.obj (xs := []) upd_same rfl .nil)
          have hm : (Γ3.m ++ [x])[S3.ce.length]? = some x := by rw [← A3.ml]; simp
          exact ⟨_, l5, A5, .cons (.loc hm) (by rw [List.append_nil]; exact r3.mono l5), hm⟩
        split
        · rename_i ce e
          refine fun Q q x dx hx hdx ne => ?_
          obtain ⟨Γ4, l4, A4, ra, hm⟩ := go hx hdx ne
          refine ⟨Γ4, _, _, by rw [ra.length]; exact hn, A4.pre, ra, ?_⟩
          rw [e]
          exact fun v Γ' H' P r => ⟨r.non_inv, q _ Γ' H' (l4.trans P.le) (A4.call P) (.d (.loc (pre_get P.le.m hm)))⟩
        · rename_i ex ce e
          refine fun w Q x dx hx hdx ne => ?_
          obtain ⟨Γ4, l4, A4, ra, hm⟩ := go hx hdx ne
          refine ⟨Γ4, _, _, by rw [ra.length]; exact hn, A4.pre, ra, ?_⟩
          rw [e]
          exact fun dd Γ' H' P r => w Γ' H' dd (l4.trans P.le) (A4.call P) r
        · trivial
      · trivial
theorem q_make (hK : X.K = E.K) (M : Mk X.K (E.cl c) fa) (F : FnOk X.prog X.w X.K X.mg X.base (L2.CX X.prog X.w) k fa fd ps (spS E n f)) (hr : Room (k + 1) X.A) (hg : Gl X x) (hm : X.mg x = some (.ref (E.cl c))) (hb : Binds X.K fd ps []) (tk : Takes X W) (ha : QA X E W (e :: es) a)
    (hdb : (x == ("__debug__" : Str)) = false := by decide) (he : starEach (e :: es) X.env = (false, eval e X.env) :: starEach es X.env := by rfl) (hpl : (backTo pos (starEach es X.env)).any (·.1) = false := by rfl) : QE X E W (.Call (.Name x p) (e :: es) [] pos) (mMake c n f a) := by
  obtain ⟨ta, h3, h4⟩ := ha
  exact ⟨_, pe_makeSD M F hr hg hm hb .nil (fun σ => passAt tk σ) h3 hdb he hpl, se_make h4⟩
end
/-! ### several excepts -/
def handM : List ((Str → Option Bool) × MS) → Exn → Sg → Out
  | [], e, S1 => .ex e S1
  | (em, s) :: r, e, S1 => match em e.c with
    | some true => match s (inX none e S1) with
      | .nx S2 => .nx (outX none S2)
      | .rt d S2 => .rt d (outX none S2)
      | .bk S2 => .bk (outX none S2)
      | .ct S2 => .ct (outX none S2)
      | _ => .st
    | some false => handM r e S1
    | none => .st
def mTryM (l : List ((Str → Option Bool) × MS)) (b : MS) : MS := fun S => match b S with
  | .ex e S1 => handM l e S1
  | o => o
section
variable {E : En} {W : WX} {X : Cx}
inductive QHs (X : Cx) (E : En) : List ExceptHandler → List ((Str → Option Bool) × MS) → Prop
  | nil : QHs X E [] []
  | cons {x : Str} {c : Value} {b₀ : Stmt} {suite : List Stmt} {np pos' : Pos} {hds : List ExceptHandler} {em : Str → Option Bool} {s : MS} {l : List ((Str → Option Bool) × MS)} (hc : Names X x c)
      (hsu : ∀ (a : Addr) (oe : Obj) (cls : Value) (d : Option Addr) (pn : List (Addr × Obj)), Zc cls d oe → (∃ vs, oe.data = .fields vs) → QSs (X.suite a ((a, oe) :: pn)) (E.at a cls d) W0 (b₀ :: suite) s)
      (hem : ∀ n k, em n = some k → PySem.W.exmOne E.K (.ref (E.cl n)) c = some k) (r : QHs X E hds l) : QHs X E (.ExceptHandler (some (.Name x np)) none (b₀ :: suite) pos' :: hds) ((em, s) :: l)
theorem qhs_run {hds : List ExceptHandler} {l : List ((Str → Option Bool) × MS)} (h : QHs X E hds l) : ∃ l', HdsOk X hds l' ∧ ∀ {F : Fr} {Γ : Gd} {D : Ends} {Γ1 : Gd} {H1 : Hp} {σ1 : L2.St} {S1 : Sg} {e : Exn} {dd : Option Addr}, Γ.Le Γ1 → Abs E F Γ1 H1 σ1 S1 → ExD E Γ1 H1 e.f dd → Wants E W F Γ D (handM l e S1) → wMany E.K W D l' (.ref (E.cl e.c)) dd σ1 H1 := by
  induction h with
  | nil => exact ⟨[], .nil, fun {F Γ D Γ1 H1 σ1 S1 e dd} l1 A1 r1 hD => hD Γ1 H1 σ1 dd l1 A1 r1⟩
  | @cons x c b₀ suite np pos' hds em s l hc hsu hem r ih =>
    obtain ⟨l', h1, h2⟩ := ih
    have hx : ∀ (a : Addr) (cls : Value) (d : Option Addr), ∃ ts, (∀ oe pn, Zc cls d oe → (∃ vs, oe.data = .fields vs) → PSs (X.suite a ((a, oe) :: pn)) (b₀ :: suite) ts) ∧ SS (E.at a cls d) W0 ts s := fun a cls d => by
      obtain ⟨ts, t1, t2⟩ := QSs.all (Xs := fun p : { p : Obj × List (Addr × Obj) // Zc cls d p.1 ∧ ∃ vs, p.1.data = .fields vs } => X.suite a ((a, p.1.1) :: p.1.2)) fun p => hsu a p.1.1 cls d p.1.2 p.2.1 p.2.2
      exact ⟨ts, fun oe pn h k => t1 ⟨(oe, pn), h, k⟩, t2⟩
    refine ⟨(c, fun a cls d => Classical.choose (hx a cls d)) :: l', .cons hc (fun a oe cls d pn z f => (Classical.choose_spec (hx a cls d)).1 oe pn z f) h1, fun {F Γ D Γ1 H1 σ1 S1 e dd} l1 A1 r1 hD => ?_⟩
    unfold handM at hD
    cases e2 : em e.c with
    | none => rw [e2] at hD; exact hD.elim
    | some k =>
      rw [e2] at hD
      refine ⟨k, hem _ _ e2, fun hk a ha => ?_, fun hk => ?_⟩
      · subst hk
        simp only at hD
        have zs := (Classical.choose_spec (hx a (.ref (E.cl e.c)) dd)).2 F Γ1 H1 σ1 (RS.inX none e S1) (A1.inX0 rfl r1)
        cases e3 : s (RS.inX none e S1) with
        | nx S2 => rw [e3] at zs hD; exact zs _ fun Γ2 H2 σ2 l2 A2 => hD Γ2 H2 _ (l1.trans l2) A2.off
        | rt d S2 => rw [e3] at zs hD; exact zs _ fun v Γ2 H2 σ2 l2 A2 r2 => hD v Γ2 H2 _ (l1.trans l2) A2.off r2.off
        | bk S2 => rw [e3] at zs hD; exact zs _ fun Γ2 H2 σ2 l2 A2 => hD Γ2 H2 _ (l1.trans l2) A2.off
        | ct S2 => rw [e3] at zs hD; exact zs _ fun Γ2 H2 σ2 l2 A2 => hD Γ2 H2 _ (l1.trans l2) A2.off
        | ex x S2 => rw [e3] at hD; exact hD.elim
        | st => rw [e3] at hD; exact hD.elim
      · subst hk
        exact h2 l1 A1 r1 hD
theorem qs_tryMany {body : List Stmt} {h₀ : ExceptHandler} {hds : List ExceptHandler} {pos : Pos} {b : MS} {l : List ((Str → Option Bool) × MS)} (hK : X.K = E.K) (hs : X.stack = X.env :: X.outer) (hf : X.env.frame = some X.env.locals) (tk : Takes X W)
    (hb : ∀ (W : WX) (pn : List (Addr × Obj)) (xe : Value → Shared → Prop), Takes (X.tr pn xe) W → PassesOwn (model X.prog X.w) X.A X.env xe → QSs (X.tr pn xe) E W body b)
    (hh : QHs X E (h₀ :: hds) l) : QS X E W (.Try body (h₀ :: hds) [] [] pos) (mTryM l b) := by
  have h1 : ∀ W : WX, ∃ tb, (∀ pn xe, Takes (X.tr pn xe) W → PassesOwn (model X.prog X.w) X.A X.env xe → PSs (X.tr pn xe) body tb) ∧ SS E W tb b := fun W => by
    obtain ⟨tb, t1, t2⟩ := QSs.all (Xs := fun p : { p : List (Addr × Obj) × (Value → Shared → Prop) // Takes (X.tr p.1 p.2) W ∧ PassesOwn (model X.prog X.w) X.A X.env p.2 } => X.tr p.1.1 p.1.2) fun p => hb W p.1.1 p.1.2 p.2.1 p.2.2
    exact ⟨tb, fun pn xe h k => t1 ⟨(pn, xe), h, k⟩, t2⟩
  obtain ⟨l', k1, k2⟩ := qhs_run (W := W) hh
  refine ⟨_, ps_try_many (tb := fun W => Classical.choose (h1 W)) hs hf tk (fun W pn xe t p => (Classical.choose_spec (h1 W)).1 pn xe t p) k1, fun F Γ H σ S A => RunS.mk fun D hD => ?_⟩
  have z := (Classical.choose_spec (h1 (wMany X.K W D l'))).2 F Γ H σ S A
  unfold mTryM at hD
  cases e1 : b S with
  | nx S1 => rw [e1] at z hD; exact z D hD
  | rt d S1 => rw [e1] at z hD; exact z D hD
  | bk S1 => rw [e1] at z hD; exact z D hD
  | ct S1 => rw [e1] at z hD; exact z D hD
  | st => rw [e1] at hD; exact hD.elim
  | ex e S1 =>
    rw [e1] at z hD
    refine z (fun Γ1 H1 σ1 dd l1 A1 r1 => ?_) D
    rw [hK]
    exact k2 l1 A1 r1 hD
end
section
variable {X : Cx} {E : En} {W : WX} {c : Str} {C : Addr} {x m : Str} {j : Nat} {p p2 pos rpos : Pos}
theorem qs_raiseC (hC : E.cl c = C) (hcm : X.calm = true) (tk : Takes X W) (q : PySem.W.excIn X.K C [.type "ValueError", .type "Exception", .type "BaseException", .type "object"] "ValueError.__new__" = true) (gC : X.mg x = some (.ref C)) (kC : PySem.W.keepIn X.K (.ref C) = true)
    (b : PySem.W.subIn X.K (.ref C) (.type "BaseException") = some true) (t : PySem.W.typeIn X.K (.ref C) = some (.type "type")) (hg : Gl X x) (hdb : (x == ("__debug__" : Str)) = false := by decide) : QS X E W (.Raise (some (.Call (.Name x p) [.Constant (.str m) j p2] [] pos)) none rpos) (mRaise c) :=
  qs_raise (by rw [hC]; exact L2.ps_raise hcm tk (L2.pmk_own PySem.F.excBase_ValueError q gC kC (raises_own b t) hg hdb))
theorem qs_raiseV {e : Expr} {me : ME} (hC : E.cl c = C) (hcm : X.calm = true) (tk : Takes X W) (q : PySem.W.excIn X.K C [.type "ValueError", .type "Exception", .type "BaseException", .type "object"] "ValueError.__new__" = true) (gC : X.mg x = some (.ref C)) (kC : PySem.W.keepIn X.K (.ref C) = true)
    (b : PySem.W.subIn X.K (.ref C) (.type "BaseException") = some true) (t : PySem.W.typeIn X.K (.ref C) = some (.type "type")) (hg : Gl X x) (he : QE X E W e me) (hs : starEach [e] X.env = (false, eval e X.env) :: starEach [] X.env := by rfl) (hdb : (x == ("__debug__" : Str)) = false := by decide) : QS X E W (.Raise (some (.Call (.Name x p) [e] [] pos)) none rpos) (mRaise1 c me) :=
  qs_raise1 he fun ta ha => by rw [hC]; exact L2.ps_raise hcm tk (SkE.pmk_own1 PySem.F.excBase_ValueError q gC kC (raises_own b t) hg ha hs hdb)
end
end RS

set_option Elab.async false
set_option linter.all false
set_option maxRecDepth 100000
set_option maxHeartbeats 4000000

namespace RPk32
open PySem PySem.Spec PyProof.Rows L2 RP


local macro_rules | `(tactic| walk_at "fn") => `(tactic| fail)
local macro_rules | `(tactic| walk_at "side") => `(tactic| first | rfl | (show (0 : Int) < _; decide) | exact ⟨by decide, by decide⟩ | exact ⟨by decide, by decide, by decide⟩)
local macro_rules | `(tactic| walk_at "ro") => `(tactic| ((with_reducible show RO _ _ _ _ _); first
  | (with_reducible exact ro_I0i) | (with_reducible exact ro_I0b) | ((with_reducible apply ro_Ii); try walk_at "side") | ((with_reducible apply ro_eq) <;> rfl) | ((with_reducible apply ro_ne) <;> rfl)
  | exact ro_ixsT rfl | exact ro_ixsL rfl | apply ro_ixsT | apply ro_ixsL | apply ro_ixS | walk_at "ro2"))
local macro_rules | `(tactic| walk_at "ro2") => `(tactic| fail)
local macro_rules | `(tactic| walk_at "rc") => `(tactic| ((with_reducible show RC _ _ _ _); first
  | (with_reducible exact rc_abs) | (with_reducible exact rc_int) | (with_reducible exact rc_gcd) | exact rc_lenL | exact rc_lenT | exact rc_lenS | exact rc_isi rfl (by decide +kernel) | walk_at "rc2"))
local macro_rules | `(tactic| walk_at "rc2") => `(tactic| fail)
local macro_rules | `(tactic| walk_at "ae") => `(tactic| ((with_reducible show AE _ _ _ _); first
  | (with_reducible exact ae_int) | (with_reducible exact ae_bl) | (with_reducible exact ae_str) | (with_reducible exact ae_non) | (with_reducible exact ae_ty) | (with_reducible exact ae_cls) | (with_reducible exact ae_dnew) | ((with_reducible apply ae_var); rfl)
  | (with_reducible apply ae_op) | (with_reducible apply ae_un) | (with_reducible apply ae_call0) | (with_reducible apply ae_cb) | (with_reducible apply ae_tup) | (with_reducible apply ae_lst)
  | (with_reducible apply ae_andV) | (with_reducible apply ae_orV) | (with_reducible apply ae_notV) | walk_at "ae2"))
local macro_rules | `(tactic| walk_at "ae2") => `(tactic| fail)
local macro_rules | `(tactic| walk_at "ev") => `(tactic| repeat' (first
  | walk_at "ae" | (with_reducible exact aa_nil) | (with_reducible apply aa_cons)
  | walk_at "ro" | walk_at "rc" | ((with_reducible show RU _ _ _ _); exact ru_i) | walk_at "fn"
  | ((with_reducible show AT _ _ _ _); first | (with_reducible apply at_test) | (with_reducible apply at_B) | (with_reducible apply at_and) | (with_reducible apply at_or) | (with_reducible apply at_not) | (with_reducible exact at_yes))
  | ((with_reducible show List.length _ ≤ 100000); exact Nat.le_of_ble_eq_true rfl) | ((with_reducible show List.length _ = _); rfl) | (with_reducible intro _)))
local macro_rules | `(tactic| walk_at "fg") => `(tactic| repeat (first | exact Fg.nil | apply Fg.keep | apply Fg.drop))

def topS (i : Nat) : Stmt := PySem.Challenge.pw_rivalprices_k32_the_first_error_of_a_mar.main.body.getD i (.Pass ⟨0, 0, 0, 0⟩)
def initS (i : Nat) : Stmt := match topS i with
  | .ClassDef _ _ _ b _ _ _ _ _ _ _ => b.getD 0 (.Pass ⟨0, 0, 0, 0⟩)
  | s => s
def methS (i j : Nat) : Stmt := match topS i with
  | .ClassDef _ _ _ b _ _ _ _ _ _ _ => b.getD j (.Pass ⟨0, 0, 0, 0⟩)
  | s => s
abbrev s_law_cell : Stmt := (topS 37)
theorem sc_law_cell : FnScope ["script", "k"] ["script", "k"] (defScope s_law_cell) := ⟨rfl, rfl, rfl, by decide +kernel, rfl, by decide +kernel, by decide +kernel⟩
abbrev s_law_ratio : Stmt := (topS 32)
theorem sc_law_ratio : FnScope ["n", "d", "a", "b"] ["n", "d"] (defScope s_law_ratio) := ⟨rfl, rfl, rfl, by decide +kernel, rfl, by decide +kernel, by decide +kernel⟩
abbrev s_law_add : Stmt := (topS 33)
theorem sc_law_add : FnScope ["x", "y"] ["x", "y"] (defScope s_law_add) := ⟨rfl, rfl, rfl, by decide +kernel, rfl, by decide +kernel, by decide +kernel⟩
abbrev s_law_less : Stmt := (topS 36)
theorem sc_law_less : FnScope ["x", "y"] ["x", "y"] (defScope s_law_less) := ⟨rfl, rfl, rfl, by decide +kernel, rfl, by decide +kernel, by decide +kernel⟩
abbrev s_law_is_name : Stmt := (topS 48)
theorem sc_law_is_name : FnScope ["word", "sign_v"] ["word"] (defScope s_law_is_name) := ⟨rfl, rfl, rfl, by decide +kernel, rfl, by decide +kernel, by decide +kernel⟩
abbrev s_law_products_due : Stmt := (topS 49)
theorem sc_law_products_due : FnScope ["products", "seen", "name", "owner", "base", "own", "cost"] ["products"] (defScope s_law_products_due) := ⟨rfl, rfl, rfl, by decide +kernel, rfl, by decide +kernel, by decide +kernel⟩
abbrev s_law_due : Stmt := (topS 50)
theorem sc_law_due : FnScope ["products", "rivalries", "names", "row", "pairs", "one", "other", "cross", "name", "owner", "base", "own", "cost", "total"] ["products", "rivalries"] (defScope s_law_due) := ⟨rfl, rfl, rfl, by decide +kernel, rfl, by decide +kernel, by decide +kernel⟩
abbrev s_pair : Stmt := (topS 27)
theorem sc_pair : FnScope ["one", "other"] ["one", "other"] (defScope s_pair) := ⟨rfl, rfl, rfl, by decide +kernel, rfl, by decide +kernel, by decide +kernel⟩
abbrev s_Market_cross : Stmt := (methS 30 6)
theorem sc_Market_cross : FnScope ["self", "one", "other"] ["self", "one", "other"] (defScope s_Market_cross) := ⟨rfl, rfl, rfl, by decide +kernel, rfl, by decide +kernel, by decide +kernel⟩
abbrev s_lowest : Stmt := (topS 9)
theorem sc_lowest : FnScope ["n", "d", "part"] ["n", "d"] (defScope s_lowest) := ⟨rfl, rfl, rfl, by decide +kernel, rfl, by decide +kernel, by decide +kernel⟩
abbrev s_sub : Stmt := (topS 11)
theorem sc_sub : FnScope ["a", "b"] ["a", "b"] (defScope s_sub) := ⟨rfl, rfl, rfl, by decide +kernel, rfl, by decide +kernel, by decide +kernel⟩
abbrev s_Market_slopes : Stmt := (methS 30 1)
theorem sc_Market_slopes : FnScope ["self", "name", "fall", "other"] ["self", "name"] (defScope s_Market_slopes) := ⟨rfl, rfl, rfl, by decide +kernel, rfl, by decide +kernel, by decide +kernel⟩
abbrev s_sign : Stmt := (topS 14)
theorem sc_sign : FnScope ["a"] ["a"] (defScope s_sign) := ⟨rfl, rfl, rfl, by decide +kernel, rfl, by decide +kernel, by decide +kernel⟩
abbrev s_crosses_by_pair : Stmt := (topS 29)
theorem sc_crosses_by_pair : FnScope ["rivalries", "table", "crosses", "one", "other", "cross", "pair"] ["rivalries", "table"] (defScope s_crosses_by_pair) := ⟨rfl, rfl, rfl, by decide +kernel, rfl, by decide +kernel, by decide +kernel⟩
abbrev s_is_name : Stmt := (topS 26)
theorem sc_is_name : FnScope ["text", "letter"] ["text"] (defScope s_is_name) := ⟨rfl, rfl, rfl, by decide +kernel, rfl, by decide +kernel, by decide +kernel⟩
abbrev s_products_by_name : Stmt := (topS 28)
theorem sc_products_by_name : FnScope ["products", "table", "name", "owner", "base", "own", "cost"] ["products"] (defScope s_products_by_name) := ⟨rfl, rfl, rfl, by decide +kernel, rfl, by decide +kernel, by decide +kernel⟩
abbrev s_size : Stmt := (topS 17)
theorem sc_size : FnScope ["value"] ["value"] (defScope s_size) := ⟨rfl, rfl, rfl, by decide +kernel, rfl, by decide +kernel, by decide +kernel⟩
abbrev s_add : Stmt := (topS 10)
theorem sc_add : FnScope ["a", "b"] ["a", "b"] (defScope s_add) := ⟨rfl, rfl, rfl, by decide +kernel, rfl, by decide +kernel, by decide +kernel⟩
abbrev s_less : Stmt := (topS 13)
theorem sc_less : FnScope ["a", "b"] ["a", "b"] (defScope s_less) := ⟨rfl, rfl, rfl, by decide +kernel, rfl, by decide +kernel, by decide +kernel⟩
abbrev s_leads : Stmt := (topS 18)
theorem sc_leads : FnScope ["row", "at", "others", "place", "value"] ["row", "at"] (defScope s_leads) := ⟨rfl, rfl, rfl, by decide +kernel, rfl, by decide +kernel, by decide +kernel⟩
abbrev s_is_dominant : Stmt := (topS 19)
theorem sc_is_dominant : FnScope ["rows", "at", "row"] ["rows"] (defScope s_is_dominant) := ⟨rfl, rfl, rfl, by decide +kernel, rfl, by decide +kernel, by decide +kernel⟩
abbrev s_Market_init : Stmt := (methS 30 0)
theorem sc_Market_init : FnScope ["self", "products", "rivalries", "table", "name"] ["self", "products", "rivalries"] (defScope s_Market_init) := ⟨rfl, rfl, rfl, by decide +kernel, rfl, by decide +kernel, by decide +kernel⟩
abbrev s_law_error : Stmt := (topS 47)
theorem sc_law_error : FnScope ["products", "rivalries"] ["products", "rivalries"] (defScope s_law_error) := ⟨rfl, rfl, rfl, by decide +kernel, rfl, by decide +kernel, by decide +kernel⟩
abbrev s_law_words : Stmt := (topS 38)
theorem sc_law_words : FnScope ["cell", "letters", "base", "k", "at", "start"] ["cell"] (defScope s_law_words) := ⟨rfl, rfl, rfl, by decide +kernel, rfl, by decide +kernel, by decide +kernel⟩
abbrev s_law_names : Stmt := (topS 39)
theorem sc_law_names : FnScope ["script"] ["script"] (defScope s_law_names) := ⟨rfl, rfl, rfl, by decide +kernel, rfl, by decide +kernel, by decide +kernel⟩
abbrev s_law_owners : Stmt := (topS 40)
theorem sc_law_owners : FnScope ["script"] ["script"] (defScope s_law_owners) := ⟨rfl, rfl, rfl, by decide +kernel, rfl, by decide +kernel, by decide +kernel⟩
abbrev s_law_rivalries : Stmt := (topS 42)
theorem sc_law_rivalries : FnScope ["script", "names", "rows", "a", "b", "cell"] ["script"] (defScope s_law_rivalries) := ⟨rfl, rfl, rfl, by decide +kernel, rfl, by decide +kernel, by decide +kernel⟩
abbrev s_law_products : Stmt := (topS 43)
theorem sc_law_products : FnScope ["script", "names", "rows", "k", "cell", "total", "one", "other", "cross", "own", "owner", "cost"] ["script"] (defScope s_law_products) := ⟨rfl, rfl, rfl, by decide +kernel, rfl, by decide +kernel, by decide +kernel⟩
abbrev s_law_spoil : Stmt := (topS 51)
theorem sc_law_spoil : FnScope ["products", "rivalries", "cell", "step", "k", "j", "row"] ["products", "rivalries", "cell"] (defScope s_law_spoil) := ⟨rfl, rfl, rfl, by decide +kernel, rfl, by decide +kernel, by decide +kernel⟩
abbrev s_law : Stmt := (topS 52)
theorem sc_law : FnScope ["script", "start", "products", "rivalries", "k"] ["script"] (defScope s_law) := ⟨rfl, rfl, rfl, by decide +kernel, rfl, by decide +kernel, by decide +kernel⟩
structure Txt (K : PySem.W.Frag) (mg : Str → Option Value) where
  a_law_cell : Addr
  fd_law_cell : FuncData
  F_law_cell : Fun K "_law_cell" "_law_cell" s_law_cell a_law_cell fd_law_cell
  g_law_cell : mg "_law_cell" = some (.ref a_law_cell)
  b_law_cell : Binds K fd_law_cell ["script", "k"] []
  a_law_ratio : Addr
  fd_law_ratio : FuncData
  F_law_ratio : Fun K "_law_ratio" "_law_ratio" s_law_ratio a_law_ratio fd_law_ratio
  g_law_ratio : mg "_law_ratio" = some (.ref a_law_ratio)
  b_law_ratio : Binds K fd_law_ratio ["n", "d"] []
  a_law_add : Addr
  fd_law_add : FuncData
  F_law_add : Fun K "_law_add" "_law_add" s_law_add a_law_add fd_law_add
  g_law_add : mg "_law_add" = some (.ref a_law_add)
  b_law_add : Binds K fd_law_add ["x", "y"] []
  a_law_less : Addr
  fd_law_less : FuncData
  F_law_less : Fun K "_law_less" "_law_less" s_law_less a_law_less fd_law_less
  g_law_less : mg "_law_less" = some (.ref a_law_less)
  b_law_less : Binds K fd_law_less ["x", "y"] []
  a_law_is_name : Addr
  fd_law_is_name : FuncData
  F_law_is_name : Fun K "_law_is_name" "_law_is_name" s_law_is_name a_law_is_name fd_law_is_name
  g_law_is_name : mg "_law_is_name" = some (.ref a_law_is_name)
  b_law_is_name : Binds K fd_law_is_name ["word"] []
  a_law_products_due : Addr
  fd_law_products_due : FuncData
  F_law_products_due : Fun K "_law_products_due" "_law_products_due" s_law_products_due a_law_products_due fd_law_products_due
  g_law_products_due : mg "_law_products_due" = some (.ref a_law_products_due)
  b_law_products_due : Binds K fd_law_products_due ["products"] []
  a_law_due : Addr
  fd_law_due : FuncData
  F_law_due : Fun K "_law_due" "_law_due" s_law_due a_law_due fd_law_due
  g_law_due : mg "_law_due" = some (.ref a_law_due)
  b_law_due : Binds K fd_law_due ["products", "rivalries"] []
  a_pair : Addr
  fd_pair : FuncData
  F_pair : Fun K "_pair" "_pair" s_pair a_pair fd_pair
  g_pair : mg "_pair" = some (.ref a_pair)
  b_pair : Binds K fd_pair ["one", "other"] []
  a_Market_cross : Addr
  fd_Market_cross : FuncData
  F_Market_cross : Fun K "cross" "Market.cross" s_Market_cross a_Market_cross fd_Market_cross
  b_Market_cross : Binds K fd_Market_cross ["self", "one", "other"] []
  a_lowest : Addr
  fd_lowest : FuncData
  F_lowest : Fun K "_lowest" "_lowest" s_lowest a_lowest fd_lowest
  g_lowest : mg "_lowest" = some (.ref a_lowest)
  b_lowest : Binds K fd_lowest ["n", "d"] []
  a_sub : Addr
  fd_sub : FuncData
  F_sub : Fun K "sub" "sub" s_sub a_sub fd_sub
  g_sub : mg "sub" = some (.ref a_sub)
  b_sub : Binds K fd_sub ["a", "b"] []
  a_Market_slopes : Addr
  fd_Market_slopes : FuncData
  F_Market_slopes : Fun K "_slopes" "Market._slopes" s_Market_slopes a_Market_slopes fd_Market_slopes
  b_Market_slopes : Binds K fd_Market_slopes ["self", "name"] []
  a_sign : Addr
  fd_sign : FuncData
  F_sign : Fun K "sign" "sign" s_sign a_sign fd_sign
  g_sign : mg "sign" = some (.ref a_sign)
  b_sign : Binds K fd_sign ["a"] []
  a_crosses_by_pair : Addr
  fd_crosses_by_pair : FuncData
  F_crosses_by_pair : Fun K "_crosses_by_pair" "_crosses_by_pair" s_crosses_by_pair a_crosses_by_pair fd_crosses_by_pair
  g_crosses_by_pair : mg "_crosses_by_pair" = some (.ref a_crosses_by_pair)
  b_crosses_by_pair : Binds K fd_crosses_by_pair ["rivalries", "table"] []
  a_is_name : Addr
  fd_is_name : FuncData
  F_is_name : Fun K "is_name" "is_name" s_is_name a_is_name fd_is_name
  g_is_name : mg "is_name" = some (.ref a_is_name)
  b_is_name : Binds K fd_is_name ["text"] []
  a_products_by_name : Addr
  fd_products_by_name : FuncData
  F_products_by_name : Fun K "_products_by_name" "_products_by_name" s_products_by_name a_products_by_name fd_products_by_name
  g_products_by_name : mg "_products_by_name" = some (.ref a_products_by_name)
  b_products_by_name : Binds K fd_products_by_name ["products"] []
  a_size : Addr
  fd_size : FuncData
  F_size : Fun K "_size" "_size" s_size a_size fd_size
  g_size : mg "_size" = some (.ref a_size)
  b_size : Binds K fd_size ["value"] []
  a_add : Addr
  fd_add : FuncData
  F_add : Fun K "add" "add" s_add a_add fd_add
  g_add : mg "add" = some (.ref a_add)
  b_add : Binds K fd_add ["a", "b"] []
  a_less : Addr
  fd_less : FuncData
  F_less : Fun K "less" "less" s_less a_less fd_less
  g_less : mg "less" = some (.ref a_less)
  b_less : Binds K fd_less ["a", "b"] []
  a_leads : Addr
  fd_leads : FuncData
  F_leads : Fun K "_leads" "_leads" s_leads a_leads fd_leads
  g_leads : mg "_leads" = some (.ref a_leads)
  b_leads : Binds K fd_leads ["row", "at"] []
  a_is_dominant : Addr
  fd_is_dominant : FuncData
  F_is_dominant : Fun K "is_dominant" "is_dominant" s_is_dominant a_is_dominant fd_is_dominant
  g_is_dominant : mg "is_dominant" = some (.ref a_is_dominant)
  b_is_dominant : Binds K fd_is_dominant ["rows"] []
  a_Market_init : Addr
  fd_Market_init : FuncData
  F_Market_init : Fun K "__init__" "Market.__init__" s_Market_init a_Market_init fd_Market_init
  b_Market_init : Binds K fd_Market_init ["self", "products", "rivalries"] []
  a_law_error : Addr
  fd_law_error : FuncData
  F_law_error : Fun K "_law_error" "_law_error" s_law_error a_law_error fd_law_error
  g_law_error : mg "_law_error" = some (.ref a_law_error)
  b_law_error : Binds K fd_law_error ["products", "rivalries"] []
  a_law_words : Addr
  fd_law_words : FuncData
  F_law_words : Fun K "_law_words" "_law_words" s_law_words a_law_words fd_law_words
  g_law_words : mg "_law_words" = some (.ref a_law_words)
  b_law_words : Binds K fd_law_words ["cell"] []
  a_law_names : Addr
  fd_law_names : FuncData
  F_law_names : Fun K "_law_names" "_law_names" s_law_names a_law_names fd_law_names
  g_law_names : mg "_law_names" = some (.ref a_law_names)
  b_law_names : Binds K fd_law_names ["script"] []
  a_law_owners : Addr
  fd_law_owners : FuncData
  F_law_owners : Fun K "_law_owners" "_law_owners" s_law_owners a_law_owners fd_law_owners
  g_law_owners : mg "_law_owners" = some (.ref a_law_owners)
  b_law_owners : Binds K fd_law_owners ["script"] []
  a_law_rivalries : Addr
  fd_law_rivalries : FuncData
  F_law_rivalries : Fun K "_law_rivalries" "_law_rivalries" s_law_rivalries a_law_rivalries fd_law_rivalries
  g_law_rivalries : mg "_law_rivalries" = some (.ref a_law_rivalries)
  b_law_rivalries : Binds K fd_law_rivalries ["script"] []
  a_law_products : Addr
  fd_law_products : FuncData
  F_law_products : Fun K "_law_products" "_law_products" s_law_products a_law_products fd_law_products
  g_law_products : mg "_law_products" = some (.ref a_law_products)
  b_law_products : Binds K fd_law_products ["script"] []
  a_law_spoil : Addr
  fd_law_spoil : FuncData
  F_law_spoil : Fun K "_law_spoil" "_law_spoil" s_law_spoil a_law_spoil fd_law_spoil
  g_law_spoil : mg "_law_spoil" = some (.ref a_law_spoil)
  b_law_spoil : Binds K fd_law_spoil ["products", "rivalries", "cell"] []
  a_law : Addr
  fd_law : FuncData
  F_law : Fun K "law" "law" s_law a_law fd_law
  g_law : mg "law" = some (.ref a_law)
  b_law : Binds K fd_law ["script"] []
  m_abs : mg "abs" = none
  m_all : mg "all" = none
  m_enumerate : mg "enumerate" = none
  m_int : mg "int" = none
  m_isinstance : mg "isinstance" = none
  m_len : mg "len" = none
  m_list : mg "list" = none
  m_range : mg "range" = none
  m_sorted : mg "sorted" = none
  m_str : mg "str" = none
  g_gcd : mg "gcd" = some (.builtin "math.gcd")
  t_LETTERS : Tok
  c_LETTERS : mg "LETTERS" = some (.str "abcdefghijklmnopqrstuvwxyz" t_LETTERS)
  t_LONGEST_NAME : Tok
  c_LONGEST_NAME : mg "LONGEST_NAME" = some (.int 12 t_LONGEST_NAME)
  t_MOST_PRODUCTS : Tok
  c_MOST_PRODUCTS : mg "MOST_PRODUCTS" = some (.int 6 t_MOST_PRODUCTS)
  t_OWN : Tok
  c_OWN : mg "OWN" = some (.int 3 t_OWN)
  z_ZERO : Addr
  c_ZERO : mg "ZERO" = some (.ref z_ZERO)
  s_ZERO : ∀ G : Hp, SqT K G z_ZERO [V.int 0, V.int 1]
  C_DuplicateName : Addr
  gC_DuplicateName : mg "DuplicateName" = some (.ref C_DuplicateName)
  x_DuplicateName : PySem.W.excIn K C_DuplicateName [.type "ValueError", .type "Exception", .type "BaseException", .type "object"] "ValueError.__new__" = true
  k_DuplicateName : PySem.W.keepIn K (.ref C_DuplicateName) = true
  b_DuplicateName : PySem.W.subIn K (.ref C_DuplicateName) (.type "BaseException") = some true
  t_DuplicateName : PySem.W.typeIn K (.ref C_DuplicateName) = some (.type "type")
  i_DuplicateName : PySem.W.isClsIn K C_DuplicateName = true
  e_DuplicateName : PySem.W.subIn K (.ref C_DuplicateName) (.ref C_DuplicateName) = some true
  C_InvalidMarket : Addr
  gC_InvalidMarket : mg "InvalidMarket" = some (.ref C_InvalidMarket)
  x_InvalidMarket : PySem.W.excIn K C_InvalidMarket [.type "ValueError", .type "Exception", .type "BaseException", .type "object"] "ValueError.__new__" = true
  k_InvalidMarket : PySem.W.keepIn K (.ref C_InvalidMarket) = true
  b_InvalidMarket : PySem.W.subIn K (.ref C_InvalidMarket) (.type "BaseException") = some true
  t_InvalidMarket : PySem.W.typeIn K (.ref C_InvalidMarket) = some (.type "type")
  i_InvalidMarket : PySem.W.isClsIn K C_InvalidMarket = true
  e_InvalidMarket : PySem.W.subIn K (.ref C_InvalidMarket) (.ref C_InvalidMarket) = some true
  C_Market : Addr
  gC_Market : mg "Market" = some (.ref C_Market)
  C_UnknownName : Addr
  gC_UnknownName : mg "UnknownName" = some (.ref C_UnknownName)
  x_UnknownName : PySem.W.excIn K C_UnknownName [.type "ValueError", .type "Exception", .type "BaseException", .type "object"] "ValueError.__new__" = true
  k_UnknownName : PySem.W.keepIn K (.ref C_UnknownName) = true
  b_UnknownName : PySem.W.subIn K (.ref C_UnknownName) (.type "BaseException") = some true
  t_UnknownName : PySem.W.typeIn K (.ref C_UnknownName) = some (.type "type")
  i_UnknownName : PySem.W.isClsIn K C_UnknownName = true
  e_UnknownName : PySem.W.subIn K (.ref C_UnknownName) (.ref C_UnknownName) = some true
  E_DuplicateName : ExcC K C_DuplicateName
  E_InvalidMarket : ExcC K C_InvalidMarket
  E_UnknownName : ExcC K C_UnknownName
  n_InvalidMarket_DuplicateName : PySem.W.subIn K (.ref C_InvalidMarket) (.ref C_DuplicateName) = some false
  n_UnknownName_DuplicateName : PySem.W.subIn K (.ref C_UnknownName) (.ref C_DuplicateName) = some false
  n_DuplicateName_InvalidMarket : PySem.W.subIn K (.ref C_DuplicateName) (.ref C_InvalidMarket) = some false
  n_UnknownName_InvalidMarket : PySem.W.subIn K (.ref C_UnknownName) (.ref C_InvalidMarket) = some false
  n_DuplicateName_UnknownName : PySem.W.subIn K (.ref C_DuplicateName) (.ref C_UnknownName) = some false
  n_InvalidMarket_UnknownName : PySem.W.subIn K (.ref C_InvalidMarket) (.ref C_UnknownName) = some false
  K_Market : Cls K C_Market
  Mk_Market : Mk K C_Market a_Market_init
  nf_Market_crosses : NoAttr K C_Market "_crosses"
  nf_Market_table : NoAttr K C_Market "_table"
  nf_Market_products : NoAttr K C_Market "products"
  M_Market_cross : Meth K C_Market "cross" a_Market_cross
  M_Market_slopes : Meth K C_Market "_slopes" a_Market_slopes
section
variable {P : Program} {w : World} {K : PySem.W.Frag} {mg : Str → Option Value} {base : Heap}
/-! ### _lowest -/
def R_lowest (ds : List RD) (r : Res) : Prop := ∃ n d : Int, ds = [.int n, .int d] ∧ (d ≠ 0 ∧ Bd 9000 d) ∧ r = .ok (eR (lowR n d))
theorem R_lowest_mk {n d : Int} (h : d ≠ 0) (hb : Bd 9000 d) : R_lowest [.int n, .int d] (.ok (eR (lowR n d))) := ⟨n, d, rfl, ⟨h, hb⟩, rfl⟩
local macro_rules | `(tactic| walk_at "fn") => `(tactic| (with_reducible refine R_lowest_mk ?_ ?_))
theorem ok_lowest (T : Txt K mg) : FnOk P w K mg base (L2.CX P w) 1 T.a_lowest T.fd_lowest ["n", "d"] (spF K 2 R_lowest) := by
  refine T.F_lowest.okX sc_lowest (spF_len rfl) (fun cdv A outer s H vs Q E hr h => ?_)
  refine ⟨_, (pss_cons (ps_set (i := 2) sc_lowest.nd rfl (Or.inl rfl) (pe_callBfun cr_gcd rfl T.g_gcd (pa_cons (pv 0) (pa_cons (pv 1) pa_nil))))
      (pss_one (ps_ret (pe_tup (pa_cons (pe_op op_fdivW (pv 0) (pv 2)) (pa_cons (pe_op op_fdivW (pv 1) (pv 2)) pa_nil)))))), ?_⟩
  refine body_run h (fun ds r hl hR => ?_)
  obtain ⟨n, d, rfl, ⟨hd, hb⟩, rfl⟩ := hR
  have wd : ∀ x : Int, CDivW x (Nat.gcd n.natAbs d.natAbs : Nat) := fun x => gcd_wdiv hd hb (by decide) (by decide)
  refine ⟨.rt (eR (lowR n d)), rfl, ?_⟩
  refine as_seq (S1 := [.dat (.int n), .dat (.int d), .dat (.int (Nat.gcd n.natAbs d.natAbs : Nat))]) (as_asg (by walk_at "ev")) (as_ret ?_)
  unfold eR lowR
  walk_at "ev"
  all_goals exact wd _
/-! ### sub -/
def R_sub (ds : List RD) (r : Res) : Prop := ∃ a b : Rat, ds = [eQ a, eQ b] ∧ (Sq a ∧ Sq b) ∧ r = .ok (eQ (a - b))
theorem R_sub_mk {a b : Rat} (ha : Sq a) (hb : Sq b) : R_sub [eQ a, eQ b] (.ok (eQ (a - b))) := ⟨a, b, rfl, ⟨ha, hb⟩, rfl⟩
local macro_rules | `(tactic| walk_at "fn") => `(tactic| (with_reducible refine R_sub_mk ?_ ?_))
theorem ok_sub (T : Txt K mg) : FnOk P w K mg base (L2.CX P w) 2 T.a_sub T.fd_sub ["a", "b"] (spF K 2 R_sub) := by
  refine T.F_sub.okX sc_sub (spF_len rfl) (fun cdv A outer s H vs Q E hr h => ?_)
  refine ⟨_, (pss_one (ps_ret (pe_call (ok_lowest T) (hr.mono (by decide)) rfl T.g_lowest T.F_lowest.kp T.b_lowest .nil passL (pa_cons (pe_op op_sub (pe_op op_mulW (pe_ix (ix_seqK K rfl) (pv 0) pe_int (fun _ _ => rfl)) (pe_ix (ix_seqK K rfl) (pv 1) pe_int (fun _ _ => rfl))) (pe_op op_mulW (pe_ix (ix_seqK K rfl) (pv 1) pe_int (fun _ _ => rfl)) (pe_ix (ix_seqK K rfl) (pv 0) pe_int (fun _ _ => rfl)))) (pa_cons (pe_op op_mulW (pe_ix (ix_seqK K rfl) (pv 0) pe_int (fun _ _ => rfl)) (pe_ix (ix_seqK K rfl) (pv 1) pe_int (fun _ _ => rfl))) pa_nil))))), ?_⟩
  refine body_run h (fun ds r hl hR => ?_)
  obtain ⟨a, b, rfl, ⟨ha, hb⟩, rfl⟩ := hR
  obtain ⟨w1, w2, w3, w4⟩ := ha.wmul hb
  obtain ⟨v1, v2, v3, v4⟩ := hb.wmul ha
  obtain ⟨z1, z2⟩ := ha.dd hb
  refine ⟨.rt (eQ (a - b)), rfl, as_ret (ae_is (d := eR (lowR (a.num * b.den - b.num * a.den) (a.den * b.den))) ?_ ?_)⟩
  · walk_at "ev" <;> with_reducible assumption
  · rw [eQ_low (Int.mul_pos (den_pos' a) (den_pos' b)), sub_divInt]
/-! ### sign -/
def sgn (a : Q2) : Int := if 0 < a.1 then 1 else if a.1 < 0 then -1 else 0
def R_sign (ds : List RD) (r : Res) : Prop := ∃ a : Q2, ds = [eR a] ∧ r = .ok (.int (sgn a))
theorem R_sign_mk {a : Q2} : R_sign [eR a] (.ok (.int (sgn a))) := ⟨a, rfl, rfl⟩
local macro_rules | `(tactic| walk_at "fn") => `(tactic| (with_reducible exact R_sign_mk))
theorem ok_sign (T : Txt K mg) : FnOk P w K mg base (L2.CX P w) 1 T.a_sign T.fd_sign ["a"] (spF K 1 R_sign) := by
  refine T.F_sign.okX sc_sign (spF_len rfl) (fun cdv A outer s H vs Q E hr h => ?_)
  refine ⟨_, (pss_cons (ps_if (pt_cmpR op_gt (pe_ix (ix_seqK K rfl) (pv 0) pe_int (fun _ _ => rfl)) pe_int (nomark _)) (pss_one (ps_ret pe_int)) pss_nil)
      (pss_cons (ps_if (pt_cmpR op_lt (pe_ix (ix_seqK K rfl) (pv 0) pe_int (fun _ _ => rfl)) pe_int (nomark _)) (pss_one (ps_ret (pe_un un_neg pe_int))) pss_nil)
      (pss_one (ps_ret pe_int)))), ?_⟩
  refine body_run h (fun ds r hl hR => ?_)
  obtain ⟨a, rfl, rfl⟩ := hR
  refine ⟨.rt (.int (sgn a)), rfl, ?_⟩
  refine as_when (b := decide (0 < a.1)) (by walk_at "ev") (fun hb => as_rets ?_) (fun hb => ?_)
  · refine ae_is (d := .int 1) (by walk_at "ev") (by unfold sgn; rw [if_pos (of_decide_eq_true hb)])
  refine as_when (b := decide (a.1 < 0)) (by walk_at "ev") (fun hc => as_rets ?_) (fun hc => as_ret ?_)
  · refine ae_is (d := .int (-1)) (by walk_at "ev") (by unfold sgn; rw [if_neg (of_decide_eq_false hb), if_pos (of_decide_eq_true hc)])
  · refine ae_is (d := .int 0) (by walk_at "ev") (by unfold sgn; rw [if_neg (of_decide_eq_false hb), if_neg (of_decide_eq_false hc)])
/-! ### _size -/
def R_size (ds : List RD) (r : Res) : Prop := ∃ q : Rat, ds = [eQ q] ∧ r = .ok (eQ (absQ q))
theorem R_size_mk {q : Rat} : R_size [eQ q] (.ok (eQ (absQ q))) := ⟨q, rfl, rfl⟩
local macro_rules | `(tactic| walk_at "fn") => `(tactic| (with_reducible exact R_size_mk))
theorem ok_size (T : Txt K mg) : FnOk P w K mg base (L2.CX P w) 1 T.a_size T.fd_size ["value"] (spF K 1 R_size) := by
  refine T.F_size.okX sc_size (spF_len rfl) (fun cdv A outer s H vs Q E hr h => ?_)
  refine ⟨_, (pss_one (ps_ret (pe_tup (pa_cons (pe_callB (call_abs) (by rfl) T.m_abs (by decide +kernel) (pa_cons (pe_ix (ix_seqK K rfl) (pv 0) pe_int (fun _ _ => rfl)) pa_nil)) (pa_cons (pe_ix (ix_seqK K rfl) (pv 0) pe_int (fun _ _ => rfl)) pa_nil))))), ?_⟩
  refine body_run h (fun ds r hl hR => ?_)
  obtain ⟨q, rfl, rfl⟩ := hR
  refine ⟨.rt (eQ (absQ q)), rfl, as_ret (ae_is (d := .tup [.int (q.num.natAbs : Int), .int (q.den : Int)]) ?_ (eQ_abs q).symm)⟩
  walk_at "ev"
/-! ### add -/
def R_add (ds : List RD) (r : Res) : Prop := ∃ (a b : Rat) (A B : Nat), ds = [eQ a, eQ b] ∧ (Bt A a ∧ Bt B b ∧ 0 < A ∧ 0 < B ∧ A + B ≤ 8900) ∧ r = .ok (eQ (a + b))
theorem R_add_mk {a b : Rat} (A B : Nat) (ha : Bt A a) (hb : Bt B b) (h1 : 0 < A) (h2 : 0 < B) (h3 : A + B ≤ 8900) : R_add [eQ a, eQ b] (.ok (eQ (a + b))) := ⟨a, b, A, B, rfl, ⟨ha, hb, h1, h2, h3⟩, rfl⟩
theorem ok_add (T : Txt K mg) : FnOk P w K mg base (L2.CX P w) 2 T.a_add T.fd_add ["a", "b"] (spF K 2 R_add) := by
  refine T.F_add.okX sc_add (spF_len rfl) (fun cdv A outer s H vs Q E hr h => ?_)
  refine ⟨_, (pss_one (ps_ret (pe_call (ok_lowest T) (hr.mono (by decide)) rfl T.g_lowest T.F_lowest.kp T.b_lowest .nil passL (pa_cons (pe_op op_add (pe_op op_mulW (pe_ix (ix_seqK K rfl) (pv 0) pe_int (fun _ _ => rfl)) (pe_ix (ix_seqK K rfl) (pv 1) pe_int (fun _ _ => rfl))) (pe_op op_mulW (pe_ix (ix_seqK K rfl) (pv 1) pe_int (fun _ _ => rfl)) (pe_ix (ix_seqK K rfl) (pv 0) pe_int (fun _ _ => rfl)))) (pa_cons (pe_op op_mulW (pe_ix (ix_seqK K rfl) (pv 0) pe_int (fun _ _ => rfl)) (pe_ix (ix_seqK K rfl) (pv 1) pe_int (fun _ _ => rfl))) pa_nil))))), ?_⟩
  refine body_run h (fun ds r hl hR => ?_)
  obtain ⟨a, b, A, B, rfl, ⟨ha, hb, p1, p2, p3⟩, rfl⟩ := hR
  have w2 : CMulW a.num b.den := ha.1.wmul hb.2 p1 p2 (by omega)
  have w3 : CMulW a.den b.den := ha.2.wmul hb.2 p1 p2 (by omega)
  have v2 : CMulW b.num a.den := hb.1.wmul ha.2 p2 p1 (by omega)
  have z1 : (a.den : Int) * (b.den : Int) ≠ 0 := by
    have := Int.mul_pos (den_pos' a) (den_pos' b)
    omega
  have z2 : Bd 9000 ((a.den : Int) * (b.den : Int)) := (ha.2.mul hb.2).mono (by omega)
  refine ⟨.rt (eQ (a + b)), rfl, as_ret (ae_is (d := eR (lowR (a.num * b.den + b.num * a.den) (a.den * b.den))) ?_ ?_)⟩
  · walk_at "ev" <;> with_reducible assumption
  · rw [eQ_low (Int.mul_pos (den_pos' a) (den_pos' b)), add_divInt]
/-! ### less -/
def R_less (ds : List RD) (r : Res) : Prop := ∃ a b : Rat, ds = [eQ a, eQ b] ∧ (Sq a ∧ Sq b) ∧ r = .ok (.bl (decide (a < b)))
theorem R_less_mk {a b : Rat} (ha : Sq a) (hb : Sq b) : R_less [eQ a, eQ b] (.ok (.bl (decide (a < b)))) := ⟨a, b, rfl, ⟨ha, hb⟩, rfl⟩
local macro_rules | `(tactic| walk_at "fn") => `(tactic| (with_reducible refine R_less_mk ?_ ?_))
theorem ok_less (T : Txt K mg) : FnOk P w K mg base (L2.CX P w) 1 T.a_less T.fd_less ["a", "b"] (spF K 2 R_less) := by
  refine T.F_less.okX sc_less (spF_len rfl) (fun cdv A outer s H vs Q E hr h => ?_)
  refine ⟨_, (pss_one (ps_ret (pe_cmpR op_lt (pe_op op_mulW (pe_ix (ix_seqK K rfl) (pv 0) pe_int (fun _ _ => rfl)) (pe_ix (ix_seqK K rfl) (pv 1) pe_int (fun _ _ => rfl))) (pe_op op_mulW (pe_ix (ix_seqK K rfl) (pv 1) pe_int (fun _ _ => rfl)) (pe_ix (ix_seqK K rfl) (pv 0) pe_int (fun _ _ => rfl))) (nomark _)))), ?_⟩
  refine body_run h (fun ds r hl hR => ?_)
  obtain ⟨a, b, rfl, ⟨ha, hb⟩, rfl⟩ := hR
  obtain ⟨w1, w2, w3, w4⟩ := ha.wmul hb
  obtain ⟨v1, v2, v3, v4⟩ := hb.wmul ha
  refine ⟨.rt (.bl (decide (a < b))), rfl, as_ret (ae_is (d := .bl (decide (a.num * b.den < b.num * a.den))) ?_ ?_)⟩
  · walk_at "ev" <;> with_reducible assumption
  · simp only [lt_iff']
/-! ### _leads -/
def R_leads (ds : List RD) (r : Res) : Prop := ∃ (row : List Rat) (k : Nat), ds = [eL row, .int (k : Int)] ∧ (BL 300 row ∧ k < row.length ∧ row.length ≤ 10) ∧ r = .ok (.bl (decide (offI row k row.length < absQ (row.getD k 0))))
theorem R_leads_mk {row : List Rat} {k : Nat} (h1 : BL 300 row) (h2 : k < row.length) (h3 : row.length ≤ 10) : R_leads [eL row, .int (k : Int)] (.ok (.bl (decide (offI row k row.length < absQ (row.getD k 0))))) := ⟨row, k, rfl, ⟨h1, h2, h3⟩, rfl⟩
theorem ok_leads (T : Txt K mg) : FnOk P w K mg base (L2.CX P w) 3 T.a_leads T.fd_leads ["row", "at"] (spF K 2 R_leads) := by
  refine T.F_leads.okX sc_leads (spF_len rfl) (fun cdv A outer s H vs Q E hr h => ?_)
  refine ⟨_, (pss_cons (ps_set (i := 2) sc_leads.nd rfl (Or.inl rfl) (pe_glob (v := .ref T.z_ZERO) rfl T.c_ZERO rfl))
      (pss_cons (ps_for (passes_of rfl) rfl (pi_enumK K rfl (by rfl) T.m_enumerate (pa_cons (pv 0) pa_nil)) (pg_tupK (n := 2) K rfl rfl (pgs_cons (pg_name (i := 3) sc_leads.nd rfl (Or.inl rfl)) (pgs_cons (pg_name (i := 4) sc_leads.nd rfl (Or.inl rfl)) pgs_nil)))
      (pss_one (ps_if (pt_cmpR op_ne (pv 3) (pv 1) (nomark _)) (pss_one (ps_set (i := 2) sc_leads.nd rfl (Or.inl rfl) (pe_call (ok_add T) (hr.mono (by decide)) rfl T.g_add T.F_add.kp T.b_add .nil passL (pa_cons (pv 2) (pa_cons (pe_call (ok_size T) (hr.mono (by decide)) rfl T.g_size T.F_size.kp T.b_size .nil passL (pa_cons (pv 4) pa_nil)) pa_nil))))) pss_nil)))
      (pss_one (ps_ret (pe_call (ok_less T) (hr.mono (by decide)) rfl T.g_less T.F_less.kp T.b_less .nil passL (pa_cons (pv 2) (pa_cons (pe_call (ok_size T) (hr.mono (by decide)) rfl T.g_size T.F_size.kp T.b_size .nil passL (pa_cons (pe_ix (ix_seqK K rfl) (pv 0) (pv 1) (fun _ _ => rfl)) pa_nil)) pa_nil))))))), ?_⟩
  refine body_run h (fun ds r hl hR => ?_)
  obtain ⟨row, k, rfl, ⟨h1, h2, h3⟩, rfl⟩ := hR
  refine ⟨.rt (.bl (decide (offI row k row.length < absQ (row.getD k 0)))), rfl, ?_⟩
  have bt : ∀ i, i ≤ row.length → Bt 3011 (offI row k i) := fun i hi => (offI_bt h1 i hi).mono (by
    have := Nat.mul_le_mul_right 301 (Nat.le_trans hi h3)
    omega)
  refine as_seq (S1 := [.dat (eL row), .dat (.int (k : Int)), .dat (eQ 0), .un, .un]) (as_asg (ae_c fun G => .tup (T.s_ZERO G) (.cons (.int 0) (.cons (.int 1) .nil)))) ?_
  refine as_seq (as_forAll (l := [3, 4]) (ai_enum (as := row.map eQ) (aa_cons (ae_var rfl) aa_nil)) (fun i => [.dat (eL row), .dat (.int (k : Int)), .dat (eQ (offI row k i)), .un, .un]) rfl fun i x hx => ?_) (as_ret ?_)
  · have hi : i < row.length := by
      have := (List.getElem?_eq_some_iff.mp hx).1
      simpa using this
    have hx2 : x = .tup [.int (i : Int), eQ (row.getD i 0)] := by
      rw [List.getElem?_map, List.length_map, List.getElem?_range hi] at hx
      rw [← Option.some.inj hx]
      show RD.tup [.int (i : Int), (row.map eQ).getD i RD.non] = _
      rw [getD_mapQ hi]
    subst hx2
    have q1 := h1 _ (getD_mem hi)
    refine ⟨[.dat (eL row), .dat (.int (k : Int)), .dat (eQ (offI row k i)), .dat (.int (i : Int)), .dat (eQ (row.getD i 0))], .nx [.dat (eL row), .dat (.int (k : Int)), .dat (eQ (offI row k (i + 1))), .dat (.int (i : Int)), .dat (eQ (row.getD i 0))], ag_tup (ags_cons ag_name (ags_cons ag_name ags_nil)) rfl, ?_, by walk_at "fg"⟩
    have q2 := bt i (by omega)
    refine as_if (b := !decide (V.int (i : Int) = V.int (k : Int))) (at_test (ae_op (d1 := .int (i : Int)) (d2 := .int (k : Int)) (ae_var rfl) (ae_var rfl) (ro_ne rfl rfl rfl))) (fun hb => ?_) (fun hb => ?_)
    · have hne : i ≠ k := fun z => by rw [z, decide_eq_true rfl] at hb; cases hb
      have e : offI row k (i + 1) = offI row k i + absQ (row.getD i 0) := by
        show (if i = k then _ else _) = _
        rw [if_neg hne]
      rw [e]
      exact as_asg (ae_call0 (ds := [eQ (offI row k i), eQ (absQ (row.getD i 0))]) (aa_cons (ae_var rfl) (aa_cons (ae_call0 (ds := [eQ (row.getD i 0)]) (aa_cons (ae_var rfl) aa_nil) rfl R_size_mk) aa_nil)) rfl (R_add_mk 3011 300 q2 (absQ_bt q1) (by decide) (by decide) (by decide)))
    · have he : i = k := by
        by_cases z : i = k
        · exact z
        · rw [decide_eq_false (fun y => z (by have := V.int.inj y; omega))] at hb
          cases hb
      have e : offI row k (i + 1) = offI row k i := by
        show (if i = k then _ else _) = _
        rw [if_pos he]
      rw [e]
      exact as_next
  · have e : ((List.range (row.map eQ).length).map fun (i : Nat) => RD.tup [.int i, (row.map eQ).getD i .non]).length = row.length := by simp
    rw [e]
    refine ae_call0 (ds := [eQ (offI row k row.length), eQ (absQ (row.getD k 0))]) (aa_cons (ae_var rfl) (aa_cons (ae_call0 (ds := [eQ (row.getD k 0)]) (aa_cons (ae_at h2 (ae_var rfl) (ae_var rfl)) aa_nil) rfl R_size_mk) aa_nil)) rfl (R_less_mk ((bt _ (Nat.le_refl _)).mono (by decide)) ((absQ_bt (h1 _ (getD_mem h2))).mono (by decide)))
/-! ### is_dominant -/
def R_is_dominant (ds : List RD) (r : Res) : Prop := ∃ (n : Nat) (rows : List (List Rat)), ds = [eM rows] ∧ (Sh n n rows ∧ n ≤ 10 ∧ BM 300 rows) ∧ r = .ok (.bl (domB n rows))
theorem R_is_dominant_mk {n : Nat} {rows : List (List Rat)} (h1 : Sh n n rows) (h2 : n ≤ 10) (h3 : BM 300 rows) : R_is_dominant [eM rows] (.ok (.bl (domB n rows))) := ⟨n, rows, rfl, ⟨h1, h2, h3⟩, rfl⟩
theorem ok_is_dominant (T : Txt K mg) : FnOk P w K mg base (L2.CX P w) 4 T.a_is_dominant T.fd_is_dominant ["rows"] (spF K 1 R_is_dominant) := by
  refine T.F_is_dominant.okX sc_is_dominant (spF_len rfl) (fun cdv A outer s H vs Q E hr h => ?_)
  refine ⟨_, (pss_one (ps_ret (pe_callB (call_allK K rfl rfl) (by rfl) T.m_all (by decide +kernel) (pa_cons (pe_lc (own := [("at", 1), ("row", 2)]) rfl sc_is_dominant.nd (pi_enumK K rfl (by rfl) T.m_enumerate (pa_cons (pv 0) pa_nil)) (blkOk_by (N := ["rows", "at", "row"]) (sc := defScope s_is_dominant) (by decide +kernel)) (fun _ _ _ _ _ => (pg_tupK (n := 2) K rfl rfl (pgs_cons (pg_name (i := 1) sc_is_dominant.nd rfl (Or.inl rfl)) (pgs_cons (pg_name (i := 2) sc_is_dominant.nd rfl (Or.inl rfl)) pgs_nil)))) (fun _ _ _ _ _ => pts_nil) (fun _ _ _ _ _ => (pe_call (ok_leads T) (hr.mono (by decide)) rfl T.g_leads T.F_leads.kp T.b_leads .nil passL (pa_cons (pv 2) (pa_cons (pv 1) pa_nil))))) pa_nil)))), ?_⟩
  refine body_run h (fun ds r hl hR => ?_)
  obtain ⟨n, rows, rfl, ⟨h1, h2, h3⟩, rfl⟩ := hR
  refine ⟨.rt (.bl (domB n rows)), rfl, as_ret ?_⟩
  have e0 : domB n rows = (((List.range n).map fun i => decide (offI (rows.getD i []) i n < absQ (En rows i i))).all id) := by
    unfold domB
    rw [List.all_map]
    rfl
  rw [e0]
  refine ae_cb (ds := [.lst (((List.range n).map fun i => decide (offI (rows.getD i []) i n < absQ (En rows i i))).map RD.bl)]) (aa_cons (ae_is (d := .lst ((List.range n).map fun i => RD.bl (decide (offI (rows.getD i []) i n < absQ (En rows i i))))) (ae_lcM (l := [1, 2]) (xs := List.range n) (enc := fun i => .tup [.int (i : Int), eL (rows.getD i [])]) (ai_is (ai_enum (as := rows.map eL) (aa_cons (ae_var rfl) aa_nil)) ?_) (fun i => RD.bl (decide (offI (rows.getD i []) i n < absQ (En rows i i)))) (by simp) (by simp; omega) fun i hi => ⟨_, ag_tup (ags_cons ag_name (ags_cons ag_name ags_nil)) rfl, ?_⟩) (by rw [List.map_map]; rfl)) aa_nil) rc_all
  · rw [List.length_map, h1.len]
    apply List.map_congr_left
    intro i hi
    have hi2 := List.mem_range.mp hi
    congr 3
    have hi3 : i < rows.length := by rw [h1.len]; exact hi2
    rw [List.getD_eq_getElem?_getD, List.getD_eq_getElem?_getD, List.getElem?_map, List.getElem?_eq_getElem hi3]
    rfl
  · have hi2 := List.mem_range.mp hi
    have hg := h1.get hi2
    have e1 : decide (offI (rows.getD i []) i n < absQ (En rows i i)) = decide (offI (rows.getD i []) i (rows.getD i []).length < absQ ((rows.getD i []).getD i 0)) := by
      rw [hg.2]
      rfl
    rw [e1]
    exact ae_call0 (ds := [eL (rows.getD i []), .int (i : Int)]) (aa_cons (ae_var rfl) (aa_cons (ae_var rfl) aa_nil)) rfl (R_leads_mk (h3 _ hg.1) (by rw [hg.2]; exact hi2) (by rw [hg.2]; exact h2))
end
/-- where the classes stand -/
def clT {K : PySem.W.Frag} {mg : Str → Option Value} (T : Txt K mg) : Str → Addr := fun n => if n = "DuplicateName" then T.C_DuplicateName else if n = "InvalidMarket" then T.C_InvalidMarket else if n = "Market" then T.C_Market else if n = "UnknownName" then T.C_UnknownName else 0
abbrev mkE {K : PySem.W.Frag} {mg : Str → Option Value} (T : Txt K mg) : RS.En := { K := K, cl := clT T, fa := fun _ => 0 }
section
variable {K : PySem.W.Frag} {mg : Str → Option Value}
theorem cl_DuplicateName (T : Txt K mg) : (mkE T).cl "DuplicateName" = T.C_DuplicateName := by
  show clT T "DuplicateName" = _
  unfold clT
  rw [if_pos rfl]
theorem rp_DuplicateName (T : Txt K mg) {Γ : RS.Gd} : RS.Rp (mkE T) Γ (.ref T.C_DuplicateName) (.cls "DuplicateName") := by
  have h : RS.Rp (mkE T) Γ (.ref ((mkE T).cl "DuplicateName")) (.cls "DuplicateName") := RS.Rp.cls _
  rw [cl_DuplicateName T] at h
  exact h
theorem cl_InvalidMarket (T : Txt K mg) : (mkE T).cl "InvalidMarket" = T.C_InvalidMarket := by
  show clT T "InvalidMarket" = _
  unfold clT
  rw [if_neg (by decide), if_pos rfl]
theorem rp_InvalidMarket (T : Txt K mg) {Γ : RS.Gd} : RS.Rp (mkE T) Γ (.ref T.C_InvalidMarket) (.cls "InvalidMarket") := by
  have h : RS.Rp (mkE T) Γ (.ref ((mkE T).cl "InvalidMarket")) (.cls "InvalidMarket") := RS.Rp.cls _
  rw [cl_InvalidMarket T] at h
  exact h
theorem cl_Market (T : Txt K mg) : (mkE T).cl "Market" = T.C_Market := by
  show clT T "Market" = _
  unfold clT
  rw [if_neg (by decide), if_neg (by decide), if_pos rfl]
theorem rp_Market (T : Txt K mg) {Γ : RS.Gd} : RS.Rp (mkE T) Γ (.ref T.C_Market) (.cls "Market") := by
  have h : RS.Rp (mkE T) Γ (.ref ((mkE T).cl "Market")) (.cls "Market") := RS.Rp.cls _
  rw [cl_Market T] at h
  exact h
theorem cl_UnknownName (T : Txt K mg) : (mkE T).cl "UnknownName" = T.C_UnknownName := by
  show clT T "UnknownName" = _
  unfold clT
  rw [if_neg (by decide), if_neg (by decide), if_neg (by decide), if_pos rfl]
theorem rp_UnknownName (T : Txt K mg) {Γ : RS.Gd} : RS.Rp (mkE T) Γ (.ref T.C_UnknownName) (.cls "UnknownName") := by
  have h : RS.Rp (mkE T) Γ (.ref ((mkE T).cl "UnknownName")) (.cls "UnknownName") := RS.Rp.cls _
  rw [cl_UnknownName T] at h
  exact h
def em_DuplicateName : Str → Option Bool := fun n => if n = "DuplicateName" then some true else if n = "InvalidMarket" then some false else if n = "UnknownName" then some false else none
theorem em_DuplicateName_ok (T : Txt K mg) : ∀ n k, em_DuplicateName n = some k → PySem.W.exmOne (mkE T).K (.ref ((mkE T).cl n)) (.ref T.C_DuplicateName) = some k := fun n k h => by
  unfold em_DuplicateName at h
  split at h
  · rename_i e; subst e; cases h; rw [cl_DuplicateName T]; exact PySem.W.exm_ref T.b_DuplicateName T.E_DuplicateName.hd T.t_DuplicateName T.e_DuplicateName
  split at h
  · rename_i e; subst e; cases h; rw [cl_InvalidMarket T]; exact PySem.W.exm_ref T.b_DuplicateName T.E_DuplicateName.hd T.t_DuplicateName T.n_InvalidMarket_DuplicateName
  split at h
  · rename_i e; subst e; cases h; rw [cl_UnknownName T]; exact PySem.W.exm_ref T.b_DuplicateName T.E_DuplicateName.hd T.t_DuplicateName T.n_UnknownName_DuplicateName
  cases h
def em_InvalidMarket : Str → Option Bool := fun n => if n = "InvalidMarket" then some true else if n = "DuplicateName" then some false else if n = "UnknownName" then some false else none
theorem em_InvalidMarket_ok (T : Txt K mg) : ∀ n k, em_InvalidMarket n = some k → PySem.W.exmOne (mkE T).K (.ref ((mkE T).cl n)) (.ref T.C_InvalidMarket) = some k := fun n k h => by
  unfold em_InvalidMarket at h
  split at h
  · rename_i e; subst e; cases h; rw [cl_InvalidMarket T]; exact PySem.W.exm_ref T.b_InvalidMarket T.E_InvalidMarket.hd T.t_InvalidMarket T.e_InvalidMarket
  split at h
  · rename_i e; subst e; cases h; rw [cl_DuplicateName T]; exact PySem.W.exm_ref T.b_InvalidMarket T.E_InvalidMarket.hd T.t_InvalidMarket T.n_DuplicateName_InvalidMarket
  split at h
  · rename_i e; subst e; cases h; rw [cl_UnknownName T]; exact PySem.W.exm_ref T.b_InvalidMarket T.E_InvalidMarket.hd T.t_InvalidMarket T.n_UnknownName_InvalidMarket
  cases h
def em_UnknownName : Str → Option Bool := fun n => if n = "UnknownName" then some true else if n = "DuplicateName" then some false else if n = "InvalidMarket" then some false else none
theorem em_UnknownName_ok (T : Txt K mg) : ∀ n k, em_UnknownName n = some k → PySem.W.exmOne (mkE T).K (.ref ((mkE T).cl n)) (.ref T.C_UnknownName) = some k := fun n k h => by
  unfold em_UnknownName at h
  split at h
  · rename_i e; subst e; cases h; rw [cl_UnknownName T]; exact PySem.W.exm_ref T.b_UnknownName T.E_UnknownName.hd T.t_UnknownName T.e_UnknownName
  split at h
  · rename_i e; subst e; cases h; rw [cl_DuplicateName T]; exact PySem.W.exm_ref T.b_UnknownName T.E_UnknownName.hd T.t_UnknownName T.n_DuplicateName_UnknownName
  split at h
  · rename_i e; subst e; cases h; rw [cl_InvalidMarket T]; exact PySem.W.exm_ref T.b_UnknownName T.E_UnknownName.hd T.t_UnknownName T.n_InvalidMarket_UnknownName
  cases h
theorem ks_Market (T : Txt K mg) : Cls (mkE T).K ((mkE T).cl "Market") := by rw [cl_Market T]; exact T.K_Market
theorem mk_Market (T : Txt K mg) : Mk (mkE T).K ((mkE T).cl "Market") T.a_Market_init := by rw [cl_Market T]; exact T.Mk_Market
theorem gE_Market (T : Txt K mg) : mg "Market" = some (.ref ((mkE T).cl "Market")) := by rw [cl_Market T]; exact T.gC_Market
theorem nf_Market_crosses (T : Txt K mg) : NoAttr (mkE T).K ((mkE T).cl "Market") "_crosses" := by rw [cl_Market T]; exact T.nf_Market_crosses
theorem nf_Market_table (T : Txt K mg) : NoAttr (mkE T).K ((mkE T).cl "Market") "_table" := by rw [cl_Market T]; exact T.nf_Market_table
theorem nf_Market_products (T : Txt K mg) : NoAttr (mkE T).K ((mkE T).cl "Market") "products" := by rw [cl_Market T]; exact T.nf_Market_products
theorem mt_Market_cross (T : Txt K mg) : Meth (mkE T).K ((mkE T).cl "Market") "cross" T.a_Market_cross := by rw [cl_Market T]; exact T.M_Market_cross
theorem mt_Market_slopes (T : Txt K mg) : Meth (mkE T).K ((mkE T).cl "Market") "_slopes" T.a_Market_slopes := by rw [cl_Market T]; exact T.M_Market_slopes
end
end RPk32

set_option Elab.async false
set_option linter.all false
set_option maxRecDepth 100000
set_option maxHeartbeats 4000000

namespace RSk32
open PySem PySem.Spec PyProof.Rows L2 RS RPk32

noncomputable def m_law_cell (E : En) : MS :=
  (mSeq (mIfS (mTest (mOp (lift2 fLt) (mVar 1) (mCB (liftL fLen) (aCons (mVar 0) aNil)))) (mRet (mCB (liftL fInt) (aCons (mOp (lift2 fIx) (mVar 0) (mVar 1)) aNil))) mNext)
    (mRet (mOp (lift2 fAdd) (mOp (lift2 fMul) (mC (.int 11)) (mVar 1)) (mC (.int 5)))))
noncomputable def f_law_cell (E : En) : MF := funOf 2 (m_law_cell E)
noncomputable def m_law_ratio (E : En) : MS :=
  (mSeq (mAsg (mCB (liftL fAbs) (aCons (mVar 0) aNil)) (gSet 2))
    (mSeq (mAsg (mCB (liftL fAbs) (aCons (mVar 1) aNil)) (gSet 3))
    (mSeq (mWhile (mTest (mOp (lift2 fGt) (mVar 3) (mC (.int 0)))) (mPar 2 3 (aCons (mVar 3) (aCons (mOp (lift2 fMod) (mCB (liftL fInt) (aCons (mVar 2) aNil)) (mVar 3)) aNil))))
    (mSeq (mIfS (mTest (mOp (lift2 fLt) (mVar 1) (mC (.int 0)))) (mAsg (mOp (lift2 fSub) (mC (.int 0)) (mVar 2)) (gSet 2)) mNext)
    (mRet (mTup (aCons (mOp (lift2 fDiv) (mVar 0) (mVar 2)) (aCons (mOp (lift2 fDiv) (mVar 1) (mVar 2)) aNil))))))))
noncomputable def f_law_ratio (E : En) : MF := funOf 4 (m_law_ratio E)
noncomputable def m_law_add (E : En) : MS :=
  (mRet (mCall 2 (f_law_ratio E) [] (aCons (mOp (lift2 fAdd) (mOp (lift2 fMul) (mOp (lift2 fIx) (mVar 0) (mC (.int 0))) (mOp (lift2 fIx) (mVar 1) (mC (.int 1)))) (mOp (lift2 fMul) (mOp (lift2 fIx) (mVar 1) (mC (.int 0))) (mOp (lift2 fIx) (mVar 0) (mC (.int 1))))) (aCons (mOp (lift2 fMul) (mOp (lift2 fIx) (mVar 0) (mC (.int 1))) (mOp (lift2 fIx) (mVar 1) (mC (.int 1)))) aNil))))
noncomputable def f_law_add (E : En) : MF := funOf 2 (m_law_add E)
noncomputable def m_law_less (E : En) : MS :=
  (mRet (mOp (lift2 fLt) (mOp (lift2 fMul) (mOp (lift2 fIx) (mVar 0) (mC (.int 0))) (mOp (lift2 fIx) (mVar 1) (mC (.int 1)))) (mOp (lift2 fMul) (mOp (lift2 fIx) (mVar 1) (mC (.int 0))) (mOp (lift2 fIx) (mVar 0) (mC (.int 1))))))
noncomputable def f_law_less (E : En) : MF := funOf 2 (m_law_less E)
noncomputable def m_law_is_name (E : En) : MS :=
  (mSeq (mIfS (mNot (mTest (mChain (lift2 fLe) (lift2 fLe) (mC (.int 1)) (mCB (liftL fLen) (aCons (mVar 0) aNil)) (mC (.int 12))))) (mRet (mC (.bl false))) mNext)
    (mSeq (mFor (mIter (mVar 0)) (gSet 1) (mIfS (mTest (mOp (mIn true) (mVar 1) (mC (.str "abcdefghijklmnopqrstuvwxyz")))) (mRet (mC (.bl false))) mNext))
    (mRet (mC (.bl true)))))
noncomputable def f_law_is_name (E : En) : MF := funOf 2 (m_law_is_name E)
noncomputable def m_law_products_due (E : En) : MS :=
  (mSeq (mIfS (mNot (mTest (mChain (lift2 fLe) (lift2 fLe) (mC (.int 1)) (mCB (liftL fLen) (aCons (mVar 0) aNil)) (mC (.int 6))))) (mRet (mC (.str "market"))) mNext)
    (mSeq (mOwn 1 (nLst aNil))
    (mSeq (mFor (mIter (mVar 0)) (gTupF [(gSet 2), (gSet 3), (gSet 4), (gSet 5), (gSet 6)]) (mSeq (mIfS (mOr (mNot (mTest (mCall 1 (f_law_is_name E) [] (aCons (mVar 2) aNil)))) (mNot (mTest (mCall 1 (f_law_is_name E) [] (aCons (mVar 3) aNil))))) (mRet (mC (.str "market"))) mNext)
    (mSeq (mIfS (mTest (mOp (mIn false) (mVar 2) (mVar 1))) (mRet (mC (.str "duplicate"))) mNext)
    (mSeq (mIfS (mOr (mTest (mOp (lift2 fLe) (mOp (lift2 fIx) (mVar 4) (mC (.int 0))) (mC (.int 0)))) (mOr (mTest (mOp (lift2 fLe) (mOp (lift2 fIx) (mVar 5) (mC (.int 0))) (mC (.int 0)))) (mTest (mOp (lift2 fLt) (mOp (lift2 fIx) (mVar 6) (mC (.int 0))) (mC (.int 0)))))) (mRet (mC (.str "market"))) mNext)
    (mDrop (mBM "list" fAppend (mVar 1) (aCons (mVar 2) aNil)))))))
    (mRet (mC (.str "none"))))))
noncomputable def f_law_products_due (E : En) : MF := funOf 7 (m_law_products_due E)
noncomputable def m_law_due (E : En) : MS :=
  (mSeq (mIfS (mTest (mOp (mNe) (mCall 1 (f_law_products_due E) [] (aCons (mVar 0) aNil)) (mC (.str "none")))) (mRet (mCall 1 (f_law_products_due E) [] (aCons (mVar 0) aNil))) mNext)
    (mSeq (mAsg (mFrz (nLc (mIter (mVar 0)) (gSet 3) (fun S => .ok true S) (mOp (lift2 fIx) (mVar 3) (mC (.int 0))) [3])) (gSet 2))
    (mSeq (mAsg (mLst aNil) (gSet 4))
    (mSeq (mFor (mIter (mVar 1)) (gTupF [(gSet 5), (gSet 6), (gSet 7)]) (mSeq (mIfS (mOr (mTest (mOp (mIn true) (mVar 5) (mVar 2))) (mTest (mOp (mIn true) (mVar 6) (mVar 2)))) (mRet (mC (.str "unknown"))) mNext)
    (mSeq (mIfS (mOr (mTest (mOp (mEq) (mVar 5) (mVar 6))) (mTest (mOp (lift2 fLe) (mOp (lift2 fIx) (mVar 7) (mC (.int 0))) (mC (.int 0))))) (mRet (mC (.str "market"))) mNext)
    (mSeq (mIfS (mTest (mOp (mIn false) (mTup (aCons (mVar 5) (aCons (mVar 6) aNil))) (mVar 4))) (mRet (mC (.str "duplicate"))) mNext)
    (mAsg (mOp (lift2 fAdd) (mVar 4) (mLst (aCons (mTup (aCons (mVar 5) (aCons (mVar 6) aNil))) (aCons (mTup (aCons (mVar 6) (aCons (mVar 5) aNil))) aNil)))) (gSet 4))))))
    (mSeq (mFor (mIter (mVar 0)) (gTupF [(gSet 8), (gSet 9), (gSet 10), (gSet 11), (gSet 12)]) (mSeq (mAsg (mTup (aCons (mC (.int 0)) (aCons (mC (.int 1)) aNil))) (gSet 13))
    (mSeq (mFor (mIter (mVar 1)) (gSet 3) (mIfS (mTest (mOp (mIn false) (mVar 8) (mSl (mVar 3) mNoPart (mPart (mC (.int 2)))))) (mAsg (mCall 2 (f_law_add E) [] (aCons (mVar 13) (aCons (mOp (lift2 fIx) (mVar 3) (mC (.int 2))) aNil))) (gSet 13)) mNext))
    (mIfS (mNot (mTest (mCall 2 (f_law_less E) [] (aCons (mVar 13) (aCons (mVar 11) aNil))))) (mRet (mC (.str "market"))) mNext))))
    (mRet (mC (.str "none"))))))))
noncomputable def f_law_due (E : En) : MF := funOf 14 (m_law_due E)
noncomputable def m_pair (E : En) : MS :=
  (mSeq (mIfS (mTest (mOp (lift2 fLt) (mVar 0) (mVar 1))) (mRet (mTup (aCons (mVar 0) (aCons (mVar 1) aNil)))) mNext)
    (mRet (mTup (aCons (mVar 1) (aCons (mVar 0) aNil)))))
noncomputable def f_pair (E : En) : MF := funOf 2 (m_pair E)
noncomputable def m_Market_cross (E : En) : MS :=
  (mRet (mDGet2 (mFld "Market" "_crosses" (mVar 0)) (mCall 2 (f_pair E) [] (aCons (mVar 1) (aCons (mVar 2) aNil))) (mC (.tup ([0, 1].map .int)))))
noncomputable def f_Market_cross (E : En) : MF := funOf 3 (m_Market_cross E)
noncomputable def f_sub (E : En) : MF := brg E "none" (R_sub)
noncomputable def m_Market_slopes (E : En) : MS :=
  (mSeq (mAsg (mCall 2 (f_sub E) [] (aCons (mC (.tup ([0, 1].map .int))) (aCons (mOp (lift2 fIx) (mOp dGet (mFld "Market" "_table" (mVar 0)) (mVar 1)) (mC (.int 3))) aNil))) (gSet 2))
    (mRet (mFrz (nLc (mKeys (mFld "Market" "_table" (mVar 0))) (gSet 3) (fun S => .ok true S) (mIf (mTest (mOp (mEq) (mVar 3) (mVar 1))) (mVar 2) (mMeth "Market" "cross" 3 (f_Market_cross E) (mVar 0) (aCons (mVar 1) (aCons (mVar 3) aNil)))) [3]))))
noncomputable def f_Market_slopes (E : En) : MF := funOf 4 (m_Market_slopes E)
noncomputable def f_sign (E : En) : MF := brg E "none" (R_sign)
noncomputable def m_crosses_by_pair (E : En) : MS :=
  (mSeq (mAsg (mCell nDt) (gSet 2))
    (mSeq (mFor (mIter (mVar 0)) (gTupF [(gSet 3), (gSet 4), (gSet 5)]) (mSeq (mIfS (mOr (mTest (mOp (dIn true) (mVar 3) (mVar 1))) (mTest (mOp (dIn true) (mVar 4) (mVar 1)))) (mRaise1 "UnknownName" (mFstr [.e (mVar 3), .s " or ", .e (mVar 4), .s " is no product"])) mNext)
    (mSeq (mIfS (mTest (mOp (mEq) (mVar 3) (mVar 4))) (mRaise1 "InvalidMarket" (mFstr [.e (mVar 3), .s " is no rival of its own"])) mNext)
    (mSeq (mIfS (mTest (mOp (lift2 fLt) (mCall 1 (f_sign E) [] (aCons (mVar 5) aNil)) (mC (.int 1)))) (mRaise1 "InvalidMarket" (mFstr [.s "the cross of ", .e (mVar 3), .s " and ", .e (mVar 4), .s " is not above 0"])) mNext)
    (mSeq (mAsg (mCall 2 (f_pair E) [] (aCons (mVar 3) (aCons (mVar 4) aNil))) (gSet 6))
    (mSeq (mIfS (mTest (mOp (dIn false) (mVar 6) (mVar 2))) (mRaise1 "DuplicateName" (mFstr [.e (mVar 3), .s " and ", .e (mVar 4), .s " are rivals already"])) mNext)
    (mPut (mVar 5) (mVar 2) (mVar 6))))))))
    (mRet (mVar 2))))
noncomputable def f_crosses_by_pair (E : En) : MF := funOf 7 (m_crosses_by_pair E)
noncomputable def m_is_name (E : En) : MS :=
  (mSeq (mIfS (mOr (mNot (mTest (mCB (liftL fIsi) (aCons (mVar 0) (aCons (mC (.ty "str")) aNil))))) (mNot (mTest (mChain (lift2 fLe) (lift2 fLe) (mC (.int 1)) (mCB (liftL fLen) (aCons (mVar 0) aNil)) (mC (.int 12)))))) (mRet (mC (.bl false))) mNext)
    (mRet (mCB (liftL fAll) (aCons (mFrz (nLc (mIter (mVar 0)) (gSet 1) (fun S => .ok true S) (mOp (mIn false) (mVar 1) (mC (.str "abcdefghijklmnopqrstuvwxyz"))) [1])) aNil))))
noncomputable def f_is_name (E : En) : MF := funOf 2 (m_is_name E)
noncomputable def m_products_by_name (E : En) : MS :=
  (mSeq (mIfS (mNot (mTest (mChain (lift2 fLe) (lift2 fLe) (mC (.int 1)) (mCB (liftL fLen) (aCons (mVar 0) aNil)) (mC (.int 6))))) (mRaise "InvalidMarket") mNext)
    (mSeq (mAsg (mCell nDk) (gSet 1))
    (mSeq (mFor (mIter (mVar 0)) (gTupF [(gSet 2), (gSet 3), (gSet 4), (gSet 5), (gSet 6)]) (mSeq (mIfS (mOr (mNot (mTest (mCall 1 (f_is_name E) [] (aCons (mVar 2) aNil)))) (mNot (mTest (mCall 1 (f_is_name E) [] (aCons (mVar 3) aNil))))) (mRaise "InvalidMarket") mNext)
    (mSeq (mIfS (mTest (mOp (dIn false) (mVar 2) (mVar 1))) (mRaise1 "DuplicateName" (mFstr [.e (mVar 2), .s " is there already"])) mNext)
    (mSeq (mIfS (mOr (mTest (mOp (lift2 fLt) (mCall 1 (f_sign E) [] (aCons (mVar 4) aNil)) (mC (.int 1)))) (mOr (mTest (mOp (lift2 fLt) (mCall 1 (f_sign E) [] (aCons (mVar 5) aNil)) (mC (.int 1)))) (mTest (mOp (lift2 fLt) (mCall 1 (f_sign E) [] (aCons (mVar 6) aNil)) (mC (.int 0)))))) (mRaise1 "InvalidMarket" (mFstr [.s "a ratio of ", .e (mVar 2), .s " is out of range"])) mNext)
    (mPut (mTup (aCons (mVar 2) (aCons (mVar 3) (aCons (mVar 4) (aCons (mVar 5) (aCons (mVar 6) aNil)))))) (mVar 1) (mVar 2))))))
    (mRet (mVar 1)))))
noncomputable def f_products_by_name (E : En) : MF := funOf 7 (m_products_by_name E)
noncomputable def f_is_dominant (E : En) : MF := brg E "none" (R_is_dominant)
noncomputable def m_Market_init (E : En) : MS :=
  (mSeq (mAsg (mCall 1 (f_products_by_name E) [] (aCons (mVar 1) aNil)) (gSet 3))
    (mSeq (mSetF "Market" "_crosses" (mCall 2 (f_crosses_by_pair E) [] (aCons (mVar 2) (aCons (mVar 3) aNil))) (mVar 0))
    (mSeq (mSetF "Market" "_table" (mFz (nDc (mIter (mCB (liftL fSorted) (aCons (mVar 3) aNil))) (gSet 4) (fun S => .ok true S) (mVar 4) (mOp dGet (mVar 3) (mVar 4)) [4])) (mVar 0))
    (mSeq (mSetF "Market" "products" (mListVals (mFld "Market" "_table" (mVar 0))) (mVar 0))
    (mIfS (mNot (mTest (mCall 1 (f_is_dominant E) [] (aCons (mFrz (nLc (mKeys (mFld "Market" "_table" (mVar 0))) (gSet 4) (fun S => .ok true S) (mMeth "Market" "_slopes" 2 (f_Market_slopes E) (mVar 0) (aCons (mVar 4) aNil)) [4])) aNil)))) (mRaise "InvalidMarket") mNext)))))
noncomputable def f_Market_init (E : En) : MF := funOf 5 (m_Market_init E)
noncomputable def m_law_error (E : En) : MS :=
  (mSeq (mTryM [(em_InvalidMarket, (mRet (mC (.str "market")))), (em_DuplicateName, (mRet (mC (.str "duplicate")))), (em_UnknownName, (mRet (mC (.str "unknown"))))] (mDrop (mMake "Market" 3 (f_Market_init E) (aCons (mVar 0) (aCons (mVar 1) aNil)))))
    (mRet (mC (.str "none"))))
noncomputable def f_law_error (E : En) : MF := funOf 2 (m_law_error E)
noncomputable def m_law_words (E : En) : MS :=
  (mSeq (mAsg (mC (.str "abcdefghijklmnopqrstuvwxyz")) (gSet 1))
    (mSeq (mAsg (mC (.str "")) (gSet 2))
    (mSeq (mFor (mRange1 (aCons (mOp (lift2 fMod) (mCB (liftL fInt) (aCons (mVar 0) aNil)) (mC (.int 12))) aNil)) (gSet 3) (mAsg (mOp (lift2 fAdd) (mVar 2) (mOp (lift2 fIx) (mVar 1) (mOp (lift2 fMod) (mOp (lift2 fAdd) (mOp (lift2 fDiv) (mCB (liftL fInt) (aCons (mVar 0) aNil)) (mOp (lift2 fAdd) (mC (.int 12)) (mVar 3))) (mOp (lift2 fMul) (mC (.int 5)) (mVar 3))) (mC (.int 26))))) (gSet 2)))
    (mSeq (mAsg (mOp (lift2 fMod) (mOp (lift2 fDiv) (mCB (liftL fInt) (aCons (mVar 0) aNil)) (mC (.int 7))) (mOp (lift2 fAdd) (mCB (liftL fLen) (aCons (mVar 2) aNil)) (mC (.int 1)))) (gSet 4))
    (mSeq (mAsg (mOp (lift2 fMod) (mOp (lift2 fDiv) (mCB (liftL fInt) (aCons (mVar 0) aNil)) (mC (.int 100))) (mC (.int 26))) (gSet 5))
    (mRet (mCB (liftL fSortedL) (aCons (mFrz (nLc (mRange1 (aCons (mC (.int 6)) aNil)) (gSet 3) (fun S => .ok true S) (mOp (lift2 fAdd) (mOp (lift2 fAdd) (mSl (mVar 2) mNoPart (mPart (mVar 4))) (mOp (lift2 fIx) (mVar 1) (mOp (lift2 fMod) (mOp (lift2 fAdd) (mVar 5) (mOp (lift2 fMul) (mC (.int 4)) (mVar 3))) (mC (.int 26))))) (mSl (mVar 2) (mPart (mVar 4)) mNoPart)) [3])) aNil))))))))
noncomputable def f_law_words (E : En) : MF := funOf 6 (m_law_words E)
noncomputable def m_law_names (E : En) : MS :=
  (mRet (mSl (mCall 1 (f_law_words E) [] (aCons (mCall 2 (f_law_cell E) [] (aCons (mVar 0) (aCons (mC (.int 30)) aNil))) aNil)) mNoPart (mPart (mOp (lift2 fAdd) (mC (.int 1)) (mOp (lift2 fMod) (mCall 2 (f_law_cell E) [] (aCons (mVar 0) (aCons (mC (.int 0)) aNil))) (mC (.int 6)))))))
noncomputable def f_law_names (E : En) : MF := funOf 1 (m_law_names E)
noncomputable def m_law_owners (E : En) : MS :=
  (mRet (mSl (mCall 1 (f_law_words E) [] (aCons (mCall 2 (f_law_cell E) [] (aCons (mVar 0) (aCons (mC (.int 31)) aNil))) aNil)) mNoPart (mPart (mC (.int 4)))))
noncomputable def f_law_owners (E : En) : MF := funOf 1 (m_law_owners E)
noncomputable def m_law_rivalries (E : En) : MS :=
  (mSeq (mAsg (mCall 1 (f_law_names E) [] (aCons (mVar 0) aNil)) (gSet 1))
    (mSeq (mAsg (mCell (nLst aNil)) (gSet 2))
    (mSeq (mFor (mRange1 (aCons (mCB (liftL fLen) (aCons (mVar 1) aNil)) aNil)) (gSet 3) (mFor (mRange2 (aCons (mOp (lift2 fAdd) (mVar 3) (mC (.int 1))) (aCons (mCB (liftL fLen) (aCons (mVar 1) aNil)) aNil))) (gSet 4) (mSeq (mAsg (mOp (lift2 fDiv) (mCall 2 (f_law_cell E) [] (aCons (mVar 0) (aCons (mOp (lift2 fAdd) (mC (.int 1)) (mVar 3)) aNil))) (mOp (lift2 fAdd) (mC (.int 1)) (mOp (lift2 fMul) (mC (.int 3)) (mVar 4)))) (gSet 5))
    (mIfS (mTest (mOp (mNe) (mOp (lift2 fMod) (mVar 5) (mC (.int 3))) (mC (.int 0)))) (mDrop (mBM "list" fAppend (mVar 2) (aCons (mTup (aCons (mOp (lift2 fIx) (mVar 1) (mVar 3)) (aCons (mOp (lift2 fIx) (mVar 1) (mVar 4)) (aCons (mCall 2 (f_law_ratio E) [] (aCons (mOp (lift2 fAdd) (mC (.int 1)) (mOp (lift2 fMod) (mOp (lift2 fDiv) (mVar 5) (mC (.int 3))) (mC (.int 6)))) (aCons (mOp (lift2 fAdd) (mC (.int 1)) (mOp (lift2 fMod) (mOp (lift2 fDiv) (mVar 5) (mC (.int 18))) (mC (.int 3)))) aNil))) aNil)))) aNil))) mNext))))
    (mRet (mVar 2)))))
noncomputable def f_law_rivalries (E : En) : MF := funOf 6 (m_law_rivalries E)
noncomputable def m_law_products (E : En) : MS :=
  (mSeq (mAsg (mCall 1 (f_law_names E) [] (aCons (mVar 0) aNil)) (gSet 1))
    (mSeq (mAsg (mCell (nLst aNil)) (gSet 2))
    (mSeq (mFor (mRange1 (aCons (mCB (liftL fLen) (aCons (mVar 1) aNil)) aNil)) (gSet 3) (mSeq (mAsg (mCall 2 (f_law_cell E) [] (aCons (mVar 0) (aCons (mOp (lift2 fAdd) (mC (.int 6)) (mVar 3)) aNil))) (gSet 4))
    (mSeq (mAsg (mTup (aCons (mC (.int 0)) (aCons (mC (.int 1)) aNil))) (gSet 5))
    (mSeq (mFor (mIter (mCall 1 (f_law_rivalries E) [] (aCons (mVar 0) aNil))) (gTupF [(gSet 6), (gSet 7), (gSet 8)]) (mIfS (mTest (mOp (mIn false) (mOp (lift2 fIx) (mVar 1) (mVar 3)) (mTup (aCons (mVar 6) (aCons (mVar 7) aNil))))) (mAsg (mCall 2 (f_law_add E) [] (aCons (mVar 5) (aCons (mVar 8) aNil))) (gSet 5)) mNext))
    (mSeq (mAsg (mCall 2 (f_law_add E) [] (aCons (mVar 5) (aCons (mCall 2 (f_law_ratio E) [] (aCons (mOp (lift2 fAdd) (mC (.int 1)) (mOp (lift2 fMod) (mVar 4) (mC (.int 5)))) (aCons (mOp (lift2 fAdd) (mC (.int 1)) (mOp (lift2 fMod) (mOp (lift2 fDiv) (mVar 4) (mC (.int 5))) (mC (.int 3)))) aNil))) aNil))) (gSet 9))
    (mSeq (mAsg (mOp (lift2 fIx) (mCall 1 (f_law_owners E) [] (aCons (mVar 0) aNil)) (mOp (lift2 fMod) (mOp (lift2 fDiv) (mVar 4) (mC (.int 15))) (mC (.int 4)))) (gSet 10))
    (mSeq (mAsg (mCall 2 (f_law_ratio E) [] (aCons (mOp (lift2 fMod) (mOp (lift2 fDiv) (mVar 4) (mC (.int 60))) (mC (.int 9))) (aCons (mOp (lift2 fAdd) (mC (.int 1)) (mOp (lift2 fMod) (mOp (lift2 fDiv) (mVar 4) (mC (.int 540))) (mC (.int 2)))) aNil))) (gSet 11))
    (mDrop (mBM "list" fAppend (mVar 2) (aCons (mTup (aCons (mOp (lift2 fIx) (mVar 1) (mVar 3)) (aCons (mVar 10) (aCons (mCall 2 (f_law_ratio E) [] (aCons (mOp (lift2 fAdd) (mC (.int 20)) (mOp (lift2 fMod) (mOp (lift2 fDiv) (mVar 4) (mC (.int 7))) (mC (.int 90)))) (aCons (mOp (lift2 fAdd) (mC (.int 1)) (mOp (lift2 fMod) (mOp (lift2 fDiv) (mVar 4) (mC (.int 11))) (mC (.int 4)))) aNil))) (aCons (mVar 9) (aCons (mVar 11) aNil)))))) aNil))))))))))
    (mRet (mVar 2)))))
noncomputable def f_law_products (E : En) : MF := funOf 12 (m_law_products E)
noncomputable def m_law_spoil (E : En) : MS :=
  (mSeq (mAsg (mOp (lift2 fMod) (mCB (liftL fInt) (aCons (mVar 2) aNil)) (mC (.int 10))) (gSet 3))
    (mSeq (mAsg (mOp (lift2 fMod) (mOp (lift2 fDiv) (mCB (liftL fInt) (aCons (mVar 2) aNil)) (mC (.int 10))) (mCB (liftL fLen) (aCons (mVar 0) aNil))) (gSet 4))
    (mSeq (mAsg (mOp (lift2 fMod) (mOp (lift2 fDiv) (mCB (liftL fInt) (aCons (mVar 2) aNil)) (mC (.int 60))) (mCB (liftL fLen) (aCons (mVar 0) aNil))) (gSet 5))
    (mSeq (mAsg (mOp (lift2 fIx) (mVar 0) (mVar 4)) (gSet 6))
    (mSeq (mIfS (mTest (mOp (mEq) (mVar 3) (mC (.int 0)))) (mAsg (mOp (lift2 fAdd) (mTup (aCons (mC (.str "Bad")) aNil)) (mSl (mVar 6) (mPart (mC (.int 1))) mNoPart)) (gSet 6)) (mIfS (mTest (mOp (mEq) (mVar 3) (mC (.int 1)))) (mAsg (mOp (lift2 fAdd) (mOp (lift2 fAdd) (mSl (mVar 6) mNoPart (mPart (mC (.int 1)))) (mTup (aCons (mC (.str "")) aNil))) (mSl (mVar 6) (mPart (mC (.int 2))) mNoPart)) (gSet 6)) (mIfS (mTest (mOp (mEq) (mVar 3) (mC (.int 2)))) (mAsg (mOp (lift2 fAdd) (mOp (lift2 fAdd) (mSl (mVar 6) mNoPart (mPart (mC (.int 2)))) (mTup (aCons (mTup (aCons (mC (.int 0)) (aCons (mC (.int 1)) aNil))) aNil))) (mSl (mVar 6) (mPart (mC (.int 3))) mNoPart)) (gSet 6)) (mIfS (mTest (mOp (mEq) (mVar 3) (mC (.int 3)))) (mAsg (mOp (lift2 fAdd) (mSl (mVar 6) mNoPart (mPart (mC (.int 4)))) (mTup (aCons (mTup (aCons (mOp (lift2 fSub) (mC (.int 0)) (mC (.int 1))) (aCons (mC (.int 2)) aNil))) aNil))) (gSet 6)) (mIfS (mTest (mOp (mEq) (mVar 3) (mC (.int 4)))) (mAsg (mOp (lift2 fAdd) (mTup (aCons (mOp (lift2 fIx) (mOp (lift2 fIx) (mVar 0) (mVar 5)) (mC (.int 0))) aNil)) (mSl (mVar 6) (mPart (mC (.int 1))) mNoPart)) (gSet 6)) (mIfS (mTest (mOp (mEq) (mVar 3) (mC (.int 5)))) (mDrop (mBM "list" fInsert (mVar 1) (aCons (mOp (lift2 fMod) (mOp (lift2 fDiv) (mCB (liftL fInt) (aCons (mVar 2) aNil)) (mC (.int 360))) (mOp (lift2 fAdd) (mCB (liftL fLen) (aCons (mVar 1) aNil)) (mC (.int 1)))) (aCons (mTup (aCons (mOp (lift2 fIx) (mVar 6) (mC (.int 0))) (aCons (mC (.str "strange")) (aCons (mTup (aCons (mC (.int 1)) (aCons (mC (.int 2)) aNil))) aNil)))) aNil)))) (mIfS (mTest (mOp (mEq) (mVar 3) (mC (.int 6)))) (mDrop (mBM "list" fInsert (mVar 1) (aCons (mOp (lift2 fMod) (mOp (lift2 fDiv) (mCB (liftL fInt) (aCons (mVar 2) aNil)) (mC (.int 360))) (mOp (lift2 fAdd) (mCB (liftL fLen) (aCons (mVar 1) aNil)) (mC (.int 1)))) (aCons (mTup (aCons (mOp (lift2 fIx) (mVar 6) (mC (.int 0))) (aCons (mOp (lift2 fIx) (mVar 6) (mC (.int 0))) (aCons (mTup (aCons (mC (.int 1)) (aCons (mC (.int 2)) aNil))) aNil)))) aNil)))) (mIfS (mTest (mOp (mEq) (mVar 3) (mC (.int 7)))) (mDrop (mBM "list" fInsert (mVar 1) (aCons (mOp (lift2 fMod) (mOp (lift2 fDiv) (mCB (liftL fInt) (aCons (mVar 2) aNil)) (mC (.int 360))) (mOp (lift2 fAdd) (mCB (liftL fLen) (aCons (mVar 1) aNil)) (mC (.int 1)))) (aCons (mTup (aCons (mOp (lift2 fIx) (mVar 6) (mC (.int 0))) (aCons (mOp (lift2 fIx) (mOp (lift2 fIx) (mVar 0) (mVar 5)) (mC (.int 0))) (aCons (mTup (aCons (mC (.int 1)) (aCons (mC (.int 2)) aNil))) aNil)))) aNil)))) (mIfS (mTest (mOp (mEq) (mVar 3) (mC (.int 8)))) (mDrop (mBM "list" fInsert (mVar 1) (aCons (mOp (lift2 fMod) (mOp (lift2 fDiv) (mCB (liftL fInt) (aCons (mVar 2) aNil)) (mC (.int 360))) (mOp (lift2 fAdd) (mCB (liftL fLen) (aCons (mVar 1) aNil)) (mC (.int 1)))) (aCons (mTup (aCons (mOp (lift2 fIx) (mVar 6) (mC (.int 0))) (aCons (mOp (lift2 fIx) (mOp (lift2 fIx) (mVar 0) (mVar 5)) (mC (.int 0))) (aCons (mTup (aCons (mC (.int 0)) (aCons (mC (.int 1)) aNil))) aNil)))) aNil)))) (mAsg (mOp (lift2 fAdd) (mOp (lift2 fAdd) (mSl (mVar 6) mNoPart (mPart (mC (.int 3)))) (mTup (aCons (mTup (aCons (mC (.int 1)) (aCons (mC (.int 100)) aNil))) aNil))) (mSl (mVar 6) (mPart (mC (.int 4))) mNoPart)) (gSet 6)))))))))))
    (mSetIx (mVar 6) (mVar 0) (mVar 4)))))))
noncomputable def f_law_spoil (E : En) : MF := funOf 7 (m_law_spoil E)
noncomputable def m_law (E : En) : MS :=
  (mSeq (mFor (mIter (mTup (aCons (mC (.int 12)) (aCons (mC (.int 15)) (aCons (mC (.int 18)) (aCons (mC (.int 21)) aNil)))))) (gSet 1) (mSeq (mAsg (mCall 1 (f_law_products E) [] (aCons (mVar 0) aNil)) (gSet 2))
    (mSeq (mAsg (mCall 1 (f_law_rivalries E) [] (aCons (mVar 0) aNil)) (gSet 3))
    (mSeq (mFor (mRange1 (aCons (mOp (lift2 fAdd) (mC (.int 2)) (mOp (lift2 fMod) (mCall 2 (f_law_cell E) [] (aCons (mVar 0) (aCons (mVar 1) aNil))) (mC (.int 2)))) aNil)) (gSet 4) (mDrop (mCall 3 (f_law_spoil E) [] (aCons (mVar 2) (aCons (mVar 3) (aCons (mOp (lift2 fDiv) (mCall 2 (f_law_cell E) [] (aCons (mVar 0) (aCons (mOp (lift2 fAdd) (mVar 1) (mVar 4)) aNil))) (mC (.int 2))) aNil))))))
    (mIfS (mTest (mOp (mNe) (mCall 2 (f_law_error E) [] (aCons (mVar 2) (aCons (mVar 3) aNil))) (mCall 2 (f_law_due E) [] (aCons (mVar 2) (aCons (mVar 3) aNil))))) (mRet (mC (.bl false))) mNext)))))
    (mRet (mC (.bl true))))
noncomputable def f_law (E : En) : MF := funOf 5 (m_law E)
end RSk32

set_option Elab.async false
set_option linter.all false
set_option maxRecDepth 100000
set_option maxHeartbeats 4000000

namespace RSk32
open PySem PySem.Spec PyProof.Rows L2 RS RPk32
section
variable {P : Program} {w : World} {K : PySem.W.Frag} {mg : Str → Option Value} {base : Heap}
theorem fk_law_cell (T : Txt K mg) : FnOk P w K mg base (L2.CX P w) 1 T.a_law_cell T.fd_law_cell ["script", "k"] (spS (mkE T) 2 (f_law_cell (mkE T))) := by
  refine T.F_law_cell.okX sc_law_cell (spS_len rfl) (fun cdv A outer s H vs Q Ek hr h => ?_)
  obtain ⟨t, h1, h2⟩ : QSs (cxOf (L2.CX P w) P w K mg base ["script", "k"] "_law_cell" (defScope s_law_cell) T.a_law_cell cdv A outer s H Ek) (mkE T) (fun c d _ H => Ek c d H) (defBody s_law_cell) (m_law_cell (mkE T)) := (qss_cons (qs_if (qt_cmp (oq_lt) (q_var 1) (q_cb (cb_len rfl) (by rfl) T.m_len (by decide +kernel) (qa_cons (q_var 0) qa_nil)) (nomark _)) (qss_one (qs_ret (q_ct (cb_int) (by rfl) T.m_int (by decide +kernel) (qa_cons (q_ix (iq_seq rfl) (q_var 0) (q_var 1) (fun _ _ => rfl)) qa_nil)))) qss_nil)
      (qss_one (qs_ret (q_op (oq_add rfl) (q_op (oq_mul) q_int (q_var 1)) q_int))))
  exact ⟨t, h1, body_ok h h2⟩
theorem fk_law_ratio (T : Txt K mg) : FnOk P w K mg base (L2.CX P w) 1 T.a_law_ratio T.fd_law_ratio ["n", "d"] (spS (mkE T) 2 (f_law_ratio (mkE T))) := by
  refine T.F_law_ratio.okX sc_law_ratio (spS_len rfl) (fun cdv A outer s H vs Q Ek hr h => ?_)
  obtain ⟨t, h1, h2⟩ : QSs (cxOf (L2.CX P w) P w K mg base ["n", "d", "a", "b"] "_law_ratio" (defScope s_law_ratio) T.a_law_ratio cdv A outer s H Ek) (mkE T) (fun c d _ H => Ek c d H) (defBody s_law_ratio) (m_law_ratio (mkE T)) := (qss_cons (qs_set (i := 2) sc_law_ratio.nd rfl (Or.inl rfl) (q_cb (cb_abs) (by rfl) T.m_abs (by decide +kernel) (qa_cons (q_var 0) qa_nil)))
      (qss_cons (qs_set (i := 3) sc_law_ratio.nd rfl (Or.inl rfl) (q_cb (cb_abs) (by rfl) T.m_abs (by decide +kernel) (qa_cons (q_var 1) qa_nil)))
      (qss_cons (qs_while (passes_of rfl) (qt_cmp (oq_gt) (q_var 3) q_int (nomark _)) (qss_one (qs_par (i := 2) (j := 3) (by rfl) sc_law_ratio.nd rfl rfl (by decide) rfl rfl (qa_cons (q_var 3) (qa_cons (q_op (oq_mod) (q_ct (cb_int) (by rfl) T.m_int (by decide +kernel) (qa_cons (q_var 2) qa_nil)) (q_var 3)) qa_nil)) (by rfl))))
      (qss_cons (qs_if (qt_cmp (oq_lt) (q_var 1) q_int (nomark _)) (qss_one (qs_set (i := 2) sc_law_ratio.nd rfl (Or.inl rfl) (q_op (oq_sub) q_int (q_var 2)))) qss_nil)
      (qss_one (qs_ret (q_tup (qa_cons (q_op (oq_div) (q_var 0) (q_var 2)) (qa_cons (q_op (oq_div) (q_var 1) (q_var 2)) qa_nil)))))))))
  exact ⟨t, h1, body_ok h h2⟩
theorem fk_law_add (T : Txt K mg) : FnOk P w K mg base (L2.CX P w) 2 T.a_law_add T.fd_law_add ["x", "y"] (spS (mkE T) 2 (f_law_add (mkE T))) := by
  refine T.F_law_add.okX sc_law_add (spS_len rfl) (fun cdv A outer s H vs Q Ek hr h => ?_)
  obtain ⟨t, h1, h2⟩ : QSs (cxOf (L2.CX P w) P w K mg base ["x", "y"] "_law_add" (defScope s_law_add) T.a_law_add cdv A outer s H Ek) (mkE T) (fun c d _ H => Ek c d H) (defBody s_law_add) (m_law_add (mkE T)) := (qss_one (qs_ret (q_call (fk_law_ratio T) (hr.mono (by decide)) rfl T.g_law_ratio T.F_law_ratio.kp T.b_law_ratio .nil (fun _ => .nil) (takes_of rfl rfl rfl rfl) (qa_cons (q_op (oq_add rfl) (q_op (oq_mul) (q_ix (iq_seq rfl) (q_var 0) q_int (fun _ _ => rfl)) (q_ix (iq_seq rfl) (q_var 1) q_int (fun _ _ => rfl))) (q_op (oq_mul) (q_ix (iq_seq rfl) (q_var 1) q_int (fun _ _ => rfl)) (q_ix (iq_seq rfl) (q_var 0) q_int (fun _ _ => rfl)))) (qa_cons (q_op (oq_mul) (q_ix (iq_seq rfl) (q_var 0) q_int (fun _ _ => rfl)) (q_ix (iq_seq rfl) (q_var 1) q_int (fun _ _ => rfl))) qa_nil)))))
  exact ⟨t, h1, body_ok h h2⟩
theorem fk_law_less (T : Txt K mg) : FnOk P w K mg base (L2.CX P w) 1 T.a_law_less T.fd_law_less ["x", "y"] (spS (mkE T) 2 (f_law_less (mkE T))) := by
  refine T.F_law_less.okX sc_law_less (spS_len rfl) (fun cdv A outer s H vs Q Ek hr h => ?_)
  obtain ⟨t, h1, h2⟩ : QSs (cxOf (L2.CX P w) P w K mg base ["x", "y"] "_law_less" (defScope s_law_less) T.a_law_less cdv A outer s H Ek) (mkE T) (fun c d _ H => Ek c d H) (defBody s_law_less) (m_law_less (mkE T)) := (qss_one (qs_ret (q_cmp (oq_lt) (q_op (oq_mul) (q_ix (iq_seq rfl) (q_var 0) q_int (fun _ _ => rfl)) (q_ix (iq_seq rfl) (q_var 1) q_int (fun _ _ => rfl))) (q_op (oq_mul) (q_ix (iq_seq rfl) (q_var 1) q_int (fun _ _ => rfl)) (q_ix (iq_seq rfl) (q_var 0) q_int (fun _ _ => rfl))) (nomark _))))
  exact ⟨t, h1, body_ok h h2⟩
theorem fk_law_is_name (T : Txt K mg) : FnOk P w K mg base (L2.CX P w) 1 T.a_law_is_name T.fd_law_is_name ["word"] (spS (mkE T) 1 (f_law_is_name (mkE T))) := by
  refine T.F_law_is_name.okX sc_law_is_name (spS_len rfl) (fun cdv A outer s H vs Q Ek hr h => ?_)
  obtain ⟨t, h1, h2⟩ : QSs (cxOf (L2.CX P w) P w K mg base ["word", "sign_v"] "_law_is_name" (defScope s_law_is_name) T.a_law_is_name cdv A outer s H Ek) (mkE T) (fun c d _ H => Ek c d H) (defBody s_law_is_name) (m_law_is_name (mkE T)) := (qss_cons (qs_if (qt_not (qt_chain (oq_le) (oq_le) q_int (q_cb (cb_len rfl) (by rfl) T.m_len (by decide +kernel) (qa_cons (q_var 0) qa_nil)) q_int)) (qss_one (qs_ret q_bl)) qss_nil)
      (qss_cons (qs_for (passes_of rfl) rfl (qi_iter rfl (q_var 0)) (qg_name (i := 1) sc_law_is_name.nd rfl (Or.inl rfl))
      (qss_one (qs_if (qt_cmp (oq_notIn rfl (room65 hr)) (q_var 1) q_str (by with_unfolding_all rfl)) (qss_one (qs_ret q_bl)) qss_nil)))
      (qss_one (qs_ret q_bl))))
  exact ⟨t, h1, body_ok h h2⟩
theorem fk_law_products_due (T : Txt K mg) : FnOk P w K mg base (L2.CX P w) 2 T.a_law_products_due T.fd_law_products_due ["products"] (spS (mkE T) 1 (f_law_products_due (mkE T))) := by
  refine T.F_law_products_due.okX sc_law_products_due (spS_len rfl) (fun cdv A outer s H vs Q Ek hr h => ?_)
  obtain ⟨t, h1, h2⟩ : QSs (cxOf (L2.CX P w) P w K mg base ["products", "seen", "name", "owner", "base", "own", "cost"] "_law_products_due" (defScope s_law_products_due) T.a_law_products_due cdv A outer s H Ek) (mkE T) (fun c d _ H => Ek c d H) (defBody s_law_products_due) (m_law_products_due (mkE T)) := (qss_cons (qs_if (qt_not (qt_chain (oq_le) (oq_le) q_int (q_cb (cb_len rfl) (by rfl) T.m_len (by decide +kernel) (qa_cons (q_var 0) qa_nil)) q_int)) (qss_one (qs_ret q_str)) qss_nil)
      (qss_cons (qs_newO (qs_new (i := 1) sc_law_products_due.nd rfl (Or.inl rfl) (qn_lst qa_nil)))
      (qss_cons (qs_for (passes_of rfl) rfl (qi_iter rfl (q_var 0)) (qg_tup (n := 5) rfl rfl (qgs_cons (qg_name (i := 2) sc_law_products_due.nd rfl (Or.inl rfl)) (qgs_cons (qg_name (i := 3) sc_law_products_due.nd rfl (Or.inl rfl)) (qgs_cons (qg_name (i := 4) sc_law_products_due.nd rfl (Or.inl rfl)) (qgs_cons (qg_name (i := 5) sc_law_products_due.nd rfl (Or.inl rfl)) (qgs_cons (qg_name (i := 6) sc_law_products_due.nd rfl (Or.inl rfl)) qgs_nil))))) rfl)
      (qss_cons (qs_if (QW.qt (qw_or (qt_not (qt_val (q_call (fk_law_is_name T) (hr.mono (by decide)) rfl T.g_law_is_name T.F_law_is_name.kp T.b_law_is_name .nil (fun _ => .nil) (takes_of rfl rfl rfl rfl) (qa_cons (q_var 2) qa_nil)))) (qw_or1 (qt_not (qt_val (q_call (fk_law_is_name T) (hr.mono (by decide)) rfl T.g_law_is_name T.F_law_is_name.kp T.b_law_is_name .nil (fun _ => .nil) (takes_of rfl rfl rfl rfl) (qa_cons (q_var 3) qa_nil))))))) (qss_one (qs_ret q_str)) qss_nil)
      (qss_cons (qs_if (qt_cmp (oq_in rfl (room65 hr)) (q_var 2) (q_var 1) (by with_unfolding_all rfl)) (qss_one (qs_ret q_str)) qss_nil)
      (qss_cons (qs_if (QW.qt (qw_or (qt_cmp (oq_le) (q_ix (iq_seq rfl) (q_var 4) q_int (fun _ _ => rfl)) q_int (nomark _)) (qw_or (qt_cmp (oq_le) (q_ix (iq_seq rfl) (q_var 5) q_int (fun _ _ => rfl)) q_int (nomark _)) (qw_or1 (qt_cmp (oq_lt) (q_ix (iq_seq rfl) (q_var 6) q_int (fun _ _ => rfl)) q_int (nomark _)))))) (qss_one (qs_ret q_str)) qss_nil)
      (qss_one (qs_expr (q_bm rfl PySem.F.plainAttrs_list PySem.F.slot_list_append PySem.F.type_list_append mb_append (q_var 1) (qa_cons (q_var 2) qa_nil))))))))
      (qss_one (qs_ret q_str)))))
  exact ⟨t, h1, body_ok h h2⟩
theorem fk_law_due (T : Txt K mg) : FnOk P w K mg base (L2.CX P w) 3 T.a_law_due T.fd_law_due ["products", "rivalries"] (spS (mkE T) 2 (f_law_due (mkE T))) := by
  refine T.F_law_due.okX sc_law_due (spS_len rfl) (fun cdv A outer s H vs Q Ek hr h => ?_)
  obtain ⟨t, h1, h2⟩ : QSs (cxOf (L2.CX P w) P w K mg base ["products", "rivalries", "names", "row", "pairs", "one", "other", "cross", "name", "owner", "base", "own", "cost", "total"] "_law_due" (defScope s_law_due) T.a_law_due cdv A outer s H Ek) (mkE T) (fun c d _ H => Ek c d H) (defBody s_law_due) (m_law_due (mkE T)) := (qss_cons (qs_if (qt_cmp (oq_ne rfl hr.units) (q_call (fk_law_products_due T) (hr.mono (by decide)) rfl T.g_law_products_due T.F_law_products_due.kp T.b_law_products_due .nil (fun _ => .nil) (takes_of rfl rfl rfl rfl) (qa_cons (q_var 0) qa_nil)) q_str (nomark _)) (qss_one (qs_ret (q_call (fk_law_products_due T) (hr.mono (by decide)) rfl T.g_law_products_due T.F_law_products_due.kp T.b_law_products_due .nil (fun _ => .nil) (takes_of rfl rfl rfl rfl) (qa_cons (q_var 0) qa_nil)))) qss_nil)
      (qss_cons (qs_newD (qs_setLc (i := 2) (own := [("row", 3)]) rfl sc_law_due.nd rfl rfl (sw_true rfl rfl rfl (by decide +kernel)) (qi_iter rfl (q_var 0)) (blkOk_by (N := ["products", "rivalries", "names", "row", "pairs", "one", "other", "cross", "name", "owner", "base", "own", "cost", "total"]) (sc := defScope s_law_due) (by decide +kernel)) (fun _ _ _ _ _ => (qg_name (i := 3) sc_law_due.nd rfl (Or.inl rfl))) (fun _ _ _ _ _ => qts_nil) (fun _ _ _ _ _ => (q_ix (iq_seq rfl) (q_var 3) q_int (fun _ _ => rfl))) (by decide)))
      (qss_cons (qs_set (i := 4) sc_law_due.nd rfl (Or.inl rfl) (q_lst qa_nil))
      (qss_cons (qs_for (passes_of rfl) rfl (qi_iter rfl (q_var 1)) (qg_tup (n := 3) rfl rfl (qgs_cons (qg_name (i := 5) sc_law_due.nd rfl (Or.inl rfl)) (qgs_cons (qg_name (i := 6) sc_law_due.nd rfl (Or.inl rfl)) (qgs_cons (qg_name (i := 7) sc_law_due.nd rfl (Or.inl rfl)) qgs_nil))) rfl)
      (qss_cons (qs_if (QW.qt (qw_or (qt_cmp (oq_notIn rfl (room65 hr)) (q_var 5) (q_var 2) (by with_unfolding_all rfl)) (qw_or1 (qt_cmp (oq_notIn rfl (room65 hr)) (q_var 6) (q_var 2) (by with_unfolding_all rfl))))) (qss_one (qs_ret q_str)) qss_nil)
      (qss_cons (qs_if (QW.qt (qw_or (qt_cmp (oq_eq rfl hr.units) (q_var 5) (q_var 6) (nomark _)) (qw_or1 (qt_cmp (oq_le) (q_ix (iq_seq rfl) (q_var 7) q_int (fun _ _ => rfl)) q_int (nomark _))))) (qss_one (qs_ret q_str)) qss_nil)
      (qss_cons (qs_if (qt_cmp (oq_in rfl (room65 hr)) (q_tup (qa_cons (q_var 5) (qa_cons (q_var 6) qa_nil))) (q_var 4) (by with_unfolding_all rfl)) (qss_one (qs_ret q_str)) qss_nil)
      (qss_one (qs_set (i := 4) sc_law_due.nd rfl (Or.inl rfl) (q_op (oq_add rfl) (q_var 4) (q_lst (qa_cons (q_tup (qa_cons (q_var 5) (qa_cons (q_var 6) qa_nil))) (qa_cons (q_tup (qa_cons (q_var 6) (qa_cons (q_var 5) qa_nil))) qa_nil))))))))))
      (qss_cons (qs_for (passes_of rfl) rfl (qi_iter rfl (q_var 0)) (qg_tup (n := 5) rfl rfl (qgs_cons (qg_name (i := 8) sc_law_due.nd rfl (Or.inl rfl)) (qgs_cons (qg_name (i := 9) sc_law_due.nd rfl (Or.inl rfl)) (qgs_cons (qg_name (i := 10) sc_law_due.nd rfl (Or.inl rfl)) (qgs_cons (qg_name (i := 11) sc_law_due.nd rfl (Or.inl rfl)) (qgs_cons (qg_name (i := 12) sc_law_due.nd rfl (Or.inl rfl)) qgs_nil))))) rfl)
      (qss_cons (qs_set (i := 13) sc_law_due.nd rfl (Or.inl rfl) (q_tup (qa_cons q_int (qa_cons q_int qa_nil))))
      (qss_cons (qs_for (passes_of rfl) rfl (qi_iter rfl (q_var 1)) (qg_name (i := 3) sc_law_due.nd rfl (Or.inl rfl))
      (qss_one (qs_if (qt_cmp (oq_in rfl (room65 hr)) (q_var 8) (q_slice rfl (q_var 3) qo_none (qo_some q_int)) (by with_unfolding_all rfl)) (qss_one (qs_set (i := 13) sc_law_due.nd rfl (Or.inl rfl) (q_call (fk_law_add T) (hr.mono (by decide)) rfl T.g_law_add T.F_law_add.kp T.b_law_add .nil (fun _ => .nil) (takes_of rfl rfl rfl rfl) (qa_cons (q_var 13) (qa_cons (q_ix (iq_seq rfl) (q_var 3) q_int (fun _ _ => rfl)) qa_nil))))) qss_nil)))
      (qss_one (qs_if (qt_not (qt_val (q_call (fk_law_less T) (hr.mono (by decide)) rfl T.g_law_less T.F_law_less.kp T.b_law_less .nil (fun _ => .nil) (takes_of rfl rfl rfl rfl) (qa_cons (q_var 13) (qa_cons (q_var 11) qa_nil))))) (qss_one (qs_ret q_str)) qss_nil)))))
      (qss_one (qs_ret q_str)))))))
  exact ⟨t, h1, body_ok h h2⟩
theorem fk_pair (T : Txt K mg) : FnOk P w K mg base (L2.CX P w) 1 T.a_pair T.fd_pair ["one", "other"] (spS (mkE T) 2 (f_pair (mkE T))) := by
  refine T.F_pair.okX sc_pair (spS_len rfl) (fun cdv A outer s H vs Q Ek hr h => ?_)
  obtain ⟨t, h1, h2⟩ : QSs (cxOf (L2.CX P w) P w K mg base ["one", "other"] "_pair" (defScope s_pair) T.a_pair cdv A outer s H Ek) (mkE T) (fun c d _ H => Ek c d H) (defBody s_pair) (m_pair (mkE T)) := (qss_cons (qs_if (qt_cmp (oq_lt) (q_var 0) (q_var 1) (nomark _)) (qss_one (qs_ret (q_tup (qa_cons (q_var 0) (qa_cons (q_var 1) qa_nil))))) qss_nil)
      (qss_one (qs_ret (q_tup (qa_cons (q_var 1) (qa_cons (q_var 0) qa_nil))))))
  exact ⟨t, h1, body_ok h h2⟩
theorem fk_Market_cross (T : Txt K mg) : FnOk P w K mg base (L2.CX P w) 2 T.a_Market_cross T.fd_Market_cross ["self", "one", "other"] (spS (mkE T) 3 (f_Market_cross (mkE T))) := by
  refine T.F_Market_cross.okX sc_Market_cross (spS_len rfl) (fun cdv A outer s H vs Q Ek hr h => ?_)
  obtain ⟨t, h1, h2⟩ : QSs (cxOf (L2.CX P w) P w K mg base ["self", "one", "other"] "Market.cross" (defScope s_Market_cross) T.a_Market_cross cdv A outer s H Ek) (mkE T) (fun c d _ H => Ek c d H) (defBody s_Market_cross) (m_Market_cross (mkE T)) := (qss_one (qs_ret (q_dget2 rfl (hu_of hr) (q_fld (c := "Market") rfl (ks_Market T) (nf_Market_crosses T) (q_var 0)) (q_call (fk_pair T) (hr.mono (by decide)) rfl T.g_pair T.F_pair.kp T.b_pair .nil (fun _ => .nil) (takes_of rfl rfl rfl rfl) (qa_cons (q_var 1) (qa_cons (q_var 2) qa_nil))) (q_glob (v := .ref T.z_ZERO) rfl T.c_ZERO rfl (fun Γ => .ktup (T.s_ZERO Γ.g))))))
  exact ⟨t, h1, body_ok h h2⟩
theorem fk_sub (T : Txt K mg) : FnOk P w K mg base (L2.CX P w) 2 T.a_sub T.fd_sub ["a", "b"] (spS (mkE T) 2 (f_sub (mkE T))) := by
  have h := ok_sub (P := P) (w := w) (base := base) T
  exact brg_ok (E := mkE T) "none" h
theorem fk_Market_slopes (T : Txt K mg) : FnOk P w K mg base (L2.CX P w) 3 T.a_Market_slopes T.fd_Market_slopes ["self", "name"] (spS (mkE T) 2 (f_Market_slopes (mkE T))) := by
  refine T.F_Market_slopes.okX sc_Market_slopes (spS_len rfl) (fun cdv A outer s H vs Q Ek hr h => ?_)
  obtain ⟨t, h1, h2⟩ : QSs (cxOf (L2.CX P w) P w K mg base ["self", "name", "fall", "other"] "Market._slopes" (defScope s_Market_slopes) T.a_Market_slopes cdv A outer s H Ek) (mkE T) (fun c d _ H => Ek c d H) (defBody s_Market_slopes) (m_Market_slopes (mkE T)) := (qss_cons (qs_set (i := 2) sc_Market_slopes.nd rfl (Or.inr rfl) (q_call (fk_sub T) (hr.mono (by decide)) rfl T.g_sub T.F_sub.kp T.b_sub .nil (fun _ => .nil) (takes_of rfl rfl rfl rfl) (qa_cons (q_glob (v := .ref T.z_ZERO) rfl T.c_ZERO rfl (fun Γ => .ktup (T.s_ZERO Γ.g))) (qa_cons (q_ix (iq_seq rfl) (q_dgetI rfl (hu_of hr) (q_fld (c := "Market") rfl (ks_Market T) (nf_Market_table T) (q_var 0)) (q_var 1)) (q_glob (v := .int 3) rfl T.c_OWN ⟨_, rfl⟩ (fun _ => .int _)) (fun _ _ => rfl)) qa_nil))))
      (qss_one (qs_ret (q_frz (qn_lc (own := [("other", 3)]) rfl sc_Market_slopes.nd (qi_keys (q_fld (c := "Market") rfl (ks_Market T) (nf_Market_table T) (q_var 0))) (blkOk_by (N := ["self", "name", "fall", "other"]) (sc := defScope s_Market_slopes) (by decide +kernel)) (fun _ _ _ _ _ => (qg_name (i := 3) sc_Market_slopes.nd rfl (Or.inl rfl))) (fun _ _ _ _ _ => qts_nil) (fun _ _ _ _ _ => (q_ifExp (qt_cmp (oq_eq rfl hr.units) (q_var 3) (q_var 1) (nomark _)) (q_var 2) (q_meth (c := "Market") rfl (q_var 0) (ks_Market T) (mt_Market_cross T) (fk_Market_cross T) (hr.mono (by decide)) T.b_Market_cross takes0 (qa_cons (q_var 1) (qa_cons (q_var 3) qa_nil))))) (by decide))))))
  exact ⟨t, h1, body_ok h h2⟩
theorem fk_sign (T : Txt K mg) : FnOk P w K mg base (L2.CX P w) 1 T.a_sign T.fd_sign ["a"] (spS (mkE T) 1 (f_sign (mkE T))) := by
  have h := ok_sign (P := P) (w := w) (base := base) T
  exact brg_ok (E := mkE T) "none" h
theorem fk_crosses_by_pair (T : Txt K mg) : FnOk P w K mg base (L2.CX P w) 2 T.a_crosses_by_pair T.fd_crosses_by_pair ["rivalries", "table"] (spS (mkE T) 2 (f_crosses_by_pair (mkE T))) := by
  refine T.F_crosses_by_pair.okX sc_crosses_by_pair (spS_len rfl) (fun cdv A outer s H vs Q Ek hr h => ?_)
  obtain ⟨t, h1, h2⟩ : QSs (cxOf (L2.CX P w) P w K mg base ["rivalries", "table", "crosses", "one", "other", "cross", "pair"] "_crosses_by_pair" (defScope s_crosses_by_pair) T.a_crosses_by_pair cdv A outer s H Ek) (mkE T) (fun c d _ H => Ek c d H) (defBody s_crosses_by_pair) (m_crosses_by_pair (mkE T)) := (qss_cons (qs_newC (qs_new (i := 2) sc_crosses_by_pair.nd rfl (Or.inl rfl) qn_dnewT))
      (qss_cons (qs_for (passes_of rfl) rfl (qi_iter rfl (q_var 0)) (qg_tup (n := 3) rfl rfl (qgs_cons (qg_name (i := 3) sc_crosses_by_pair.nd rfl (Or.inl rfl)) (qgs_cons (qg_name (i := 4) sc_crosses_by_pair.nd rfl (Or.inl rfl)) (qgs_cons (qg_name (i := 5) sc_crosses_by_pair.nd rfl (Or.inl rfl)) qgs_nil))) rfl)
      (qss_cons (qs_if (QW.qt (qw_or (qt_dnin rfl (hu_of hr) (q_var 3) (q_var 1)) (qw_or1 (qt_dnin rfl (hu_of hr) (q_var 4) (q_var 1))))) (qss_one (qs_raiseV (c := "UnknownName") (cl_UnknownName T) rfl (takes_of rfl rfl rfl rfl) T.x_UnknownName T.gC_UnknownName T.k_UnknownName T.b_UnknownName T.t_UnknownName rfl (q_fstr (.e (q_var 3) (.s (.e (q_var 4) (.s .nil))))))) qss_nil)
      (qss_cons (qs_if (qt_cmp (oq_eq rfl hr.units) (q_var 3) (q_var 4) (nomark _)) (qss_one (qs_raiseV (c := "InvalidMarket") (cl_InvalidMarket T) rfl (takes_of rfl rfl rfl rfl) T.x_InvalidMarket T.gC_InvalidMarket T.k_InvalidMarket T.b_InvalidMarket T.t_InvalidMarket rfl (q_fstr (.e (q_var 3) (.s .nil))))) qss_nil)
      (qss_cons (qs_if (qt_cmp (oq_lt) (q_call (fk_sign T) (hr.mono (by decide)) rfl T.g_sign T.F_sign.kp T.b_sign .nil (fun _ => .nil) (takes_of rfl rfl rfl rfl) (qa_cons (q_var 5) qa_nil)) q_int (nomark _)) (qss_one (qs_raiseV (c := "InvalidMarket") (cl_InvalidMarket T) rfl (takes_of rfl rfl rfl rfl) T.x_InvalidMarket T.gC_InvalidMarket T.k_InvalidMarket T.b_InvalidMarket T.t_InvalidMarket rfl (q_fstr (.s (.e (q_var 3) (.s (.e (q_var 4) (.s .nil)))))))) qss_nil)
      (qss_cons (qs_set (i := 6) sc_crosses_by_pair.nd rfl (Or.inl rfl) (q_call (fk_pair T) (hr.mono (by decide)) rfl T.g_pair T.F_pair.kp T.b_pair .nil (fun _ => .nil) (takes_of rfl rfl rfl rfl) (qa_cons (q_var 3) (qa_cons (q_var 4) qa_nil))))
      (qss_cons (qs_if (qt_din rfl (hu_of hr) (q_var 6) (q_var 2)) (qss_one (qs_raiseV (c := "DuplicateName") (cl_DuplicateName T) rfl (takes_of rfl rfl rfl rfl) T.x_DuplicateName T.gC_DuplicateName T.k_DuplicateName T.b_DuplicateName T.t_DuplicateName rfl (q_fstr (.e (q_var 3) (.s (.e (q_var 4) (.s .nil))))))) qss_nil)
      (qss_one (qs_put rfl (hu_of hr) (q_var 2) (q_var 6) (q_var 5)))))))))
      (qss_one (qs_ret (q_var 2)))))
  exact ⟨t, h1, body_ok h h2⟩
theorem fk_is_name (T : Txt K mg) : FnOk P w K mg base (L2.CX P w) 1 T.a_is_name T.fd_is_name ["text"] (spS (mkE T) 1 (f_is_name (mkE T))) := by
  refine T.F_is_name.okX sc_is_name (spS_len rfl) (fun cdv A outer s H vs Q Ek hr h => ?_)
  obtain ⟨t, h1, h2⟩ : QSs (cxOf (L2.CX P w) P w K mg base ["text", "letter"] "is_name" (defScope s_is_name) T.a_is_name cdv A outer s H Ek) (mkE T) (fun c d _ H => Ek c d H) (defBody s_is_name) (m_is_name (mkE T)) := (qss_cons (qs_if (QW.qt (qw_or (qt_not (qt_val (q_cb (cb_isi rfl) (by rfl) T.m_isinstance (by decide +kernel) (qa_cons (q_var 0) (qa_cons (q_ty (by rfl) T.m_str (by decide +kernel)) qa_nil))))) (qw_or1 (qt_not (qt_chain (oq_le) (oq_le) q_int (q_cb (cb_len rfl) (by rfl) T.m_len (by decide +kernel) (qa_cons (q_var 0) qa_nil)) (q_glob (v := .int 12) rfl T.c_LONGEST_NAME ⟨_, rfl⟩ (fun _ => .int _))))))) (qss_one (qs_ret q_bl)) qss_nil)
      (qss_one (qs_ret (q_cb (cb_all rfl rfl) (by rfl) T.m_all (by decide +kernel) (qa_cons (q_frz (qn_lc (own := [("letter", 1)]) rfl sc_is_name.nd (qi_iter rfl (q_var 0)) (blkOk_by (N := ["text", "letter"]) (sc := defScope s_is_name) (by decide +kernel)) (fun _ _ _ _ _ => (qg_name (i := 1) sc_is_name.nd rfl (Or.inl rfl))) (fun _ _ _ _ _ => qts_nil) (fun _ _ _ _ _ => (q_cmp (oq_in rfl (room65 hr)) (q_var 1) (q_glob (v := .str "abcdefghijklmnopqrstuvwxyz") rfl T.c_LETTERS ⟨_, rfl⟩ (fun _ => .str _)) (by with_unfolding_all rfl))) (by decide))) qa_nil)))))
  exact ⟨t, h1, body_ok h h2⟩
theorem fk_products_by_name (T : Txt K mg) : FnOk P w K mg base (L2.CX P w) 2 T.a_products_by_name T.fd_products_by_name ["products"] (spS (mkE T) 1 (f_products_by_name (mkE T))) := by
  refine T.F_products_by_name.okX sc_products_by_name (spS_len rfl) (fun cdv A outer s H vs Q Ek hr h => ?_)
  obtain ⟨t, h1, h2⟩ : QSs (cxOf (L2.CX P w) P w K mg base ["products", "table", "name", "owner", "base", "own", "cost"] "_products_by_name" (defScope s_products_by_name) T.a_products_by_name cdv A outer s H Ek) (mkE T) (fun c d _ H => Ek c d H) (defBody s_products_by_name) (m_products_by_name (mkE T)) := (qss_cons (qs_if (qt_not (qt_chain (oq_le) (oq_le) q_int (q_cb (cb_len rfl) (by rfl) T.m_len (by decide +kernel) (qa_cons (q_var 0) qa_nil)) (q_glob (v := .int 6) rfl T.c_MOST_PRODUCTS ⟨_, rfl⟩ (fun _ => .int _)))) (qss_one (qs_raiseC (c := "InvalidMarket") (cl_InvalidMarket T) rfl (takes_of rfl rfl rfl rfl) T.x_InvalidMarket T.gC_InvalidMarket T.k_InvalidMarket T.b_InvalidMarket T.t_InvalidMarket rfl)) qss_nil)
      (qss_cons (qs_newC (qs_new (i := 1) sc_products_by_name.nd rfl (Or.inl rfl) qn_dnewK))
      (qss_cons (qs_for (passes_of rfl) rfl (qi_iter rfl (q_var 0)) (qg_tup (n := 5) rfl rfl (qgs_cons (qg_name (i := 2) sc_products_by_name.nd rfl (Or.inl rfl)) (qgs_cons (qg_name (i := 3) sc_products_by_name.nd rfl (Or.inl rfl)) (qgs_cons (qg_name (i := 4) sc_products_by_name.nd rfl (Or.inl rfl)) (qgs_cons (qg_name (i := 5) sc_products_by_name.nd rfl (Or.inl rfl)) (qgs_cons (qg_name (i := 6) sc_products_by_name.nd rfl (Or.inl rfl)) qgs_nil))))) rfl)
      (qss_cons (qs_if (QW.qt (qw_or (qt_not (qt_val (q_call (fk_is_name T) (hr.mono (by decide)) rfl T.g_is_name T.F_is_name.kp T.b_is_name .nil (fun _ => .nil) (takes_of rfl rfl rfl rfl) (qa_cons (q_var 2) qa_nil)))) (qw_or1 (qt_not (qt_val (q_call (fk_is_name T) (hr.mono (by decide)) rfl T.g_is_name T.F_is_name.kp T.b_is_name .nil (fun _ => .nil) (takes_of rfl rfl rfl rfl) (qa_cons (q_var 3) qa_nil))))))) (qss_one (qs_raiseC (c := "InvalidMarket") (cl_InvalidMarket T) rfl (takes_of rfl rfl rfl rfl) T.x_InvalidMarket T.gC_InvalidMarket T.k_InvalidMarket T.b_InvalidMarket T.t_InvalidMarket rfl)) qss_nil)
      (qss_cons (qs_if (qt_din rfl (hu_of hr) (q_var 2) (q_var 1)) (qss_one (qs_raiseV (c := "DuplicateName") (cl_DuplicateName T) rfl (takes_of rfl rfl rfl rfl) T.x_DuplicateName T.gC_DuplicateName T.k_DuplicateName T.b_DuplicateName T.t_DuplicateName rfl (q_fstr (.e (q_var 2) (.s .nil))))) qss_nil)
      (qss_cons (qs_if (QW.qt (qw_or (qt_cmp (oq_lt) (q_call (fk_sign T) (hr.mono (by decide)) rfl T.g_sign T.F_sign.kp T.b_sign .nil (fun _ => .nil) (takes_of rfl rfl rfl rfl) (qa_cons (q_var 4) qa_nil)) q_int (nomark _)) (qw_or (qt_cmp (oq_lt) (q_call (fk_sign T) (hr.mono (by decide)) rfl T.g_sign T.F_sign.kp T.b_sign .nil (fun _ => .nil) (takes_of rfl rfl rfl rfl) (qa_cons (q_var 5) qa_nil)) q_int (nomark _)) (qw_or1 (qt_cmp (oq_lt) (q_call (fk_sign T) (hr.mono (by decide)) rfl T.g_sign T.F_sign.kp T.b_sign .nil (fun _ => .nil) (takes_of rfl rfl rfl rfl) (qa_cons (q_var 6) qa_nil)) q_int (nomark _)))))) (qss_one (qs_raiseV (c := "InvalidMarket") (cl_InvalidMarket T) rfl (takes_of rfl rfl rfl rfl) T.x_InvalidMarket T.gC_InvalidMarket T.k_InvalidMarket T.b_InvalidMarket T.t_InvalidMarket rfl (q_fstr (.s (.e (q_var 2) (.s .nil)))))) qss_nil)
      (qss_one (qs_put rfl (hu_of hr) (q_var 1) (q_var 2) (q_tup (qa_cons (q_var 2) (qa_cons (q_var 3) (qa_cons (q_var 4) (qa_cons (q_var 5) (qa_cons (q_var 6) qa_nil))))))))))))
      (qss_one (qs_ret (q_var 1))))))
  exact ⟨t, h1, body_ok h h2⟩
theorem fk_is_dominant (T : Txt K mg) : FnOk P w K mg base (L2.CX P w) 4 T.a_is_dominant T.fd_is_dominant ["rows"] (spS (mkE T) 1 (f_is_dominant (mkE T))) := by
  have h := ok_is_dominant (P := P) (w := w) (base := base) T
  exact brg_ok (E := mkE T) "none" h
theorem fk_Market_init (T : Txt K mg) : FnOk P w K mg base (L2.CX P w) 5 T.a_Market_init T.fd_Market_init ["self", "products", "rivalries"] (spS (mkE T) 3 (f_Market_init (mkE T))) := by
  refine T.F_Market_init.okX sc_Market_init (spS_len rfl) (fun cdv A outer s H vs Q Ek hr h => ?_)
  obtain ⟨t, h1, h2⟩ : QSs (cxOf (L2.CX P w) P w K mg base ["self", "products", "rivalries", "table", "name"] "Market.__init__" (defScope s_Market_init) T.a_Market_init cdv A outer s H Ek) (mkE T) (fun c d _ H => Ek c d H) (defBody s_Market_init) (m_Market_init (mkE T)) := (qss_cons (qs_set (i := 3) sc_Market_init.nd rfl (Or.inr rfl) (q_call (fk_products_by_name T) (hr.mono (by decide)) rfl T.g_products_by_name T.F_products_by_name.kp T.b_products_by_name .nil (fun _ => .nil) (takes_of rfl rfl rfl rfl) (qa_cons (q_var 1) qa_nil)))
      (qss_cons (qs_fld (c := "Market") rfl (ks_Market T) (nf_Market_crosses T) (q_var 0) (q_call (fk_crosses_by_pair T) (hr.mono (by decide)) rfl T.g_crosses_by_pair T.F_crosses_by_pair.kp T.b_crosses_by_pair .nil (fun _ => .nil) (takes_of rfl rfl rfl rfl) (qa_cons (q_var 2) (qa_cons (q_var 3) qa_nil))))
      (qss_cons (qs_fld (c := "Market") rfl (ks_Market T) (nf_Market_table T) (q_var 0) (q_fz (qn_dc (own := [("name", 4)]) rfl sc_Market_init.nd (qi_iter rfl (q_cb (cb_sortedD rfl) (by rfl) T.m_sorted (by decide +kernel) (qa_cons (q_var 3) qa_nil))) (blkOk_by (N := ["self", "products", "rivalries", "table", "name"]) (sc := defScope s_Market_init) (by decide +kernel)) (fun _ _ _ _ _ => (qg_name (i := 4) sc_Market_init.nd rfl (Or.inl rfl))) (fun _ _ _ _ _ => qts_nil) (fun _ _ _ _ _ => (q_var 4)) (fun _ _ _ _ _ => (q_dgetI rfl (hu_of hr) (q_var 3) (q_var 4))) (by decide))))
      (qss_cons (qs_fld (c := "Market") rfl (ks_Market T) (nf_Market_products T) (q_var 0) (q_listVals rfl (by rfl) T.m_list (q_fld (c := "Market") rfl (ks_Market T) (nf_Market_table T) (q_var 0))))
      (qss_one (qs_if (qt_not (qt_val (q_call (fk_is_dominant T) (hr.mono (by decide)) rfl T.g_is_dominant T.F_is_dominant.kp T.b_is_dominant .nil (fun _ => .nil) (takes_of rfl rfl rfl rfl) (qa_cons (q_frz (qn_lc (own := [("name", 4)]) rfl sc_Market_init.nd (qi_keys (q_fld (c := "Market") rfl (ks_Market T) (nf_Market_table T) (q_var 0))) (blkOk_by (N := ["self", "products", "rivalries", "table", "name"]) (sc := defScope s_Market_init) (by decide +kernel)) (fun _ _ _ _ _ => (qg_name (i := 4) sc_Market_init.nd rfl (Or.inl rfl))) (fun _ _ _ _ _ => qts_nil) (fun _ _ _ _ _ => (q_meth (c := "Market") rfl (q_var 0) (ks_Market T) (mt_Market_slopes T) (fk_Market_slopes T) (hr.mono (by decide)) T.b_Market_slopes takes0 (qa_cons (q_var 4) qa_nil))) (by decide))) qa_nil)))) (qss_one (qs_raiseC (c := "InvalidMarket") (cl_InvalidMarket T) rfl (takes_of rfl rfl rfl rfl) T.x_InvalidMarket T.gC_InvalidMarket T.k_InvalidMarket T.b_InvalidMarket T.t_InvalidMarket rfl)) qss_nil))))))
  exact ⟨t, h1, body_ok h h2⟩
theorem fk_law_error (T : Txt K mg) : FnOk P w K mg base (L2.CX P w) 7 T.a_law_error T.fd_law_error ["products", "rivalries"] (spS (mkE T) 2 (f_law_error (mkE T))) := by
  refine T.F_law_error.okX sc_law_error (spS_len rfl) (fun cdv A outer s H vs Q Ek hr h => ?_)
  obtain ⟨t, h1, h2⟩ : QSs (cxOf (L2.CX P w) P w K mg base ["products", "rivalries"] "_law_error" (defScope s_law_error) T.a_law_error cdv A outer s H Ek) (mkE T) (fun c d _ H => Ek c d H) (defBody s_law_error) (m_law_error (mkE T)) := (qss_cons (qs_tryMany rfl rfl rfl (takes_of rfl rfl rfl rfl) (fun W pn xe tk po => (qss_one (qs_expr (q_make (c := "Market") rfl (mk_Market T) (fk_Market_init T) (hr.mono (by decide)) rfl (gE_Market T) T.b_Market_init tk (qa_cons (q_var 0) (qa_cons (q_var 1) qa_nil)))))) (.cons ⟨rfl, by decide, .inl T.gC_InvalidMarket⟩ (fun a oe cls d pn hz hf => (qss_one (qs_ret q_str))) (em_InvalidMarket_ok T) (.cons ⟨rfl, by decide, .inl T.gC_DuplicateName⟩ (fun a oe cls d pn hz hf => (qss_one (qs_ret q_str))) (em_DuplicateName_ok T) (.cons ⟨rfl, by decide, .inl T.gC_UnknownName⟩ (fun a oe cls d pn hz hf => (qss_one (qs_ret q_str))) (em_UnknownName_ok T) .nil))))
      (qss_one (qs_ret q_str)))
  exact ⟨t, h1, body_ok h h2⟩
theorem fk_law_words (T : Txt K mg) : FnOk P w K mg base (L2.CX P w) 1 T.a_law_words T.fd_law_words ["cell"] (spS (mkE T) 1 (f_law_words (mkE T))) := by
  refine T.F_law_words.okX sc_law_words (spS_len rfl) (fun cdv A outer s H vs Q Ek hr h => ?_)
  obtain ⟨t, h1, h2⟩ : QSs (cxOf (L2.CX P w) P w K mg base ["cell", "letters", "base", "k", "at", "start"] "_law_words" (defScope s_law_words) T.a_law_words cdv A outer s H Ek) (mkE T) (fun c d _ H => Ek c d H) (defBody s_law_words) (m_law_words (mkE T)) := (qss_cons (qs_set (i := 1) sc_law_words.nd rfl (Or.inr rfl) q_str)
      (qss_cons (qs_set (i := 2) sc_law_words.nd rfl (Or.inr rfl) q_str)
      (qss_cons (qs_for (passes_of rfl) rfl (qi_range1 rfl T.m_range (qa_cons (q_op (oq_mod) (q_ct (cb_int) (by rfl) T.m_int (by decide +kernel) (qa_cons (q_var 0) qa_nil)) q_int) qa_nil)) (qg_name (i := 3) sc_law_words.nd rfl (Or.inl rfl))
      (qss_one (qs_set (i := 2) sc_law_words.nd rfl (Or.inr rfl) (q_op (oq_add rfl) (q_var 2) (q_ix (iq_seq rfl) (q_var 1) (q_op (oq_mod) (q_op (oq_add rfl) (q_op (oq_div) (q_ct (cb_int) (by rfl) T.m_int (by decide +kernel) (qa_cons (q_var 0) qa_nil)) (q_op (oq_add rfl) q_int (q_var 3))) (q_op (oq_mul) q_int (q_var 3))) q_int) (fun _ _ => rfl))))))
      (qss_cons (qs_set (i := 4) sc_law_words.nd rfl (Or.inr rfl) (q_op (oq_mod) (q_op (oq_div) (q_ct (cb_int) (by rfl) T.m_int (by decide +kernel) (qa_cons (q_var 0) qa_nil)) q_int) (q_op (oq_add rfl) (q_cb (cb_len rfl) (by rfl) T.m_len (by decide +kernel) (qa_cons (q_var 2) qa_nil)) q_int)))
      (qss_cons (qs_set (i := 5) sc_law_words.nd rfl (Or.inr rfl) (q_op (oq_mod) (q_op (oq_div) (q_ct (cb_int) (by rfl) T.m_int (by decide +kernel) (qa_cons (q_var 0) qa_nil)) q_int) q_int))
      (qss_one (qs_ret (q_cb (cb_sortedL rfl) (by rfl) T.m_sorted (by decide +kernel) (qa_cons (q_frz (qn_lc (own := [("k", 3)]) rfl sc_law_words.nd (qi_range1 rfl T.m_range (qa_cons q_int qa_nil)) (blkOk_by (N := ["cell", "letters", "base", "k", "at", "start"]) (sc := defScope s_law_words) (by decide +kernel)) (fun _ _ _ _ _ => (qg_name (i := 3) sc_law_words.nd rfl (Or.inl rfl))) (fun _ _ _ _ _ => qts_nil) (fun _ _ _ _ _ => (q_op (oq_add rfl) (q_op (oq_add rfl) (q_slice rfl (q_var 2) qo_none (qo_some (q_var 4))) (q_ix (iq_seq rfl) (q_var 1) (q_op (oq_mod) (q_op (oq_add rfl) (q_var 5) (q_op (oq_mul) q_int (q_var 3))) q_int) (fun _ _ => rfl))) (q_slice rfl (q_var 2) (qo_some (q_var 4)) qo_none))) (by decide))) qa_nil)))))))))
  exact ⟨t, h1, body_ok h h2⟩
theorem fk_law_names (T : Txt K mg) : FnOk P w K mg base (L2.CX P w) 2 T.a_law_names T.fd_law_names ["script"] (spS (mkE T) 1 (f_law_names (mkE T))) := by
  refine T.F_law_names.okX sc_law_names (spS_len rfl) (fun cdv A outer s H vs Q Ek hr h => ?_)
  obtain ⟨t, h1, h2⟩ : QSs (cxOf (L2.CX P w) P w K mg base ["script"] "_law_names" (defScope s_law_names) T.a_law_names cdv A outer s H Ek) (mkE T) (fun c d _ H => Ek c d H) (defBody s_law_names) (m_law_names (mkE T)) := (qss_one (qs_ret (q_slice rfl (q_call (fk_law_words T) (hr.mono (by decide)) rfl T.g_law_words T.F_law_words.kp T.b_law_words .nil (fun _ => .nil) (takes_of rfl rfl rfl rfl) (qa_cons (q_call (fk_law_cell T) (hr.mono (by decide)) rfl T.g_law_cell T.F_law_cell.kp T.b_law_cell .nil (fun _ => .nil) (takes_of rfl rfl rfl rfl) (qa_cons (q_var 0) (qa_cons q_int qa_nil))) qa_nil)) qo_none (qo_some (q_op (oq_add rfl) q_int (q_op (oq_mod) (q_call (fk_law_cell T) (hr.mono (by decide)) rfl T.g_law_cell T.F_law_cell.kp T.b_law_cell .nil (fun _ => .nil) (takes_of rfl rfl rfl rfl) (qa_cons (q_var 0) (qa_cons q_int qa_nil))) q_int))))))
  exact ⟨t, h1, body_ok h h2⟩
theorem fk_law_owners (T : Txt K mg) : FnOk P w K mg base (L2.CX P w) 2 T.a_law_owners T.fd_law_owners ["script"] (spS (mkE T) 1 (f_law_owners (mkE T))) := by
  refine T.F_law_owners.okX sc_law_owners (spS_len rfl) (fun cdv A outer s H vs Q Ek hr h => ?_)
  obtain ⟨t, h1, h2⟩ : QSs (cxOf (L2.CX P w) P w K mg base ["script"] "_law_owners" (defScope s_law_owners) T.a_law_owners cdv A outer s H Ek) (mkE T) (fun c d _ H => Ek c d H) (defBody s_law_owners) (m_law_owners (mkE T)) := (qss_one (qs_ret (q_slice rfl (q_call (fk_law_words T) (hr.mono (by decide)) rfl T.g_law_words T.F_law_words.kp T.b_law_words .nil (fun _ => .nil) (takes_of rfl rfl rfl rfl) (qa_cons (q_call (fk_law_cell T) (hr.mono (by decide)) rfl T.g_law_cell T.F_law_cell.kp T.b_law_cell .nil (fun _ => .nil) (takes_of rfl rfl rfl rfl) (qa_cons (q_var 0) (qa_cons q_int qa_nil))) qa_nil)) qo_none (qo_some q_int))))
  exact ⟨t, h1, body_ok h h2⟩
theorem fk_law_rivalries (T : Txt K mg) : FnOk P w K mg base (L2.CX P w) 3 T.a_law_rivalries T.fd_law_rivalries ["script"] (spS (mkE T) 1 (f_law_rivalries (mkE T))) := by
  refine T.F_law_rivalries.okX sc_law_rivalries (spS_len rfl) (fun cdv A outer s H vs Q Ek hr h => ?_)
  obtain ⟨t, h1, h2⟩ : QSs (cxOf (L2.CX P w) P w K mg base ["script", "names", "rows", "a", "b", "cell"] "_law_rivalries" (defScope s_law_rivalries) T.a_law_rivalries cdv A outer s H Ek) (mkE T) (fun c d _ H => Ek c d H) (defBody s_law_rivalries) (m_law_rivalries (mkE T)) := (qss_cons (qs_set (i := 1) sc_law_rivalries.nd rfl (Or.inl rfl) (q_call (fk_law_names T) (hr.mono (by decide)) rfl T.g_law_names T.F_law_names.kp T.b_law_names .nil (fun _ => .nil) (takes_of rfl rfl rfl rfl) (qa_cons (q_var 0) qa_nil)))
      (qss_cons (qs_newC (qs_new (i := 2) sc_law_rivalries.nd rfl (Or.inl rfl) (qn_lst qa_nil)))
      (qss_cons (qs_for (passes_of rfl) rfl (qi_range1 rfl T.m_range (qa_cons (q_cb (cb_len rfl) (by rfl) T.m_len (by decide +kernel) (qa_cons (q_var 1) qa_nil)) qa_nil)) (qg_name (i := 3) sc_law_rivalries.nd rfl (Or.inl rfl))
      (qss_one (qs_for (passes_of rfl) rfl (qi_range2 rfl T.m_range (qa_cons (q_op (oq_add rfl) (q_var 3) q_int) (qa_cons (q_cb (cb_len rfl) (by rfl) T.m_len (by decide +kernel) (qa_cons (q_var 1) qa_nil)) qa_nil))) (qg_name (i := 4) sc_law_rivalries.nd rfl (Or.inl rfl))
      (qss_cons (qs_set (i := 5) sc_law_rivalries.nd rfl (Or.inl rfl) (q_op (oq_div) (q_call (fk_law_cell T) (hr.mono (by decide)) rfl T.g_law_cell T.F_law_cell.kp T.b_law_cell .nil (fun _ => .nil) (takes_of rfl rfl rfl rfl) (qa_cons (q_var 0) (qa_cons (q_op (oq_add rfl) q_int (q_var 3)) qa_nil))) (q_op (oq_add rfl) q_int (q_op (oq_mul) q_int (q_var 4)))))
      (qss_one (qs_if (qt_cmp (oq_ne rfl hr.units) (q_op (oq_mod) (q_var 5) q_int) q_int (nomark _)) (qss_one (qs_expr (q_bm rfl PySem.F.plainAttrs_list PySem.F.slot_list_append PySem.F.type_list_append mb_append (q_var 2) (qa_cons (q_tup (qa_cons (q_ix (iq_seq rfl) (q_var 1) (q_var 3) (fun _ _ => rfl)) (qa_cons (q_ix (iq_seq rfl) (q_var 1) (q_var 4) (fun _ _ => rfl)) (qa_cons (q_call (fk_law_ratio T) (hr.mono (by decide)) rfl T.g_law_ratio T.F_law_ratio.kp T.b_law_ratio .nil (fun _ => .nil) (takes_of rfl rfl rfl rfl) (qa_cons (q_op (oq_add rfl) q_int (q_op (oq_mod) (q_op (oq_div) (q_var 5) q_int) q_int)) (qa_cons (q_op (oq_add rfl) q_int (q_op (oq_mod) (q_op (oq_div) (q_var 5) q_int) q_int)) qa_nil))) qa_nil)))) qa_nil)))) qss_nil))))))
      (qss_one (qs_ret (q_var 2))))))
  exact ⟨t, h1, body_ok h h2⟩
theorem fk_law_products (T : Txt K mg) : FnOk P w K mg base (L2.CX P w) 4 T.a_law_products T.fd_law_products ["script"] (spS (mkE T) 1 (f_law_products (mkE T))) := by
  refine T.F_law_products.okX sc_law_products (spS_len rfl) (fun cdv A outer s H vs Q Ek hr h => ?_)
  obtain ⟨t, h1, h2⟩ : QSs (cxOf (L2.CX P w) P w K mg base ["script", "names", "rows", "k", "cell", "total", "one", "other", "cross", "own", "owner", "cost"] "_law_products" (defScope s_law_products) T.a_law_products cdv A outer s H Ek) (mkE T) (fun c d _ H => Ek c d H) (defBody s_law_products) (m_law_products (mkE T)) := (qss_cons (qs_set (i := 1) sc_law_products.nd rfl (Or.inl rfl) (q_call (fk_law_names T) (hr.mono (by decide)) rfl T.g_law_names T.F_law_names.kp T.b_law_names .nil (fun _ => .nil) (takes_of rfl rfl rfl rfl) (qa_cons (q_var 0) qa_nil)))
      (qss_cons (qs_newC (qs_new (i := 2) sc_law_products.nd rfl (Or.inl rfl) (qn_lst qa_nil)))
      (qss_cons (qs_for (passes_of rfl) rfl (qi_range1 rfl T.m_range (qa_cons (q_cb (cb_len rfl) (by rfl) T.m_len (by decide +kernel) (qa_cons (q_var 1) qa_nil)) qa_nil)) (qg_name (i := 3) sc_law_products.nd rfl (Or.inl rfl))
      (qss_cons (qs_set (i := 4) sc_law_products.nd rfl (Or.inl rfl) (q_call (fk_law_cell T) (hr.mono (by decide)) rfl T.g_law_cell T.F_law_cell.kp T.b_law_cell .nil (fun _ => .nil) (takes_of rfl rfl rfl rfl) (qa_cons (q_var 0) (qa_cons (q_op (oq_add rfl) q_int (q_var 3)) qa_nil))))
      (qss_cons (qs_set (i := 5) sc_law_products.nd rfl (Or.inl rfl) (q_tup (qa_cons q_int (qa_cons q_int qa_nil))))
      (qss_cons (qs_for (passes_of rfl) rfl (qi_iter rfl (q_call (fk_law_rivalries T) (hr.mono (by decide)) rfl T.g_law_rivalries T.F_law_rivalries.kp T.b_law_rivalries .nil (fun _ => .nil) (takes_of rfl rfl rfl rfl) (qa_cons (q_var 0) qa_nil))) (qg_tup (n := 3) rfl rfl (qgs_cons (qg_name (i := 6) sc_law_products.nd rfl (Or.inl rfl)) (qgs_cons (qg_name (i := 7) sc_law_products.nd rfl (Or.inl rfl)) (qgs_cons (qg_name (i := 8) sc_law_products.nd rfl (Or.inl rfl)) qgs_nil))) rfl)
      (qss_one (qs_if (qt_cmp (oq_in rfl (room65 hr)) (q_ix (iq_seq rfl) (q_var 1) (q_var 3) (fun _ _ => rfl)) (q_tup (qa_cons (q_var 6) (qa_cons (q_var 7) qa_nil))) (by with_unfolding_all rfl)) (qss_one (qs_set (i := 5) sc_law_products.nd rfl (Or.inl rfl) (q_call (fk_law_add T) (hr.mono (by decide)) rfl T.g_law_add T.F_law_add.kp T.b_law_add .nil (fun _ => .nil) (takes_of rfl rfl rfl rfl) (qa_cons (q_var 5) (qa_cons (q_var 8) qa_nil))))) qss_nil)))
      (qss_cons (qs_set (i := 9) sc_law_products.nd rfl (Or.inl rfl) (q_call (fk_law_add T) (hr.mono (by decide)) rfl T.g_law_add T.F_law_add.kp T.b_law_add .nil (fun _ => .nil) (takes_of rfl rfl rfl rfl) (qa_cons (q_var 5) (qa_cons (q_call (fk_law_ratio T) (hr.mono (by decide)) rfl T.g_law_ratio T.F_law_ratio.kp T.b_law_ratio .nil (fun _ => .nil) (takes_of rfl rfl rfl rfl) (qa_cons (q_op (oq_add rfl) q_int (q_op (oq_mod) (q_var 4) q_int)) (qa_cons (q_op (oq_add rfl) q_int (q_op (oq_mod) (q_op (oq_div) (q_var 4) q_int) q_int)) qa_nil))) qa_nil))))
      (qss_cons (qs_set (i := 10) sc_law_products.nd rfl (Or.inl rfl) (q_ix (iq_seq rfl) (q_call (fk_law_owners T) (hr.mono (by decide)) rfl T.g_law_owners T.F_law_owners.kp T.b_law_owners .nil (fun _ => .nil) (takes_of rfl rfl rfl rfl) (qa_cons (q_var 0) qa_nil)) (q_op (oq_mod) (q_op (oq_div) (q_var 4) q_int) q_int) (fun _ _ => rfl)))
      (qss_cons (qs_set (i := 11) sc_law_products.nd rfl (Or.inl rfl) (q_call (fk_law_ratio T) (hr.mono (by decide)) rfl T.g_law_ratio T.F_law_ratio.kp T.b_law_ratio .nil (fun _ => .nil) (takes_of rfl rfl rfl rfl) (qa_cons (q_op (oq_mod) (q_op (oq_div) (q_var 4) q_int) q_int) (qa_cons (q_op (oq_add rfl) q_int (q_op (oq_mod) (q_op (oq_div) (q_var 4) q_int) q_int)) qa_nil))))
      (qss_one (qs_expr (q_bm rfl PySem.F.plainAttrs_list PySem.F.slot_list_append PySem.F.type_list_append mb_append (q_var 2) (qa_cons (q_tup (qa_cons (q_ix (iq_seq rfl) (q_var 1) (q_var 3) (fun _ _ => rfl)) (qa_cons (q_var 10) (qa_cons (q_call (fk_law_ratio T) (hr.mono (by decide)) rfl T.g_law_ratio T.F_law_ratio.kp T.b_law_ratio .nil (fun _ => .nil) (takes_of rfl rfl rfl rfl) (qa_cons (q_op (oq_add rfl) q_int (q_op (oq_mod) (q_op (oq_div) (q_var 4) q_int) q_int)) (qa_cons (q_op (oq_add rfl) q_int (q_op (oq_mod) (q_op (oq_div) (q_var 4) q_int) q_int)) qa_nil))) (qa_cons (q_var 9) (qa_cons (q_var 11) qa_nil)))))) qa_nil)))))))))))
      (qss_one (qs_ret (q_var 2))))))
  exact ⟨t, h1, body_ok h h2⟩
theorem fk_law_spoil (T : Txt K mg) : FnOk P w K mg base (L2.CX P w) 1 T.a_law_spoil T.fd_law_spoil ["products", "rivalries", "cell"] (spS (mkE T) 3 (f_law_spoil (mkE T))) := by
  refine T.F_law_spoil.okX sc_law_spoil (spS_len rfl) (fun cdv A outer s H vs Q Ek hr h => ?_)
  obtain ⟨t, h1, h2⟩ : QSs (cxOf (L2.CX P w) P w K mg base ["products", "rivalries", "cell", "step", "k", "j", "row"] "_law_spoil" (defScope s_law_spoil) T.a_law_spoil cdv A outer s H Ek) (mkE T) (fun c d _ H => Ek c d H) (defBody s_law_spoil) (m_law_spoil (mkE T)) := (qss_cons (qs_set (i := 3) sc_law_spoil.nd rfl (Or.inl rfl) (q_op (oq_mod) (q_ct (cb_int) (by rfl) T.m_int (by decide +kernel) (qa_cons (q_var 2) qa_nil)) q_int))
      (qss_cons (qs_set (i := 4) sc_law_spoil.nd rfl (Or.inl rfl) (q_op (oq_mod) (q_op (oq_div) (q_ct (cb_int) (by rfl) T.m_int (by decide +kernel) (qa_cons (q_var 2) qa_nil)) q_int) (q_cb (cb_len rfl) (by rfl) T.m_len (by decide +kernel) (qa_cons (q_var 0) qa_nil))))
      (qss_cons (qs_set (i := 5) sc_law_spoil.nd rfl (Or.inl rfl) (q_op (oq_mod) (q_op (oq_div) (q_ct (cb_int) (by rfl) T.m_int (by decide +kernel) (qa_cons (q_var 2) qa_nil)) q_int) (q_cb (cb_len rfl) (by rfl) T.m_len (by decide +kernel) (qa_cons (q_var 0) qa_nil))))
      (qss_cons (qs_set (i := 6) sc_law_spoil.nd rfl (Or.inl rfl) (q_ix (iq_seq rfl) (q_var 0) (q_var 4) (fun _ _ => rfl)))
      (qss_cons (qs_if (qt_cmp (oq_eq rfl hr.units) (q_var 3) q_int (nomark _)) (qss_one (qs_set (i := 6) sc_law_spoil.nd rfl (Or.inl rfl) (q_op (oq_add rfl) (q_tup (qa_cons q_str qa_nil)) (q_slice rfl (q_var 6) (qo_some q_int) qo_none)))) (qss_one (qs_if (qt_cmp (oq_eq rfl hr.units) (q_var 3) q_int (nomark _)) (qss_one (qs_set (i := 6) sc_law_spoil.nd rfl (Or.inl rfl) (q_op (oq_add rfl) (q_op (oq_add rfl) (q_slice rfl (q_var 6) qo_none (qo_some q_int)) (q_tup (qa_cons q_str qa_nil))) (q_slice rfl (q_var 6) (qo_some q_int) qo_none)))) (qss_one (qs_if (qt_cmp (oq_eq rfl hr.units) (q_var 3) q_int (nomark _)) (qss_one (qs_set (i := 6) sc_law_spoil.nd rfl (Or.inl rfl) (q_op (oq_add rfl) (q_op (oq_add rfl) (q_slice rfl (q_var 6) qo_none (qo_some q_int)) (q_tup (qa_cons (q_tup (qa_cons q_int (qa_cons q_int qa_nil))) qa_nil))) (q_slice rfl (q_var 6) (qo_some q_int) qo_none)))) (qss_one (qs_if (qt_cmp (oq_eq rfl hr.units) (q_var 3) q_int (nomark _)) (qss_one (qs_set (i := 6) sc_law_spoil.nd rfl (Or.inl rfl) (q_op (oq_add rfl) (q_slice rfl (q_var 6) qo_none (qo_some q_int)) (q_tup (qa_cons (q_tup (qa_cons (q_op (oq_sub) q_int q_int) (qa_cons q_int qa_nil))) qa_nil))))) (qss_one (qs_if (qt_cmp (oq_eq rfl hr.units) (q_var 3) q_int (nomark _)) (qss_one (qs_set (i := 6) sc_law_spoil.nd rfl (Or.inl rfl) (q_op (oq_add rfl) (q_tup (qa_cons (q_ix (iq_seq rfl) (q_ix (iq_seq rfl) (q_var 0) (q_var 5) (fun _ _ => rfl)) q_int (fun _ _ => rfl)) qa_nil)) (q_slice rfl (q_var 6) (qo_some q_int) qo_none)))) (qss_one (qs_if (qt_cmp (oq_eq rfl hr.units) (q_var 3) q_int (nomark _)) (qss_one (qs_expr (q_bm rfl PySem.F.plainAttrs_list PySem.F.slot_list_insert PySem.F.type_list_insert mb_insert (q_var 1) (qa_cons (q_op (oq_mod) (q_op (oq_div) (q_ct (cb_int) (by rfl) T.m_int (by decide +kernel) (qa_cons (q_var 2) qa_nil)) q_int) (q_op (oq_add rfl) (q_cb (cb_len rfl) (by rfl) T.m_len (by decide +kernel) (qa_cons (q_var 1) qa_nil)) q_int)) (qa_cons (q_tup (qa_cons (q_ix (iq_seq rfl) (q_var 6) q_int (fun _ _ => rfl)) (qa_cons q_str (qa_cons (q_tup (qa_cons q_int (qa_cons q_int qa_nil))) qa_nil)))) qa_nil))))) (qss_one (qs_if (qt_cmp (oq_eq rfl hr.units) (q_var 3) q_int (nomark _)) (qss_one (qs_expr (q_bm rfl PySem.F.plainAttrs_list PySem.F.slot_list_insert PySem.F.type_list_insert mb_insert (q_var 1) (qa_cons (q_op (oq_mod) (q_op (oq_div) (q_ct (cb_int) (by rfl) T.m_int (by decide +kernel) (qa_cons (q_var 2) qa_nil)) q_int) (q_op (oq_add rfl) (q_cb (cb_len rfl) (by rfl) T.m_len (by decide +kernel) (qa_cons (q_var 1) qa_nil)) q_int)) (qa_cons (q_tup (qa_cons (q_ix (iq_seq rfl) (q_var 6) q_int (fun _ _ => rfl)) (qa_cons (q_ix (iq_seq rfl) (q_var 6) q_int (fun _ _ => rfl)) (qa_cons (q_tup (qa_cons q_int (qa_cons q_int qa_nil))) qa_nil)))) qa_nil))))) (qss_one (qs_if (qt_cmp (oq_eq rfl hr.units) (q_var 3) q_int (nomark _)) (qss_one (qs_expr (q_bm rfl PySem.F.plainAttrs_list PySem.F.slot_list_insert PySem.F.type_list_insert mb_insert (q_var 1) (qa_cons (q_op (oq_mod) (q_op (oq_div) (q_ct (cb_int) (by rfl) T.m_int (by decide +kernel) (qa_cons (q_var 2) qa_nil)) q_int) (q_op (oq_add rfl) (q_cb (cb_len rfl) (by rfl) T.m_len (by decide +kernel) (qa_cons (q_var 1) qa_nil)) q_int)) (qa_cons (q_tup (qa_cons (q_ix (iq_seq rfl) (q_var 6) q_int (fun _ _ => rfl)) (qa_cons (q_ix (iq_seq rfl) (q_ix (iq_seq rfl) (q_var 0) (q_var 5) (fun _ _ => rfl)) q_int (fun _ _ => rfl)) (qa_cons (q_tup (qa_cons q_int (qa_cons q_int qa_nil))) qa_nil)))) qa_nil))))) (qss_one (qs_if (qt_cmp (oq_eq rfl hr.units) (q_var 3) q_int (nomark _)) (qss_one (qs_expr (q_bm rfl PySem.F.plainAttrs_list PySem.F.slot_list_insert PySem.F.type_list_insert mb_insert (q_var 1) (qa_cons (q_op (oq_mod) (q_op (oq_div) (q_ct (cb_int) (by rfl) T.m_int (by decide +kernel) (qa_cons (q_var 2) qa_nil)) q_int) (q_op (oq_add rfl) (q_cb (cb_len rfl) (by rfl) T.m_len (by decide +kernel) (qa_cons (q_var 1) qa_nil)) q_int)) (qa_cons (q_tup (qa_cons (q_ix (iq_seq rfl) (q_var 6) q_int (fun _ _ => rfl)) (qa_cons (q_ix (iq_seq rfl) (q_ix (iq_seq rfl) (q_var 0) (q_var 5) (fun _ _ => rfl)) q_int (fun _ _ => rfl)) (qa_cons (q_tup (qa_cons q_int (qa_cons q_int qa_nil))) qa_nil)))) qa_nil))))) (qss_one (qs_set (i := 6) sc_law_spoil.nd rfl (Or.inl rfl) (q_op (oq_add rfl) (q_op (oq_add rfl) (q_slice rfl (q_var 6) qo_none (qo_some q_int)) (q_tup (qa_cons (q_tup (qa_cons q_int (qa_cons q_int qa_nil))) qa_nil))) (q_slice rfl (q_var 6) (qo_some q_int) qo_none)))))))))))))))))))))
      (qss_one (qs_setIx (q_var 6) (q_var 0) (q_var 4))))))))
  exact ⟨t, h1, body_ok h h2⟩
theorem fk_law (T : Txt K mg) : FnOk P w K mg base (L2.CX P w) 8 T.a_law T.fd_law ["script"] (spS (mkE T) 1 (f_law (mkE T))) := by
  refine T.F_law.okX sc_law (spS_len rfl) (fun cdv A outer s H vs Q Ek hr h => ?_)
  obtain ⟨t, h1, h2⟩ : QSs (cxOf (L2.CX P w) P w K mg base ["script", "start", "products", "rivalries", "k"] "law" (defScope s_law) T.a_law cdv A outer s H Ek) (mkE T) (fun c d _ H => Ek c d H) (defBody s_law) (m_law (mkE T)) := (qss_cons (qs_for (passes_of rfl) rfl (qi_iter rfl (q_tup (qa_cons q_int (qa_cons q_int (qa_cons q_int (qa_cons q_int qa_nil)))))) (qg_name (i := 1) sc_law.nd rfl (Or.inl rfl))
      (qss_cons (qs_set (i := 2) sc_law.nd rfl (Or.inl rfl) (q_call (fk_law_products T) (hr.mono (by decide)) rfl T.g_law_products T.F_law_products.kp T.b_law_products .nil (fun _ => .nil) (takes_of rfl rfl rfl rfl) (qa_cons (q_var 0) qa_nil)))
      (qss_cons (qs_set (i := 3) sc_law.nd rfl (Or.inl rfl) (q_call (fk_law_rivalries T) (hr.mono (by decide)) rfl T.g_law_rivalries T.F_law_rivalries.kp T.b_law_rivalries .nil (fun _ => .nil) (takes_of rfl rfl rfl rfl) (qa_cons (q_var 0) qa_nil)))
      (qss_cons (qs_for (passes_of rfl) rfl (qi_range1 rfl T.m_range (qa_cons (q_op (oq_add rfl) q_int (q_op (oq_mod) (q_call (fk_law_cell T) (hr.mono (by decide)) rfl T.g_law_cell T.F_law_cell.kp T.b_law_cell .nil (fun _ => .nil) (takes_of rfl rfl rfl rfl) (qa_cons (q_var 0) (qa_cons (q_var 1) qa_nil))) q_int)) qa_nil)) (qg_name (i := 4) sc_law.nd rfl (Or.inl rfl))
      (qss_one (qs_expr (q_call (fk_law_spoil T) (hr.mono (by decide)) rfl T.g_law_spoil T.F_law_spoil.kp T.b_law_spoil .nil (fun _ => .nil) (takes_of rfl rfl rfl rfl) (qa_cons (q_var 2) (qa_cons (q_var 3) (qa_cons (q_op (oq_div) (q_call (fk_law_cell T) (hr.mono (by decide)) rfl T.g_law_cell T.F_law_cell.kp T.b_law_cell .nil (fun _ => .nil) (takes_of rfl rfl rfl rfl) (qa_cons (q_var 0) (qa_cons (q_op (oq_add rfl) (q_var 1) (q_var 4)) qa_nil))) q_int) qa_nil)))))))
      (qss_one (qs_if (qt_cmp (oq_ne rfl hr.units) (q_call (fk_law_error T) (hr.mono (by decide)) rfl T.g_law_error T.F_law_error.kp T.b_law_error .nil (fun _ => .nil) (takes_of rfl rfl rfl rfl) (qa_cons (q_var 2) (qa_cons (q_var 3) qa_nil))) (q_call (fk_law_due T) (hr.mono (by decide)) rfl T.g_law_due T.F_law_due.kp T.b_law_due .nil (fun _ => .nil) (takes_of rfl rfl rfl rfl) (qa_cons (q_var 2) (qa_cons (q_var 3) qa_nil))) (nomark _)) (qss_one (qs_ret q_bl)) qss_nil))))))
      (qss_one (qs_ret q_bl)))
  exact ⟨t, h1, body_ok h h2⟩
end
end RSk32

set_option Elab.async false
set_option linter.all false
set_option maxRecDepth 100000
set_option maxHeartbeats 4000000
namespace MM
open PySem
open RP (absQ offI domB En)
structure Pr where
  name : Str
  owner : Str
  base : Rat
  own : Rat
  cost : Rat
structure Rv where
  one : Str
  other : Str
  cross : Rat
def strB (x y : Str) : Bool := decide (x.cps.toList < y.cps.toList)
def pr2 (a b : Str) : Str × Str := if strB a b = true then (a, b) else (b, a)
theorem pr2_comm (a b : Str) : pr2 a b = pr2 b a := by
  unfold pr2 strB
  by_cases h : a.cps.toList < b.cps.toList
  · have h2 : ¬ b.cps.toList < a.cps.toList := fun z => List.lt_irrefl _ (List.lt_trans h z)
    rw [if_pos (by simpa using h), if_neg (by simpa using h2)]
  · by_cases h2 : b.cps.toList < a.cps.toList
    · rw [if_neg (by simpa using h), if_pos (by simpa using h2)]
    · have : a = b := TL.ext_tl (List.le_antisymm h2 h)
      subst this; rfl
theorem pr2_mem {a b c d : Str} (h : pr2 a b = pr2 c d) : (a = c ∧ b = d) ∨ (a = d ∧ b = c) := by
  unfold pr2 at h
  split at h <;> split at h <;> (injection h with h1 h2; subst h1 h2; simp)
/-! ### what is due -/
def dueP (ok : Str → Bool) : List Pr → List Str → Option String
  | [], _ => none
  | p :: r, seen => if ¬ (ok p.name = true ∧ ok p.owner = true) then some "market" else if p.name ∈ seen then some "duplicate" else if p.base ≤ 0 ∨ p.own ≤ 0 ∨ p.cost < 0 then some "market" else dueP ok r (seen ++ [p.name])
def dueR (names : List Str) : List Rv → List (Str × Str) → Option String
  | [], _ => none
  | r :: rs, seen => if r.one ∉ names ∨ r.other ∉ names then some "unknown" else if r.one = r.other ∨ r.cross ≤ 0 then some "market" else if pr2 r.one r.other ∈ seen then some "duplicate" else dueR names rs (seen ++ [pr2 r.one r.other])
def isIn (a : Str) (r : Rv) : Bool := decide (a = r.one ∨ a = r.other)
def total (a : Str) (rs : List Rv) : Rat := ((rs.filter (isIn a)).map (·.cross)).sum
structure POk (ps : List Pr) : Prop where
  nd : (ps.map (·.name)).Nodup
  own : ∀ p ∈ ps, 0 < p.own
theorem dueP_none {ok : Str → Bool} : ∀ {ps : List Pr} {seen : List Str}, dueP ok ps seen = none → POk ps ∧ ∀ p ∈ ps, p.name ∉ seen
  | [], _, _ => ⟨⟨List.nodup_nil, fun _ h => by cases h⟩, fun _ h => by cases h⟩
  | p :: r, seen, h => by
    unfold dueP at h
    split at h
    · cases h
    · split at h
      · cases h
      · split at h
        · cases h
        · rename_i h2 h3
          obtain ⟨h4, h5⟩ := dueP_none h
          refine ⟨⟨?_, fun q hq => ?_⟩, fun q hq => ?_⟩
          · rw [List.map_cons]
            refine List.nodup_cons.mpr ⟨fun z => ?_, h4.nd⟩
            obtain ⟨q, hq, e⟩ := List.mem_map.mp z
            exact h5 q hq (by rw [e]; simp)
          · rcases List.mem_cons.mp hq with rfl | hq
            · exact Rat.not_le.mp fun z => h3 (.inr (.inl z))
            · exact h4.own q hq
          · rcases List.mem_cons.mp hq with rfl | hq
            · exact h2
            · exact fun z => h5 q hq (List.mem_append_left _ z)
structure ROk (names : List Str) (rs : List Rv) : Prop where
  a : ∀ r ∈ rs, r.one ∈ names
  b : ∀ r ∈ rs, r.other ∈ names
  ne : ∀ r ∈ rs, r.one ≠ r.other
  pos : ∀ r ∈ rs, 0 < r.cross
  nd : (rs.map fun r => pr2 r.one r.other).Nodup
theorem dueR_none {names : List Str} : ∀ {rs : List Rv} {seen : List (Str × Str)}, dueR names rs seen = none → ROk names rs ∧ ∀ r ∈ rs, pr2 r.one r.other ∉ seen
  | [], _, _ => ⟨⟨fun _ h => absurd h List.not_mem_nil, fun _ h => absurd h List.not_mem_nil, fun _ h => absurd h List.not_mem_nil, fun _ h => absurd h List.not_mem_nil, List.nodup_nil⟩, fun _ h => absurd h List.not_mem_nil⟩
  | p :: r, seen, h => by
    unfold dueR at h
    split at h
    · cases h
    · split at h
      · cases h
      · split at h
        · cases h
        · rename_i h1 h2 h3
          obtain ⟨h4, h5⟩ := dueR_none h
          refine ⟨⟨fun q hq => ?_, fun q hq => ?_, fun q hq => ?_, fun q hq => ?_, ?_⟩, fun q hq => ?_⟩
          · rcases List.mem_cons.mp hq with rfl | hq
            · exact Decidable.byContradiction fun z => h1 (.inl z)
            · exact h4.a q hq
          · rcases List.mem_cons.mp hq with rfl | hq
            · exact Decidable.byContradiction fun z => h1 (.inr z)
            · exact h4.b q hq
          · rcases List.mem_cons.mp hq with rfl | hq
            · exact fun z => h2 (.inl z)
            · exact h4.ne q hq
          · rcases List.mem_cons.mp hq with rfl | hq
            · exact Rat.not_le.mp fun z => h2 (.inr z)
            · exact h4.pos q hq
          · rw [List.map_cons]
            refine List.nodup_cons.mpr ⟨fun z => ?_, h4.nd⟩
            obtain ⟨q, hq, e⟩ := List.mem_map.mp z
            exact h5 q hq (by rw [e]; simp)
          · rcases List.mem_cons.mp hq with rfl | hq
            · exact h3
            · exact fun z => h5 q hq (List.mem_append_left _ z)
/-- the cross of two names -/
def cg (rs : List Rv) (a b : Str) : Rat := ((rs.find? fun r => decide (pr2 r.one r.other = pr2 a b)).map (·.cross)).getD 0
theorem cg_nil (a b : Str) : cg [] a b = 0 := rfl
theorem cg_no {rs : List Rv} {a b : Str} (h : pr2 a b ∉ rs.map fun r => pr2 r.one r.other) : cg rs a b = 0 := by
  unfold cg
  rw [List.find?_eq_none.mpr fun r hr => by simpa using fun z => h (List.mem_map.mpr ⟨r, hr, z⟩)]
  rfl
theorem cg_cons {r : Rv} {rs : List Rv} (nd : ((r :: rs).map fun r => pr2 r.one r.other).Nodup) (a b : Str) : cg (r :: rs) a b = (if pr2 r.one r.other = pr2 a b then r.cross else 0) + cg rs a b := by
  by_cases h : pr2 r.one r.other = pr2 a b
  · rw [if_pos h]
    have h0 : cg rs a b = 0 := cg_no (by rw [← h]; exact (List.nodup_cons.mp nd).1)
    rw [h0, Rat.add_zero]
    unfold cg
    rw [List.find?_cons_of_pos (by simpa using h)]; rfl
  · rw [if_neg h, Rat.zero_add]
    unfold cg
    rw [List.find?_cons_of_neg (by simpa using h)]
theorem cg_nonneg {names : List Str} {rs : List Rv} (h : ROk names rs) (a b : Str) : 0 ≤ cg rs a b := by
  unfold cg
  cases e : rs.find? fun r => decide (pr2 r.one r.other = pr2 a b) with
  | none => exact Rat.le_refl
  | some r => exact Rat.le_of_lt (h.pos r (List.mem_of_find?_eq_some e))
theorem sum_add {α : Type} (f g : α → Rat) : ∀ xs : List α, (xs.map fun x => f x + g x).sum = (xs.map f).sum + (xs.map g).sum
  | [] => by simp [Rat.add_zero]
  | x :: r => by
    rw [List.map_cons, List.map_cons, List.map_cons, List.sum_cons, List.sum_cons, List.sum_cons, sum_add f g r]
    rw [Rat.add_assoc, Rat.add_assoc, ← Rat.add_assoc (g x), Rat.add_comm (g x), Rat.add_assoc]
theorem sum_zero {α : Type} (f : α → Rat) : ∀ xs : List α, (∀ x ∈ xs, f x = 0) → (xs.map f).sum = 0
  | [], _ => rfl
  | x :: r, h => by rw [List.map_cons, List.sum_cons, h x List.mem_cons_self, sum_zero f r fun y hy => h y (List.mem_cons_of_mem _ hy), Rat.add_zero]
/-- one name's share -/
theorem sum_one (c : Str) (x : Rat) : ∀ qs : List Pr, (qs.map (·.name)).Nodup → c ∈ qs.map (·.name) → (qs.map fun o => if o.name = c then x else 0).sum = x
  | [], _, h => by cases h
  | q :: r, nd, h => by
    rw [List.map_cons, List.sum_cons]
    have nd2 := List.nodup_cons.mp nd
    by_cases e : q.name = c
    · rw [if_pos e, sum_zero _ r fun y hy => if_neg fun z => nd2.1 (by show q.name ∈ _; rw [e, ← z]; exact List.mem_map.mpr ⟨y, hy, rfl⟩), Rat.add_zero]
    · rw [if_neg e, Rat.zero_add]
      rw [List.map_cons] at h
      rcases List.mem_cons.mp h with z | z
      · exact absurd z.symm e
      · exact sum_one c x r nd2.2 z
theorem share {a : Str} {r : Rv} {qs : List Pr} (nd : (qs.map (·.name)).Nodup) (h1 : r.one ∈ qs.map (·.name)) (h2 : r.other ∈ qs.map (·.name)) (ne : r.one ≠ r.other) :
    (qs.map fun o => if o.name = a then 0 else if pr2 r.one r.other = pr2 a o.name then r.cross else 0).sum = if isIn a r = true then r.cross else 0 := by
  have key : ∀ c : Str, (∀ o : Pr, (if o.name = a then (0 : Rat) else if pr2 r.one r.other = pr2 a o.name then r.cross else 0) = if o.name = c then r.cross else 0) → c ∈ qs.map (·.name) → (qs.map fun o => if o.name = a then 0 else if pr2 r.one r.other = pr2 a o.name then r.cross else 0).sum = r.cross := fun c hc hm => by
    have : (qs.map fun o => if o.name = a then 0 else if pr2 r.one r.other = pr2 a o.name then r.cross else 0) = qs.map fun o => if o.name = c then r.cross else 0 := List.map_congr_left fun o _ => hc o
    rw [this]
    exact sum_one c r.cross qs nd hm
  by_cases ha : a = r.one
  · have hin : isIn a r = true := decide_eq_true (.inl ha)
    rw [if_pos hin]
    refine key r.other (fun o => ?_) h2
    by_cases e : o.name = a
    · rw [if_pos e, if_neg (fun z => ne (by rw [← ha, ← e, z]))]
    · rw [if_neg e]
      by_cases e2 : o.name = r.other
      · rw [if_pos e2, if_pos (by rw [ha, e2])]
      · rw [if_neg e2, if_neg]
        intro z
        rcases pr2_mem z with ⟨_, z⟩ | ⟨z, _⟩
        · exact e2 z.symm
        · exact e (by rw [← z, ha])
  · by_cases hb : a = r.other
    · have hin : isIn a r = true := decide_eq_true (.inr hb)
      rw [if_pos hin]
      refine key r.one (fun o => ?_) h1
      by_cases e : o.name = a
      · rw [if_pos e, if_neg (fun z => ne (by rw [← hb, ← e, z]))]
      · rw [if_neg e]
        by_cases e2 : o.name = r.one
        · rw [if_pos e2, if_pos (by rw [hb, e2, pr2_comm])]
        · rw [if_neg e2, if_neg]
          intro z
          rcases pr2_mem z with ⟨_, z⟩ | ⟨z, _⟩
          · exact e (by rw [← z, hb])
          · exact e2 z.symm
    · have hin : ¬ isIn a r = true := fun z => by
        have := of_decide_eq_true z
        rcases this with z | z
        · exact ha z
        · exact hb z
      rw [if_neg hin]
      refine sum_zero _ qs fun o _ => ?_
      split
      · rfl
      · refine if_neg fun z => ?_
        rcases pr2_mem z with ⟨z, _⟩ | ⟨_, z⟩
        · exact ha z.symm
        · exact hb z.symm
theorem total_cons (a : Str) (r : Rv) (rs : List Rv) : total a (r :: rs) = (if isIn a r = true then r.cross else 0) + total a rs := by
  unfold total
  by_cases h : isIn a r = true
  · rw [if_pos h, List.filter_cons_of_pos h, List.map_cons, List.sum_cons]
  · rw [if_neg h, List.filter_cons_of_neg h, Rat.zero_add]
theorem total_is {qs : List Pr} (nd : (qs.map (·.name)).Nodup) (a : Str) : ∀ {rs : List Rv}, ROk (qs.map (·.name)) rs → (qs.map fun o => if o.name = a then 0 else cg rs a o.name).sum = total a rs
  | [], _ => sum_zero _ qs fun o _ => by split <;> rfl
  | r :: rs, h => by
    have h' : ROk (qs.map (·.name)) rs := ⟨fun r hr => h.a r (List.mem_cons_of_mem _ hr), fun r hr => h.b r (List.mem_cons_of_mem _ hr), fun r hr => h.ne r (List.mem_cons_of_mem _ hr), fun r hr => h.pos r (List.mem_cons_of_mem _ hr), (List.nodup_cons.mp h.nd).2⟩
    have ih := total_is nd a h'
    rw [total_cons, ← ih, ← share nd (h.a r List.mem_cons_self) (h.b r List.mem_cons_self) (h.ne r List.mem_cons_self) (a := a), ← sum_add]
    congr 1
    refine List.map_congr_left fun o _ => ?_
    by_cases e : o.name = a
    · rw [if_pos e, if_pos e, if_pos e, Rat.add_zero]
    · rw [if_neg e, if_neg e, if_neg e, cg_cons h.nd]
/-! ### the slopes -/
def slope (qs : List Pr) (rs : List Rv) (q : Pr) : List Rat := qs.map fun o => if o.name = q.name then -q.own else cg rs q.name o.name
theorem offI_sum {qs : List Pr} (nd : (qs.map (·.name)).Nodup) (f : Pr → Rat) {k : Nat} {q : Pr} (hk : qs[k]? = some q) : ∀ i, i ≤ qs.length → offI (qs.map f) k i = ((qs.take i).map fun o => if o.name = q.name then 0 else absQ (f o)).sum
  | 0, _ => rfl
  | i + 1, hi => by
    have ih := offI_sum nd f hk i (by omega)
    have hlt : i < qs.length := by omega
    have et : qs.take (i + 1) = qs.take i ++ [qs[i]] := by rw [List.take_succ_eq_append_getElem hlt]
    have hg : (qs.map f).getD i 0 = f qs[i] := by simp [List.getD_eq_getElem?_getD, List.getElem?_eq_getElem, hlt]
    rw [et, List.map_append, List.sum_append, ← ih]
    show (if i = k then offI (qs.map f) k i else offI (qs.map f) k i + absQ ((qs.map f).getD i 0)) = _
    rw [hg]
    have hs : ([qs[i]].map fun o => if o.name = q.name then (0 : Rat) else absQ (f o)).sum = if qs[i].name = q.name then 0 else absQ (f qs[i]) := by
      rw [List.map_cons, List.map_nil, List.sum_cons, List.sum_nil, Rat.add_zero]
    rw [hs]
    obtain ⟨hk1, hk2⟩ := List.getElem?_eq_some_iff.mp hk
    by_cases e : i = k
    · subst e
      rw [if_pos rfl, if_pos (by rw [hk2]), Rat.add_zero]
    · rw [if_neg e, if_neg]
      intro z
      have h1 : (qs.map (·.name))[i]'(by rw [List.length_map]; exact hlt) = (qs.map (·.name))[k]'(by rw [List.length_map]; exact hk1) := by
        rw [List.getElem_map, List.getElem_map, hk2, z]
      exact e ((List.getElem_inj nd).mp h1)
theorem dom_is {qs : List Pr} {rs : List Rv} (h : POk qs) (hr : ROk (qs.map (·.name)) rs) : domB qs.length (qs.map (slope qs rs)) = decide (∀ q ∈ qs, total q.name rs < q.own) := by
  have key : ∀ i (hi : i < qs.length), (offI ((qs.map (slope qs rs)).getD i []) i qs.length < absQ (En (qs.map (slope qs rs)) i i)) ↔ total qs[i].name rs < qs[i].own := fun i hi => by
    have e1 : (qs.map (slope qs rs)).getD i [] = slope qs rs qs[i] := by simp [List.getD_eq_getElem?_getD, List.getElem?_eq_getElem, hi]
    have e2 : En (qs.map (slope qs rs)) i i = -qs[i].own := by
      unfold En
      rw [e1]
      unfold slope
      simp [List.getD_eq_getElem?_getD, List.getElem?_eq_getElem, hi]
    have hown := h.own qs[i] (List.getElem_mem hi)
    have e3 : absQ (-qs[i].own) = qs[i].own := by
      rw [RP.absQ_eq, if_pos (by grind), Rat.neg_neg]
    rw [e1, e2, e3]
    unfold slope
    rw [offI_sum h.nd _ (List.getElem?_eq_getElem hi) qs.length (Nat.le_refl _), List.take_length]
    have e4 : (qs.map fun o => if o.name = qs[i].name then (0 : Rat) else absQ (if o.name = qs[i].name then -qs[i].own else cg rs qs[i].name o.name)) = qs.map fun o => if o.name = qs[i].name then 0 else cg rs qs[i].name o.name := List.map_congr_left fun o _ => by
      by_cases e : o.name = qs[i].name
      · rw [if_pos e, if_pos e]
      · rw [if_neg e, if_neg e, if_neg e, RP.absQ_eq, if_neg (Rat.not_lt.mpr (cg_nonneg hr _ _))]
    rw [e4, total_is h.nd _ hr]
  unfold domB
  rw [Bool.eq_iff_iff, List.all_eq_true, decide_eq_true_iff]
  constructor
  · intro hh q hq
    obtain ⟨i, hi, rfl⟩ := List.mem_iff_getElem.mp hq
    exact (key i hi).mp (of_decide_eq_true (hh i (List.mem_range.mpr hi)))
  · intro hh i hi
    have hi := List.mem_range.mp hi
    exact decide_eq_true ((key i hi).mpr (hh _ (List.getElem_mem hi)))
end MM

set_option Elab.async false
set_option linter.all false
set_option maxRecDepth 100000
set_option maxHeartbeats 4000000
namespace RSk32
open PySem PySem.Spec PyProof.Rows L2 RS RPk32
local macro_rules | `(tactic| walk_at "fn") => `(tactic| fail)
local macro_rules | `(tactic| walk_at "ev2") => `(tactic| fail)
local macro_rules | `(tactic| walk_at "ev1") => `(tactic| first
  | (with_reducible exact args_nil) | (with_reducible apply args_cons) | (with_reducible exact toDs_nil) | (with_reducible apply toDs_d)
  | (with_reducible exact c_ok) | ((with_reducible apply var_dat); rfl) | ((with_reducible apply var_own); rfl) | ((with_reducible apply var_exc); rfl)
  | (with_reducible apply op2) | (with_reducible apply tup_ok) | (with_reducible apply lst_ok) | (with_reducible apply call_ok) | (with_reducible apply cb_ok) | (with_reducible apply sl_ok)
  | (with_reducible exact noPart_ok) | (with_reducible apply part_ok) | (with_reducible exact derefs_nil) | (with_reducible apply derefs_cons)
  | ((with_reducible show deref _ (.d _) = some _); rfl) | (with_reducible apply fMul_ok) | (with_reducible apply fDiv_ok) | (with_reducible apply fMod_ok) | (with_reducible apply fAddL)
  | ((with_reducible show fAdd _ _ = some _); rfl) | ((with_reducible show fSub _ _ = some _); rfl) | ((with_reducible show fLt _ _ = some _); rfl) | ((with_reducible show fLe _ _ = some _); rfl) | ((with_reducible show fGt _ _ = some _); rfl) | ((with_reducible show fGe _ _ = some _); rfl)
  | ((with_reducible show fIx _ _ = some _); rfl) | ((with_reducible show fAbs _ = some _); rfl) | ((with_reducible show fInt _ = some _); rfl) | ((with_reducible show fLen _ = some _); rfl) | ((with_reducible show fList _ = some _); rfl) | ((with_reducible show fIs _ _ = some _); rfl) | ((with_reducible show fIsNot _ _ = some _); rfl) | ((with_reducible show fIsi _ = some _); rfl)
  | ((with_reducible show List.length _ ≤ 100000); exact Nat.le_of_ble_eq_true rfl) | ((with_reducible show List.length _ = _); rfl)
  | (with_reducible apply test_bl) | (with_reducible apply not_ok) | walk_at "fn" | walk_at "ev2")
local macro_rules | `(tactic| walk_at "ev") => `(tactic| repeat' walk_at "ev1")
local macro_rules | `(tactic| walk_at "norm") => `(tactic| simp only [List.set_cons_zero, List.set_cons_succ, startL, List.map_cons, List.map_nil, List.length_cons, List.length_nil, List.replicate_succ, List.replicate_zero, List.cons_append, List.nil_append, Nat.reduceAdd, Nat.reduceSub])
open MM (Pr Rv pr2 strB dueP dueR total isIn cg slope)
open RP (Bt Bd Sq)
variable {E : En} {ce : List Cell}
/-! ### data -/
def pD (p : Pr) : RD := .tup [.str p.name, .str p.owner, sQ p.base, sQ p.own, sQ p.cost]
def rD (r : Rv) : RD := .tup [.str r.one, .str r.other, sQ r.cross]
def letL : List Nat := [97, 98, 99, 100, 101, 102, 103, 104, 105, 106, 107, 108, 109, 110, 111, 112, 113, 114, 115, 116, 117, 118, 119, 120, 121, 122]
theorem let_str : ("abcdefghijklmnopqrstuvwxyz" : Str) = SX.S letL := by decide +kernel
def isNm (s : Str) : Bool := (decide (1 ≤ s.length) && decide (s.length ≤ 12)) && s.cps.toList.all fun c => decide (c ∈ letL)
theorem mem_let (c : Nat) : decide (c ∈ ("abcdefghijklmnopqrstuvwxyz" : Str).cps.toList) = decide (c ∈ letL) := by rw [let_str]
theorem bls_map {α : Type} {f : α → Bool} : ∀ xs : List α, RD.bls (xs.map fun x => .bl (f x)) = some (xs.map f)
  | [] => rfl
  | x :: r => by
    rw [List.map_cons]
    show (RD.bls (r.map fun x => .bl (f x))).map _ = _
    rw [bls_map r]; rfl
theorem fLen_s {s : Str} (h : s.length ≤ 100000) : fLen [.str s] = some (.int (s.length : Int)) := by simp only [fLen, if_pos h]
theorem ev_is_name {s : Str} (hl : s.length ≤ 1000) : f_is_name E [.str s] ce = .ok (.bl (isNm s)) ce := by
  let S : Sg := ⟨[.dat (.str s), .un], ce, none⟩
  have t0 : mTest (mCB (liftL fIsi) (aCons (mVar 0) (aCons (mC (.ty "str")) aNil))) S = .ok true S := test_bl (cb_ok (args_cons (var_dat rfl) (args_cons c_ok args_nil)) (derefs_cons rfl (derefs_cons rfl derefs_nil)) (by simp only [fIsi, RD.kind]; rfl))
  have t1 : mTest (mChain (lift2 fLe) (lift2 fLe) (mC (.int 1)) (mCB (liftL fLen) (aCons (mVar 0) aNil)) (mC (.int 12))) S = .ok (decide ((1 : Int) ≤ s.length) && decide ((s.length : Int) ≤ 12)) S := test_bl (chain_le c_ok (cb_ok (args_cons (var_dat rfl) args_nil) (derefs_cons rfl derefs_nil) (fLen_s (by omega))) c_ok)
  have e1 : (decide ((1 : Int) ≤ s.length) && decide ((s.length : Int) ≤ 12)) = (decide (1 ≤ s.length) && decide (s.length ≤ 12)) := by congr 1 <;> exact decide_eq_decide.mpr (by omega)
  rw [e1] at t1
  have t2 : mCB (liftL fAll) (aCons (mFrz (nLc (mIter (mVar 0)) (gSet 1) (fun S => .ok true S) (mOp (mIn false) (mVar 1) (mC (.str "abcdefghijklmnopqrstuvwxyz"))) [1])) aNil) S = .ok (.d (.bl (s.cps.toList.all fun c => decide (c ∈ letL)))) S := by
    refine cb_ok (ds := [.lst (s.cps.toList.map fun c => .bl (decide (c ∈ letL)))]) (args_cons (frz_ok (c := .lst (s.cps.toList.map fun c => .bl (decide (c ∈ letL)))) (nlc_ok (S1 := S) (iter_str (var_dat rfl)) (by show (List.map _ _).length ≤ _; rw [List.length_map, Array.length_toList]; exact Nat.le_trans hl (by decide)) ?_) rfl) args_nil) (derefs_cons rfl derefs_nil) ?_
    · exact lcL_map (fun c => .str ⟨#[c]⟩) (fun c => .bl (decide (c ∈ letL))) trivial s.cps.toList [] fun c _ => ⟨⟨[.dat (.str s), .dat (.str ⟨#[c]⟩)], ce, none⟩, _, _, _, _, rfl, rfl, ev_is (in_sign (var_dat rfl) c_ok rfl rfl) (by rw [if_neg (by decide), mem_let]), rfl, rfl⟩
    · simp only [fAll, bls_map]
      show some (RD.bl ((List.map _ _).all id)) = _
      rw [List.all_map]; rfl
  unfold isNm
  cases hb : (decide (1 ≤ s.length) && decide (s.length ≤ 12)) with
  | true =>
    rw [hb] at t1
    exact fun_rt (S := S) ((seq_nx (S1 := S) ((if_f ((or_f (not_ok t0)).trans (not_ok t1))).trans rfl)).trans (ret_d t2))
  | false =>
    rw [hb] at t1
    exact fun_rt (S := S) (seq_rt ((if_t ((or_f (not_ok t0)).trans (not_ok t1))).trans (ret_d c_ok)))
theorem ev_law_is_name {s : Str} (hl : s.length ≤ 1000) : f_law_is_name E [.str s] ce = .ok (.bl (isNm s)) ce := by
  let S : Sg := ⟨[.dat (.str s), .un], ce, none⟩
  have t1 : mTest (mChain (lift2 fLe) (lift2 fLe) (mC (.int 1)) (mCB (liftL fLen) (aCons (mVar 0) aNil)) (mC (.int 12))) S = .ok (decide ((1 : Int) ≤ s.length) && decide ((s.length : Int) ≤ 12)) S := test_bl (chain_le c_ok (cb_ok (args_cons (var_dat rfl) args_nil) (derefs_cons rfl derefs_nil) (fLen_s (by omega))) c_ok)
  have e1 : (decide ((1 : Int) ≤ s.length) && decide ((s.length : Int) ≤ 12)) = (decide (1 ≤ s.length) && decide (s.length ≤ 12)) := by congr 1 <;> exact decide_eq_decide.mpr (by omega)
  rw [e1] at t1
  have loop : ∀ (cs : List Nat) (x : SV), ∃ S' : Sg, forL (fun _ => True) (gSet 1) (mIfS (mTest (mOp (mIn true) (mVar 1) (mC (.str "abcdefghijklmnopqrstuvwxyz")))) (mRet (mC (.bl false))) mNext) (cs.map fun c => RD.str ⟨#[c]⟩) ⟨[.dat (.str s), x], ce, none⟩ = (if cs.all (fun c => decide (c ∈ letL)) = true then .nx S' else .rt (.bl false) S') ∧ S'.ce = ce := by
    intro cs
    induction cs with
    | nil => exact fun x => ⟨⟨[.dat (.str s), x], ce, none⟩, by unfold forL; rw [List.map_nil]; simp only [if_true, List.all_nil], rfl⟩
    | cons c r ih =>
      intro x
      let S1 : Sg := ⟨[.dat (.str s), .dat (.str ⟨#[c]⟩)], ce, none⟩
      have ht : mTest (mOp (mIn true) (mVar 1) (mC (.str "abcdefghijklmnopqrstuvwxyz"))) S1 = .ok (!decide (c ∈ letL)) S1 := test_bl (ev_is (in_sign (var_dat rfl) c_ok rfl rfl) (by rw [if_pos rfl, mem_let]))
      obtain ⟨S', h1, h2⟩ := ih (.dat (.str ⟨#[c]⟩))
      by_cases hc : c ∈ letL
      · rw [decide_eq_true hc] at ht
        refine ⟨S', ?_, h2⟩
        rw [List.all_cons, decide_eq_true hc, Bool.true_and, ← h1, List.map_cons]
        conv => lhs; unfold forL
        rw [if_pos trivial]
        show (match (mIfS _ _ _ S1 : Out) with | .nx S2 => _ | .ct S2 => _ | .bk S2 => _ | .rt r S2 => _ | .ex e S2 => _ | .st => _) = _
        rw [(if_f ht).trans rfl]
        rfl
      · rw [decide_eq_false hc] at ht
        refine ⟨S1, ?_, rfl⟩
        rw [List.all_cons, decide_eq_false hc, Bool.false_and, if_neg (by decide), List.map_cons]
        unfold forL
        rw [if_pos trivial]
        show (match (mIfS _ _ _ S1 : Out) with | .nx S2 => _ | .ct S2 => _ | .bk S2 => _ | .rt r S2 => _ | .ex e S2 => _ | .st => _) = _
        rw [(if_t ht).trans (ret_d c_ok)]
  obtain ⟨S', h1, h2⟩ := loop s.cps.toList .un
  have hf : mFor (mIter (mVar 0)) (gSet 1) (mIfS (mTest (mOp (mIn true) (mVar 1) (mC (.str "abcdefghijklmnopqrstuvwxyz")))) (mRet (mC (.bl false))) mNext) S = (if s.cps.toList.all (fun c => decide (c ∈ letL)) = true then .nx S' else .rt (.bl false) S') := for_ok (iter_str (S1 := S) (var_dat rfl)) h1
  unfold isNm
  cases hb : (decide (1 ≤ s.length) && decide (s.length ≤ 12)) with
  | true =>
    rw [hb] at t1
    cases ha : s.cps.toList.all (fun c => decide (c ∈ letL)) with
    | true =>
      rw [ha, if_pos rfl] at hf
      have := fun_rt (n := 2) (m := m_law_is_name E) (ds := [.str s]) (ce := ce) (S := S') ((seq_nx (S1 := S) ((if_f (not_ok t1)).trans rfl)).trans ((seq_nx hf).trans (ret_d c_ok)))
      rw [h2] at this; exact this
    | false =>
      rw [ha, if_neg (by decide)] at hf
      have := fun_rt (n := 2) (m := m_law_is_name E) (ds := [.str s]) (ce := ce) (S := S') ((seq_nx (S1 := S) ((if_f (not_ok t1)).trans rfl)).trans (seq_rt hf))
      rw [h2] at this; exact this
  | false =>
    rw [hb] at t1
    exact fun_rt (S := S) (seq_rt ((if_t (not_ok t1)).trans (ret_d c_ok)))
/-! ### ratios -/
theorem ev_sign (q : Rat) : f_sign E [sQ q] ce = .ok (.int (sgn (q.num, (q.den : Int)))) ce := by
  refine brg_ret (es := [RP.eR (q.num, (q.den : Int))]) (d := .int (sgn (q.num, (q.den : Int)))) R_sign_mk (fun r h => ?_) rfl rfl
  obtain ⟨a, e, rfl⟩ := h
  simp only [List.cons.injEq, and_true] at e
  unfold RP.eR at e
  injection e with e
  injection e with e1 e2
  injection e2 with e2 _
  injection e1 with e1
  injection e2 with e2
  rw [show a = (q.num, (q.den : Int)) from Prod.ext e1.symm e2.symm]
theorem sgn_lt1 (q : Rat) : (sgn (q.num, (q.den : Int)) < 1) = (q ≤ 0) := by
  unfold sgn
  have : (0 < q.num) ↔ ¬ q ≤ 0 := by
    have h := Rat.num_nonneg (q := -q)
    rw [Rat.neg_num] at h
    have h2 : 0 ≤ -q ↔ q ≤ 0 := by grind
    rw [h2] at h
    rw [← h]; omega
  by_cases h : q ≤ 0
  · have h2 : ¬ (0 < q.num) := fun z => (this.mp z) h
    simp only [h2, h, if_false]
    split <;> simp
  · have h2 : 0 < q.num := this.mpr h
    simp only [h2, h, if_true]; decide
theorem sgn_lt0 (q : Rat) : (sgn (q.num, (q.den : Int)) < 0) = (q < 0) := by
  unfold sgn
  have h1 : (q.num < 0) ↔ q < 0 := by
    rw [← Rat.not_le, ← Rat.num_nonneg]; omega
  by_cases h : q < 0
  · have h2 : q.num < 0 := h1.mpr h
    have h3 : ¬ 0 < q.num := by omega
    simp only [h2, h3, h, if_true, if_false]; decide
  · have h2 : ¬ q.num < 0 := fun z => h (h1.mp z)
    simp only [h2, h, if_false]
    split <;> simp
theorem ev_sub0 {q : Rat} (h : Sq q) : f_sub E [.tup ([0, 1].map .int), sQ q] ce = .ok (sQ (-q)) ce := by
  refine brg_ret (es := [RP.eQ 0, RP.eQ q]) (d := RP.eQ (0 - q)) (R_sub_mk ((RP.bt_zero (B := 1) (by decide)).mono (by decide)) h) (fun r hr => ?_) rfl (by rw [toS_eQ]; congr 2; rw [Rat.sub_eq_add_neg, Rat.zero_add])
  obtain ⟨a, b, e, _, rfl⟩ := hr
  simp only [List.cons.injEq, and_true] at e
  cases eQ_inj e.1; cases eQ_inj e.2; rfl
/-- the law's ratio -/
theorem ev_law_ratio {n : Int} {d : Nat} (hd : 0 < d) (hb : Bd 9000 (d : Int)) : f_law_ratio E [.int n, .int (d : Int)] ce = .ok (sQ (Rat.divInt n d)) ce := by
  let T : Nat → Nat → Sg := fun a b => ⟨[.dat (.int n), .dat (.int (d : Int)), .dat (.int (a : Int)), .dat (.int (b : Int))], ce, none⟩
  have loop : ∀ (b a : Nat), ∃ k, whileN (mTest (mOp (lift2 fGt) (mVar 3) (mC (.int 0)))) (mPar 2 3 (aCons (mVar 3) (aCons (mOp (lift2 fMod) (mCB (liftL fInt) (aCons (mVar 2) aNil)) (mVar 3)) aNil))) k (T a b) = .nx (T (Nat.gcd a b) 0) := by
    intro b
    induction b using Nat.strongRecOn with
    | _ b ih =>
      intro a
      have ht : mTest (mOp (lift2 fGt) (mVar 3) (mC (.int 0))) (T a b) = .ok (decide ((0 : Int) < (b : Int))) (T a b) := test_bl (op2 (var_dat rfl) c_ok rfl rfl rfl)
      by_cases h : 0 < b
      · rw [decide_eq_true (by omega)] at ht
        have := ih (a % b) (Nat.mod_lt _ h) b
        rw [show Nat.gcd b (a % b) = Nat.gcd a b by rw [Nat.gcd_comm b (a % b), ← Nat.gcd_rec, Nat.gcd_comm]] at this
        refine while_st ht (par_ok (var_dat rfl) (ev_is (op2 (cb_ok (args_cons (var_dat rfl) args_nil) (derefs_cons rfl derefs_nil) rfl) (var_dat rfl) rfl rfl (fMod_ok (by omega))) (by rw [Int.natCast_emod]))) this (by intro z; cases z)
      · have hb0 : b = 0 := by omega
        subst hb0
        rw [decide_eq_false (by omega)] at ht
        rw [Nat.gcd_zero_right]
        exact while_end ht
  have hg : 0 < Nat.gcd n.natAbs d := Nat.gcd_pos_of_pos_right _ hd
  have hgl : Nat.gcd n.natAbs d ≤ d := Nat.gcd_le_right _ hd
  have ok : okDiv ((Nat.gcd n.natAbs d : Nat) : Int) := by
    refine ⟨by omega, ?_⟩
    have h1 := hb.lt
    rw [Int.natAbs_natCast] at h1 ⊢
    exact (Nat.log2_lt (by omega)).mpr (Nat.lt_of_le_of_lt hgl h1)
  have low : RP.eR (RP.lowR n (d : Int)) = RP.eQ (Rat.divInt n d) := RP.eQ_low (by omega)
  have low2 : RD.tup [.int (n / ((Nat.gcd n.natAbs d : Nat) : Int)), .int ((d : Int) / ((Nat.gcd n.natAbs d : Nat) : Int))] = sQ (Rat.divInt n d) := by
    have e1 := congrArg toS low
    rw [toS_eQ] at e1
    exact Option.some.inj e1
  refine fun_rt (S := T (Nat.gcd n.natAbs d) 0) ((seq_nx (S1 := ⟨[.dat (.int n), .dat (.int (d : Int)), .dat (.int (n.natAbs : Int)), .un], ce, none⟩) (asg_set (cb_ok (args_cons (var_dat rfl) args_nil) (derefs_cons rfl derefs_nil) rfl))).trans ?_)
  refine (seq_nx (S1 := T n.natAbs d) (asg_set (ev_is (cb_ok (args_cons (var_dat rfl) args_nil) (derefs_cons rfl derefs_nil) rfl) rfl))).trans ?_
  refine (seq_nx (while_of (loop d n.natAbs) (by intro z; cases z))).trans ?_
  refine (seq_nx (S1 := T (Nat.gcd n.natAbs d) 0) ((if_f (test_bl (ev_is (op2 (var_dat rfl) c_ok rfl rfl rfl) (congrArg RD.bl (decide_eq_false (by omega)))))).trans rfl)).trans ?_
  exact ret_d (ev_is (tup_ok (args_cons (op2 (var_dat rfl) (var_dat rfl) rfl rfl (fDiv_ok ok)) (args_cons (op2 (var_dat rfl) (var_dat rfl) rfl rfl (fDiv_ok ok)) args_nil)) (toDs_d (toDs_d toDs_nil)) (Nat.le_of_ble_eq_true rfl)) low2)
theorem ixQ0 (q : Rat) : fIx (sQ q) (.int 0) = some (.int q.num) := rfl
theorem ixQ1 (q : Rat) : fIx (sQ q) (.int 1) = some (.int (q.den : Int)) := rfl
theorem okm {i j : Int} {a b : Nat} (hi : Bd a i) (hj : Bd b j) (h : a + b ≤ 20000) : okMul i j := okMul_of hi.lt hj.lt (by omega)
theorem ev_law_add {a b : Rat} (ha : Bt 2000 a) (hb : Bt 2000 b) : f_law_add E [sQ a, sQ b] ce = .ok (sQ (a + b)) ce := by
  let S : Sg := ⟨[.dat (sQ a), .dat (sQ b)], ce, none⟩
  have dd : Bd 9000 (((a.den * b.den : Nat) : Int)) := by
    have := (ha.2.mul hb.2).mono (C := 9000) (by decide)
    rw [Int.natCast_mul]; exact this
  refine fun_rt (S := S) (ret_d (call_ok (S1 := S) (S2 := S) (ds := [.int (a.num * b.den + b.num * a.den), .int ((a.den * b.den : Nat) : Int)]) (args_cons (op2 (op2 (op2 (var_dat rfl) c_ok rfl rfl (ixQ0 a)) (op2 (var_dat rfl) c_ok rfl rfl (ixQ1 b)) rfl rfl (fMul_ok (okm ha.1 hb.2 (by decide)))) (op2 (op2 (var_dat rfl) c_ok rfl rfl (ixQ0 b)) (op2 (var_dat rfl) c_ok rfl rfl (ixQ1 a)) rfl rfl (fMul_ok (okm hb.1 ha.2 (by decide)))) rfl rfl rfl) (args_cons (op2 (op2 (var_dat rfl) c_ok rfl rfl (ixQ1 a)) (op2 (var_dat rfl) c_ok rfl rfl (ixQ1 b)) rfl rfl (fMul_ok (okm ha.2 hb.2 (by decide)))) args_nil)) (toDs_d (ev_toD (by rw [Int.natCast_mul]) toDs_nil)) rfl ?_))
  show f_law_ratio E [.int (a.num * b.den + b.num * a.den), .int ((a.den * b.den : Nat) : Int)] ce = _
  rw [ev_law_ratio (Nat.mul_pos a.den_pos b.den_pos) dd]
  congr 2
  have := RP.add_divInt a b
  rw [Int.natCast_mul]; exact this
where ev_toD {i j : Int} {S : Sg} (h : i = j) (k : toDs [] S = .ok [] S) : toDs [.d (.int i)] S = .ok [.int j] S := by subst h; exact toDs_d k
theorem ev_law_less {a b : Rat} (ha : Bt 2000 a) (hb : Bt 2000 b) : f_law_less E [sQ a, sQ b] ce = .ok (.bl (decide (a < b))) ce := by
  let S : Sg := ⟨[.dat (sQ a), .dat (sQ b)], ce, none⟩
  refine fun_rt (S := S) (ret_d (ev_is (op2 (op2 (op2 (var_dat rfl) c_ok rfl rfl (ixQ0 a)) (op2 (var_dat rfl) c_ok rfl rfl (ixQ1 b)) rfl rfl (fMul_ok (okm ha.1 hb.2 (by decide)))) (op2 (op2 (var_dat rfl) c_ok rfl rfl (ixQ0 b)) (op2 (var_dat rfl) c_ok rfl rfl (ixQ1 a)) rfl rfl (fMul_ok (okm hb.1 ha.2 (by decide)))) rfl rfl rfl) ?_))
  congr 1
  exact decide_eq_decide.mpr (iff_of_eq (RP.lt_iff' a b))

end RSk32

set_option Elab.async false
set_option linter.all false
set_option maxRecDepth 100000
set_option maxHeartbeats 2000000
namespace RS
open PySem PySem.Spec PyProof.Rows L2
/-! ### loops, step by step -/
section
variable {ok : Sg → Prop} {g : MG} {b : MS} {d : RD} {ds : List RD} {S S1 S2 : Sg}
theorem forL_nil (h : ok S) : forL ok g b [] S = .nx S := by unfold forL; rw [if_pos h]
theorem forL_nx (h : ok S) (h1 : g d S = some S1) (h2 : b S1 = .nx S2) : forL ok g b (d :: ds) S = forL ok g b ds S2 := by
  conv => lhs; unfold forL
  rw [if_pos h, h1]; simp only [h2]
theorem forL_rt {r : RD} (h : ok S) (h1 : g d S = some S1) (h2 : b S1 = .rt r S2) : forL ok g b (d :: ds) S = .rt r S2 := by
  unfold forL
  rw [if_pos h, h1]; simp only [h2]
theorem forL_ex {x : Exn} (h : ok S) (h1 : g d S = some S1) (h2 : b S1 = .ex x S2) : forL ok g b (d :: ds) S = .ex x S2 := by
  unfold forL
  rw [if_pos h, h1]; simp only [h2]
end
/-! ### texts in lists -/
section
variable {ce : List Cell} {S S1 S2 : Sg}
theorem flat_strs : ∀ l : List Str, flatVs (l.map .str) = some (l.map V.str)
  | [] => rfl
  | x :: r => by rw [List.map_cons]; unfold flatVs; rw [flat_strs r]; rfl
theorem inV_strs (x : Str) (l : List Str) : inV (.str x) (l.map V.str) = decide (x ∈ l) := by
  unfold inV
  induction l with
  | nil => rfl
  | cons y r ih =>
    rw [List.map_cons, List.any_cons, ih]
    show ((y == x) || decide (x ∈ r)) = decide (x ∈ y :: r)
    by_cases h : y = x
    · subst h; simp
    · have h2 : (y == x) = false := by simpa using h
      rw [h2, Bool.false_or]
      exact decide_eq_decide.mpr ⟨List.mem_cons_of_mem _, fun z => (List.mem_cons.mp z).resolve_left fun q => h q.symm⟩
theorem inD_strs {x : Str} {l : List Str} : inD ce (.str x) (.lst (l.map .str)) = some (decide (x ∈ l)) := by
  unfold inD inF
  have e : (itemsOf (.lst (l.map .str))).bind flatVs = some (l.map V.str) := flat_strs l
  simp only [scalR, e, inV_strs]
theorem inD_strsT {x : Str} {l : List Str} : inD ce (.str x) (.tup (l.map .str)) = some (decide (x ∈ l)) := by
  unfold inD inF
  have e : (itemsOf (.tup (l.map .str))).bind flatVs = some (l.map V.str) := flat_strs l
  simp only [scalR, e, inV_strs]
theorem in_ok {neg : Bool} {a b : ME} {p q : PV} {x d : RD} {c : Bool} (ha : a S = .ok p S1) (hb : b S1 = .ok q S2) (h1 : deref S2 p = some x) (h2 : deref S2 q = some d) (h : inD S2.ce x d = some c) : mOp (mIn neg) a b S = .ok (.d (.bl (if neg then !c else c))) S2 := by
  unfold mOp; rw [ha, Rr.bind_ok, hb, Rr.bind_ok]; unfold mIn; rw [h1, h2]; simp only [h, Option.map_some, retO]
/-- pairs of texts -/
def tp (p : Str × Str) : RD := .tup [.str p.1, .str p.2]
def tpy (p : Str × Str) : PyData := .tuple [.str p.1, .str p.2]
theorem tp_unl (p : Str × Str) : RD.unl ce (tp p) = tp p := by unfold tp; simp only [RD.unl, RD.unls]
theorem tps_unl : ∀ l : List (Str × Str), RD.unls ce (l.map tp) = l.map tp
  | [] => rfl
  | p :: r => by rw [List.map_cons]; simp only [RD.unls]; rw [tp_unl, tps_unl r]
theorem tps_py : ∀ l : List (Str × Str), RD.pys (l.map tp) = some (l.map tpy)
  | [] => rfl
  | p :: r => by rw [List.map_cons, List.map_cons]; simp only [RD.pys]; rw [tps_py r]; rfl
def SO2 (p : Str × Str) : Prop := PyData.strOk p.1 = true ∧ PyData.strOk p.2 = true
theorem shp_tpy {p : Str × Str} (h : SO2 p) : RP.Shp 1 (tpy p) := by
  refine ⟨?_, Nat.le_refl _⟩
  show (PyData.strOk p.1 && (PyData.strOk p.2 && true)) = true
  rw [h.1, h.2]; rfl
theorem eqv_tp (p q : Str × Str) : PyData.eqv (tpy p) (tpy q) = decide (p = q) := by
  show ((p.1 == q.1) && ((p.2 == q.2) && true)) = _
  rw [Bool.and_true]
  by_cases h : p = q
  · subst h; simp
  · rw [decide_eq_false h]
    by_cases h1 : p.1 = q.1
    · have h2 : p.2 ≠ q.2 := fun z => h (Prod.ext h1 z)
      simp [h1, h2]
    · simp [h1]
theorem inD_tps {x : Str × Str} {l : List (Str × Str)} (hx : SO2 x) (hl : ∀ p ∈ l, SO2 p) : inD ce (tp x) (.lst (l.map tp)) = some (decide (x ∈ l)) := by
  have e1 : resD ce (tp x) = some (tpy x) := by unfold resD; rw [tp_unl, tp_unl]; rfl
  have e2 : resD ce (.lst (l.map tp)) = some (.list (l.map tpy)) := by
    unfold resD
    have : RD.unl ce (.lst (l.map tp)) = .lst (l.map tp) := by simp only [RD.unl]; rw [tps_unl]
    rw [this, this]; simp only [RD.py]; rw [tps_py]; rfl
  have s1 : SeqAt.shaped (tpy x) = true := (shp_tpy hx).shaped (by decide)
  have s2 : SeqAt.shaped (.list (l.map tpy)) = true := (RP.shp_list (n := 1) fun p hp => shp_tpy (hl p hp)).shaped (by decide)
  unfold inD
  have e0 : inF (tp x) (.lst (l.map tp)) = none := rfl
  rw [e0]
  simp only [e1, e2, s1, s2, and_self, if_true]
  congr 1
  rw [List.any_map]
  induction l with
  | nil => rfl
  | cons y r ih =>
    rw [List.any_cons]
    have ih := ih (fun p hp => hl p (List.mem_cons_of_mem _ hp)) (by
      unfold resD
      have : RD.unl ce (.lst (r.map tp)) = .lst (r.map tp) := by simp only [RD.unl]; rw [tps_unl]
      rw [this, this]; simp only [RD.py]; rw [tps_py]; rfl) ((RP.shp_list (n := 1) fun p hp => shp_tpy (hl p (List.mem_cons_of_mem _ hp))).shaped (by decide)) rfl
    rw [ih]
    show (PyData.eqv (tpy y) (tpy x) || decide (x ∈ r)) = decide (x ∈ y :: r)
    rw [eqv_tp]
    by_cases h : y = x
    · subst h; simp
    · rw [decide_eq_false h, Bool.false_or]
      exact decide_eq_decide.mpr ⟨List.mem_cons_of_mem _, fun z => (List.mem_cons.mp z).resolve_left fun q => h q.symm⟩
/-! ### dicts -/
theorem valR_some {κ α : Type} [DecidableEq κ] (k : κ) : ∀ {ks : List κ} {ds : List α}, ks.length = ds.length → (valR ks ds k).isSome = decide (k ∈ ks)
  | [], [], _ => rfl
  | [], _ :: _, h => by cases h
  | _ :: _, [], h => by cases h
  | a :: ks, d :: ds, h => by
    have ih := valR_some k (ks := ks) (ds := ds) (by simpa using h)
    unfold valR at *
    rw [List.zip_cons_cons]
    by_cases e : a = k
    · rw [List.find?_cons_of_pos (by simpa using e)]
      subst e; simp
    · rw [List.find?_cons_of_neg (by simpa using e), ih]
      exact decide_eq_decide.mpr ⟨List.mem_cons_of_mem _, fun z => (List.mem_cons.mp z).resolve_left fun q => e q.symm⟩
theorem valR_map {κ α β : Type} [DecidableEq κ] (f : α → κ) (g : α → β) (k : κ) (xs : List α) : valR (xs.map f) (xs.map g) k = (xs.find? fun x => decide (f x = k)).map g := by
  unfold valR
  induction xs with
  | nil => rfl
  | cons x r ih =>
    rw [List.map_cons, List.map_cons, List.zip_cons_cons]
    by_cases e : f x = k
    · rw [List.find?_cons_of_pos (by simpa using e), List.find?_cons_of_pos (by simpa using e)]; rfl
    · rw [List.find?_cons_of_neg (by simpa using e), List.find?_cons_of_neg (by simpa using e), ih]
theorem din_ok {neg : Bool} {a b : ME} {p q : PV} {x d : RD} {o : Option RD} (ha : a S = .ok p S1) (hb : b S1 = .ok q S2) (h1 : deref S2 p = some x) (h2 : deref S2 q = some d) (h : dgetD d x = some o) : mOp (dIn neg) a b S = .ok (.d (.bl (if neg then !o.isSome else o.isSome))) S2 := by
  unfold mOp; rw [ha, Rr.bind_ok, hb, Rr.bind_ok]; unfold dIn; rw [h1, h2]; simp only [h]
theorem dget_eq {a b : ME} {p q : PV} {x d : RD} {r : RD} (ha : a S = .ok q S1) (hb : b S1 = .ok p S2) (h1 : deref S2 p = some x) (h2 : deref S2 q = some d) (h : dgetD d x = some (some r)) : mOp dGet a b S = .ok (.d r) S2 := by
  unfold mOp; rw [ha, Rr.bind_ok, hb, Rr.bind_ok]; unfold dGet; rw [h1, h2]; simp only [h]
theorem dget2_eq {a b x : ME} {p q : PV} {k d e : RD} {o : Option RD} {S3 : Sg} (ha : a S = .ok q S1) (h0 : deref S1 q = some d) (hd : isDD d = true) (hb : b S1 = .ok p S2) (hx : x S2 = .ok (.d e) S3) (h1 : deref S3 p = some k) (h2 : deref S3 q = some d) (h : dgetD d k = some o) : mDGet2 a b x S = .ok (.d (o.getD e)) S3 := by
  unfold mDGet2
  rw [ha, Rr.bind_ok, h0]
  simp only [hd, if_true]
  rw [hb, Rr.bind_ok, hx, Rr.bind_ok]
  unfold dGet2R
  rw [h1, h2]
  simp only [h]
  cases o <;> rfl
/-- d[k] = v, the dict in a cell -/
theorem put_ok {e o i : ME} {p : PV} {L : Nat} {d x : RD} {c c' : Cell} {S3 : Sg} (he : e S = .ok (.d d) S1) (ho : o S1 = .ok (.d (.loc L)) S2) (hi : i S2 = .ok p S3) (hk : deref S3 p = some x) (hc : S3.ce[L]? = some c) (hp : putDC c x d = some c') : mPut e o i S = .nx { S3 with ce := S3.ce.set L c' } := by
  unfold mPut
  rw [he, out_ok, ho, out_ok, hi, out_ok, toD_d, out_ok]
  have h2 : cellOf S3 (.d (.loc L)) = some c := hc
  simp only [hk, h2, hp]
  rfl
theorem raise1_ok {c : Str} {e : ME} {p : PV} (h : e S = .ok p S1) : mRaise1 c e S = .ex ⟨c, none⟩ S1 := by unfold mRaise1; rw [h, out_ok]
theorem keys_ok {e : ME} {p : PV} {ks : List Key} {ds : List RD} (h : e S = .ok p S1) (hd : deref S1 p = some (.fk ks ds)) : mKeys e S = .ok ⟨ks.map keyR, fun _ => True⟩ S1 := by unfold mKeys; rw [h, Rr.bind_ok, hd]
theorem lvals_fk {e : ME} {p : PV} {ks : List Key} {ds : List RD} (h : e S = .ok p S1) (hd : deref S1 p = some (.fk ks ds)) : mListVals e S = .ok (.d (.lst ds)) S1 := by unfold mListVals; rw [h, Rr.bind_ok, hd]
theorem fld_ok {c f : Str} {e : ME} {p : PV} {fs : List Str} {ds : List RD} {d : RD} (h : e S = .ok p S1) (hd : deref S1 p = some (.obj c fs ds)) (hf : fldD fs ds f = some d) : mFld c f e S = .ok (.d d) S1 := by unfold mFld; rw [h, Rr.bind_ok, hd]; simp only [if_true, hf]
theorem setF_ok {c f : Str} {e o : ME} {L : Nat} {d : RD} {fs : List Str} {ds : List RD} (he : e S = .ok (.d d) S1) (ho : o S1 = .ok (.d (.loc L)) S2) (hc : S2.ce[L]? = some (.obj c fs ds)) (nd : fs.Nodup) (hl : fs.length < 1000) : mSetF c f e o S = .nx { S2 with ce := S2.ce.set L (.obj c (pk fs f) (pv fs ds f d)) } := by
  unfold mSetF
  rw [he, out_ok, ho, out_ok, toD_d, out_ok]
  have h2 : cellOf S2 (.d (.loc L)) = some (.obj c fs ds) := hc
  simp only [h2, true_and, if_pos (And.intro nd hl)]
  rfl
theorem meth_ok {c m : Str} {n : Nat} {f : MF} {o : ME} {a : MA} {q d : RD} {fs : List Str} {es ds : List RD} {ps : List PV} {ce' : List Cell} {S3 : Sg} (ho : o S = .ok (.d q) S1) (hd : deref S1 (.d q) = some (.obj c fs es)) (hm : m ∉ fs) (ha : a S1 = .ok ps S2) (ht : toDs ps S2 = .ok ds S3) (hn : (q :: ds).length = n) (hf : f (q :: ds) S3.ce = .ok d ce') : mMeth c m n f o a S = .ok (.d d) { S3 with ce := ce' } := by
  unfold mMeth
  rw [ho, Rr.bind_ok]
  simp only [hd, true_and, if_pos hm]
  rw [ha, Rr.bind_ok, ht, Rr.bind_ok, if_pos hn, hf]
theorem make_ok {c : Str} {n : Nat} {f : MF} {a : MA} {ds : List RD} {ps : List PV} {ce' : List Cell} (ha : a S = .ok ps S1) (ht : toDs ps S1 = .ok ds S2) (hn : (RD.loc S2.ce.length :: ds).length = n) (hf : f (.loc S2.ce.length :: ds) (S2.ce ++ [.obj c [] []]) = .ok .non ce') : mMake c n f a S = .ok (.d (.loc S2.ce.length)) { S2 with ce := ce' } := by
  unfold mMake; rw [ha, Rr.bind_ok, ht, Rr.bind_ok, if_pos hn, hf]
theorem make_ex {c : Str} {n : Nat} {f : MF} {a : MA} {ds : List RD} {ps : List PV} {e : Exn} {ce' : List Cell} (ha : a S = .ok ps S1) (ht : toDs ps S1 = .ok ds S2) (hn : (RD.loc S2.ce.length :: ds).length = n) (hf : f (.loc S2.ce.length :: ds) (S2.ce ++ [.obj c [] []]) = .ex e ce') : mMake c n f a S = .ex e { S2 with ce := ce' } := by
  unfold mMake; rw [ha, Rr.bind_ok, ht, Rr.bind_ok, if_pos hn, hf]
/-- an f-string of names gives some text -/
def Namy (S : Sg) : FPart → Prop
  | .s x => x.length ≤ 1000
  | .e m => ∃ p y, m S = .ok p S ∧ deref S p = some (.str y) ∧ y.length ≤ 1000
theorem fs_ok : ∀ (ps : List FPart) (acc : Str), (∀ p ∈ ps, Namy S p) → acc.length + ps.length * 1000 ≤ 100000 → ∃ z, mFs ps acc S = .ok z S
  | [], acc, _, _ => ⟨acc, rfl⟩
  | .s x :: r, acc, h, hl => by
    have hx : x.length ≤ 1000 := h _ List.mem_cons_self
    have e : (acc ++ x).length = acc.length + x.length := by
      show (acc.cps ++ x.cps).size = _
      rw [Array.size_append]; rfl
    simp only [List.length_cons] at hl
    unfold mFs
    rw [if_pos (by rw [e]; omega)]
    exact fs_ok r _ (fun p hp => h p (List.mem_cons_of_mem _ hp)) (by rw [e]; omega)
  | .e m :: r, acc, h, hl => by
    obtain ⟨p, y, h1, h2, hx⟩ := h (.e m) List.mem_cons_self
    have e : (acc ++ y).length = acc.length + y.length := by
      show (acc.cps ++ y.cps).size = _
      rw [Array.size_append]; rfl
    simp only [List.length_cons] at hl
    unfold mFs
    rw [h1, Rr.bind_ok, h2]
    simp only [fFmt]
    rw [if_pos (show y.length ≤ 100000 by omega)]
    simp only
    rw [if_pos (by rw [e]; omega)]
    exact fs_ok r _ (fun p hp => h p (List.mem_cons_of_mem _ hp)) (by rw [e]; omega)
theorem fstr_ok {ps : List FPart} (h : ∀ p ∈ ps, Namy S p) (hl : ps.length ≤ 90) : ∃ z, mFstr ps S = .ok (.d (.str z)) S := by
  obtain ⟨z, hz⟩ := fs_ok ps Str.empty h (by show 0 + _ ≤ _; omega)
  exact ⟨z, by unfold mFstr; rw [hz, Rr.bind_ok]⟩
theorem namy_var {i : Nat} {y : Str} (h : S.sl[i]? = some (.dat (.str y))) (hl : y.length ≤ 1000) : Namy S (.e (mVar i)) := ⟨_, y, var_dat h, rfl, hl⟩
end
end RS

set_option Elab.async false
set_option linter.all false
set_option maxRecDepth 100000
set_option maxHeartbeats 4000000
namespace RSk32
open PySem PySem.Spec PyProof.Rows L2 RS RPk32
local macro_rules | `(tactic| walk_at "fn") => `(tactic| fail)
local macro_rules | `(tactic| walk_at "ev2") => `(tactic| fail)
local macro_rules | `(tactic| walk_at "ev1") => `(tactic| first
  | (with_reducible exact args_nil) | (with_reducible apply args_cons) | (with_reducible exact toDs_nil) | (with_reducible apply toDs_d)
  | (with_reducible exact c_ok) | ((with_reducible apply var_dat); rfl) | ((with_reducible apply var_own); rfl) | ((with_reducible apply var_exc); rfl)
  | (with_reducible apply op2) | (with_reducible apply tup_ok) | (with_reducible apply lst_ok) | (with_reducible apply call_ok) | (with_reducible apply cb_ok) | (with_reducible apply sl_ok)
  | (with_reducible exact noPart_ok) | (with_reducible apply part_ok) | (with_reducible exact derefs_nil) | (with_reducible apply derefs_cons)
  | ((with_reducible show deref _ (.d _) = some _); rfl) | (with_reducible apply fMul_ok) | (with_reducible apply fDiv_ok) | (with_reducible apply fMod_ok) | (with_reducible apply fAddL)
  | ((with_reducible show fAdd _ _ = some _); rfl) | ((with_reducible show fSub _ _ = some _); rfl) | ((with_reducible show fLt _ _ = some _); rfl) | ((with_reducible show fLe _ _ = some _); rfl) | ((with_reducible show fGt _ _ = some _); rfl) | ((with_reducible show fGe _ _ = some _); rfl)
  | ((with_reducible show fIx _ _ = some _); rfl) | ((with_reducible show fAbs _ = some _); rfl) | ((with_reducible show fInt _ = some _); rfl) | ((with_reducible show fLen _ = some _); rfl) | ((with_reducible show fList _ = some _); rfl) | ((with_reducible show fIs _ _ = some _); rfl) | ((with_reducible show fIsNot _ _ = some _); rfl) | ((with_reducible show fIsi _ = some _); rfl)
  | ((with_reducible show List.length _ ≤ 100000); exact Nat.le_of_ble_eq_true rfl) | ((with_reducible show List.length _ = _); rfl)
  | (with_reducible apply test_bl) | (with_reducible apply not_ok) | walk_at "fn" | walk_at "ev2")
local macro_rules | `(tactic| walk_at "ev") => `(tactic| repeat' walk_at "ev1")
local macro_rules | `(tactic| walk_at "norm") => `(tactic| simp only [List.set_cons_zero, List.set_cons_succ, startL, List.map_cons, List.map_nil, List.length_cons, List.length_nil, List.replicate_succ, List.replicate_zero, List.cons_append, List.nil_append, Nat.reduceAdd, Nat.reduceSub])
open MM (Pr Rv pr2 strB dueP dueR total isIn cg slope)
open RP (Bt Bd Sq)
variable {E : En} {ce : List Cell}
structure PrB (p : Pr) : Prop where
  n : p.name.length ≤ 1000
  o : p.owner.length ≤ 1000
  b1 : Bt 100 p.base
  b2 : Bt 170 p.own
  b3 : Bt 100 p.cost
  k : PyData.strOk p.name = true
structure RvB (r : Rv) : Prop where
  a : r.one.length ≤ 1000
  b : r.other.length ≤ 1000
  c : Bt 20 r.cross
  ka : PyData.strOk r.one = true
  kb : PyData.strOk r.other = true
def erS : Option String → RD
  | some e => .str e
  | none => .str "none"
theorem num_le0 (q : Rat) : decide (q.num ≤ 0) = decide (q ≤ 0) := by
  refine decide_eq_decide.mpr ?_
  have h := Rat.num_nonneg (q := -q)
  rw [Rat.neg_num] at h
  have h2 : 0 ≤ -q ↔ q ≤ 0 := by grind
  rw [h2] at h
  rw [← h]; omega
theorem num_lt0 (q : Rat) : decide (q.num < 0) = decide (q < 0) := by
  refine decide_eq_decide.mpr ?_
  rw [← Rat.not_le, ← Rat.num_nonneg]; omega
theorem dec_or {a b : Prop} [Decidable a] [Decidable b] : (decide a || decide b) = decide (a ∨ b) := by
  by_cases h : a <;> by_cases k : b <;> simp [h, k]
theorem gSets5 {a b c d e : RD} {s0 s1 s2 s3 s4 s5 s6 : SV} {xn : Option Exn} : gTupF [(gSet 2), (gSet 3), (gSet 4), (gSet 5), (gSet 6)] (.tup [a, b, c, d, e]) ⟨[s0, s1, s2, s3, s4, s5, s6], ce, xn⟩ = some ⟨[s0, s1, .dat a, .dat b, .dat c, .dat d, .dat e], ce, xn⟩ := rfl
/-! ### the law's look at the products -/
def TP (kp : Nat) (seen : List Str) (a b c d e : SV) (ce : List Cell) : Sg := ⟨[.dat (.loc kp), .own (.lst (seen.map .str)), a, b, c, d, e], ce, none⟩
theorem lp_loop {kp : Nat} {ds : List RD} (hkp : ce[kp]? = some (.lst ds)) : ∀ (ps : List Pr) (seen : List Str) (a b c d e : SV), (∀ p ∈ ps, PrB p) → seen.length + ps.length ≤ 1000 → ∃ S' : Sg, S'.ce = ce ∧
    forL (fun S => S.ce[kp]? = some (.lst ds)) (gTupF [(gSet 2), (gSet 3), (gSet 4), (gSet 5), (gSet 6)]) (mSeq (mIfS (mOr (mNot (mTest (mCall 1 (f_law_is_name E) [] (aCons (mVar 2) aNil)))) (mNot (mTest (mCall 1 (f_law_is_name E) [] (aCons (mVar 3) aNil))))) (mRet (mC (.str "market"))) mNext) (mSeq (mIfS (mTest (mOp (mIn false) (mVar 2) (mVar 1))) (mRet (mC (.str "duplicate"))) mNext) (mSeq (mIfS (mOr (mTest (mOp (lift2 fLe) (mOp (lift2 fIx) (mVar 4) (mC (.int 0))) (mC (.int 0)))) (mOr (mTest (mOp (lift2 fLe) (mOp (lift2 fIx) (mVar 5) (mC (.int 0))) (mC (.int 0)))) (mTest (mOp (lift2 fLt) (mOp (lift2 fIx) (mVar 6) (mC (.int 0))) (mC (.int 0)))))) (mRet (mC (.str "market"))) mNext) (mDrop (mBM "list" fAppend (mVar 1) (aCons (mVar 2) aNil)))))) (ps.map pD) (TP kp seen a b c d e ce) = match dueP isNm ps seen with
      | some er => .rt (.str er) S'
      | none => .nx S'
  | [], seen, a, b, c, d, e, _, _ => ⟨TP kp seen a b c d e ce, rfl, forL_nil hkp⟩
  | p :: r, seen, a, b, c, d, e, hb, hl => by
    have pb := hb p List.mem_cons_self
    let S1 : Sg := TP kp seen (.dat (.str p.name)) (.dat (.str p.owner)) (.dat (sQ p.base)) (.dat (sQ p.own)) (.dat (sQ p.cost)) ce
    have g1 : gTupF [(gSet 2), (gSet 3), (gSet 4), (gSet 5), (gSet 6)] (pD p) (TP kp seen a b c d e ce) = some S1 := rfl
    have t1 : mOr (mNot (mTest (mCall 1 (f_law_is_name E) [] (aCons (mVar 2) aNil)))) (mNot (mTest (mCall 1 (f_law_is_name E) [] (aCons (mVar 3) aNil)))) S1 = .ok (!(isNm p.name && isNm p.owner)) S1 :=
      t_is (or_p (not_ok (test_bl (call_ok (args_cons (var_dat rfl) args_nil) (toDs_d toDs_nil) rfl (ev_law_is_name pb.n)))) fun _ => not_ok (test_bl (call_ok (args_cons (var_dat rfl) args_nil) (toDs_d toDs_nil) rfl (ev_law_is_name pb.o)))) (Bool.not_and ..).symm
    have t2 : mTest (mOp (mIn false) (mVar 2) (mVar 1)) S1 = .ok (decide (p.name ∈ seen)) S1 := test_bl (in_ok (var_dat rfl) (var_own rfl) rfl (deref_sl (c := .lst (seen.map .str)) rfl) inD_strs)
    have t3 : mOr (mTest (mOp (lift2 fLe) (mOp (lift2 fIx) (mVar 4) (mC (.int 0))) (mC (.int 0)))) (mOr (mTest (mOp (lift2 fLe) (mOp (lift2 fIx) (mVar 5) (mC (.int 0))) (mC (.int 0)))) (mTest (mOp (lift2 fLt) (mOp (lift2 fIx) (mVar 6) (mC (.int 0))) (mC (.int 0))))) S1 = .ok (decide (p.base ≤ 0 ∨ p.own ≤ 0 ∨ p.cost < 0)) S1 := by
      refine t_is (or_p (test_bl (ev_is (op2 (op2 (var_dat rfl) c_ok rfl rfl (ixQ0 _)) c_ok rfl rfl rfl) (congrArg RD.bl (num_le0 _)))) fun _ => or_p (test_bl (ev_is (op2 (op2 (var_dat rfl) c_ok rfl rfl (ixQ0 _)) c_ok rfl rfl rfl) (congrArg RD.bl (num_le0 _)))) fun _ => test_bl (ev_is (op2 (op2 (var_dat rfl) c_ok rfl rfl (ixQ0 _)) c_ok rfl rfl rfl) (congrArg RD.bl (num_lt0 _)))) ?_
      rw [dec_or, dec_or]
    unfold dueP
    rw [List.map_cons]
    by_cases h1 : isNm p.name = true ∧ isNm p.owner = true
    · rw [h1.1, h1.2] at t1
      rw [if_neg (fun z => z h1)]
      by_cases h2 : p.name ∈ seen
      · rw [decide_eq_true h2] at t2
        rw [if_pos h2]
        exact ⟨S1, rfl, forL_rt hkp g1 ((seq_nx (S1 := S1) ((if_f t1).trans rfl)).trans (seq_rt ((if_t t2).trans (ret_d c_ok))))⟩
      · rw [decide_eq_false h2] at t2
        rw [if_neg h2]
        by_cases h3 : p.base ≤ 0 ∨ p.own ≤ 0 ∨ p.cost < 0
        · rw [decide_eq_true h3] at t3
          rw [if_pos h3]
          exact ⟨S1, rfl, forL_rt hkp g1 ((seq_nx (S1 := S1) ((if_f t1).trans rfl)).trans ((seq_nx (S1 := S1) ((if_f t2).trans rfl)).trans (seq_rt ((if_t t3).trans (ret_d c_ok)))))⟩
        · rw [decide_eq_false h3] at t3
          rw [if_neg h3]
          obtain ⟨S', i1, i2⟩ := lp_loop hkp r (seen ++ [p.name]) (.dat (.str p.name)) (.dat (.str p.owner)) (.dat (sQ p.base)) (.dat (sQ p.own)) (.dat (sQ p.cost)) (fun q hq => hb q (List.mem_cons_of_mem _ hq)) (by rw [List.length_append]; simp only [List.length_cons, List.length_nil] at hl ⊢; omega)
          refine ⟨S', i1, (forL_nx hkp g1 ((seq_nx (S1 := S1) ((if_f t1).trans rfl)).trans ((seq_nx (S1 := S1) ((if_f t2).trans rfl)).trans ((seq_nx (S1 := S1) ((if_f t3).trans rfl)).trans ?_)))).trans i2⟩
          have := app_own (S := S1) (S1 := S1) (i := 1) (e := mVar 2) (ds := seen.map .str) (d := .str p.name) rfl (var_dat rfl) rfl (by rw [List.length_map]; omega)
          rw [this]
          show Out.nx (⟨[_, .own (.lst (seen.map .str ++ [.str p.name])), _, _, _, _, _], ce, none⟩ : Sg) = .nx (⟨[_, .own (.lst ((seen ++ [p.name]).map .str)), _, _, _, _, _], ce, none⟩ : Sg)
          rw [List.map_append]; rfl
    · have : (!(isNm p.name && isNm p.owner)) = true := by
        cases e1 : isNm p.name <;> cases e2 : isNm p.owner <;> first | rfl | exact absurd ⟨e1, e2⟩ h1
      rw [this] at t1
      rw [if_pos h1]
      exact ⟨S1, rfl, forL_rt hkp g1 (seq_rt ((if_t t1).trans (ret_d c_ok)))⟩
theorem ev_products_due {kp : Nat} {ps : List Pr} (hkp : ce[kp]? = some (.lst (ps.map pD))) (h1 : 1 ≤ ps.length) (h6 : ps.length ≤ 6) (hb : ∀ p ∈ ps, PrB p) : f_law_products_due E [.loc kp] ce = .ok (erS (dueP isNm ps [])) ce := by
  let S0 : Sg := ⟨[.dat (.loc kp), .un, .un, .un, .un, .un, .un], ce, none⟩
  have dl : deref S0 (.d (.loc kp)) = some (.lst (ps.map pD)) := by rw [deref_loc]; show (ce[kp]?).map _ = _; rw [hkp]; rfl
  have t0 : mTest (mChain (lift2 fLe) (lift2 fLe) (mC (.int 1)) (mCB (liftL fLen) (aCons (mVar 0) aNil)) (mC (.int 6))) S0 = .ok true S0 := by
    refine test_bl (ev_is (chain_le (j := (ps.length : Int)) c_ok (cb_ok (args_cons (var_dat rfl) args_nil) (derefs_cons dl derefs_nil) (by simp only [fLen, List.length_map])) c_ok) ?_)
    rw [decide_eq_true (by omega), decide_eq_true (by omega)]; rfl
  obtain ⟨S', e1, e2⟩ := lp_loop (E := E) hkp ps [] .un .un .un .un .un hb (by simp; omega)
  have hi : mIter (mVar 0) (TP kp [] .un .un .un .un .un ce) = .ok ⟨ps.map pD, fun S => S.ce[kp]? = some (.lst (ps.map pD))⟩ (TP kp [] .un .un .un .un .un ce) := iter_loc (var_dat rfl) hkp
  have hf := for_ok hi e2
  cases hd : dueP isNm ps [] with
  | some er =>
    rw [hd] at hf
    have := fun_rt (n := 7) (m := m_law_products_due E) (ds := [.loc kp]) (ce := ce) (S := S') ((seq_nx (S1 := S0) ((if_f (not_ok t0)).trans rfl)).trans ((seq_nx (S1 := TP kp [] .un .un .un .un .un ce) (own_ok (nlst_ok args_nil toDs_nil (by decide)))).trans (seq_rt hf)))
    rw [e1] at this; exact this
  | none =>
    rw [hd] at hf
    have := fun_rt (n := 7) (m := m_law_products_due E) (ds := [.loc kp]) (ce := ce) (S := S') ((seq_nx (S1 := S0) ((if_f (not_ok t0)).trans rfl)).trans ((seq_nx (S1 := TP kp [] .un .un .un .un .un ce) (own_ok (nlst_ok args_nil toDs_nil (by decide)))).trans ((seq_nx hf).trans (ret_d c_ok))))
    rw [e1] at this; exact this
/-! ### the market's look at the products -/
def erC : String → Str
  | "market" => "InvalidMarket"
  | "duplicate" => "DuplicateName"
  | _ => "UnknownName"
def TM (kp kt : Nat) (a b c d e : SV) (ce : List Cell) (ks : List Key) (ds : List RD) : Sg := ⟨[.dat (.loc kp), .dat (.loc kt), a, b, c, d, e], ce ++ [.dk ks ds], none⟩
theorem app_at {ce : List Cell} {c : Cell} : (ce ++ [c])[ce.length]? = some c := by simp
theorem app_set {ce : List Cell} {c c' : Cell} : (ce ++ [c]).set ce.length c' = ce ++ [c'] := by simp
theorem app_lt {ce : List Cell} {c x : Cell} {k : Nat} (h : ce[k]? = some x) : (ce ++ [c])[k]? = some x := by
  rw [List.getElem?_append_left (List.getElem?_eq_some_iff.mp h).1]; exact h
def outE (o : Option String) (S' : Sg) : Out := match o with
  | some er => .ex ⟨erC er, none⟩ S'
  | none => .nx S'
theorem mp_loop {kp : Nat} {ds0 : List RD} (hkp : ce[kp]? = some (.lst ds0)) : ∀ (ps done : List Pr) (a b c d e : SV), (∀ p ∈ ps, PrB p) → done.length + ps.length ≤ 1000 → ∃ (S' : Sg) (qs : List Pr), (∃ a b c d e, S' = TM kp ce.length a b c d e ce (qs.map fun q => .inr q.name) (qs.map pD)) ∧
    forL (fun S => S.ce[kp]? = some (.lst ds0)) (gTupF [(gSet 2), (gSet 3), (gSet 4), (gSet 5), (gSet 6)]) (mSeq (mIfS (mOr (mNot (mTest (mCall 1 (f_is_name E) [] (aCons (mVar 2) aNil)))) (mNot (mTest (mCall 1 (f_is_name E) [] (aCons (mVar 3) aNil))))) (mRaise "InvalidMarket") mNext) (mSeq (mIfS (mTest (mOp (dIn false) (mVar 2) (mVar 1))) (mRaise1 "DuplicateName" (mFstr [.e (mVar 2), .s " is there already"])) mNext) (mSeq (mIfS (mOr (mTest (mOp (lift2 fLt) (mCall 1 (f_sign E) [] (aCons (mVar 4) aNil)) (mC (.int 1)))) (mOr (mTest (mOp (lift2 fLt) (mCall 1 (f_sign E) [] (aCons (mVar 5) aNil)) (mC (.int 1)))) (mTest (mOp (lift2 fLt) (mCall 1 (f_sign E) [] (aCons (mVar 6) aNil)) (mC (.int 0)))))) (mRaise1 "InvalidMarket" (mFstr [.s "a ratio of ", .e (mVar 2), .s " is out of range"])) mNext) (mPut (mTup (aCons (mVar 2) (aCons (mVar 3) (aCons (mVar 4) (aCons (mVar 5) (aCons (mVar 6) aNil)))))) (mVar 1) (mVar 2))))) (ps.map pD) (TM kp ce.length a b c d e ce (done.map fun q => .inr q.name) (done.map pD)) = outE (dueP isNm ps (done.map (·.name))) S' ∧ (dueP isNm ps (done.map (·.name)) = none → qs = done ++ ps)
  | [], done, a, b, c, d, e, _, _ => ⟨_, done, ⟨a, b, c, d, e, rfl⟩, forL_nil (app_lt hkp), fun _ => (List.append_nil _).symm⟩
  | p :: r, done, a, b, c, d, e, hb, hl => by
    have pb := hb p List.mem_cons_self
    let S1 : Sg := TM kp ce.length (.dat (.str p.name)) (.dat (.str p.owner)) (.dat (sQ p.base)) (.dat (sQ p.own)) (.dat (sQ p.cost)) ce (done.map fun q => .inr q.name) (done.map pD)
    have g1 : gTupF [(gSet 2), (gSet 3), (gSet 4), (gSet 5), (gSet 6)] (pD p) (TM kp ce.length a b c d e ce (done.map fun q => .inr q.name) (done.map pD)) = some S1 := rfl
    have ok : (TM kp ce.length a b c d e ce (done.map fun q => .inr q.name) (done.map pD)).ce[kp]? = some (.lst ds0) := app_lt hkp
    have hin : ∃ a b c d e, S1 = TM kp ce.length a b c d e ce (done.map fun q => .inr q.name) (done.map pD) := ⟨_, _, _, _, _, rfl⟩
    have dt : deref S1 (.d (.loc ce.length)) = some (.dk (done.map fun q => .inr q.name) (done.map pD)) := by rw [deref_loc]; show ((ce ++ [_])[ce.length]?).map _ = _; rw [app_at]; rfl
    have t1 : mOr (mNot (mTest (mCall 1 (f_is_name E) [] (aCons (mVar 2) aNil)))) (mNot (mTest (mCall 1 (f_is_name E) [] (aCons (mVar 3) aNil)))) S1 = .ok (!(isNm p.name && isNm p.owner)) S1 :=
      t_is (or_p (not_ok (test_bl (call_ok (args_cons (var_dat rfl) args_nil) (toDs_d toDs_nil) rfl (ev_is_name pb.n)))) fun _ => not_ok (test_bl (call_ok (args_cons (var_dat rfl) args_nil) (toDs_d toDs_nil) rfl (ev_is_name pb.o)))) (Bool.not_and ..).symm
    have hv : (valR (done.map fun q => (Sum.inr q.name : Key)) (done.map pD) (.inr p.name)).isSome = decide (p.name ∈ done.map (·.name)) := by
      rw [valR_some _ (by rw [List.length_map, List.length_map])]
      refine decide_eq_decide.mpr ⟨fun z => ?_, fun z => ?_⟩
      · obtain ⟨q, hq, e⟩ := List.mem_map.mp z
        exact List.mem_map.mpr ⟨q, hq, by injection e⟩
      · obtain ⟨q, hq, e⟩ := List.mem_map.mp z
        exact List.mem_map.mpr ⟨q, hq, by rw [e]⟩
    have t2 : mTest (mOp (dIn false) (mVar 2) (mVar 1)) S1 = .ok (decide (p.name ∈ done.map (·.name))) S1 := test_bl (ev_is (din_ok (var_dat rfl) (var_dat rfl) rfl dt rfl) (by rw [if_neg (by decide), hv]))
    have sg : ∀ (i : Nat) (q : Rat) (k : Int), S1.sl[i]? = some (.dat (sQ q)) → mTest (mOp (lift2 fLt) (mCall 1 (f_sign E) [] (aCons (mVar i) aNil)) (mC (.int k))) S1 = .ok (decide (sgn (q.num, (q.den : Int)) < k)) S1 := fun i q k h => test_bl (op2 (call_ok (args_cons (var_dat h) args_nil) (toDs_d toDs_nil) rfl (ev_sign q)) c_ok rfl rfl rfl)
    have t3 : mOr (mTest (mOp (lift2 fLt) (mCall 1 (f_sign E) [] (aCons (mVar 4) aNil)) (mC (.int 1)))) (mOr (mTest (mOp (lift2 fLt) (mCall 1 (f_sign E) [] (aCons (mVar 5) aNil)) (mC (.int 1)))) (mTest (mOp (lift2 fLt) (mCall 1 (f_sign E) [] (aCons (mVar 6) aNil)) (mC (.int 0))))) S1 = .ok (decide (p.base ≤ 0 ∨ p.own ≤ 0 ∨ p.cost < 0)) S1 := by
      refine t_is (or_p (sg 4 p.base 1 rfl) fun _ => or_p (sg 5 p.own 1 rfl) fun _ => sg 6 p.cost 0 rfl) ?_
      rw [dec_or, dec_or]
      exact decide_eq_decide.mpr (by rw [sgn_lt1, sgn_lt1, sgn_lt0])
    unfold dueP
    rw [List.map_cons]
    by_cases h1 : isNm p.name = true ∧ isNm p.owner = true
    · rw [h1.1, h1.2] at t1
      rw [if_neg (fun z => z h1)]
      by_cases h2 : p.name ∈ done.map (·.name)
      · rw [decide_eq_true h2] at t2
        rw [if_pos h2]
        obtain ⟨z, hz⟩ := fstr_ok (S := S1) (ps := [.e (mVar 2), .s " is there already"]) (fun q hq => by
          simp only [List.mem_cons, List.mem_nil_iff, or_false] at hq
          rcases hq with rfl | rfl
          · exact namy_var rfl pb.n
          · show (" is there already" : Str).length ≤ 1000; decide +kernel) (by decide)
        exact ⟨S1, done, hin, forL_ex ok g1 ((seq_nx (S1 := S1) ((if_f t1).trans rfl)).trans (seq_ex ((if_t t2).trans (raise1_ok hz)))), fun z => by cases z⟩
      · rw [decide_eq_false h2] at t2
        rw [if_neg h2]
        by_cases h3 : p.base ≤ 0 ∨ p.own ≤ 0 ∨ p.cost < 0
        · rw [decide_eq_true h3] at t3
          rw [if_pos h3]
          obtain ⟨z, hz⟩ := fstr_ok (S := S1) (ps := [.s "a ratio of ", .e (mVar 2), .s " is out of range"]) (fun q hq => by
            simp only [List.mem_cons, List.mem_nil_iff, or_false] at hq
            rcases hq with rfl | rfl | rfl
            · show ("a ratio of " : Str).length ≤ 1000; decide +kernel
            · exact namy_var rfl pb.n
            · show (" is out of range" : Str).length ≤ 1000; decide +kernel) (by decide)
          exact ⟨S1, done, hin, forL_ex ok g1 ((seq_nx (S1 := S1) ((if_f t1).trans rfl)).trans ((seq_nx (S1 := S1) ((if_f t2).trans rfl)).trans (seq_ex ((if_t t3).trans (raise1_ok hz))))), fun z => by cases z⟩
        · rw [decide_eq_false h3] at t3
          rw [if_neg h3]
          have em : (done ++ [p]).map (·.name) = done.map (·.name) ++ [p.name] := by rw [List.map_append]; rfl
          obtain ⟨S', qs, i1, i2, i3⟩ := mp_loop hkp r (done ++ [p]) (.dat (.str p.name)) (.dat (.str p.owner)) (.dat (sQ p.base)) (.dat (sQ p.own)) (.dat (sQ p.cost)) (fun q hq => hb q (List.mem_cons_of_mem _ hq)) (by rw [List.length_append]; simp only [List.length_cons, List.length_nil] at hl ⊢; omega)
          rw [em] at i2 i3
          refine ⟨S', qs, i1, (forL_nx ok g1 ((seq_nx (S1 := S1) ((if_f t1).trans rfl)).trans ((seq_nx (S1 := S1) ((if_f t2).trans rfl)).trans ((seq_nx (S1 := S1) ((if_f t3).trans rfl)).trans ?_)))).trans i2, fun z => by rw [i3 z, List.append_assoc]; rfl⟩
          have hno : (Sum.inr p.name : Key) ∉ done.map fun q => (Sum.inr q.name : Key) := fun z => by
            obtain ⟨q, hq, e⟩ := List.mem_map.mp z
            exact h2 (List.mem_map.mpr ⟨q, hq, by injection e⟩)
          have hp : putDC (.dk (done.map fun q => .inr q.name) (done.map pD)) (.str p.name) (pD p) = some (.dk ((done ++ [p]).map fun q => .inr q.name) ((done ++ [p]).map pD)) := by
            unfold putDC
            simp only
            rw [if_pos (by rw [List.length_map]; omega)]
            unfold RS.pk RS.pv
            simp only [keyD, Option.map_some]
            rw [if_neg hno, if_neg hno, List.map_append, List.map_append]; rfl
          have := put_ok (S := S1) (S1 := S1) (S2 := S1) (S3 := S1) (L := ce.length) (e := mTup (aCons (mVar 2) (aCons (mVar 3) (aCons (mVar 4) (aCons (mVar 5) (aCons (mVar 6) aNil)))))) (o := mVar 1) (i := mVar 2) (d := pD p) (tup_ok (args_cons (var_dat rfl) (args_cons (var_dat rfl) (args_cons (var_dat rfl) (args_cons (var_dat rfl) (args_cons (var_dat rfl) args_nil))))) (toDs_d (toDs_d (toDs_d (toDs_d (toDs_d toDs_nil))))) (Nat.le_of_ble_eq_true rfl)) (var_dat rfl) (var_dat rfl) rfl app_at hp
          rw [this]
          show Out.nx (⟨_, (ce ++ [_]).set ce.length _, none⟩ : Sg) = _
          rw [app_set]; rfl
    · have : (!(isNm p.name && isNm p.owner)) = true := by
        cases e1 : isNm p.name <;> cases e2 : isNm p.owner <;> first | rfl | exact absurd ⟨e1, e2⟩ h1
      rw [this] at t1
      rw [if_pos h1]
      exact ⟨S1, done, hin, forL_ex ok g1 (seq_ex ((if_t t1).trans rfl)), fun z => by cases z⟩
def resE (o : Option String) (d : RD) (ce : List Cell) : Fres := match o with
  | some er => .ex ⟨erC er, none⟩ ce
  | none => .ok d ce
theorem ev_by_name {kp : Nat} {ps : List Pr} (hkp : ce[kp]? = some (.lst (ps.map pD))) (h1 : 1 ≤ ps.length) (h6 : ps.length ≤ 6) (hb : ∀ p ∈ ps, PrB p) : ∃ c, f_products_by_name E [.loc kp] ce = resE (dueP isNm ps []) (.loc ce.length) (ce ++ [c]) ∧ (dueP isNm ps [] = none → c = .dk (ps.map fun q => .inr q.name) (ps.map pD)) := by
  let S0 : Sg := ⟨[.dat (.loc kp), .un, .un, .un, .un, .un, .un], ce, none⟩
  have dl : deref S0 (.d (.loc kp)) = some (.lst (ps.map pD)) := by rw [deref_loc]; show (ce[kp]?).map _ = _; rw [hkp]; rfl
  have t0 : mTest (mChain (lift2 fLe) (lift2 fLe) (mC (.int 1)) (mCB (liftL fLen) (aCons (mVar 0) aNil)) (mC (.int 6))) S0 = .ok true S0 := by
    refine test_bl (ev_is (chain_le (j := (ps.length : Int)) c_ok (cb_ok (args_cons (var_dat rfl) args_nil) (derefs_cons dl derefs_nil) (by simp only [fLen, List.length_map])) c_ok) ?_)
    rw [decide_eq_true (by omega), decide_eq_true (by omega)]; rfl
  obtain ⟨S', qs, ⟨a, b, c, d, e, rfl⟩, e2, e3⟩ := mp_loop (E := E) hkp ps [] .un .un .un .un .un hb (by simp; omega)
  have hc : mAsg (mCell nDk) (gSet 1) S0 = .nx (TM kp ce.length .un .un .un .un .un ce [] []) := asg_set (cell_ok (S1 := S0) (c := .dk [] []) rfl)
  have hi : mIter (mVar 0) (TM kp ce.length .un .un .un .un .un ce [] []) = .ok ⟨ps.map pD, fun S => S.ce[kp]? = some (.lst (ps.map pD))⟩ (TM kp ce.length .un .un .un .un .un ce [] []) := iter_loc (var_dat rfl) (app_lt hkp)
  have hf := for_ok hi e2
  cases hd : dueP isNm ps [] with
  | some er =>
    rw [show (List.map (fun x : Pr => x.name) []) = [] from rfl, hd] at hf
    exact ⟨_, fun_ex (n := 7) (m := m_products_by_name E) (ds := [.loc kp]) (ce := ce) ((seq_nx (S1 := S0) ((if_f (not_ok t0)).trans rfl)).trans ((seq_nx hc).trans (seq_ex hf))), fun z => by cases z⟩
  | none =>
    rw [show (List.map (fun x : Pr => x.name) []) = [] from rfl, hd] at hf
    refine ⟨_, fun_rt (n := 7) (m := m_products_by_name E) (ds := [.loc kp]) (ce := ce) ((seq_nx (S1 := S0) ((if_f (not_ok t0)).trans rfl)).trans ((seq_nx hc).trans ((seq_nx hf).trans (ret_d (var_dat rfl))))), fun _ => ?_⟩
    rw [e3 hd]; rfl

end RSk32

set_option Elab.async false
set_option linter.all false
set_option maxRecDepth 100000
set_option maxHeartbeats 4000000
namespace RSk32
open PySem PySem.Spec PyProof.Rows L2 RS RPk32
local macro_rules | `(tactic| walk_at "fn") => `(tactic| fail)
local macro_rules | `(tactic| walk_at "ev2") => `(tactic| fail)
local macro_rules | `(tactic| walk_at "ev1") => `(tactic| first
  | (with_reducible exact args_nil) | (with_reducible apply args_cons) | (with_reducible exact toDs_nil) | (with_reducible apply toDs_d)
  | (with_reducible exact c_ok) | ((with_reducible apply var_dat); rfl) | ((with_reducible apply var_own); rfl) | ((with_reducible apply var_exc); rfl)
  | (with_reducible apply op2) | (with_reducible apply tup_ok) | (with_reducible apply lst_ok) | (with_reducible apply call_ok) | (with_reducible apply cb_ok) | (with_reducible apply sl_ok)
  | (with_reducible exact noPart_ok) | (with_reducible apply part_ok) | (with_reducible exact derefs_nil) | (with_reducible apply derefs_cons)
  | ((with_reducible show deref _ (.d _) = some _); rfl) | (with_reducible apply fMul_ok) | (with_reducible apply fDiv_ok) | (with_reducible apply fMod_ok) | (with_reducible apply fAddL)
  | ((with_reducible show fAdd _ _ = some _); rfl) | ((with_reducible show fSub _ _ = some _); rfl) | ((with_reducible show fLt _ _ = some _); rfl) | ((with_reducible show fLe _ _ = some _); rfl) | ((with_reducible show fGt _ _ = some _); rfl) | ((with_reducible show fGe _ _ = some _); rfl)
  | ((with_reducible show fIx _ _ = some _); rfl) | ((with_reducible show fAbs _ = some _); rfl) | ((with_reducible show fInt _ = some _); rfl) | ((with_reducible show fLen _ = some _); rfl) | ((with_reducible show fList _ = some _); rfl) | ((with_reducible show fIs _ _ = some _); rfl) | ((with_reducible show fIsNot _ _ = some _); rfl) | ((with_reducible show fIsi _ = some _); rfl)
  | ((with_reducible show List.length _ ≤ 100000); exact Nat.le_of_ble_eq_true rfl) | ((with_reducible show List.length _ = _); rfl)
  | (with_reducible apply test_bl) | (with_reducible apply not_ok) | walk_at "fn" | walk_at "ev2")
local macro_rules | `(tactic| walk_at "ev") => `(tactic| repeat' walk_at "ev1")
local macro_rules | `(tactic| walk_at "norm") => `(tactic| simp only [List.set_cons_zero, List.set_cons_succ, startL, List.map_cons, List.map_nil, List.length_cons, List.length_nil, List.replicate_succ, List.replicate_zero, List.cons_append, List.nil_append, Nat.reduceAdd, Nat.reduceSub])
open MM (Pr Rv pr2 strB dueP dueR total isIn cg slope)
open RP (Bt Bd Sq)
variable {E : En} {ce : List Cell}
theorem ev_pair {a b : Str} : f_pair E [.str a, .str b] ce = .ok (tp (pr2 a b)) ce := by
  let S : Sg := ⟨[.dat (.str a), .dat (.str b)], ce, none⟩
  have t : mTest (mOp (lift2 fLt) (mVar 0) (mVar 1)) S = .ok (strB a b) S := test_bl (op2 (var_dat rfl) (var_dat rfl) rfl rfl rfl)
  unfold pr2
  cases h : strB a b with
  | true =>
    rw [h] at t
    exact fun_rt (S := S) (seq_rt ((if_t t).trans (ret_d (tup_ok (args_cons (var_dat rfl) (args_cons (var_dat rfl) args_nil)) (toDs_d (toDs_d toDs_nil)) (Nat.le_of_ble_eq_true rfl)))))
  | false =>
    rw [h] at t
    exact fun_rt (S := S) ((seq_nx (S1 := S) ((if_f t).trans rfl)).trans (ret_d (tup_ok (args_cons (var_dat rfl) (args_cons (var_dat rfl) args_nil)) (toDs_d (toDs_d toDs_nil)) (Nat.le_of_ble_eq_true rfl))))
def keyP (p : Str × Str) : List Key := [.inr p.1, .inr p.2]
theorem keyP_inj {p q : Str × Str} (h : keyP p = keyP q) : p = q := by
  unfold keyP at h
  injection h with h1 h2
  injection h2 with h2 _
  injection h1 with h1
  injection h2 with h2
  exact Prod.ext h1 h2
theorem keyT_tp (p : Str × Str) : keyT (tp p) = some (keyP p) := rfl
def nmK (ps : List Pr) : List Key := ps.map fun q => .inr q.name
theorem nmK_in {ps : List Pr} {x : Str} : (valR (nmK ps) (ps.map pD) (.inr x)).isSome = decide (x ∈ ps.map (·.name)) := by
  unfold nmK
  rw [valR_some _ (by rw [List.length_map, List.length_map])]
  refine decide_eq_decide.mpr ⟨fun z => ?_, fun z => ?_⟩
  · obtain ⟨q, hq, e⟩ := List.mem_map.mp z
    exact List.mem_map.mpr ⟨q, hq, by injection e⟩
  · obtain ⟨q, hq, e⟩ := List.mem_map.mp z
    exact List.mem_map.mpr ⟨q, hq, by rw [e]⟩
def rk (r : Rv) : Str × Str := pr2 r.one r.other
def rvK (rs : List Rv) : List (List Key) := rs.map fun r => keyP (rk r)
def rvD (rs : List Rv) : List RD := rs.map fun r => sQ r.cross
theorem rvK_in {rs : List Rv} {p : Str × Str} : (valR (rvK rs) (rvD rs) (keyP p)).isSome = decide (p ∈ rs.map rk) := by
  unfold rvK rvD
  rw [valR_some _ (by rw [List.length_map, List.length_map])]
  refine decide_eq_decide.mpr ⟨fun z => ?_, fun z => ?_⟩
  · obtain ⟨q, hq, e⟩ := List.mem_map.mp z
    exact List.mem_map.mpr ⟨q, hq, keyP_inj e⟩
  · obtain ⟨q, hq, e⟩ := List.mem_map.mp z
    exact List.mem_map.mpr ⟨q, hq, by rw [e]⟩
def TC (kr kt : Nat) (a b c d : SV) (ce : List Cell) (ks : List (List Key)) (ds : List RD) : Sg := ⟨[.dat (.loc kr), .dat (.loc kt), .dat (.loc ce.length), a, b, c, d], ce ++ [.dt ks ds], none⟩
theorem mc_loop {kr kt : Nat} {ds0 : List RD} {ps : List Pr} (hkr : ce[kr]? = some (.lst ds0)) (hkt : ce[kt]? = some (.dk (nmK ps) (ps.map pD))) : ∀ (rs done : List Rv) (a b c d : SV), (∀ r ∈ rs, RvB r) → done.length + rs.length ≤ 1000 → ∃ (S' : Sg) (qs : List Rv), (∃ a b c d, S' = TC kr kt a b c d ce (rvK qs) (rvD qs)) ∧
    forL (fun S => S.ce[kr]? = some (.lst ds0)) (gTupF [(gSet 3), (gSet 4), (gSet 5)]) (mSeq (mIfS (mOr (mTest (mOp (dIn true) (mVar 3) (mVar 1))) (mTest (mOp (dIn true) (mVar 4) (mVar 1)))) (mRaise1 "UnknownName" (mFstr [.e (mVar 3), .s " or ", .e (mVar 4), .s " is no product"])) mNext) (mSeq (mIfS (mTest (mOp (mEq) (mVar 3) (mVar 4))) (mRaise1 "InvalidMarket" (mFstr [.e (mVar 3), .s " is no rival of its own"])) mNext) (mSeq (mIfS (mTest (mOp (lift2 fLt) (mCall 1 (f_sign E) [] (aCons (mVar 5) aNil)) (mC (.int 1)))) (mRaise1 "InvalidMarket" (mFstr [.s "the cross of ", .e (mVar 3), .s " and ", .e (mVar 4), .s " is not above 0"])) mNext) (mSeq (mAsg (mCall 2 (f_pair E) [] (aCons (mVar 3) (aCons (mVar 4) aNil))) (gSet 6)) (mSeq (mIfS (mTest (mOp (dIn false) (mVar 6) (mVar 2))) (mRaise1 "DuplicateName" (mFstr [.e (mVar 3), .s " and ", .e (mVar 4), .s " are rivals already"])) mNext) (mPut (mVar 5) (mVar 2) (mVar 6))))))) (rs.map rD) (TC kr kt a b c d ce (rvK done) (rvD done)) = outE (dueR (ps.map (·.name)) rs (done.map rk)) S' ∧ (dueR (ps.map (·.name)) rs (done.map rk) = none → qs = done ++ rs)
  | [], done, a, b, c, d, _, _ => ⟨_, done, ⟨a, b, c, d, rfl⟩, forL_nil (app_lt hkr), fun _ => (List.append_nil _).symm⟩
  | r :: rs, done, a, b, c, d, hb, hl => by
    have rb := hb r List.mem_cons_self
    let S1 : Sg := TC kr kt (.dat (.str r.one)) (.dat (.str r.other)) (.dat (sQ r.cross)) d ce (rvK done) (rvD done)
    let S2 : Sg := TC kr kt (.dat (.str r.one)) (.dat (.str r.other)) (.dat (sQ r.cross)) (.dat (tp (rk r))) ce (rvK done) (rvD done)
    have g1 : gTupF [(gSet 3), (gSet 4), (gSet 5)] (rD r) (TC kr kt a b c d ce (rvK done) (rvD done)) = some S1 := rfl
    have ok : (TC kr kt a b c d ce (rvK done) (rvD done)).ce[kr]? = some (.lst ds0) := app_lt hkr
    have hin : ∃ a b c d, S1 = TC kr kt a b c d ce (rvK done) (rvD done) := ⟨_, _, _, _, rfl⟩
    have hin2 : ∃ a b c d, S2 = TC kr kt a b c d ce (rvK done) (rvD done) := ⟨_, _, _, _, rfl⟩
    have dtt : deref S1 (.d (.loc kt)) = some (.dk (nmK ps) (ps.map pD)) := by rw [deref_loc]; show ((ce ++ [_])[kt]?).map _ = _; rw [app_lt hkt]; rfl
    have dtc : deref S2 (.d (.loc ce.length)) = some (.dt (rvK done) (rvD done)) := by rw [deref_loc]; show ((ce ++ [_])[ce.length]?).map _ = _; rw [app_at]; rfl
    have t1 : mOr (mTest (mOp (dIn true) (mVar 3) (mVar 1))) (mTest (mOp (dIn true) (mVar 4) (mVar 1))) S1 = .ok (decide (r.one ∉ ps.map (·.name) ∨ r.other ∉ ps.map (·.name))) S1 := by
      refine t_is (or_p (test_bl (ev_is (din_ok (o := valR (nmK ps) (ps.map pD) (.inr r.one)) (var_dat rfl) (var_dat rfl) rfl dtt rfl) (by rw [if_pos rfl, nmK_in]))) fun _ => test_bl (ev_is (din_ok (o := valR (nmK ps) (ps.map pD) (.inr r.other)) (var_dat rfl) (var_dat rfl) rfl dtt rfl) (by rw [if_pos rfl, nmK_in]))) ?_
      rw [← decide_not, ← decide_not, dec_or]
    have t2 : mTest (mOp mEq (mVar 3) (mVar 4)) S1 = .ok (decide (r.one = r.other)) S1 := test_bl (eq_ok (var_dat rfl) (var_dat rfl) rfl rfl eqB_str)
    have t3 : mTest (mOp (lift2 fLt) (mCall 1 (f_sign E) [] (aCons (mVar 5) aNil)) (mC (.int 1))) S1 = .ok (decide (r.cross ≤ 0)) S1 := by
      refine t_is (test_bl (op2 (call_ok (args_cons (var_dat rfl) args_nil) (toDs_d toDs_nil) rfl (ev_sign _)) c_ok rfl rfl rfl)) ?_
      exact decide_eq_decide.mpr (by rw [sgn_lt1])
    have a4 : mAsg (mCall 2 (f_pair E) [] (aCons (mVar 3) (aCons (mVar 4) aNil))) (gSet 6) S1 = .nx S2 := asg_set (call_ok (args_cons (var_dat rfl) (args_cons (var_dat rfl) args_nil)) (toDs_d (toDs_d toDs_nil)) rfl ev_pair)
    have t5 : mTest (mOp (dIn false) (mVar 6) (mVar 2)) S2 = .ok (decide (rk r ∈ done.map rk)) S2 := test_bl (ev_is (din_ok (o := valR (rvK done) (rvD done) (keyP (rk r))) (var_dat rfl) (var_dat rfl) rfl dtc rfl) (by rw [if_neg (by decide), rvK_in]))
    have nx1 : ∀ S : Sg, mNext S = .nx S := fun _ => rfl
    unfold dueR
    rw [List.map_cons]
    by_cases h1 : r.one ∉ ps.map (·.name) ∨ r.other ∉ ps.map (·.name)
    · rw [decide_eq_true h1] at t1
      rw [if_pos h1]
      obtain ⟨z, hz⟩ := fstr_ok (S := S1) (ps := [.e (mVar 3), .s " or ", .e (mVar 4), .s " is no product"]) (fun q hq => by
        simp only [List.mem_cons, List.mem_nil_iff, or_false] at hq
        rcases hq with rfl | rfl | rfl | rfl
        · exact namy_var rfl rb.a
        · show (" or " : Str).length ≤ 1000; decide +kernel
        · exact namy_var rfl rb.b
        · show (" is no product" : Str).length ≤ 1000; decide +kernel) (by decide)
      exact ⟨S1, done, hin, forL_ex ok g1 (seq_ex ((if_t t1).trans (raise1_ok hz))), fun z => by cases z⟩
    rw [decide_eq_false h1] at t1
    rw [if_neg h1]
    have p1 : ∀ o rest, rest S1 = o → mSeq (mIfS (mOr (mTest (mOp (dIn true) (mVar 3) (mVar 1))) (mTest (mOp (dIn true) (mVar 4) (mVar 1)))) (mRaise1 "UnknownName" (mFstr [.e (mVar 3), .s " or ", .e (mVar 4), .s " is no product"])) mNext) rest S1 = o := fun o rest h => (seq_nx (S1 := S1) ((if_f t1).trans rfl)).trans h
    by_cases h2 : r.one = r.other
    · rw [decide_eq_true h2] at t2
      rw [if_pos (.inl h2)]
      obtain ⟨z, hz⟩ := fstr_ok (S := S1) (ps := [.e (mVar 3), .s " is no rival of its own"]) (fun q hq => by
        simp only [List.mem_cons, List.mem_nil_iff, or_false] at hq
        rcases hq with rfl | rfl
        · exact namy_var rfl rb.a
        · show (" is no rival of its own" : Str).length ≤ 1000; decide +kernel) (by decide)
      exact ⟨S1, done, hin, forL_ex ok g1 (p1 _ _ (seq_ex ((if_t t2).trans (raise1_ok hz)))), fun z => by cases z⟩
    rw [decide_eq_false h2] at t2
    have p2 : ∀ o rest, rest S1 = o → mSeq (mIfS (mTest (mOp (mEq) (mVar 3) (mVar 4))) (mRaise1 "InvalidMarket" (mFstr [.e (mVar 3), .s " is no rival of its own"])) mNext) rest S1 = o := fun o rest h => (seq_nx (S1 := S1) ((if_f t2).trans rfl)).trans h
    by_cases h3 : r.cross ≤ 0
    · rw [decide_eq_true h3] at t3
      rw [if_pos (.inr h3)]
      obtain ⟨z, hz⟩ := fstr_ok (S := S1) (ps := [.s "the cross of ", .e (mVar 3), .s " and ", .e (mVar 4), .s " is not above 0"]) (fun q hq => by
        simp only [List.mem_cons, List.mem_nil_iff, or_false] at hq
        rcases hq with rfl | rfl | rfl | rfl | rfl
        · show ("the cross of " : Str).length ≤ 1000; decide +kernel
        · exact namy_var rfl rb.a
        · show (" and " : Str).length ≤ 1000; decide +kernel
        · exact namy_var rfl rb.b
        · show (" is not above 0" : Str).length ≤ 1000; decide +kernel) (by decide)
      exact ⟨S1, done, hin, forL_ex ok g1 (p1 _ _ (p2 _ _ (seq_ex ((if_t t3).trans (raise1_ok hz))))), fun z => by cases z⟩
    rw [decide_eq_false h3] at t3
    rw [if_neg (fun z => z.elim h2 h3)]
    have p3 : ∀ o rest, rest S1 = o → mSeq (mIfS (mTest (mOp (lift2 fLt) (mCall 1 (f_sign E) [] (aCons (mVar 5) aNil)) (mC (.int 1)))) (mRaise1 "InvalidMarket" (mFstr [.s "the cross of ", .e (mVar 3), .s " and ", .e (mVar 4), .s " is not above 0"])) mNext) rest S1 = o := fun o rest h => (seq_nx (S1 := S1) ((if_f t3).trans rfl)).trans h
    show ∃ S' qs, _ ∧ _ = outE (if rk r ∈ done.map rk then some "duplicate" else dueR (ps.map (·.name)) rs (done.map rk ++ [rk r])) S' ∧ ((if rk r ∈ done.map rk then some "duplicate" else dueR (ps.map (·.name)) rs (done.map rk ++ [rk r])) = none → _)
    by_cases h4 : rk r ∈ done.map rk
    · rw [decide_eq_true h4] at t5
      rw [if_pos h4]
      obtain ⟨z, hz⟩ := fstr_ok (S := S2) (ps := [.e (mVar 3), .s " and ", .e (mVar 4), .s " are rivals already"]) (fun q hq => by
        simp only [List.mem_cons, List.mem_nil_iff, or_false] at hq
        rcases hq with rfl | rfl | rfl | rfl
        · exact namy_var rfl rb.a
        · show (" and " : Str).length ≤ 1000; decide +kernel
        · exact namy_var rfl rb.b
        · show (" are rivals already" : Str).length ≤ 1000; decide +kernel) (by decide)
      exact ⟨S2, done, hin2, forL_ex ok g1 (p1 _ _ (p2 _ _ (p3 _ _ ((seq_nx a4).trans (seq_ex ((if_t t5).trans (raise1_ok hz))))))), fun z => by cases z⟩
    rw [decide_eq_false h4] at t5
    rw [if_neg h4]
    have em : (done ++ [r]).map rk = done.map rk ++ [rk r] := by rw [List.map_append]; rfl
    obtain ⟨S', qs, i1, i2, i3⟩ := mc_loop hkr hkt rs (done ++ [r]) (.dat (.str r.one)) (.dat (.str r.other)) (.dat (sQ r.cross)) (.dat (tp (rk r))) (fun q hq => hb q (List.mem_cons_of_mem _ hq)) (by rw [List.length_append]; simp only [List.length_cons, List.length_nil] at hl ⊢; omega)
    rw [em] at i2 i3
    refine ⟨S', qs, i1, (forL_nx ok g1 (p1 _ _ (p2 _ _ (p3 _ _ ((seq_nx a4).trans ((seq_nx (S1 := S2) ((if_f t5).trans rfl)).trans ?_)))))).trans i2, fun z => by rw [i3 z, List.append_assoc]; rfl⟩
    have hno : keyP (rk r) ∉ rvK done := fun z => by
      obtain ⟨q, hq, e⟩ := List.mem_map.mp z
      exact h4 (List.mem_map.mpr ⟨q, hq, keyP_inj e⟩)
    have hp : putDC (.dt (rvK done) (rvD done)) (tp (rk r)) (sQ r.cross) = some (.dt (rvK (done ++ [r])) (rvD (done ++ [r]))) := by
      unfold putDC
      simp only
      rw [if_pos (by unfold rvK; rw [List.length_map]; omega), keyT_tp]
      simp only [Option.map_some]
      unfold RS.pk RS.pv
      rw [if_neg hno, if_neg hno]
      unfold rvK rvD
      rw [List.map_append, List.map_append]; rfl
    have := put_ok (S := S2) (S1 := S2) (S2 := S2) (S3 := S2) (L := ce.length) (e := mVar 5) (o := mVar 2) (i := mVar 6) (d := sQ r.cross) (var_dat rfl) (var_dat rfl) (var_dat rfl) rfl app_at hp
    rw [this]
    show Out.nx (⟨_, (ce ++ [_]).set ce.length _, none⟩ : Sg) = _
    rw [app_set]; rfl
theorem ev_crosses {kr kt : Nat} {ps : List Pr} {rs : List Rv} (hkr : ce[kr]? = some (.lst (rs.map rD))) (hkt : ce[kt]? = some (.dk (nmK ps) (ps.map pD))) (hb : ∀ r ∈ rs, RvB r) (hl : rs.length ≤ 1000) : ∃ c, f_crosses_by_pair E [.loc kr, .loc kt] ce = resE (dueR (ps.map (·.name)) rs []) (.loc ce.length) (ce ++ [c]) ∧ (dueR (ps.map (·.name)) rs [] = none → c = .dt (rvK rs) (rvD rs)) := by
  let S0 : Sg := ⟨[.dat (.loc kr), .dat (.loc kt), .un, .un, .un, .un, .un], ce, none⟩
  obtain ⟨S', qs, ⟨a, b, c, d, rfl⟩, e2, e3⟩ := mc_loop (E := E) hkr hkt rs [] .un .un .un .un hb (by simp; omega)
  have hc : mAsg (mCell nDt) (gSet 2) S0 = .nx (TC kr kt .un .un .un .un ce [] []) := asg_set (cell_ok (S1 := S0) (c := .dt [] []) rfl)
  have hi : mIter (mVar 0) (TC kr kt .un .un .un .un ce [] []) = .ok ⟨rs.map rD, fun S => S.ce[kr]? = some (.lst (rs.map rD))⟩ (TC kr kt .un .un .un .un ce [] []) := iter_loc (var_dat rfl) (app_lt hkr)
  have hf := for_ok hi e2
  rw [show (List.map rk []) = [] from rfl] at hf e3
  cases hd : dueR (ps.map (·.name)) rs [] with
  | some er =>
    rw [hd] at hf
    exact ⟨_, fun_ex (n := 7) (m := m_crosses_by_pair E) (ds := [.loc kr, .loc kt]) (ce := ce) ((seq_nx hc).trans (seq_ex hf)), fun z => by cases z⟩
  | none =>
    rw [hd] at hf
    refine ⟨_, fun_rt (n := 7) (m := m_crosses_by_pair E) (ds := [.loc kr, .loc kt]) (ce := ce) ((seq_nx hc).trans ((seq_nx hf).trans (ret_d (var_dat rfl)))), fun _ => ?_⟩
    rw [e3 hd]; rfl

end RSk32

set_option Elab.async false
set_option linter.all false
set_option maxRecDepth 100000
set_option maxHeartbeats 4000000
namespace RSk32
open PySem PySem.Spec PyProof.Rows L2 RS RPk32
local macro_rules | `(tactic| walk_at "fn") => `(tactic| fail)
local macro_rules | `(tactic| walk_at "ev2") => `(tactic| fail)
local macro_rules | `(tactic| walk_at "ev1") => `(tactic| first
  | (with_reducible exact args_nil) | (with_reducible apply args_cons) | (with_reducible exact toDs_nil) | (with_reducible apply toDs_d)
  | (with_reducible exact c_ok) | ((with_reducible apply var_dat); rfl) | ((with_reducible apply var_own); rfl) | ((with_reducible apply var_exc); rfl)
  | (with_reducible apply op2) | (with_reducible apply tup_ok) | (with_reducible apply lst_ok) | (with_reducible apply call_ok) | (with_reducible apply cb_ok) | (with_reducible apply sl_ok)
  | (with_reducible exact noPart_ok) | (with_reducible apply part_ok) | (with_reducible exact derefs_nil) | (with_reducible apply derefs_cons)
  | ((with_reducible show deref _ (.d _) = some _); rfl) | (with_reducible apply fMul_ok) | (with_reducible apply fDiv_ok) | (with_reducible apply fMod_ok) | (with_reducible apply fAddL)
  | ((with_reducible show fAdd _ _ = some _); rfl) | ((with_reducible show fSub _ _ = some _); rfl) | ((with_reducible show fLt _ _ = some _); rfl) | ((with_reducible show fLe _ _ = some _); rfl) | ((with_reducible show fGt _ _ = some _); rfl) | ((with_reducible show fGe _ _ = some _); rfl)
  | ((with_reducible show fIx _ _ = some _); rfl) | ((with_reducible show fAbs _ = some _); rfl) | ((with_reducible show fInt _ = some _); rfl) | ((with_reducible show fLen _ = some _); rfl) | ((with_reducible show fList _ = some _); rfl) | ((with_reducible show fIs _ _ = some _); rfl) | ((with_reducible show fIsNot _ _ = some _); rfl) | ((with_reducible show fIsi _ = some _); rfl)
  | ((with_reducible show List.length _ ≤ 100000); exact Nat.le_of_ble_eq_true rfl) | ((with_reducible show List.length _ = _); rfl)
  | (with_reducible apply test_bl) | (with_reducible apply not_ok) | walk_at "fn" | walk_at "ev2")
local macro_rules | `(tactic| walk_at "ev") => `(tactic| repeat' walk_at "ev1")
local macro_rules | `(tactic| walk_at "norm") => `(tactic| simp only [List.set_cons_zero, List.set_cons_succ, startL, List.map_cons, List.map_nil, List.length_cons, List.length_nil, List.replicate_succ, List.replicate_zero, List.cons_append, List.nil_append, Nat.reduceAdd, Nat.reduceSub])
open MM (Pr Rv pr2 strB dueP dueR total isIn cg slope)
open RP (Bt Bd Sq)
variable {E : En} {ce : List Cell}
theorem dueP_is {ok : Str → Bool} : ∀ {ps : List Pr} {seen : List Str} {e : String}, dueP ok ps seen = some e → e = "market" ∨ e = "duplicate"
  | [], _, _, h => by cases h
  | p :: r, seen, e, h => by
    unfold dueP at h
    split at h
    · cases h; exact .inl rfl
    · split at h
      · cases h; exact .inr rfl
      · split at h
        · cases h; exact .inl rfl
        · exact dueP_is h
theorem dueR_is {names : List Str} : ∀ {rs : List Rv} {seen : List (Str × Str)} {e : String}, dueR names rs seen = some e → e = "market" ∨ e = "duplicate" ∨ e = "unknown"
  | [], _, _, h => by cases h
  | p :: r, seen, e, h => by
    unfold dueR at h
    split at h
    · cases h; exact .inr (.inr rfl)
    · split at h
      · cases h; exact .inl rfl
      · split at h
        · cases h; exact .inr (.inl rfl)
        · exact dueR_is h
def dueA (ps : List Pr) (rs : List Rv) : Option String := match dueP isNm ps [] with
  | some e => some e
  | none => match dueR (ps.map (·.name)) rs [] with
    | some e => some e
    | none => if ∀ p ∈ ps, total p.name rs < p.own then none else some "market"
def prL (done : List Rv) : List (Str × Str) := done.flatMap fun r => [(r.one, r.other), (r.other, r.one)]
theorem prL_in {a b : Str} {done : List Rv} : decide ((a, b) ∈ prL done) = decide (pr2 a b ∈ done.map rk) := by
  refine decide_eq_decide.mpr ⟨fun h => ?_, fun h => ?_⟩
  · obtain ⟨r, hr, h⟩ := List.mem_flatMap.mp h
    refine List.mem_map.mpr ⟨r, hr, ?_⟩
    simp only [List.mem_cons, List.mem_nil_iff, or_false, Prod.mk.injEq] at h
    rcases h with ⟨rfl, rfl⟩ | ⟨rfl, rfl⟩
    · rfl
    · exact MM.pr2_comm _ _
  · obtain ⟨r, hr, h⟩ := List.mem_map.mp h
    refine List.mem_flatMap.mpr ⟨r, hr, ?_⟩
    simp only [List.mem_cons, List.mem_nil_iff, or_false, Prod.mk.injEq]
    rcases MM.pr2_mem h with ⟨h1, h2⟩ | ⟨h1, h2⟩
    · exact .inl ⟨h1.symm, h2.symm⟩
    · exact .inr ⟨h2.symm, h1.symm⟩
def TD (kp kr : Nat) (ns : List Str) (row : SV) (pairs : List (Str × Str)) (a b c d e f g h i : SV) (ce : List Cell) : Sg := ⟨[.dat (.loc kp), .dat (.loc kr), .dat (.lst (ns.map .str)), row, .dat (.lst (pairs.map tp)), a, b, c, d, e, f, g, h, i], ce, none⟩
theorem lr_loop {kp kr : Nat} {ds0 : List RD} {ns : List Str} (hkr : ce[kr]? = some (.lst ds0)) : ∀ (rs done : List Rv) (a b c : SV), (∀ r ∈ rs, RvB r) → (∀ p ∈ prL done, SO2 p) → done.length + rs.length ≤ 1000 → ∃ (S' : Sg), (∃ pl a b c, S' = TD kp kr ns .un pl a b c .un .un .un .un .un .un ce) ∧
    forL (fun S => S.ce[kr]? = some (.lst ds0)) (gTupF [(gSet 5), (gSet 6), (gSet 7)]) (mSeq (mIfS (mOr (mTest (mOp (mIn true) (mVar 5) (mVar 2))) (mTest (mOp (mIn true) (mVar 6) (mVar 2)))) (mRet (mC (.str "unknown"))) mNext)
    (mSeq (mIfS (mOr (mTest (mOp (mEq) (mVar 5) (mVar 6))) (mTest (mOp (lift2 fLe) (mOp (lift2 fIx) (mVar 7) (mC (.int 0))) (mC (.int 0))))) (mRet (mC (.str "market"))) mNext)
    (mSeq (mIfS (mTest (mOp (mIn false) (mTup (aCons (mVar 5) (aCons (mVar 6) aNil))) (mVar 4))) (mRet (mC (.str "duplicate"))) mNext)
    (mAsg (mOp (lift2 fAdd) (mVar 4) (mLst (aCons (mTup (aCons (mVar 5) (aCons (mVar 6) aNil))) (aCons (mTup (aCons (mVar 6) (aCons (mVar 5) aNil))) aNil)))) (gSet 4))))) (rs.map rD) (TD kp kr ns .un (prL done) a b c .un .un .un .un .un .un ce) = match dueR ns rs (done.map rk) with
      | some er => .rt (.str er) S'
      | none => .nx S'
  | [], done, a, b, c, _, _, _ => ⟨_, ⟨prL done, a, b, c, rfl⟩, forL_nil hkr⟩
  | r :: rs, done, a, b, c, hb, hs, hl => by
    have rb := hb r List.mem_cons_self
    let S1 : Sg := TD kp kr ns .un (prL done) (.dat (.str r.one)) (.dat (.str r.other)) (.dat (sQ r.cross)) .un .un .un .un .un .un ce
    have g1 : gTupF [(gSet 5), (gSet 6), (gSet 7)] (rD r) (TD kp kr ns .un (prL done) a b c .un .un .un .un .un .un ce) = some S1 := rfl
    have ok : (TD kp kr ns .un (prL done) a b c .un .un .un .un .un .un ce).ce[kr]? = some (.lst ds0) := hkr
    have hin : ∃ pl a b c, S1 = TD kp kr ns .un pl a b c .un .un .un .un .un .un ce := ⟨_, _, _, _, rfl⟩
    have t1 : mOr (mTest (mOp (mIn true) (mVar 5) (mVar 2))) (mTest (mOp (mIn true) (mVar 6) (mVar 2))) S1 = .ok (decide (r.one ∉ ns ∨ r.other ∉ ns)) S1 := by
      refine t_is (or_p (test_bl (in_ok (var_dat rfl) (var_dat rfl) rfl rfl inD_strs)) fun _ => test_bl (in_ok (var_dat rfl) (var_dat rfl) rfl rfl inD_strs)) ?_
      rw [if_pos rfl, if_pos rfl, ← decide_not, ← decide_not, dec_or]
    have t2 : mOr (mTest (mOp (mEq) (mVar 5) (mVar 6))) (mTest (mOp (lift2 fLe) (mOp (lift2 fIx) (mVar 7) (mC (.int 0))) (mC (.int 0)))) S1 = .ok (decide (r.one = r.other ∨ r.cross ≤ 0)) S1 := by
      refine t_is (or_p (test_bl (eq_ok (var_dat rfl) (var_dat rfl) rfl rfl eqB_str)) fun _ => test_bl (ev_is (op2 (op2 (var_dat rfl) c_ok rfl rfl (ixQ0 _)) c_ok rfl rfl rfl) (congrArg RD.bl (num_le0 _)))) ?_
      rw [dec_or]
    have t3 : mTest (mOp (mIn false) (mTup (aCons (mVar 5) (aCons (mVar 6) aNil))) (mVar 4)) S1 = .ok (decide (rk r ∈ done.map rk)) S1 :=
      test_bl (ev_is (in_ok (x := tp (r.one, r.other)) (tup_ok (args_cons (var_dat rfl) (args_cons (var_dat rfl) args_nil)) (toDs_d (toDs_d toDs_nil)) (Nat.le_of_ble_eq_true rfl)) (var_dat rfl) rfl rfl (inD_tps (x := (r.one, r.other)) ⟨rb.ka, rb.kb⟩ hs)) (by rw [if_neg (by decide), prL_in]; rfl))
    unfold dueR
    rw [List.map_cons]
    by_cases h1 : r.one ∉ ns ∨ r.other ∉ ns
    · rw [decide_eq_true h1] at t1
      rw [if_pos h1]
      exact ⟨S1, hin, forL_rt ok g1 (seq_rt ((if_t t1).trans (ret_d c_ok)))⟩
    rw [decide_eq_false h1] at t1
    rw [if_neg h1]
    by_cases h2 : r.one = r.other ∨ r.cross ≤ 0
    · rw [decide_eq_true h2] at t2
      rw [if_pos h2]
      exact ⟨S1, hin, forL_rt ok g1 ((seq_nx (S1 := S1) ((if_f t1).trans rfl)).trans (seq_rt ((if_t t2).trans (ret_d c_ok))))⟩
    rw [decide_eq_false h2] at t2
    rw [if_neg h2]
    show ∃ S', _ ∧ _ = match (if rk r ∈ done.map rk then some "duplicate" else dueR ns rs (done.map rk ++ [rk r])) with
      | some er => Out.rt (.str er) S'
      | none => .nx S'
    by_cases h3 : rk r ∈ done.map rk
    · rw [decide_eq_true h3] at t3
      rw [if_pos h3]
      exact ⟨S1, hin, forL_rt ok g1 ((seq_nx (S1 := S1) ((if_f t1).trans rfl)).trans ((seq_nx (S1 := S1) ((if_f t2).trans rfl)).trans (seq_rt ((if_t t3).trans (ret_d c_ok)))))⟩
    rw [decide_eq_false h3] at t3
    rw [if_neg h3]
    have em : (done ++ [r]).map rk = done.map rk ++ [rk r] := by rw [List.map_append]; rfl
    have ep : prL (done ++ [r]) = prL done ++ [(r.one, r.other), (r.other, r.one)] := by unfold prL; rw [List.flatMap_append]; rfl
    obtain ⟨S', i1, i2⟩ := lr_loop (kp := kp) (ns := ns) hkr rs (done ++ [r]) (.dat (.str r.one)) (.dat (.str r.other)) (.dat (sQ r.cross)) (fun q hq => hb q (List.mem_cons_of_mem _ hq)) (fun p hp => by
      rw [ep] at hp
      rcases List.mem_append.mp hp with hp | hp
      · exact hs p hp
      · simp only [List.mem_cons, List.mem_nil_iff, or_false] at hp
        rcases hp with rfl | rfl
        · exact ⟨rb.ka, rb.kb⟩
        · exact ⟨rb.kb, rb.ka⟩) (by rw [List.length_append]; simp only [List.length_cons, List.length_nil] at hl ⊢; omega)
    rw [em] at i2
    refine ⟨S', i1, (forL_nx ok g1 ((seq_nx (S1 := S1) ((if_f t1).trans rfl)).trans ((seq_nx (S1 := S1) ((if_f t2).trans rfl)).trans ((seq_nx (S1 := S1) ((if_f t3).trans rfl)).trans ?_)))).trans i2⟩
    have hpl : (prL done).length = 2 * done.length := by
      unfold prL
      clear hs t3 h3 em ep i2 g1 ok hin t1 t2 S1 hl
      induction done with
      | nil => rfl
      | cons x xs ih => rw [List.flatMap_cons, List.length_append, ih]; simp only [List.length_cons, List.length_nil]; omega
    refine (asg_set (d := .lst ((prL (done ++ [r])).map tp)) (ev_is (op2 (z := .lst ((prL done).map tp ++ [tp (r.one, r.other), tp (r.other, r.one)])) (var_dat rfl) (lst_ok (args_cons (tup_ok (args_cons (var_dat rfl) (args_cons (var_dat rfl) args_nil)) (toDs_d (toDs_d toDs_nil)) (Nat.le_of_ble_eq_true rfl)) (args_cons (tup_ok (args_cons (var_dat rfl) (args_cons (var_dat rfl) args_nil)) (toDs_d (toDs_d toDs_nil)) (Nat.le_of_ble_eq_true rfl)) args_nil)) (toDs_d (toDs_d toDs_nil)) (Nat.le_of_ble_eq_true rfl)) rfl rfl (fAddL (by rw [List.length_map, hpl]; simp only [List.length_cons, List.length_nil] at hl ⊢; omega))) (by rw [ep, List.map_append]; rfl))).trans rfl
theorem tot_loop {kr : Nat} {ds0 : List RD} (hkr : ce[kr]? = some (.lst ds0)) (name : Str) (s0 s1 s2 s4 s5 s6 s7 s9 s10 s11 s12 : SV) : ∀ (rs : List Rv) (acc : Rat) (k : Nat) (row : SV), (∀ r ∈ rs, RvB r) → Bt (1 + 21 * k) acc → k + rs.length ≤ 60 → ∃ row', Bt 2000 (acc + total name rs) ∧
    forL (fun S => S.ce[kr]? = some (.lst ds0)) (gSet 3) (mIfS (mTest (mOp (mIn false) (mVar 8) (mSl (mVar 3) mNoPart (mPart (mC (.int 2)))))) (mAsg (mCall 2 (f_law_add E) [] (aCons (mVar 13) (aCons (mOp (lift2 fIx) (mVar 3) (mC (.int 2))) aNil))) (gSet 13)) mNext) (rs.map rD) ⟨[s0, s1, s2, row, s4, s5, s6, s7, .dat (.str name), s9, s10, s11, s12, .dat (sQ acc)], ce, none⟩ = .nx ⟨[s0, s1, s2, row', s4, s5, s6, s7, .dat (.str name), s9, s10, s11, s12, .dat (sQ (acc + total name rs))], ce, none⟩
  | [], acc, k, row, _, ha, hk => ⟨row, by show Bt 2000 (acc + 0); rw [Rat.add_zero]; exact ha.mono (by simp only [List.length_nil] at hk; omega), by show forL _ _ _ [] _ = .nx ⟨[_, _, _, _, _, _, _, _, _, _, _, _, _, .dat (sQ (acc + 0))], _, _⟩; rw [Rat.add_zero]; exact forL_nil hkr⟩
  | r :: rs, acc, k, row, hb, ha, hk => by
    have rb := hb r List.mem_cons_self
    simp only [List.length_cons] at hk
    let S1 : Sg := ⟨[s0, s1, s2, .dat (rD r), s4, s5, s6, s7, .dat (.str name), s9, s10, s11, s12, .dat (sQ acc)], ce, none⟩
    have t1 : mTest (mOp (mIn false) (mVar 8) (mSl (mVar 3) mNoPart (mPart (mC (.int 2))))) S1 = .ok (isIn name r) S1 := by
      refine test_bl (ev_is (in_ok (x := .str name) (d := .tup ([r.one, r.other].map .str)) (var_dat rfl) (sl_ok (var_dat rfl) noPart_ok (part_ok c_ok) rfl rfl) rfl rfl inD_strsT) ?_)
      rw [if_neg (by decide)]
      unfold isIn
      exact congrArg RD.bl (decide_eq_decide.mpr (by simp))
    rw [MM.total_cons, List.map_cons]
    by_cases h : isIn name r = true
    · rw [h] at t1
      rw [if_pos h, ← Rat.add_assoc]
      have hb2 : Bt (1 + 21 * (k + 1)) (acc + r.cross) := (ha.add rb.c).mono (by omega)
      obtain ⟨row', i1, i2⟩ := tot_loop hkr name s0 s1 s2 s4 s5 s6 s7 s9 s10 s11 s12 rs (acc + r.cross) (k + 1) (.dat (rD r)) (fun q hq => hb q (List.mem_cons_of_mem _ hq)) hb2 (by omega)
      refine ⟨row', i1, (forL_nx hkr (S1 := S1) rfl ((if_t t1).trans (asg_set (call_ok (args_cons (var_dat rfl) (args_cons (op2 (z := sQ r.cross) (var_dat rfl) c_ok rfl rfl rfl) args_nil)) (toDs_d (toDs_d toDs_nil)) rfl (ev_law_add (ha.mono (by omega)) (rb.c.mono (by decide))))))).trans i2⟩
    · have h' : isIn name r = false := by cases e : isIn name r with | false => rfl | true => exact absurd e h
      rw [h'] at t1
      rw [if_neg h, Rat.zero_add]
      obtain ⟨row', i1, i2⟩ := tot_loop hkr name s0 s1 s2 s4 s5 s6 s7 s9 s10 s11 s12 rs acc k (.dat (rD r)) (fun q hq => hb q (List.mem_cons_of_mem _ hq)) ha (by omega)
      exact ⟨row', i1, (forL_nx hkr (S1 := S1) rfl ((if_f t1).trans rfl)).trans i2⟩
theorem lo_loop {kp kr : Nat} {ds0 : List RD} {rs : List Rv} {ns : List Str} {pl : List (Str × Str)} (hkp : ce[kp]? = some (.lst ds0)) (hkr : ce[kr]? = some (.lst (rs.map rD))) (hr : ∀ r ∈ rs, RvB r) (hl : rs.length ≤ 60) (a b c : SV) : ∀ (ps : List Pr) (row d e f g h i : SV), (∀ p ∈ ps, PrB p) → ∃ S' : Sg, S'.ce = ce ∧
    forL (fun S => S.ce[kp]? = some (.lst ds0)) (gTupF [(gSet 8), (gSet 9), (gSet 10), (gSet 11), (gSet 12)]) (mSeq (mAsg (mTup (aCons (mC (.int 0)) (aCons (mC (.int 1)) aNil))) (gSet 13))
    (mSeq (mFor (mIter (mVar 1)) (gSet 3) (mIfS (mTest (mOp (mIn false) (mVar 8) (mSl (mVar 3) mNoPart (mPart (mC (.int 2)))))) (mAsg (mCall 2 (f_law_add E) [] (aCons (mVar 13) (aCons (mOp (lift2 fIx) (mVar 3) (mC (.int 2))) aNil))) (gSet 13)) mNext))
    (mIfS (mNot (mTest (mCall 2 (f_law_less E) [] (aCons (mVar 13) (aCons (mVar 11) aNil))))) (mRet (mC (.str "market"))) mNext))) (ps.map pD) (TD kp kr ns row pl a b c d e f g h i ce) = if ∀ p ∈ ps, total p.name rs < p.own then .nx S' else .rt (.str "market") S'
  | [], row, d, e, f, g, h, i, _ => ⟨TD kp kr ns row pl a b c d e f g h i ce, rfl, by rw [if_pos (by intro p hp; cases hp)]; exact forL_nil hkp⟩
  | p :: ps, row, d, e, f, g, h, i, hb => by
    have pb := hb p List.mem_cons_self
    let S1 : Sg := TD kp kr ns row pl a b c (.dat (.str p.name)) (.dat (.str p.owner)) (.dat (sQ p.base)) (.dat (sQ p.own)) (.dat (sQ p.cost)) i ce
    let S2 : SV → Rat → Sg := fun row q => TD kp kr ns row pl a b c (.dat (.str p.name)) (.dat (.str p.owner)) (.dat (sQ p.base)) (.dat (sQ p.own)) (.dat (sQ p.cost)) (.dat (sQ q)) ce
    have g1 : gTupF [(gSet 8), (gSet 9), (gSet 10), (gSet 11), (gSet 12)] (pD p) (TD kp kr ns row pl a b c d e f g h i ce) = some S1 := rfl
    have ok : (TD kp kr ns row pl a b c d e f g h i ce).ce[kp]? = some (.lst ds0) := hkp
    obtain ⟨row', hbt, hf⟩ := tot_loop (E := E) hkr p.name (.dat (.loc kp)) (.dat (.loc kr)) (.dat (.lst (ns.map .str))) (.dat (.lst (pl.map tp))) a b c (.dat (.str p.owner)) (.dat (sQ p.base)) (.dat (sQ p.own)) (.dat (sQ p.cost)) rs 0 0 row hr (RP.bt_zero (by decide)) (by omega)
    rw [Rat.zero_add] at hbt hf
    have hi : mIter (mVar 1) (S2 row 0) = .ok ⟨rs.map rD, fun S => S.ce[kr]? = some (.lst (rs.map rD))⟩ (S2 row 0) := iter_loc (var_dat rfl) hkr
    have hfor := for_ok hi hf
    have t : mTest (mCall 2 (f_law_less E) [] (aCons (mVar 13) (aCons (mVar 11) aNil))) (S2 row' (total p.name rs)) = .ok (decide (total p.name rs < p.own)) (S2 row' (total p.name rs)) := test_bl (call_ok (args_cons (var_dat rfl) (args_cons (var_dat rfl) args_nil)) (toDs_d (toDs_d toDs_nil)) rfl (ev_law_less hbt (pb.b2.mono (by decide))))
    have a1 : mAsg (mTup (aCons (mC (.int 0)) (aCons (mC (.int 1)) aNil))) (gSet 13) S1 = .nx (S2 row 0) := asg_set (tup_ok (args_cons c_ok (args_cons c_ok args_nil)) (toDs_d (toDs_d toDs_nil)) (Nat.le_of_ble_eq_true rfl))
    rw [List.map_cons]
    by_cases hlt : total p.name rs < p.own
    · rw [decide_eq_true hlt] at t
      obtain ⟨S', i1, i2⟩ := lo_loop (ns := ns) (pl := pl) hkp hkr hr hl a b c ps row' (.dat (.str p.name)) (.dat (.str p.owner)) (.dat (sQ p.base)) (.dat (sQ p.own)) (.dat (sQ p.cost)) (.dat (sQ (total p.name rs))) (fun q hq => hb q (List.mem_cons_of_mem _ hq))
      refine ⟨S', i1, (forL_nx ok g1 ((seq_nx a1).trans ((seq_nx hfor).trans ((if_f (not_ok t)).trans rfl)))).trans (i2.trans ?_)⟩
      by_cases hr2 : ∀ q ∈ ps, total q.name rs < q.own
      · rw [if_pos hr2, if_pos fun q hq => (List.mem_cons.mp hq).elim (fun z => by rw [z]; exact hlt) (hr2 q)]
      · rw [if_neg hr2, if_neg fun z => hr2 fun q hq => z q (List.mem_cons_of_mem _ hq)]
    · rw [decide_eq_false hlt] at t
      refine ⟨S2 row' (total p.name rs), rfl, ?_⟩
      rw [if_neg fun z => hlt (z p List.mem_cons_self)]
      exact forL_rt ok g1 ((seq_nx a1).trans ((seq_nx hfor).trans ((if_t (not_ok t)).trans (ret_d c_ok))))
theorem ev_law_due {kp kr : Nat} {ps : List Pr} {rs : List Rv} (hkp : ce[kp]? = some (.lst (ps.map pD))) (hkr : ce[kr]? = some (.lst (rs.map rD))) (h1 : 1 ≤ ps.length) (h6 : ps.length ≤ 6) (hb : ∀ p ∈ ps, PrB p) (hr : ∀ r ∈ rs, RvB r) (hl : rs.length ≤ 60) : f_law_due E [.loc kp, .loc kr] ce = .ok (erS (dueA ps rs)) ce := by
  let S0 : Sg := ⟨[.dat (.loc kp), .dat (.loc kr), .un, .un, .un, .un, .un, .un, .un, .un, .un, .un, .un, .un], ce, none⟩
  have c0 : mCall 1 (f_law_products_due E) [] (aCons (mVar 0) aNil) S0 = .ok (.d (erS (dueP isNm ps []))) S0 := call_ok (args_cons (var_dat rfl) args_nil) (toDs_d toDs_nil) rfl (ev_products_due hkp h1 h6 hb)
  unfold dueA
  cases hd : dueP isNm ps [] with
  | some er =>
    rw [hd] at c0
    have t0 : mTest (mOp (mNe) (mCall 1 (f_law_products_due E) [] (aCons (mVar 0) aNil)) (mC (.str "none"))) S0 = .ok true S0 := by
      rcases dueP_is hd with rfl | rfl
      · exact test_bl (ev_is (ne_ok c0 c_ok rfl rfl eqB_str) (congrArg RD.bl (by decide +kernel)))
      · exact test_bl (ev_is (ne_ok c0 c_ok rfl rfl eqB_str) (congrArg RD.bl (by decide +kernel)))
    exact fun_rt (n := 14) (m := m_law_due E) (ds := [.loc kp, .loc kr]) (ce := ce) (S := S0) (seq_rt ((if_t t0).trans (ret_d c0)))
  | none =>
    rw [hd] at c0
    have t0 : mTest (mOp (mNe) (mCall 1 (f_law_products_due E) [] (aCons (mVar 0) aNil)) (mC (.str "none"))) S0 = .ok false S0 := test_bl (ev_is (ne_ok c0 c_ok rfl rfl eqB_str) (congrArg RD.bl (by decide +kernel)))
    let ns := ps.map (·.name)
    let S1 : Sg := ⟨[.dat (.loc kp), .dat (.loc kr), .dat (.lst (ns.map .str)), .un, .un, .un, .un, .un, .un, .un, .un, .un, .un, .un], ce, none⟩
    have a1 : mAsg (mFrz (nLc (mIter (mVar 0)) (gSet 3) (fun S => .ok true S) (mOp (lift2 fIx) (mVar 3) (mC (.int 0))) [3])) (gSet 2) S0 = .nx S1 := by
      refine asg_set (frz_ok (c := .lst (ns.map .str)) (nlc_ok (S1 := S0) (iter_loc (var_dat rfl) hkp) (by show (ps.map pD).length ≤ _; rw [List.length_map]; omega) ?_) rfl)
      show lcL (fun S => S.ce[kp]? = some (.lst (ps.map pD))) (gSet 3) (fun S => .ok true S) (mOp (lift2 fIx) (mVar 3) (mC (.int 0))) [3] (ps.map pD) [] S0 = .ok (ns.map .str) S0
      have := lcL_map (ok := fun S : Sg => S.ce[kp]? = some (.lst (ps.map pD))) (g := gSet 3) (t := fun S => .ok true S) (e := mOp (lift2 fIx) (mVar 3) (mC (.int 0))) (vs := [3]) (S := S0) pD (fun p => .str p.name) hkp ps [] fun p _ => ⟨⟨[.dat (.loc kp), .dat (.loc kr), .un, .dat (pD p), .un, .un, .un, .un, .un, .un, .un, .un, .un, .un], ce, none⟩, _, _, _, _, rfl, rfl, op2 (var_dat rfl) c_ok rfl rfl rfl, rfl, rfl⟩
      rw [this, List.nil_append]
      show _ = Rr.ok ((ps.map (·.name)).map RD.str) S0
      rw [List.map_map]; rfl
    let S2 : Sg := TD kp kr ns .un (prL []) .un .un .un .un .un .un .un .un .un ce
    have a2 : mAsg (mLst aNil) (gSet 4) S1 = .nx S2 := asg_set (lst_ok args_nil toDs_nil (by decide))
    obtain ⟨S3, ⟨pl, a, b, c, rfl⟩, l1⟩ := lr_loop (kp := kp) (ns := ns) hkr rs [] .un .un .un hr (fun p hp => by cases hp) (by simp only [List.length_nil]; omega)
    have hi : mIter (mVar 1) S2 = .ok ⟨rs.map rD, fun S => S.ce[kr]? = some (.lst (rs.map rD))⟩ S2 := iter_loc (var_dat rfl) hkr
    have hf := for_ok hi l1
    rw [show List.map rk [] = [] from rfl] at hf
    show f_law_due E [.loc kp, .loc kr] ce = .ok (erS (match dueR ns rs [] with
      | some e => some e
      | none => if ∀ p ∈ ps, total p.name rs < p.own then none else some "market")) ce
    cases hd2 : dueR ns rs [] with
    | some er =>
      rw [hd2] at hf
      exact fun_rt (n := 14) (m := m_law_due E) (ds := [.loc kp, .loc kr]) (ce := ce) ((seq_nx (S1 := S0) ((if_f t0).trans rfl)).trans ((seq_nx a1).trans ((seq_nx a2).trans (seq_rt hf))))
    | none =>
      rw [hd2] at hf
      obtain ⟨S', i1, i2⟩ := lo_loop (E := E) (kp := kp) (ns := ns) (pl := pl) hkp hkr hr hl a b c ps .un .un .un .un .un .un .un hb
      have hi2 : mIter (mVar 0) (TD kp kr ns .un pl a b c .un .un .un .un .un .un ce) = .ok ⟨ps.map pD, fun S => S.ce[kp]? = some (.lst (ps.map pD))⟩ (TD kp kr ns .un pl a b c .un .un .un .un .un .un ce) := iter_loc (var_dat rfl) hkp
      have hf2 := for_ok hi2 i2
      show f_law_due E [.loc kp, .loc kr] ce = .ok (erS (if ∀ p ∈ ps, total p.name rs < p.own then none else some "market")) ce
      by_cases ht : ∀ p ∈ ps, total p.name rs < p.own
      · rw [if_pos ht] at hf2 ⊢
        have := fun_rt (n := 14) (m := m_law_due E) (ds := [.loc kp, .loc kr]) (ce := ce) ((seq_nx (S1 := S0) ((if_f t0).trans rfl)).trans ((seq_nx a1).trans ((seq_nx a2).trans ((seq_nx hf).trans ((seq_nx hf2).trans (ret_d c_ok))))))
        rw [i1] at this; exact this
      · rw [if_neg ht] at hf2 ⊢
        have := fun_rt (n := 14) (m := m_law_due E) (ds := [.loc kp, .loc kr]) (ce := ce) ((seq_nx (S1 := S0) ((if_f t0).trans rfl)).trans ((seq_nx a1).trans ((seq_nx a2).trans ((seq_nx hf).trans (seq_rt hf2)))))
        rw [i1] at this; exact this

end RSk32

set_option Elab.async false
set_option linter.all false
set_option maxRecDepth 100000
set_option maxHeartbeats 4000000
namespace RSk32
open PySem PySem.Spec PyProof.Rows L2 RS RPk32
local macro_rules | `(tactic| walk_at "fn") => `(tactic| fail)
local macro_rules | `(tactic| walk_at "ev2") => `(tactic| fail)
local macro_rules | `(tactic| walk_at "ev1") => `(tactic| first
  | (with_reducible exact args_nil) | (with_reducible apply args_cons) | (with_reducible exact toDs_nil) | (with_reducible apply toDs_d)
  | (with_reducible exact c_ok) | ((with_reducible apply var_dat); rfl) | ((with_reducible apply var_own); rfl) | ((with_reducible apply var_exc); rfl)
  | (with_reducible apply op2) | (with_reducible apply tup_ok) | (with_reducible apply lst_ok) | (with_reducible apply call_ok) | (with_reducible apply cb_ok) | (with_reducible apply sl_ok)
  | (with_reducible exact noPart_ok) | (with_reducible apply part_ok) | (with_reducible exact derefs_nil) | (with_reducible apply derefs_cons)
  | ((with_reducible show deref _ (.d _) = some _); rfl) | (with_reducible apply fMul_ok) | (with_reducible apply fDiv_ok) | (with_reducible apply fMod_ok) | (with_reducible apply fAddL)
  | ((with_reducible show fAdd _ _ = some _); rfl) | ((with_reducible show fSub _ _ = some _); rfl) | ((with_reducible show fLt _ _ = some _); rfl) | ((with_reducible show fLe _ _ = some _); rfl) | ((with_reducible show fGt _ _ = some _); rfl) | ((with_reducible show fGe _ _ = some _); rfl)
  | ((with_reducible show fIx _ _ = some _); rfl) | ((with_reducible show fAbs _ = some _); rfl) | ((with_reducible show fInt _ = some _); rfl) | ((with_reducible show fLen _ = some _); rfl) | ((with_reducible show fList _ = some _); rfl) | ((with_reducible show fIs _ _ = some _); rfl) | ((with_reducible show fIsNot _ _ = some _); rfl) | ((with_reducible show fIsi _ = some _); rfl)
  | ((with_reducible show List.length _ ≤ 100000); exact Nat.le_of_ble_eq_true rfl) | ((with_reducible show List.length _ = _); rfl)
  | (with_reducible apply test_bl) | (with_reducible apply not_ok) | walk_at "fn" | walk_at "ev2")
local macro_rules | `(tactic| walk_at "ev") => `(tactic| repeat' walk_at "ev1")
local macro_rules | `(tactic| walk_at "norm") => `(tactic| simp only [List.set_cons_zero, List.set_cons_succ, startL, List.map_cons, List.map_nil, List.length_cons, List.length_nil, List.replicate_succ, List.replicate_zero, List.cons_append, List.nil_append, Nat.reduceAdd, Nat.reduceSub])
open MM (Pr Rv pr2 strB dueP dueR total isIn cg slope POk ROk)
open RP (Bt Bd Sq BL BM Sh domB)
variable {E : En} {ce : List Cell}
/-- the market's cell -/
structure MkC (ce : List Cell) (L : Nat) (qs : List Pr) (rs : List Rv) : Prop where
  h : ∃ fs ds kc, ce[L]? = some (.obj "Market" fs ds) ∧ ("cross" : Str) ∉ fs ∧ ("_slopes" : Str) ∉ fs ∧ fldD fs ds "_crosses" = some (.loc kc) ∧ ce[kc]? = some (.dt (rvK rs) (rvD rs)) ∧ fldD fs ds "_table" = some (.fk (nmK qs) (qs.map pD))
theorem sQ0 : RD.tup ([0, 1].map .int) = sQ 0 := rfl
theorem ev_cross {L : Nat} {qs : List Pr} {rs : List Rv} {a b : Str} (M : MkC ce L qs rs) : f_Market_cross E [.loc L, .str a, .str b] ce = .ok (sQ (cg rs a b)) ce := by
  obtain ⟨fs, ds, kc, h1, h2, h3, h4, h5, h6⟩ := M.h
  let S : Sg := ⟨[.dat (.loc L), .dat (.str a), .dat (.str b)], ce, none⟩
  have o1 : mFld "Market" "_crosses" (mVar 0) S = .ok (.d (.loc kc)) S := fld_ok (var_dat rfl) (by rw [deref_loc]; show (ce[L]?).map _ = _; rw [h1]; rfl) h4
  have dd : deref S (.d (.loc kc)) = some (.dt (rvK rs) (rvD rs)) := by rw [deref_loc]; show (ce[kc]?).map _ = _; rw [h5]; rfl
  refine fun_rt (S := S) (ret_d (ev_is (dget2_eq (o := valR (rvK rs) (rvD rs) (keyP (pr2 a b))) o1 dd rfl (call_ok (args_cons (var_dat rfl) (args_cons (var_dat rfl) args_nil)) (toDs_d (toDs_d toDs_nil)) rfl ev_pair) c_ok rfl dd rfl) ?_))
  unfold rvK rvD
  rw [valR_map, sQ0]
  unfold cg
  have e : (fun x : Rv => decide (keyP (rk x) = keyP (pr2 a b))) = fun r => decide (pr2 r.one r.other = pr2 a b) := funext fun r => decide_eq_decide.mpr ⟨fun z => keyP_inj z, fun z => by show keyP (pr2 _ _) = _; rw [z]⟩
  rw [e]
  cases rs.find? fun r => decide (pr2 r.one r.other = pr2 a b) <;> rfl
theorem nm_get {qs : List Pr} {q : Pr} (nd : (qs.map (·.name)).Nodup) (hq : q ∈ qs) : valR (nmK qs) (qs.map pD) (.inr q.name) = some (pD q) := by
  unfold nmK
  rw [valR_map]
  induction qs with
  | nil => cases hq
  | cons x r ih =>
    have nd2 := List.nodup_cons.mp nd
    rcases List.mem_cons.mp hq with rfl | hq
    · rw [List.find?_cons_of_pos (by simp)]; rfl
    · have : x.name ≠ q.name := fun z => nd2.1 (by show x.name ∈ _; rw [z]; exact List.mem_map.mpr ⟨q, hq, rfl⟩)
      rw [List.find?_cons_of_neg (by simpa using this)]
      exact ih nd2.2 hq
theorem ev_slopes {L : Nat} {qs : List Pr} {rs : List Rv} {q : Pr} (M : MkC ce L qs rs) (nd : (qs.map (·.name)).Nodup) (hq : q ∈ qs) (hs : Sq q.own) (hl : qs.length ≤ 100) : f_Market_slopes E [.loc L, .str q.name] ce = .ok (sL (slope qs rs q)) ce := by
  obtain ⟨fs, ds, kc, h1, h2, h3, h4, h5, h6⟩ := M.h
  let T : SV → SV → Sg := fun a b => ⟨[.dat (.loc L), .dat (.str q.name), a, b], ce, none⟩
  have dl : ∀ a b, deref (T a b) (.d (.loc L)) = some (.obj "Market" fs ds) := fun a b => by rw [deref_loc]; show (ce[L]?).map _ = _; rw [h1]; rfl
  have o1 : ∀ a b, mFld "Market" "_table" (mVar 0) (T a b) = .ok (.d (.fk (nmK qs) (qs.map pD))) (T a b) := fun a b => fld_ok (var_dat rfl) (dl a b) h6
  let fall : SV := .dat (sQ (-q.own))
  have a1 : mAsg (mCall 2 (f_sub E) [] (aCons (mC (.tup ([0, 1].map .int))) (aCons (mOp (lift2 fIx) (mOp dGet (mFld "Market" "_table" (mVar 0)) (mVar 1)) (mC (.int 3))) aNil))) (gSet 2) (T .un .un) = .nx (T fall .un) :=
    asg_set (call_ok (args_cons c_ok (args_cons (op2 (z := sQ q.own) (dget_eq (x := .str q.name) (d := .fk (nmK qs) (qs.map pD)) (r := pD q) (o1 _ _) (var_dat rfl) rfl rfl (congrArg some (nm_get nd hq))) c_ok rfl rfl rfl) args_nil)) (toDs_d (toDs_d toDs_nil)) rfl (ev_sub0 hs))
  refine fun_rt (S := T fall .un) ((seq_nx a1).trans (ret_d (frz_ok (c := .lst (qs.map fun o => sQ (if o.name = q.name then -q.own else cg rs q.name o.name))) (nlc_ok (S1 := T fall .un) (keys_ok (o1 _ _) rfl) (by show (List.map keyR _).length ≤ _; unfold nmK; rw [List.length_map, List.length_map]; omega) ?_) (by unfold slope sL; rw [List.map_map]; rfl))))
  have := lcL_map (ok := fun _ : Sg => True) (g := gSet 3) (t := fun S => .ok true S) (e := mIf (mTest (mOp (mEq) (mVar 3) (mVar 1))) (mVar 2) (mMeth "Market" "cross" 3 (f_Market_cross E) (mVar 0) (aCons (mVar 1) (aCons (mVar 3) aNil)))) (vs := [3]) (S := T fall .un) (fun o : Pr => .str o.name) (fun o => sQ (if o.name = q.name then -q.own else cg rs q.name o.name)) trivial qs [] fun o _ => ?_
  · rw [List.nil_append] at this
    show lcL _ _ _ _ _ (List.map keyR (nmK qs)) [] _ = _
    have e : List.map keyR (nmK qs) = qs.map fun o => RD.str o.name := by unfold nmK; rw [List.map_map]; rfl
    rw [e]; exact this
  · have t : mTest (mOp mEq (mVar 3) (mVar 1)) (T fall (.dat (.str o.name))) = .ok (decide (o.name = q.name)) (T fall (.dat (.str o.name))) := test_bl (eq_ok (var_dat rfl) (var_dat rfl) rfl rfl eqB_str)
    by_cases h : o.name = q.name
    · rw [decide_eq_true h] at t
      rw [if_pos h]
      exact ⟨T fall (.dat (.str o.name)), _, _, _, _, rfl, rfl, (ife_t t).trans (var_dat rfl), rfl, rfl⟩
    · rw [decide_eq_false h] at t
      rw [if_neg h]
      exact ⟨T fall (.dat (.str o.name)), _, _, _, _, rfl, rfl, (ife_f t).trans (meth_ok (var_dat rfl) (dl _ _) h2 (args_cons (var_dat rfl) (args_cons (var_dat rfl) args_nil)) (toDs_d (toDs_d toDs_nil)) rfl (ev_cross M)), rfl, rfl⟩
/-! ### the table in order -/
theorem perm_map {α β : Type} {f : α → β} : ∀ {l m : List β}, l.Perm m → ∀ xs : List α, m = xs.map f → ∃ ys : List α, ys.Perm xs ∧ ys.map f = l := by
  intro l m h
  induction h with
  | nil => intro xs e; cases xs with
    | nil => exact ⟨[], .nil, rfl⟩
    | cons x r => cases e
  | cons a _ ih => intro xs e; cases xs with
    | nil => cases e
    | cons x r =>
      rw [List.map_cons] at e
      injection e with e1 e2
      obtain ⟨ys, h1, h2⟩ := ih r e2
      exact ⟨x :: ys, .cons x h1, by rw [List.map_cons, h2, e1]⟩
  | swap a b l => intro xs e; cases xs with
    | nil => cases e
    | cons x r => cases r with
      | nil => rw [List.map_cons] at e; injection e with e1 e2; cases e2
      | cons y r =>
        rw [List.map_cons, List.map_cons] at e
        injection e with e1 e2
        injection e2 with e2 e3
        exact ⟨y :: x :: r, .swap x y r, by rw [List.map_cons, List.map_cons, e1, e2, e3]⟩
  | trans _ _ ih1 ih2 => intro xs e
                         obtain ⟨ys, h1, h2⟩ := ih2 xs e
                         obtain ⟨zs, h3, h4⟩ := ih1 ys h2.symm
                         exact ⟨zs, h3.trans h1, h4⟩
theorem txts_nm : ∀ ps : List Pr, txts (nmK ps) = some (ps.map (·.name))
  | [] => rfl
  | p :: r => by
    show txts (.inr p.name :: nmK r) = _
    unfold txts
    rw [txts_nm r]; rfl
theorem dcL_nil {ok : Sg → Prop} {g : MG} {t : MT} {ek ev : ME} {vs : List Nat} {acc : List Key × List RD} {S : Sg} (h : ok S) : dcL ok g t ek ev vs [] acc S = .ok acc S := by unfold dcL; rw [if_pos h]
theorem dcL_cons {ok : Sg → Prop} {g : MG} {t : MT} {ek ev : ME} {vs : List Nat} {d dk r : RD} {ds : List RD} {acc : List Key × List RD} {S S1 S2 S3 S4 S5 : Sg} {κ : Key} {p : PV} (h : ok S) (h1 : g d (wipeS vs S) = some S1) (h2 : t S1 = .ok true S2) (h3 : ek S2 = .ok (.d dk) S3) (h4 : keyD dk = some κ) (h5 : ev S3 = .ok p S4) (h6 : toD p S4 = .ok r S5) : dcL ok g t ek ev vs (d :: ds) acc S = dcL ok g t ek ev vs ds (pk acc.1 κ, pv acc.1 acc.2 κ r) (backS vs S S5) := by
  conv => lhs; unfold dcL
  rw [if_pos h, h1]
  simp only [h2, h3, h4, h5, h6]
theorem tab_loop {kt : Nat} {a b c : SV} {ps : List Pr} (nd0 : (ps.map (·.name)).Nodup) (hkt : ce[kt]? = some (.dk (nmK ps) (ps.map pD))) : ∀ (qs done : List Pr), (∀ q ∈ qs, q ∈ ps) → ((done ++ qs).map (·.name)).Nodup →
    dcL (fun _ : Sg => True) (gSet 4) (fun S => .ok true S) (mVar 4) (mOp dGet (mVar 3) (mVar 4)) [4] (qs.map fun q => .str q.name) (nmK done, done.map pD) ⟨[a, b, c, .dat (.loc kt), .un], ce, none⟩ = .ok (nmK (done ++ qs), (done ++ qs).map pD) ⟨[a, b, c, .dat (.loc kt), .un], ce, none⟩
  | [], done, _, _ => by rw [List.append_nil]; exact dcL_nil trivial
  | q :: qs, done, hq, nd => by
    have hin := hq q List.mem_cons_self
    have nd' : ((done ++ [q] ++ qs).map (·.name)).Nodup := by rw [List.append_assoc]; exact nd
    have ih := tab_loop (a := a) (b := b) (c := c) nd0 hkt qs (done ++ [q]) (fun x hx => hq x (List.mem_cons_of_mem _ hx)) nd'
    rw [List.append_assoc] at ih
    have hno : (Sum.inr q.name : Key) ∉ nmK done := fun z => by
      obtain ⟨x, hx, e⟩ := List.mem_map.mp z
      injection e with e
      rw [List.map_append, List.nodup_append] at nd
      exact nd.2.2 x.name (List.mem_map.mpr ⟨x, hx, rfl⟩) q.name (List.mem_map.mpr ⟨q, List.mem_cons_self, rfl⟩) e
    rw [List.map_cons]
    refine (dcL_cons (S1 := ⟨[a, b, c, .dat (.loc kt), .dat (.str q.name)], ce, none⟩) (κ := .inr q.name) (r := pD q) trivial rfl rfl (var_dat rfl) rfl (dget_eq (x := .str q.name) (d := .dk (nmK ps) (ps.map pD)) (r := pD q) (var_dat rfl) (var_dat rfl) rfl (by rw [deref_loc]; show (ce[kt]?).map _ = _; rw [hkt]; rfl) (congrArg some (nm_get nd0 hin))) rfl).trans ?_
    have e1 : pk (nmK done) (.inr q.name) = nmK (done ++ [q]) := by
      unfold RS.pk; rw [if_neg hno]; unfold nmK; rw [List.map_append]; rfl
    have e2 : pv (nmK done) (done.map pD) (.inr q.name) (pD q) = (done ++ [q]).map pD := by
      unfold RS.pv; rw [if_neg hno, List.map_append]; rfl
    show dcL _ _ _ _ _ _ _ (pk (nmK done) (.inr q.name), pv (nmK done) (done.map pD) (.inr q.name) (pD q)) ⟨[a, b, c, .dat (.loc kt), .un], ce, none⟩ = _
    rw [e1, e2]
    exact ih
/-! ### fields -/
theorem f_a : pk ([] : List Str) "_crosses" = (["_crosses"] : List Str) := by decide +kernel
theorem f_b : pk (["_crosses"] : List Str) "_table" = (["_crosses", "_table"] : List Str) := by decide +kernel
theorem f_c : pk (["_crosses", "_table"] : List Str) "products" = (["_crosses", "_table", "products"] : List Str) := by decide +kernel
theorem v_a {d : RD} : pv ([] : List Str) [] "_crosses" d = [d] := by unfold RS.pv; rw [if_neg (by decide +kernel)]; rfl
theorem v_b {c d : RD} : pv (["_crosses"] : List Str) [c] "_table" d = [c, d] := by unfold RS.pv; rw [if_neg (by decide +kernel)]; rfl
theorem v_c {b c d : RD} : pv (["_crosses", "_table"] : List Str) [b, c] "products" d = [b, c, d] := by unfold RS.pv; rw [if_neg (by decide +kernel)]; rfl
theorem l_a {d : RD} {fs : List Str} {ds : List RD} : fldD ("_crosses" :: fs) (d :: ds) "_crosses" = some d := by
  unfold fldD; rw [List.zip_cons_cons, List.lookup_cons]; simp
theorem l_b {c d : RD} {fs : List Str} {ds : List RD} : fldD ("_crosses" :: "_table" :: fs) (c :: d :: ds) "_table" = some d := by
  have e : (("_table" : Str) == ("_crosses" : Str)) = false := by decide +kernel
  unfold fldD; rw [List.zip_cons_cons, List.lookup_cons, e, List.zip_cons_cons, List.lookup_cons]; simp
def obj3 (kc : Nat) (qs : List Pr) : Cell := .obj "Market" ["_crosses", "_table", "products"] [.loc kc, .fk (nmK qs) (qs.map pD), .lst (qs.map pD)]
theorem ev_dom {n : Nat} {rows : List (List Rat)} (h1 : Sh n n rows) (h2 : n ≤ 10) (h3 : BM 300 rows) : f_is_dominant E [sM rows] ce = .ok (.bl (domB n rows)) ce := by
  refine brg_ret (es := [RP.eM rows]) (d := .bl (domB n rows)) (R_is_dominant_mk h1 h2 h3) (fun r h => ?_) (by unfold toRs; rw [toR_sM]; rfl) rfl
  obtain ⟨n', rows', e, ⟨h, _, _⟩, rfl⟩ := h
  simp only [List.cons.injEq, and_true] at e
  cases eM_inj e
  rw [← h1.len, ← h.len]

end RSk32

set_option Elab.async false
set_option linter.all false
set_option maxRecDepth 100000
set_option maxHeartbeats 4000000
namespace RSk32
open PySem PySem.Spec PyProof.Rows L2 RS RPk32
local macro_rules | `(tactic| walk_at "fn") => `(tactic| fail)
local macro_rules | `(tactic| walk_at "ev2") => `(tactic| fail)
local macro_rules | `(tactic| walk_at "ev1") => `(tactic| first
  | (with_reducible exact args_nil) | (with_reducible apply args_cons) | (with_reducible exact toDs_nil) | (with_reducible apply toDs_d)
  | (with_reducible exact c_ok) | ((with_reducible apply var_dat); rfl) | ((with_reducible apply var_own); rfl) | ((with_reducible apply var_exc); rfl)
  | (with_reducible apply op2) | (with_reducible apply tup_ok) | (with_reducible apply lst_ok) | (with_reducible apply call_ok) | (with_reducible apply cb_ok) | (with_reducible apply sl_ok)
  | (with_reducible exact noPart_ok) | (with_reducible apply part_ok) | (with_reducible exact derefs_nil) | (with_reducible apply derefs_cons)
  | ((with_reducible show deref _ (.d _) = some _); rfl) | (with_reducible apply fMul_ok) | (with_reducible apply fDiv_ok) | (with_reducible apply fMod_ok) | (with_reducible apply fAddL)
  | ((with_reducible show fAdd _ _ = some _); rfl) | ((with_reducible show fSub _ _ = some _); rfl) | ((with_reducible show fLt _ _ = some _); rfl) | ((with_reducible show fLe _ _ = some _); rfl) | ((with_reducible show fGt _ _ = some _); rfl) | ((with_reducible show fGe _ _ = some _); rfl)
  | ((with_reducible show fIx _ _ = some _); rfl) | ((with_reducible show fAbs _ = some _); rfl) | ((with_reducible show fInt _ = some _); rfl) | ((with_reducible show fLen _ = some _); rfl) | ((with_reducible show fList _ = some _); rfl) | ((with_reducible show fIs _ _ = some _); rfl) | ((with_reducible show fIsNot _ _ = some _); rfl) | ((with_reducible show fIsi _ = some _); rfl)
  | ((with_reducible show List.length _ ≤ 100000); exact Nat.le_of_ble_eq_true rfl) | ((with_reducible show List.length _ = _); rfl)
  | (with_reducible apply test_bl) | (with_reducible apply not_ok) | walk_at "fn" | walk_at "ev2")
local macro_rules | `(tactic| walk_at "ev") => `(tactic| repeat' walk_at "ev1")
local macro_rules | `(tactic| walk_at "norm") => `(tactic| simp only [List.set_cons_zero, List.set_cons_succ, startL, List.map_cons, List.map_nil, List.length_cons, List.length_nil, List.replicate_succ, List.replicate_zero, List.cons_append, List.nil_append, Nat.reduceAdd, Nat.reduceSub])
open MM (Pr Rv pr2 strB dueP dueR total isIn cg slope POk ROk)
open RP (Bt Bd Sq BL BM Sh domB)
variable {E : En} {ce : List Cell}
theorem setF_ex {c f : Str} {e o : ME} {x : Exn} {S S1 : Sg} (h : e S = .ex x S1) : mSetF c f e o S = .ex x S1 := by unfold mSetF; rw [h]; rfl
theorem fz_dc {i : MI} {g : MG} {t : MT} {ek ev : ME} {vs : List Nat} {S : Sg} {its : Its} {ks : List Key} {ds : List RD} (hi : i S = .ok its S) (hl : its.ds.length ≤ 100000) (h : dcL its.ok g t ek ev vs its.ds ([], []) S = .ok (ks, ds) S) : mFz (nDc i g t ek ev vs) S = .ok (.d (.fk ks ds)) S := by
  unfold mFz nDc
  rw [hi, Rr.bind_ok, if_pos hl, h, Rr.bind_ok, Rr.bind_ok]
theorem fSorted_nm {ps : List Pr} {ds : List RD} (h : ps.length < 64) : fSorted [.dk (nmK ps) ds] = some (.lst ((sortT (ps.map (·.name))).map .str)) := by
  show (match txts (nmK ps) with
    | some xs => if xs.length < 64 then some (RD.lst ((sortT xs).map .str)) else none
    | none => none) = _
  rw [txts_nm]
  simp only
  rw [if_pos (by rw [List.length_map]; exact h)]
theorem at3_0 {o a b : Cell} : (ce ++ [o, a, b])[ce.length]? = some o := by simp
theorem at3_1 {o a b : Cell} : (ce ++ [o, a, b])[ce.length + 1]? = some a := by rw [List.getElem?_append_right (by omega)]; simp
theorem at3_2 {o a b : Cell} : (ce ++ [o, a, b])[ce.length + 2]? = some b := by rw [List.getElem?_append_right (by omega)]; simp
theorem at2_1 {o a : Cell} : (ce ++ [o, a])[ce.length + 1]? = some a := by rw [List.getElem?_append_right (by omega)]; simp
theorem set3 {o a b o' : Cell} : (ce ++ [o, a, b]).set ce.length o' = ce ++ [o', a, b] := by simp
theorem appL {x : List Cell} {c : Cell} {k : Nat} (h : ce[k]? = some c) : (ce ++ x)[k]? = some c := by
  rw [List.getElem?_append_left (List.getElem?_eq_some_iff.mp h).1]; exact h
theorem bt_neg {B : Nat} {q : Rat} (h : Bt B q) : Bt B (-q) := ⟨by rw [Rat.neg_num]; exact h.1.neg, by rw [Rat.neg_den]; exact h.2⟩
theorem bt_cg {rs : List Rv} (hr : ∀ r ∈ rs, RvB r) (a b : Str) : Bt 20 (cg rs a b) := by
  unfold cg
  cases e : rs.find? fun r => decide (pr2 r.one r.other = pr2 a b) with
  | none => exact RP.bt_zero (by decide)
  | some r => exact (hr r (List.mem_of_find?_eq_some e)).c
theorem ev_init {kp kr : Nat} {ps : List Pr} {rs : List Rv} (hkp : ce[kp]? = some (.lst (ps.map pD))) (hkr : ce[kr]? = some (.lst (rs.map rD))) (h1 : 1 ≤ ps.length) (h6 : ps.length ≤ 6) (hb : ∀ p ∈ ps, PrB p) (hr : ∀ r ∈ rs, RvB r) (hl : rs.length ≤ 60) : ∃ x, f_Market_init E [.loc ce.length, .loc kp, .loc kr] (ce ++ [.obj "Market" [] []]) = resE (dueA ps rs) .non (ce ++ x) := by
  let o0 : Cell := .obj "Market" [] []
  obtain ⟨c1, p1, p2⟩ := ev_by_name (E := E) (ce := ce ++ [o0]) (appL hkp) h1 h6 hb
  have l0 : (ce ++ [o0]).length = ce.length + 1 := by simp
  rw [l0, List.append_assoc] at p1
  have p1 : f_products_by_name E [.loc kp] (ce ++ [o0]) = resE (dueP isNm ps []) (.loc (ce.length + 1)) (ce ++ [o0, c1]) := p1
  let S0 : Sg := ⟨[.dat (.loc ce.length), .dat (.loc kp), .dat (.loc kr), .un, .un], ce ++ [o0], none⟩
  unfold dueA
  cases hd : dueP isNm ps [] with
  | some er =>
    rw [hd] at p1
    exact ⟨[o0, c1], fun_ex (n := 5) (m := m_Market_init E) (ds := [.loc ce.length, .loc kp, .loc kr]) (ce := ce ++ [o0]) (seq_ex (asg_ex (call_ex (S1 := S0) (S2 := S0) (args_cons (var_dat rfl) args_nil) (toDs_d toDs_nil) rfl p1)))⟩
  | none =>
    rw [hd] at p1
    have hc1 := p2 hd
    subst hc1
    let c1 : Cell := .dk (nmK ps) (ps.map pD)
    let S1 : Sg := ⟨[.dat (.loc ce.length), .dat (.loc kp), .dat (.loc kr), .dat (.loc (ce.length + 1)), .un], ce ++ [o0, c1], none⟩
    have a1 : mAsg (mCall 1 (f_products_by_name E) [] (aCons (mVar 1) aNil)) (gSet 3) S0 = .nx S1 := asg_set (call_ok (S1 := S0) (S2 := S0) (args_cons (var_dat rfl) args_nil) (toDs_d toDs_nil) rfl p1)
    obtain ⟨c2, q1, q2⟩ := ev_crosses (E := E) (ce := ce ++ [o0, c1]) (kt := ce.length + 1) (ps := ps) (appL hkr) at2_1 hr (by omega)
    have l1 : (ce ++ [o0, c1]).length = ce.length + 2 := by simp
    rw [l1, List.append_assoc] at q1
    have q1 : f_crosses_by_pair E [.loc kr, .loc (ce.length + 1)] (ce ++ [o0, c1]) = resE (dueR (ps.map (·.name)) rs []) (.loc (ce.length + 2)) (ce ++ [o0, c1, c2]) := q1
    show ∃ x, _ = resE (match dueR (ps.map (·.name)) rs [] with
      | some e => some e
      | none => if ∀ p ∈ ps, total p.name rs < p.own then none else some "market") .non (ce ++ x)
    cases hd2 : dueR (ps.map (·.name)) rs [] with
    | some er =>
      rw [hd2] at q1
      exact ⟨[o0, c1, c2], fun_ex (n := 5) (m := m_Market_init E) (ds := [.loc ce.length, .loc kp, .loc kr]) (ce := ce ++ [o0]) ((seq_nx a1).trans (seq_ex (setF_ex (call_ex (S1 := S1) (S2 := S1) (args_cons (var_dat rfl) (args_cons (var_dat rfl) args_nil)) (toDs_d (toDs_d toDs_nil)) rfl q1))))⟩
    | none =>
      rw [hd2] at q1
      have hc2 := q2 hd2
      subst hc2
      let c2 : Cell := .dt (rvK rs) (rvD rs)
      obtain ⟨pok, _⟩ := MM.dueP_none hd
      obtain ⟨rok, _⟩ := MM.dueR_none hd2
      let Z : List Str → List RD → Sg := fun fs ds => ⟨[.dat (.loc ce.length), .dat (.loc kp), .dat (.loc kr), .dat (.loc (ce.length + 1)), .un], ce ++ [.obj "Market" fs ds, c1, c2], none⟩
      have dS : ∀ fs ds, deref (Z fs ds) (.d (.loc ce.length)) = some (.obj "Market" fs ds) := fun fs ds => by rw [deref_loc]; show ((ce ++ [_, c1, c2])[ce.length]?).map _ = _; rw [at3_0]; rfl
      have a2 : mSetF "Market" "_crosses" (mCall 2 (f_crosses_by_pair E) [] (aCons (mVar 2) (aCons (mVar 3) aNil))) (mVar 0) S1 = .nx (Z ["_crosses"] [.loc (ce.length + 2)]) := by
        refine (setF_ok (S1 := Z [] []) (S2 := Z [] []) (L := ce.length) (fs := []) (ds := []) (call_ok (S1 := S1) (S2 := S1) (args_cons (var_dat rfl) (args_cons (var_dat rfl) args_nil)) (toDs_d (toDs_d toDs_nil)) rfl q1) (var_dat rfl) at3_0 List.nodup_nil (by decide)).trans ?_
        rw [f_a, v_a]
        show Out.nx (⟨_, (ce ++ [_, c1, c2]).set ce.length _, none⟩ : Sg) = _
        rw [set3]
      obtain ⟨qs, hp, hnm⟩ := perm_map (f := fun p : Pr => p.name) (sortT_perm (ps.map (·.name))) ps rfl
      have hlen : qs.length = ps.length := hp.length_eq
      have ndq : (qs.map (·.name)).Nodup := (hp.map (·.name)).nodup_iff.mpr pok.nd
      have hin : ∀ q, q ∈ qs ↔ q ∈ ps := fun q => hp.mem_iff
      have a3 : mSetF "Market" "_table" (mFz (nDc (mIter (mCB (liftL fSorted) (aCons (mVar 3) aNil))) (gSet 4) (fun S => .ok true S) (mVar 4) (mOp dGet (mVar 3) (mVar 4)) [4])) (mVar 0) (Z ["_crosses"] [.loc (ce.length + 2)]) = .nx (Z ["_crosses", "_table"] [.loc (ce.length + 2), .fk (nmK qs) (qs.map pD)]) := by
        have hit : mIter (mCB (liftL fSorted) (aCons (mVar 3) aNil)) (Z ["_crosses"] [.loc (ce.length + 2)]) = .ok ⟨qs.map fun q => .str q.name, fun _ => True⟩ (Z ["_crosses"] [.loc (ce.length + 2)]) := by
          refine iter_lst (cb_ok (ds := [.dk (nmK ps) (ps.map pD)]) (args_cons (var_dat rfl) args_nil) (derefs_cons (by rw [deref_loc]; show ((ce ++ [_, c1, c2])[ce.length + 1]?).map _ = _; rw [at3_1]; rfl) derefs_nil) ?_)
          rw [fSorted_nm (by omega), ← hnm, List.map_map]; rfl
        have htab := tab_loop (ce := ce ++ [.obj "Market" ["_crosses"] [.loc (ce.length + 2)], c1, c2]) (kt := ce.length + 1) (a := .dat (.loc ce.length)) (b := .dat (.loc kp)) (c := .dat (.loc kr)) pok.nd at3_1 qs [] (fun q hq => (hin q).mp hq) ndq
        refine (setF_ok (S1 := Z ["_crosses"] [.loc (ce.length + 2)]) (S2 := Z ["_crosses"] [.loc (ce.length + 2)]) (L := ce.length) (fs := ["_crosses"]) (ds := [.loc (ce.length + 2)]) (fz_dc hit (by show (qs.map _).length ≤ _; rw [List.length_map]; omega) htab) (var_dat rfl) at3_0 (by decide +kernel) (by decide)).trans ?_
        rw [f_b, v_b]
        show Out.nx (⟨_, (ce ++ [_, c1, c2]).set ce.length _, none⟩ : Sg) = _
        rw [set3]; rfl
      let fs3 : List Str := ["_crosses", "_table", "products"]
      let ds3 : List RD := [.loc (ce.length + 2), .fk (nmK qs) (qs.map pD), .lst (qs.map pD)]
      have a4 : mSetF "Market" "products" (mListVals (mFld "Market" "_table" (mVar 0))) (mVar 0) (Z ["_crosses", "_table"] [.loc (ce.length + 2), .fk (nmK qs) (qs.map pD)]) = .nx (Z fs3 ds3) := by
        let S2 := Z ["_crosses", "_table"] [.loc (ce.length + 2), .fk (nmK qs) (qs.map pD)]
        refine (setF_ok (S1 := S2) (S2 := S2) (L := ce.length) (fs := ["_crosses", "_table"]) (ds := [.loc (ce.length + 2), .fk (nmK qs) (qs.map pD)]) (lvals_fk (ks := nmK qs) (fld_ok (var_dat rfl) (dS _ _) l_b) rfl) (var_dat rfl) at3_0 (by decide +kernel) (by decide)).trans ?_
        rw [f_c, v_c]
        show Out.nx (⟨_, (ce ++ [_, c1, c2]).set ce.length _, none⟩ : Sg) = _
        rw [set3]
      let ce3 : List Cell := ce ++ [.obj "Market" fs3 ds3, c1, c2]
      have M : MkC ce3 ce.length qs rs := ⟨fs3, ds3, ce.length + 2, at3_0, by decide +kernel, by decide +kernel, l_a, at3_2, l_b⟩
      have slq : ∀ q ∈ qs, f_Market_slopes E [.loc ce.length, .str q.name] ce3 = .ok (sL (slope qs rs q)) ce3 := fun q hq => ev_slopes M ndq hq ((hb q ((hin q).mp hq)).b2.mono (by decide)) (by omega)
      have hdom : f_is_dominant E [sM (qs.map (slope qs rs))] ce3 = .ok (.bl (domB qs.length (qs.map (slope qs rs)))) ce3 := by
        refine ev_dom ⟨List.length_map _, fun r hr' => ?_⟩ (by omega) (fun r hr' q hq => ?_)
        · obtain ⟨q, _, rfl⟩ := List.mem_map.mp hr'; unfold slope; exact List.length_map _
        · obtain ⟨p, hp', rfl⟩ := List.mem_map.mp hr'
          unfold slope at hq
          obtain ⟨o, ho, rfl⟩ := List.mem_map.mp hq
          split
          · exact (bt_neg (hb p ((hin p).mp hp')).b2).mono (by decide)
          · exact (bt_cg hr _ _).mono (by decide)
      have hok : POk qs := ⟨ndq, fun q hq => pok.own q ((hin q).mp hq)⟩
      have hrok : ROk (qs.map (·.name)) rs := by
        have hm : ∀ n, n ∈ ps.map (·.name) → n ∈ qs.map (·.name) := fun n hn => (hp.map (·.name)).mem_iff.mpr hn
        exact ⟨fun r h => hm _ (rok.a r h), fun r h => hm _ (rok.b r h), rok.ne, rok.pos, rok.nd⟩
      rw [MM.dom_is hok hrok] at hdom
      have ed : decide (∀ q ∈ qs, total q.name rs < q.own) = decide (∀ p ∈ ps, total p.name rs < p.own) := decide_eq_decide.mpr ⟨fun h p hp' => h p ((hin p).mpr hp'), fun h p hp' => h p ((hin p).mp hp')⟩
      rw [ed] at hdom
      have t5 : mTest (mCall 1 (f_is_dominant E) [] (aCons (mFrz (nLc (mKeys (mFld "Market" "_table" (mVar 0))) (gSet 4) (fun S => .ok true S) (mMeth "Market" "_slopes" 2 (f_Market_slopes E) (mVar 0) (aCons (mVar 4) aNil)) [4])) aNil)) (Z fs3 ds3) = .ok (decide (∀ p ∈ ps, total p.name rs < p.own)) (Z fs3 ds3) := by
        refine test_bl (call_ok (S1 := Z fs3 ds3) (S2 := Z fs3 ds3) (args_cons (frz_ok (c := .lst (qs.map fun q => sL (slope qs rs q))) (nlc_ok (S1 := Z fs3 ds3) (keys_ok (ks := nmK qs) (fld_ok (var_dat rfl) (dS _ _) l_b) rfl) (by show (List.map keyR _).length ≤ _; unfold nmK; rw [List.length_map, List.length_map]; omega) ?_) rfl) args_nil) (toDs_d toDs_nil) rfl (by
          show f_is_dominant E [.lst (qs.map fun q => sL (slope qs rs q))] ce3 = _
          rw [← hdom]; unfold sM; rw [List.map_map]; rfl))
        have := lcL_map (ok := fun _ : Sg => True) (g := gSet 4) (t := fun S => .ok true S) (e := mMeth "Market" "_slopes" 2 (f_Market_slopes E) (mVar 0) (aCons (mVar 4) aNil)) (vs := [4]) (S := Z fs3 ds3) (fun o : Pr => .str o.name) (fun q => sL (slope qs rs q)) trivial qs [] fun q hq => ?_
        · rw [List.nil_append] at this
          show lcL _ _ _ _ _ (List.map keyR (nmK qs)) [] _ = _
          have e : List.map keyR (nmK qs) = qs.map fun o => RD.str o.name := by unfold nmK; rw [List.map_map]; rfl
          rw [e]; exact this
        · let Sq : Sg := ⟨[.dat (.loc ce.length), .dat (.loc kp), .dat (.loc kr), .dat (.loc (ce.length + 1)), .dat (.str q.name)], ce3, none⟩
          have dq : deref Sq (.d (.loc ce.length)) = some (.obj "Market" fs3 ds3) := dS _ _
          exact ⟨Sq, _, _, _, _, rfl, rfl, meth_ok (S1 := Sq) (S2 := Sq) (S3 := Sq) (var_dat rfl) dq (by decide +kernel) (args_cons (var_dat rfl) args_nil) (toDs_d toDs_nil) rfl (slq q hq), rfl, rfl⟩
      refine ⟨[.obj "Market" fs3 ds3, c1, c2], ?_⟩
      show f_Market_init E [.loc ce.length, .loc kp, .loc kr] (ce ++ [o0]) = resE (if ∀ p ∈ ps, total p.name rs < p.own then none else some "market") .non ce3
      have pre : ∀ o, mIfS (mNot (mTest (mCall 1 (f_is_dominant E) [] (aCons (mFrz (nLc (mKeys (mFld "Market" "_table" (mVar 0))) (gSet 4) (fun S => .ok true S) (mMeth "Market" "_slopes" 2 (f_Market_slopes E) (mVar 0) (aCons (mVar 4) aNil)) [4])) aNil)))) (mRaise "InvalidMarket") mNext (Z fs3 ds3) = o → m_Market_init E ⟨startL 5 [.loc ce.length, .loc kp, .loc kr], ce ++ [o0], none⟩ = o := fun o h => (seq_nx a1).trans ((seq_nx a2).trans ((seq_nx a3).trans ((seq_nx a4).trans h)))
      by_cases ht : ∀ p ∈ ps, total p.name rs < p.own
      · rw [decide_eq_true ht] at t5
        rw [if_pos ht]
        exact fun_nx (S := Z fs3 ds3) (pre _ ((if_f (not_ok t5)).trans rfl))
      · rw [decide_eq_false ht] at t5
        rw [if_neg ht]
        exact fun_ex (S := Z fs3 ds3) (pre _ ((if_t (not_ok t5)).trans rfl))
theorem dueA_is {ps : List Pr} {rs : List Rv} {e : String} (h : dueA ps rs = some e) : e = "market" ∨ e = "duplicate" ∨ e = "unknown" := by
  unfold dueA at h
  split at h
  · rename_i er hd; cases h
    rcases dueP_is hd with h | h
    · exact .inl h
    · exact .inr (.inl h)
  · split at h
    · rename_i er hd; cases h; exact dueR_is hd
    · split at h
      · cases h
      · cases h; exact .inl rfl
theorem ev_law_error {kp kr : Nat} {ps : List Pr} {rs : List Rv} (hkp : ce[kp]? = some (.lst (ps.map pD))) (hkr : ce[kr]? = some (.lst (rs.map rD))) (h1 : 1 ≤ ps.length) (h6 : ps.length ≤ 6) (hb : ∀ p ∈ ps, PrB p) (hr : ∀ r ∈ rs, RvB r) (hl : rs.length ≤ 60) : ∃ x, f_law_error E [.loc kp, .loc kr] ce = .ok (erS (dueA ps rs)) (ce ++ x) := by
  obtain ⟨x, hx⟩ := ev_init (E := E) hkp hkr h1 h6 hb hr hl
  refine ⟨x, ?_⟩
  let S0 : Sg := ⟨[.dat (.loc kp), .dat (.loc kr)], ce, none⟩
  let S1 : Sg := ⟨[.dat (.loc kp), .dat (.loc kr)], ce ++ x, none⟩
  cases hd : dueA ps rs with
  | none =>
    rw [hd] at hx
    have m : mDrop (mMake "Market" 3 (f_Market_init E) (aCons (mVar 0) (aCons (mVar 1) aNil))) S0 = .nx S1 := drop_ok (make_ok (S1 := S0) (S2 := S0) (args_cons (var_dat rfl) (args_cons (var_dat rfl) args_nil)) (toDs_d (toDs_d toDs_nil)) rfl hx)
    have m2 : mTryM [(em_InvalidMarket, (mRet (mC (.str "market")))), (em_DuplicateName, (mRet (mC (.str "duplicate")))), (em_UnknownName, (mRet (mC (.str "unknown"))))] (mDrop (mMake "Market" 3 (f_Market_init E) (aCons (mVar 0) (aCons (mVar 1) aNil)))) S0 = .nx S1 := by unfold mTryM; rw [m]
    exact fun_rt (n := 2) (m := m_law_error E) (ds := [.loc kp, .loc kr]) (ce := ce) (S := S1) ((seq_nx m2).trans (ret_d c_ok))
  | some e =>
    rw [hd] at hx
    have m : mDrop (mMake "Market" 3 (f_Market_init E) (aCons (mVar 0) (aCons (mVar 1) aNil))) S0 = .ex ⟨erC e, none⟩ S1 := drop_ex (make_ex (S1 := S0) (S2 := S0) (args_cons (var_dat rfl) (args_cons (var_dat rfl) args_nil)) (toDs_d (toDs_d toDs_nil)) rfl hx)
    have m2 : mTryM [(em_InvalidMarket, (mRet (mC (.str "market")))), (em_DuplicateName, (mRet (mC (.str "duplicate")))), (em_UnknownName, (mRet (mC (.str "unknown"))))] (mDrop (mMake "Market" 3 (f_Market_init E) (aCons (mVar 0) (aCons (mVar 1) aNil)))) S0 = .rt (.str e) S1 := by
      unfold mTryM
      rw [m]
      simp only
      rcases dueA_is hd with rfl | rfl | rfl
      · have e1 : em_InvalidMarket (erC "market") = some true := by decide +kernel
        unfold handM; simp only [e1]; rfl
      · have e1 : em_InvalidMarket (erC "duplicate") = some false := by decide +kernel
        have e2 : em_DuplicateName (erC "duplicate") = some true := by decide +kernel
        unfold handM; simp only [e1]; unfold handM; simp only [e2]; rfl
      · have e1 : em_InvalidMarket (erC "unknown") = some false := by decide +kernel
        have e2 : em_DuplicateName (erC "unknown") = some false := by decide +kernel
        have e3 : em_UnknownName (erC "unknown") = some true := by decide +kernel
        unfold handM; simp only [e1]; unfold handM; simp only [e2]; unfold handM; simp only [e3]; rfl
    exact fun_rt (n := 2) (m := m_law_error E) (ds := [.loc kp, .loc kr]) (ce := ce) (S := S1) (seq_rt m2)

end RSk32

set_option Elab.async false
set_option linter.all false
set_option maxRecDepth 100000
set_option maxHeartbeats 4000000
namespace RSk32
open PySem PySem.Spec PyProof.Rows L2 RS RPk32
local macro_rules | `(tactic| walk_at "fn") => `(tactic| fail)
local macro_rules | `(tactic| walk_at "ev2") => `(tactic| fail)
local macro_rules | `(tactic| walk_at "ev1") => `(tactic| first
  | (with_reducible exact args_nil) | (with_reducible apply args_cons) | (with_reducible exact toDs_nil) | (with_reducible apply toDs_d)
  | (with_reducible exact c_ok) | ((with_reducible apply var_dat); rfl) | ((with_reducible apply var_own); rfl) | ((with_reducible apply var_exc); rfl)
  | (with_reducible apply op2) | (with_reducible apply tup_ok) | (with_reducible apply lst_ok) | (with_reducible apply call_ok) | (with_reducible apply cb_ok) | (with_reducible apply sl_ok)
  | (with_reducible exact noPart_ok) | (with_reducible apply part_ok) | (with_reducible exact derefs_nil) | (with_reducible apply derefs_cons)
  | ((with_reducible show deref _ (.d _) = some _); rfl) | (with_reducible apply fMul_ok) | (with_reducible apply fDiv_ok) | (with_reducible apply fMod_ok) | (with_reducible apply fAddL)
  | ((with_reducible show fAdd _ _ = some _); rfl) | ((with_reducible show fSub _ _ = some _); rfl) | ((with_reducible show fLt _ _ = some _); rfl) | ((with_reducible show fLe _ _ = some _); rfl) | ((with_reducible show fGt _ _ = some _); rfl) | ((with_reducible show fGe _ _ = some _); rfl)
  | ((with_reducible show fIx _ _ = some _); rfl) | ((with_reducible show fAbs _ = some _); rfl) | ((with_reducible show fInt _ = some _); rfl) | ((with_reducible show fLen _ = some _); rfl) | ((with_reducible show fList _ = some _); rfl) | ((with_reducible show fIs _ _ = some _); rfl) | ((with_reducible show fIsNot _ _ = some _); rfl) | ((with_reducible show fIsi _ = some _); rfl)
  | ((with_reducible show List.length _ ≤ 100000); exact Nat.le_of_ble_eq_true rfl) | ((with_reducible show List.length _ = _); rfl)
  | (with_reducible apply test_bl) | (with_reducible apply not_ok) | walk_at "fn" | walk_at "ev2")
local macro_rules | `(tactic| walk_at "ev") => `(tactic| repeat' walk_at "ev1")
local macro_rules | `(tactic| walk_at "norm") => `(tactic| simp only [List.set_cons_zero, List.set_cons_succ, startL, List.map_cons, List.map_nil, List.length_cons, List.length_nil, List.replicate_succ, List.replicate_zero, List.cons_append, List.nil_append, Nat.reduceAdd, Nat.reduceSub])
open MM (Pr Rv pr2 strB dueP dueR total isIn cg slope POk ROk)
open RP (Bt Bd Sq BL BM Sh domB)
variable {E : En} {ce : List Cell}
theorem forL_invN {ok : Sg → Prop} {g : MG} {b : MS} (I : Nat → Sg → Prop) (hok : ∀ i S, I i S → ok S) : ∀ (ds : List RD) (i : Nat) (S : Sg), (∀ d ∈ ds, ∀ j S, j < i + ds.length → I j S → ∃ S1 S2, g d S = some S1 ∧ b S1 = .nx S2 ∧ I (j + 1) S2) → I i S → ∃ S', forL ok g b ds S = .nx S' ∧ I (i + ds.length) S'
  | [], i, S, _, h => ⟨S, forL_nil (hok i S h), h⟩
  | d :: ds, i, S, hs, h => by
    obtain ⟨S1, S2, h1, h2, h3⟩ := hs d List.mem_cons_self i S (by rw [List.length_cons]; omega) h
    obtain ⟨S', h4, h5⟩ := forL_invN I hok ds (i + 1) S2 (fun e he j S hj => hs e (List.mem_cons_of_mem _ he) j S (by rw [List.length_cons]; omega)) h3
    refine ⟨S', (forL_nx (hok i S h) h1 h2).trans h4, ?_⟩
    rw [List.length_cons]
    rw [show i + (ds.length + 1) = i + 1 + ds.length by omega]
    exact h5
/-! ### cells -/
def lawC (ns : List Int) (k : Nat) : Int := if h : k < ns.length then ns[k] else 11 * (k : Int) + 5
theorem ev_cell {ns : List Int} {k : Nat} {z : Int} (hz : z = (k : Int)) (hk : k ≤ 1000) : f_law_cell E [.scr ns, .int z] ce = .ok (.int (lawC ns k)) ce := by
  subst hz
  let S : Sg := ⟨[.dat (.scr ns), .dat (.int (k : Int))], ce, none⟩
  have t : mTest (mOp (lift2 fLt) (mVar 1) (mCB (liftL fLen) (aCons (mVar 0) aNil))) S = .ok (decide ((k : Int) < (ns.length : Int))) S := test_bl (op2 (var_dat rfl) (cb_ok (args_cons (var_dat rfl) args_nil) (derefs_cons rfl derefs_nil) rfl) rfl rfl rfl)
  unfold lawC
  by_cases h : k < ns.length
  · rw [decide_eq_true (by omega)] at t
    rw [dif_pos h]
    exact fun_rt (S := S) (seq_rt ((if_t t).trans (ret_d (cb_ok (args_cons (op2 (z := .int ns[k]) (var_dat rfl) (var_dat rfl) rfl rfl (by show (atI ns (k : Int)).map _ = _; rw [atI_nat (List.getElem?_eq_getElem h)]; rfl)) args_nil) (derefs_cons rfl derefs_nil) rfl))))
  · rw [decide_eq_false (by omega)] at t
    rw [dif_neg h]
    exact fun_rt (S := S) ((seq_nx (S1 := S) ((if_f t).trans rfl)).trans (ret_d (op2 (op2 c_ok (var_dat rfl) rfl rfl (fMul_ok (okMul_of (a := 10) (b := 10) (by decide) (by omega) (by decide)))) c_ok rfl rfl rfl)))
theorem mod_nat (x : Int) {m : Int} (h : 0 < m) : ∃ n : Nat, x % m = (n : Int) ∧ (n : Int) < m := ⟨(x % m).toNat, by have := Int.emod_nonneg x (show m ≠ 0 by omega); omega, by have := Int.emod_nonneg x (show m ≠ 0 by omega); have := Int.emod_lt_of_pos x h; omega⟩
def lastI : Nat → SV
  | 0 => .un
  | i + 1 => .dat (.int (i : Int))
theorem lastI_keep (n : Nat) : keepD (some (lastI n)) = lastI n := by cases n <;> rfl
/-! ### words -/
def letAt (x : Int) : Nat := letL.getD x.toNat 97
theorem let_ix {x : Int} (h0 : 0 ≤ x) (h : x < 26) : fIx (.str "abcdefghijklmnopqrstuvwxyz") (.int x) = some (sS [letAt x]) := by
  rw [let_str]
  obtain ⟨n, rfl⟩ : ∃ n : Nat, x = (n : Int) := ⟨x.toNat, by omega⟩
  have hn : n < letL.length := by show n < 26; omega
  have e : letAt (n : Int) = letL[n] := by unfold letAt; rw [Int.toNat_natCast, List.getD_eq_getElem?_getD, List.getElem?_eq_getElem hn]; rfl
  rw [e]
  exact fIx_S (by decide) hn
theorem let_mem (x : Int) : letAt x < 0x110000 := by
  unfold letAt
  rw [List.getD_eq_getElem?_getD]
  cases e : letL[x.toNat]? with
  | none => decide
  | some c =>
    have hm := List.mem_of_getElem? e
    have : ∀ c ∈ letL, c < 0x110000 := by decide +kernel
    exact this c hm
structure WordB (w : Str) : Prop where
  n : w.length ≤ 1000
  k : PyData.strOk w = true
theorem wordB_S {l : List Nat} (h1 : l.length ≤ 1000) (h2 : ∀ c ∈ l, c < 0x110000) : WordB (SX.S l) := by
  refine ⟨by rw [SX.S_len]; exact h1, ?_⟩
  show (l.toArray.all fun c => decide (c < 0x110000)) = true
  rw [Array.all_eq_true']
  intro c hc
  exact decide_eq_true (h2 c (by simpa using hc))
def base (c : Int) : Nat → List Nat
  | 0 => []
  | i + 1 => base c i ++ [letAt ((c / (12 + (i : Int)) + 5 * (i : Int)) % 26)]
theorem base_len (c : Int) : ∀ i, (base c i).length = i
  | 0 => rfl
  | i + 1 => by
    show (base c i ++ [_]).length = _
    rw [List.length_append, base_len c i]; rfl
theorem base_let (c : Int) : ∀ i, ∀ x ∈ base c i, x < 0x110000
  | 0, x, h => by cases h
  | i + 1, x, h => by
    rcases List.mem_append.mp h with h | h
    · exact base_let c i x h
    · rw [List.mem_singleton] at h; subst h; exact let_mem _
theorem ev_words (c : Int) : ∃ ws : List Str, ws.length = 6 ∧ (∀ w ∈ ws, WordB w) ∧ ∀ ce, f_law_words E [.int c] ce = .ok (.lst (ws.map .str)) ce := by
  obtain ⟨n, hn, hn12⟩ := mod_nat c (show (0 : Int) < 12 by decide)
  let b := base c n
  have hb : b.length = n := base_len c n
  obtain ⟨p, hp, hpl⟩ := mod_nat (c / 7) (show (0 : Int) < (b.length : Int) + 1 by omega)
  let st : Int := c / 100 % 26
  let word : Nat → Str := fun k => SX.S (b.take p ++ [letAt ((st + 4 * (k : Int)) % 26)] ++ b.drop p)
  let xs : List Str := (List.range 6).map word
  have hxs : ∀ w ∈ xs, WordB w := fun w hw => by
    obtain ⟨k, _, rfl⟩ := List.mem_map.mp hw
    refine wordB_S ?_ fun x hx => ?_
    · rw [List.length_append, List.length_append, List.length_take, List.length_drop]; simp only [List.length_cons, List.length_nil]; omega
    · rcases List.mem_append.mp hx with hx | hx
      · rcases List.mem_append.mp hx with hx | hx
        · exact base_let c n x (List.mem_of_mem_take hx)
        · rw [List.mem_singleton] at hx; subst hx; exact let_mem _
      · exact base_let c n x (List.mem_of_mem_drop hx)
  have hperm := sortT_perm xs
  refine ⟨sortT xs, by rw [hperm.length_eq]; show ((List.range 6).map word).length = 6; rw [List.length_map, List.length_range], fun w hw => hxs w (hperm.mem_iff.mp hw), fun ce => ?_⟩
  let T : SV → SV → SV → SV → SV → Sg := fun a b c' d e => ⟨[.dat (.int c), a, b, c', d, e], ce, none⟩
  let lets : SV := .dat (.str "abcdefghijklmnopqrstuvwxyz")
  let Z : Nat → Sg := fun i => T lets (.dat (sS (base c i))) (lastI i) .un .un
  have ci : ∀ (a b c' d e : SV), mCB (liftL fInt) (aCons (mVar 0) aNil) (T a b c' d e) = .ok (.d (.int c)) (T a b c' d e) := fun _ _ _ _ _ => cb_ok (args_cons (var_dat rfl) args_nil) (derefs_cons rfl derefs_nil) rfl
  refine fun_rt (S := T lets (.dat (sS b)) (lastI n) (.dat (.int (p : Int))) (.dat (.int st))) ((seq_nx (S1 := T lets .un .un .un .un) (asg_set c_ok)).trans ?_)
  refine (seq_nx (S1 := Z 0) (asg_set c_ok)).trans ?_
  refine (seq_nx (S1 := Z n) (for_ok (S1 := Z 0) (range1_ok (j := (n : Int)) (args_cons (ev_is (op2 (ci _ _ _ _ _) c_ok rfl rfl (fMod_ok (by decide))) (by rw [hn])) args_nil) (by omega)) ?_)).trans ?_
  · show forL _ _ _ ((List.range ((n : Int)).toNat).map _) _ = _
    rw [Int.toNat_natCast]
    refine forL_range (n := n) Z (fun _ _ => trivial) fun i hi => ⟨T lets (.dat (sS (base c i))) (.dat (.int (i : Int))) .un .un, rfl, ?_⟩
    refine (asg_set (d := sS (base c (i + 1))) (op2 (var_dat rfl) (op2 (z := sS [letAt ((c / (12 + (i : Int)) + 5 * (i : Int)) % 26)]) (var_dat rfl) (op2 (op2 (op2 (ci _ _ _ _ _) (op2 c_ok (var_dat rfl) rfl rfl rfl) rfl rfl (fDiv_ok (okDiv_of (b := 10) (by omega) (by omega) (by decide)))) (op2 c_ok (var_dat rfl) rfl rfl (fMul_ok (okMul_of (a := 10) (b := 10) (by decide) (by omega) (by decide)))) rfl rfl rfl) c_ok rfl rfl (fMod_ok (by decide))) rfl rfl (let_ix (by omega) (by omega))) rfl rfl ?_)).trans rfl
    rw [fAdd_S (by rw [base_len]; simp only [List.length_cons, List.length_nil]; omega)]; rfl
  refine (seq_nx (S1 := T lets (.dat (sS b)) (lastI n) (.dat (.int (p : Int))) .un) (asg_set (ev_is (op2 (op2 (ci _ _ _ _ _) c_ok rfl rfl (fDiv_ok (okDiv_of (b := 3) (by decide) (by decide) (by decide)))) (op2 (cb_ok (args_cons (var_dat rfl) args_nil) (derefs_cons rfl derefs_nil) (fLen_S (l := b) (by omega))) c_ok rfl rfl rfl) rfl rfl (fMod_ok (by omega))) (by rw [hp])))).trans ?_
  let S : Sg := T lets (.dat (sS b)) (lastI n) (.dat (.int (p : Int))) (.dat (.int st))
  refine (seq_nx (S1 := S) (asg_set (op2 (op2 (ci _ _ _ _ _) c_ok rfl rfl (fDiv_ok (okDiv_of (b := 7) (by decide) (by decide) (by decide)))) c_ok rfl rfl (fMod_ok (by decide))))).trans (ret_d ?_)
  refine cb_ok (ds := [.lst (xs.map .str)]) (args_cons (frz_ok (c := .lst ((List.range 6).map fun k => .str (word k))) (nlc_ok (S1 := S) (range1_ok (j := 6) (args_cons c_ok args_nil) (by decide)) (by show (List.map _ _).length ≤ _; rw [List.length_map, List.length_range]; decide) ?_) (by show some _ = some (RD.lst (((List.range 6).map word).map .str)); rw [List.map_map]; rfl)) args_nil) (derefs_cons rfl derefs_nil) ?_
  · have := lcL_map (ok := fun _ : Sg => True) (g := gSet 3) (t := fun S => .ok true S) (e := mOp (lift2 fAdd) (mOp (lift2 fAdd) (mSl (mVar 2) mNoPart (mPart (mVar 4))) (mOp (lift2 fIx) (mVar 1) (mOp (lift2 fMod) (mOp (lift2 fAdd) (mVar 5) (mOp (lift2 fMul) (mC (.int 4)) (mVar 3))) (mC (.int 26))))) (mSl (mVar 2) (mPart (mVar 4)) mNoPart)) (vs := [3]) (S := S) (fun k : Nat => .int (k : Int)) (fun k => .str (word k)) trivial (List.range 6) [] fun k hk => ?_
    · rw [List.nil_append] at this; exact this
    · have hk := List.mem_range.mp hk
      refine ⟨T lets (.dat (sS b)) (.dat (.int (k : Int))) (.dat (.int (p : Int))) (.dat (.int st)), _, _, _, _, rfl, rfl, op2 (op2 (sl_ok (var_dat rfl) noPart_ok (part_ok (var_dat rfl)) rfl (fSl_to (by omega) (by omega))) (op2 (z := sS [letAt ((st + 4 * (k : Int)) % 26)]) (var_dat rfl) (op2 (op2 (var_dat rfl) (op2 c_ok (var_dat rfl) rfl rfl (fMul_ok (okMul_of (a := 10) (b := 10) (by decide) (by omega) (by decide)))) rfl rfl rfl) c_ok rfl rfl (fMod_ok (by decide))) rfl rfl (let_ix (by omega) (by omega))) rfl rfl (fAdd_S (by rw [List.length_take]; simp only [List.length_cons, List.length_nil]; omega))) (sl_ok (var_dat rfl) (part_ok (var_dat rfl)) noPart_ok rfl (fSl_from (by omega))) rfl rfl (fAdd_S (by rw [List.length_append, List.length_take, List.length_drop]; simp only [List.length_cons, List.length_nil]; omega)), rfl, ?_⟩
      show T lets (.dat (sS b)) (keepD (some (lastI n))) (.dat (.int (p : Int))) (.dat (.int st)) = _
      rw [lastI_keep]
  · have hst : ∀ ys : List Str, RD.strs (ys.map .str) = some ys := fun ys => by
      induction ys with
      | nil => rfl
      | cons y r ih => rw [List.map_cons]; show (RD.strs (r.map .str)).map (y :: ·) = _; rw [ih]; rfl
    show (match RD.strs (xs.map .str) with
      | some xs => if xs.length < 64 then some (RD.lst ((sortT xs).map .str)) else none
      | none => none) = _
    rw [hst]
    simp only
    rw [if_pos (by show ((List.range 6).map word).length < 64; rw [List.length_map, List.length_range]; decide)]

end RSk32

set_option Elab.async false
set_option linter.all false
set_option maxRecDepth 100000
set_option maxHeartbeats 4000000
namespace RSk32
open PySem PySem.Spec PyProof.Rows L2 RS RPk32
local macro_rules | `(tactic| walk_at "fn") => `(tactic| fail)
local macro_rules | `(tactic| walk_at "ev2") => `(tactic| fail)
local macro_rules | `(tactic| walk_at "ev1") => `(tactic| first
  | (with_reducible exact args_nil) | (with_reducible apply args_cons) | (with_reducible exact toDs_nil) | (with_reducible apply toDs_d)
  | (with_reducible exact c_ok) | ((with_reducible apply var_dat); rfl) | ((with_reducible apply var_own); rfl) | ((with_reducible apply var_exc); rfl)
  | (with_reducible apply op2) | (with_reducible apply tup_ok) | (with_reducible apply lst_ok) | (with_reducible apply call_ok) | (with_reducible apply cb_ok) | (with_reducible apply sl_ok)
  | (with_reducible exact noPart_ok) | (with_reducible apply part_ok) | (with_reducible exact derefs_nil) | (with_reducible apply derefs_cons)
  | ((with_reducible show deref _ (.d _) = some _); rfl) | (with_reducible apply fMul_ok) | (with_reducible apply fDiv_ok) | (with_reducible apply fMod_ok) | (with_reducible apply fAddL)
  | ((with_reducible show fAdd _ _ = some _); rfl) | ((with_reducible show fSub _ _ = some _); rfl) | ((with_reducible show fLt _ _ = some _); rfl) | ((with_reducible show fLe _ _ = some _); rfl) | ((with_reducible show fGt _ _ = some _); rfl) | ((with_reducible show fGe _ _ = some _); rfl)
  | ((with_reducible show fIx _ _ = some _); rfl) | ((with_reducible show fAbs _ = some _); rfl) | ((with_reducible show fInt _ = some _); rfl) | ((with_reducible show fLen _ = some _); rfl) | ((with_reducible show fList _ = some _); rfl) | ((with_reducible show fIs _ _ = some _); rfl) | ((with_reducible show fIsNot _ _ = some _); rfl) | ((with_reducible show fIsi _ = some _); rfl)
  | ((with_reducible show List.length _ ≤ 100000); exact Nat.le_of_ble_eq_true rfl) | ((with_reducible show List.length _ = _); rfl)
  | (with_reducible apply test_bl) | (with_reducible apply not_ok) | walk_at "fn" | walk_at "ev2")
local macro_rules | `(tactic| walk_at "ev") => `(tactic| repeat' walk_at "ev1")
local macro_rules | `(tactic| walk_at "norm") => `(tactic| simp only [List.set_cons_zero, List.set_cons_succ, startL, List.map_cons, List.map_nil, List.length_cons, List.length_nil, List.replicate_succ, List.replicate_zero, List.cons_append, List.nil_append, Nat.reduceAdd, Nat.reduceSub])
open MM (Pr Rv pr2 strB dueP dueR total isIn cg slope POk ROk)
open RP (Bt Bd Sq BL BM Sh domB)
variable {E : En} {ce : List Cell}
theorem ev_names (ns : List Int) : ∃ nm : List Str, 1 ≤ nm.length ∧ nm.length ≤ 6 ∧ (∀ w ∈ nm, WordB w) ∧ ∀ ce, f_law_names E [.scr ns] ce = .ok (.lst (nm.map .str)) ce := by
  obtain ⟨ws, h6, hw, he⟩ := ev_words (E := E) (lawC ns 30)
  obtain ⟨n, hn, hn6⟩ := mod_nat (lawC ns 0) (show (0 : Int) < 6 by decide)
  refine ⟨ws.take (1 + n), by rw [List.length_take]; omega, by rw [List.length_take]; omega, fun w hwt => hw w (List.mem_of_mem_take hwt), fun ce => ?_⟩
  let S : Sg := ⟨[.dat (.scr ns)], ce, none⟩
  refine fun_rt (S := S) (ret_d (sl_ok (S1 := S) (S2 := S) (S3 := S) (x := .lst (ws.map .str)) (l := none) (u := some ((1 + n : Nat) : Int)) (call_ok (args_cons (call_ok (args_cons (var_dat rfl) (args_cons c_ok args_nil)) (toDs_d (toDs_d toDs_nil)) rfl (ev_cell (k := 30) rfl (by decide))) args_nil) (toDs_d toDs_nil) rfl (he ce)) noPart_ok (part_ok (ev_is (op2 c_ok (op2 (call_ok (args_cons (var_dat rfl) (args_cons c_ok args_nil)) (toDs_d (toDs_d toDs_nil)) rfl (ev_cell (k := 0) rfl (by decide))) c_ok rfl rfl (fMod_ok (by decide))) rfl rfl rfl) (by rw [hn]; congr 1))) rfl ?_))
  show some (RD.lst (cutD (ws.map .str) none (some ((1 + n : Nat) : Int)))) = _
  rw [cut_to (by rw [List.length_map]; omega), List.map_take]
theorem ev_owners (ns : List Int) : ∃ os : List Str, os.length = 4 ∧ (∀ w ∈ os, WordB w) ∧ ∀ ce, f_law_owners E [.scr ns] ce = .ok (.lst (os.map .str)) ce := by
  obtain ⟨ws, h6, hw, he⟩ := ev_words (E := E) (lawC ns 31)
  refine ⟨ws.take 4, by rw [List.length_take]; omega, fun w hwt => hw w (List.mem_of_mem_take hwt), fun ce => ?_⟩
  let S : Sg := ⟨[.dat (.scr ns)], ce, none⟩
  refine fun_rt (S := S) (ret_d (sl_ok (S1 := S) (S2 := S) (S3 := S) (x := .lst (ws.map .str)) (l := none) (u := some ((4 : Nat) : Int)) (call_ok (args_cons (call_ok (args_cons (var_dat rfl) (args_cons c_ok args_nil)) (toDs_d (toDs_d toDs_nil)) rfl (ev_cell (k := 31) rfl (by decide))) args_nil) (toDs_d toDs_nil) rfl (he ce)) noPart_ok (part_ok c_ok) rfl ?_))
  show some (RD.lst (cutD (ws.map .str) none (some ((4 : Nat) : Int)))) = _
  rw [cut_to (by rw [List.length_map]; omega), List.map_take]
theorem ratio_ok {e1 e2 : ME} {S : Sg} {n z : Int} {d : Nat} (h1 : e1 S = .ok (.d (.int n)) S) (h2 : e2 S = .ok (.d (.int z)) S) (hz : z = (d : Int)) (hd : 0 < d) (hd2 : d < 1000) : mCall 2 (f_law_ratio E) [] (aCons e1 (aCons e2 aNil)) S = .ok (.d (sQ (Rat.divInt n d))) S := by
  subst hz
  exact call_ok (S1 := S) (S2 := S) (args_cons h1 (args_cons h2 args_nil)) (toDs_d (toDs_d toDs_nil)) rfl (ev_law_ratio hd (.of (Nat.lt_of_lt_of_le (show ((d : Int)).natAbs < 2 ^ 10 by omega) (Nat.pow_le_pow_right (by decide) (by decide)))))
theorem bt_div {n : Int} {d B : Nat} (hd : 0 < d) (h1 : n.natAbs < 2 ^ B) (h2 : d < 2 ^ B) : Bt B (Rat.divInt n d) := RP.bt_low (by omega) (.of h1) (.of (by rw [Int.natAbs_natCast]; exact h2))
theorem nm_ix {nm : List Str} {a : Nat} (h : a < nm.length) : fIx (.lst (nm.map .str)) (.int (a : Int)) = some (.str nm[a]) := by
  show atI (nm.map RD.str) (a : Int) = _
  rw [RP.atI_nat' (by rw [List.length_map]; exact h), List.getElem_map]
/-- the rivalries that the law makes -/
structure RvL (rs : List Rv) : Prop where
  b : ∀ r ∈ rs, RvB r
  c : ∀ r ∈ rs, Bt 3 r.cross
theorem RvL.snoc {rs : List Rv} (h : RvL rs) {r : Rv} (hb : RvB r) (hc : Bt 3 r.cross) : RvL (rs ++ [r]) :=
  ⟨fun x hx => (List.mem_append.mp hx).elim (h.b x) fun z => by rw [List.mem_singleton] at z; subst z; exact hb, fun x hx => (List.mem_append.mp hx).elim (h.c x) fun z => by rw [List.mem_singleton] at z; subst z; exact hc⟩
theorem ev_rivalries (ns : List Int) (ce : List Cell) : ∃ rs : List Rv, RvL rs ∧ rs.length ≤ 36 ∧ f_law_rivalries E [.scr ns] ce = .ok (.loc ce.length) (ce ++ [.lst (rs.map rD)]) := by
  obtain ⟨nm, h1, h6, hw, he⟩ := ev_names (E := E) ns
  let T : SV → SV → SV → List Rv → Sg := fun a b c rs => ⟨[.dat (.scr ns), .dat (.lst (nm.map .str)), .dat (.loc ce.length), a, b, c], ce ++ [.lst (rs.map rD)], none⟩
  let S0 : Sg := ⟨[.dat (.scr ns), .dat (.lst (nm.map .str)), .un, .un, .un, .un], ce, none⟩
  have a1 : mAsg (mCall 1 (f_law_names E) [] (aCons (mVar 0) aNil)) (gSet 1) ⟨[.dat (.scr ns), .un, .un, .un, .un, .un], ce, none⟩ = .nx S0 := asg_set (call_ok (args_cons (var_dat rfl) args_nil) (toDs_d toDs_nil) rfl (he ce))
  have a2 : mAsg (mCell (nLst aNil)) (gSet 2) S0 = .nx (T .un .un .un []) := asg_set (cell_ok (S1 := S0) (c := .lst []) (nlst_ok args_nil toDs_nil (by decide)))
  let I : Nat → Sg → Prop := fun i S => ∃ rs x y z, S = T x y z rs ∧ RvL rs ∧ rs.length ≤ 6 * i
  have ln : ∀ x y z rs, mCB (liftL fLen) (aCons (mVar 1) aNil) (T x y z rs) = .ok (.d (.int (nm.length : Int))) (T x y z rs) := fun x y z rs => cb_ok (args_cons (var_dat rfl) args_nil) (derefs_cons rfl derefs_nil) (by simp only [fLen, List.length_map])
  obtain ⟨S', hf, rs, x, y, z, rfl, hrs, hl⟩ := forL_invN (ok := fun _ => True) (g := gSet 3) (b := mFor (mRange2 (aCons (mOp (lift2 fAdd) (mVar 3) (mC (.int 1))) (aCons (mCB (liftL fLen) (aCons (mVar 1) aNil)) aNil))) (gSet 4) (mSeq (mAsg (mOp (lift2 fDiv) (mCall 2 (f_law_cell E) [] (aCons (mVar 0) (aCons (mOp (lift2 fAdd) (mC (.int 1)) (mVar 3)) aNil))) (mOp (lift2 fAdd) (mC (.int 1)) (mOp (lift2 fMul) (mC (.int 3)) (mVar 4)))) (gSet 5))
    (mIfS (mTest (mOp (mNe) (mOp (lift2 fMod) (mVar 5) (mC (.int 3))) (mC (.int 0)))) (mDrop (mBM "list" fAppend (mVar 2) (aCons (mTup (aCons (mOp (lift2 fIx) (mVar 1) (mVar 3)) (aCons (mOp (lift2 fIx) (mVar 1) (mVar 4)) (aCons (mCall 2 (f_law_ratio E) [] (aCons (mOp (lift2 fAdd) (mC (.int 1)) (mOp (lift2 fMod) (mOp (lift2 fDiv) (mVar 5) (mC (.int 3))) (mC (.int 6)))) (aCons (mOp (lift2 fAdd) (mC (.int 1)) (mOp (lift2 fMod) (mOp (lift2 fDiv) (mVar 5) (mC (.int 18))) (mC (.int 3)))) aNil))) aNil)))) aNil))) mNext))) I (fun _ _ _ => trivial) ((List.range nm.length).map fun i => .int (i : Nat)) 0 (T .un .un .un []) (fun d hd i S hi hI => by
      rw [List.length_map, List.length_range] at hi
      obtain ⟨a, ha, rfl⟩ := List.mem_map.mp hd
      have ha := List.mem_range.mp ha
      obtain ⟨rs, x, y, z, rfl, hrs, hl⟩ := hI
      let J : Nat → Sg → Prop := fun j S => ∃ rs y z, S = T (.dat (.int (a : Int))) y z rs ∧ RvL rs ∧ rs.length ≤ 6 * i + j
      obtain ⟨S', hf, rs', y', z', rfl, hrs', hl'⟩ := forL_invN (ok := fun _ => True) (g := gSet 4) (b := mSeq (mAsg (mOp (lift2 fDiv) (mCall 2 (f_law_cell E) [] (aCons (mVar 0) (aCons (mOp (lift2 fAdd) (mC (.int 1)) (mVar 3)) aNil))) (mOp (lift2 fAdd) (mC (.int 1)) (mOp (lift2 fMul) (mC (.int 3)) (mVar 4)))) (gSet 5))
    (mIfS (mTest (mOp (mNe) (mOp (lift2 fMod) (mVar 5) (mC (.int 3))) (mC (.int 0)))) (mDrop (mBM "list" fAppend (mVar 2) (aCons (mTup (aCons (mOp (lift2 fIx) (mVar 1) (mVar 3)) (aCons (mOp (lift2 fIx) (mVar 1) (mVar 4)) (aCons (mCall 2 (f_law_ratio E) [] (aCons (mOp (lift2 fAdd) (mC (.int 1)) (mOp (lift2 fMod) (mOp (lift2 fDiv) (mVar 5) (mC (.int 3))) (mC (.int 6)))) (aCons (mOp (lift2 fAdd) (mC (.int 1)) (mOp (lift2 fMod) (mOp (lift2 fDiv) (mVar 5) (mC (.int 18))) (mC (.int 3)))) aNil))) aNil)))) aNil))) mNext)) J (fun _ _ _ => trivial) ((List.range ((nm.length : Int) - ((a : Int) + 1)).toNat).map fun k => .int ((a : Int) + 1 + (k : Nat))) 0 (T (.dat (.int (a : Int))) y z rs) (fun d hd j S hj hJ => by
          rw [List.length_map, List.length_range] at hj
          obtain ⟨k, hk, rfl⟩ := List.mem_map.mp hd
          have hk := List.mem_range.mp hk
          obtain ⟨rs, y, z, rfl, hrs, hl⟩ := hJ
          obtain ⟨b, hb⟩ : ∃ b : Nat, (a : Int) + 1 + (k : Int) = (b : Int) := ⟨a + 1 + k, by omega⟩
          rw [hb]
          have hbl : b < nm.length := by omega
          let c : Int := lawC ns (1 + a) / (1 + 3 * (b : Int))
          let S1 := T (.dat (.int (a : Int))) (.dat (.int (b : Int))) z rs
          let S2 := T (.dat (.int (a : Int))) (.dat (.int (b : Int))) (.dat (.int c)) rs
          have b1 : mAsg (mOp (lift2 fDiv) (mCall 2 (f_law_cell E) [] (aCons (mVar 0) (aCons (mOp (lift2 fAdd) (mC (.int 1)) (mVar 3)) aNil))) (mOp (lift2 fAdd) (mC (.int 1)) (mOp (lift2 fMul) (mC (.int 3)) (mVar 4)))) (gSet 5) S1 = .nx S2 :=
            asg_set (op2 (call_ok (args_cons (var_dat rfl) (args_cons (op2 c_ok (var_dat rfl) rfl rfl rfl) args_nil)) (toDs_d (toDs_d toDs_nil)) rfl (ev_cell (k := 1 + a) (by omega) (by omega))) (op2 c_ok (op2 c_ok (var_dat rfl) rfl rfl (fMul_ok (okMul_of (a := 10) (b := 10) (by decide) (by omega) (by decide)))) rfl rfl rfl) rfl rfl (fDiv_ok (okDiv_of (b := 10) (by omega) (by omega) (by decide))))
          have t : mTest (mOp (mNe) (mOp (lift2 fMod) (mVar 5) (mC (.int 3))) (mC (.int 0))) S2 = .ok (!decide (c % 3 = 0)) S2 := test_bl (ne_ok (op2 (var_dat rfl) c_ok rfl rfl (fMod_ok (by decide))) c_ok rfl rfl eqB_int)
          by_cases h : c % 3 = 0
          · rw [decide_eq_true h] at t
            exact ⟨S1, S2, rfl, (seq_nx b1).trans ((if_f t).trans rfl), rs, _, _, rfl, hrs, by omega⟩
          · rw [decide_eq_false h] at t
            obtain ⟨dn, hdn, hdl⟩ := mod_nat (c / 18) (show (0 : Int) < 3 by decide)
            let q : Rat := Rat.divInt (1 + c / 3 % 6) ((1 + dn : Nat) : Int)
            let r : Rv := ⟨nm[a], nm[b], q⟩
            have hq : Bt 3 q := bt_div (by omega) (by omega) (by omega)
            have wa := hw nm[a] (List.getElem_mem _)
            have wb := hw nm[b] (List.getElem_mem _)
            have tu : mTup (aCons (mOp (lift2 fIx) (mVar 1) (mVar 3)) (aCons (mOp (lift2 fIx) (mVar 1) (mVar 4)) (aCons (mCall 2 (f_law_ratio E) [] (aCons (mOp (lift2 fAdd) (mC (.int 1)) (mOp (lift2 fMod) (mOp (lift2 fDiv) (mVar 5) (mC (.int 3))) (mC (.int 6)))) (aCons (mOp (lift2 fAdd) (mC (.int 1)) (mOp (lift2 fMod) (mOp (lift2 fDiv) (mVar 5) (mC (.int 18))) (mC (.int 3)))) aNil))) aNil))) S2 = .ok (.d (rD r)) S2 :=
              tup_ok (args_cons (op2 (z := .str nm[a]) (var_dat rfl) (var_dat rfl) rfl rfl (nm_ix ha)) (args_cons (op2 (z := .str nm[b]) (var_dat rfl) (var_dat rfl) rfl rfl (nm_ix hbl)) (args_cons (ratio_ok (S := S2) (d := 1 + dn) (op2 c_ok (op2 (op2 (var_dat rfl) c_ok rfl rfl (fDiv_ok (okDiv_of (b := 10) (by decide) (by decide) (by decide)))) c_ok rfl rfl (fMod_ok (by decide))) rfl rfl rfl) (op2 c_ok (op2 (op2 (var_dat rfl) c_ok rfl rfl (fDiv_ok (okDiv_of (b := 10) (by decide) (by decide) (by decide)))) c_ok rfl rfl (fMod_ok (by decide))) rfl rfl rfl) (by omega) (by omega) (by omega)) args_nil))) (toDs_d (toDs_d (toDs_d toDs_nil))) (Nat.le_of_ble_eq_true rfl)
            have ap := app_loc (S := S2) (S1 := S2) (S2 := S2) (L := ce.length) (ds := rs.map rD) (d := rD r) (o := mVar 2) (var_dat rfl) app_at tu app_at (by rw [List.length_map]; omega)
            refine ⟨S1, T (.dat (.int (a : Int))) (.dat (.int (b : Int))) (.dat (.int c)) (rs ++ [r]), rfl, (seq_nx b1).trans ((if_t t).trans (ap.trans ?_)), rs ++ [r], _, _, rfl, hrs.snoc ⟨wa.n, wb.n, hq.mono (by decide), wa.k, wb.k⟩ hq, by rw [List.length_append]; simp only [List.length_cons, List.length_nil]; omega⟩
            show Out.nx (⟨_, (ce ++ [_]).set ce.length _, none⟩ : Sg) = Out.nx (⟨_, ce ++ [.lst ((rs ++ [r]).map rD)], none⟩ : Sg)
            rw [app_set, List.map_append]; rfl) ⟨rs, y, z, rfl, hrs, by omega⟩
      rw [List.length_map, List.length_range] at hl'
      have hr2 : mRange2 (aCons (mOp (lift2 fAdd) (mVar 3) (mC (.int 1))) (aCons (mCB (liftL fLen) (aCons (mVar 1) aNil)) aNil)) (T (.dat (.int (a : Int))) y z rs) = .ok ⟨(List.range ((nm.length : Int) - ((a : Int) + 1)).toNat).map fun k => .int ((a : Int) + 1 + (k : Nat)), fun _ => True⟩ (T (.dat (.int (a : Int))) y z rs) := range2_ok (args_cons (op2 (var_dat rfl) c_ok rfl rfl rfl) (args_cons (ln _ _ _ _) args_nil)) (by omega) (by omega)
      exact ⟨T (.dat (.int (a : Int))) y z rs, _, rfl, for_ok hr2 hf, rs', _, _, _, rfl, hrs', by omega⟩) ⟨[], _, _, _, rfl, ⟨fun _ h => (by cases h), fun _ h => (by cases h)⟩, by simp⟩
  rw [List.length_map, List.length_range] at hl
  have hr1 : mRange1 (aCons (mCB (liftL fLen) (aCons (mVar 1) aNil)) aNil) (T .un .un .un []) = .ok ⟨(List.range nm.length).map fun i => .int (i : Nat), fun _ => True⟩ (T .un .un .un []) := by
    have := range1_ok (j := (nm.length : Int)) (args_cons (ln .un .un .un []) args_nil) (by omega)
    rw [Int.toNat_natCast] at this; exact this
  exact ⟨rs, hrs, by omega, fun_rt (S := T x y z rs) ((seq_nx a1).trans ((seq_nx a2).trans ((seq_nx (for_ok hr1 hf)).trans (ret_d (var_dat rfl)))))⟩

end RSk32

set_option Elab.async false
set_option linter.all false
set_option maxRecDepth 100000
set_option maxHeartbeats 4000000
namespace RSk32
open PySem PySem.Spec PyProof.Rows L2 RS RPk32
local macro_rules | `(tactic| walk_at "fn") => `(tactic| fail)
local macro_rules | `(tactic| walk_at "ev2") => `(tactic| fail)
local macro_rules | `(tactic| walk_at "ev1") => `(tactic| first
  | (with_reducible exact args_nil) | (with_reducible apply args_cons) | (with_reducible exact toDs_nil) | (with_reducible apply toDs_d)
  | (with_reducible exact c_ok) | ((with_reducible apply var_dat); rfl) | ((with_reducible apply var_own); rfl) | ((with_reducible apply var_exc); rfl)
  | (with_reducible apply op2) | (with_reducible apply tup_ok) | (with_reducible apply lst_ok) | (with_reducible apply call_ok) | (with_reducible apply cb_ok) | (with_reducible apply sl_ok)
  | (with_reducible exact noPart_ok) | (with_reducible apply part_ok) | (with_reducible exact derefs_nil) | (with_reducible apply derefs_cons)
  | ((with_reducible show deref _ (.d _) = some _); rfl) | (with_reducible apply fMul_ok) | (with_reducible apply fDiv_ok) | (with_reducible apply fMod_ok) | (with_reducible apply fAddL)
  | ((with_reducible show fAdd _ _ = some _); rfl) | ((with_reducible show fSub _ _ = some _); rfl) | ((with_reducible show fLt _ _ = some _); rfl) | ((with_reducible show fLe _ _ = some _); rfl) | ((with_reducible show fGt _ _ = some _); rfl) | ((with_reducible show fGe _ _ = some _); rfl)
  | ((with_reducible show fIx _ _ = some _); rfl) | ((with_reducible show fAbs _ = some _); rfl) | ((with_reducible show fInt _ = some _); rfl) | ((with_reducible show fLen _ = some _); rfl) | ((with_reducible show fList _ = some _); rfl) | ((with_reducible show fIs _ _ = some _); rfl) | ((with_reducible show fIsNot _ _ = some _); rfl) | ((with_reducible show fIsi _ = some _); rfl)
  | ((with_reducible show List.length _ ≤ 100000); exact Nat.le_of_ble_eq_true rfl) | ((with_reducible show List.length _ = _); rfl)
  | (with_reducible apply test_bl) | (with_reducible apply not_ok) | walk_at "fn" | walk_at "ev2")
local macro_rules | `(tactic| walk_at "ev") => `(tactic| repeat' walk_at "ev1")
local macro_rules | `(tactic| walk_at "norm") => `(tactic| simp only [List.set_cons_zero, List.set_cons_succ, startL, List.map_cons, List.map_nil, List.length_cons, List.length_nil, List.replicate_succ, List.replicate_zero, List.cons_append, List.nil_append, Nat.reduceAdd, Nat.reduceSub])
open MM (Pr Rv pr2 strB dueP dueR total isIn cg slope POk ROk)
open RP (Bt Bd Sq BL BM Sh domB)
variable {E : En} {ce : List Cell}
/-- the law's products, half made -/
def TPr (ns : List Int) (nm : List Str) (L : Nat) (a b c d e f g h i : SV) (ce : List Cell) : Sg := ⟨[.dat (.scr ns), .dat (.lst (nm.map .str)), .dat (.loc L), a, b, c, d, e, f, g, h, i], ce, none⟩
theorem sum_loop {ns : List Int} {nm : List Str} {L K k : Nat} {ds0 : List RD} (hk : k < nm.length) (hK : ce[K]? = some (.lst ds0)) (cl h i : SV) : ∀ (rs : List Rv) (acc : Rat) (n : Nat) (d e f g : SV), (∀ r ∈ rs, Bt 3 r.cross) → Bt (1 + 4 * n) acc → n + rs.length ≤ 36 → ∃ (acc' : Rat) (d' e' f' : SV), Bt 145 acc' ∧
    forL (fun S => S.ce[K]? = some (.lst ds0)) (gTupF [(gSet 6), (gSet 7), (gSet 8)]) (mIfS (mTest (mOp (mIn false) (mOp (lift2 fIx) (mVar 1) (mVar 3)) (mTup (aCons (mVar 6) (aCons (mVar 7) aNil))))) (mAsg (mCall 2 (f_law_add E) [] (aCons (mVar 5) (aCons (mVar 8) aNil))) (gSet 5)) mNext) (rs.map rD) (TPr ns nm L (.dat (.int (k : Int))) cl (.dat (sQ acc)) d e f g h i ce) = .nx (TPr ns nm L (.dat (.int (k : Int))) cl (.dat (sQ acc')) d' e' f' g h i ce)
  | [], acc, n, d, e, f, g, _, ha, hn => ⟨acc, d, e, f, ha.mono (by simp only [List.length_nil] at hn; omega), forL_nil hK⟩
  | r :: rs, acc, n, d, e, f, g, hb, ha, hn => by
    have rb := hb r List.mem_cons_self
    simp only [List.length_cons] at hn
    let S1 : Sg := TPr ns nm L (.dat (.int (k : Int))) cl (.dat (sQ acc)) (.dat (.str r.one)) (.dat (.str r.other)) (.dat (sQ r.cross)) g h i ce
    have g1 : gTupF [(gSet 6), (gSet 7), (gSet 8)] (rD r) (TPr ns nm L (.dat (.int (k : Int))) cl (.dat (sQ acc)) d e f g h i ce) = some S1 := rfl
    have t1 : mTest (mOp (mIn false) (mOp (lift2 fIx) (mVar 1) (mVar 3)) (mTup (aCons (mVar 6) (aCons (mVar 7) aNil)))) S1 = .ok (decide (nm[k] ∈ [r.one, r.other])) S1 :=
      test_bl (ev_is (in_ok (x := .str nm[k]) (d := .tup ([r.one, r.other].map .str)) (op2 (z := .str nm[k]) (var_dat rfl) (var_dat rfl) rfl rfl (nm_ix hk)) (tup_ok (args_cons (var_dat rfl) (args_cons (var_dat rfl) args_nil)) (toDs_d (toDs_d toDs_nil)) (Nat.le_of_ble_eq_true rfl)) rfl rfl inD_strsT) (by rw [if_neg (by decide)]))
    rw [List.map_cons]
    by_cases hin : nm[k] ∈ [r.one, r.other]
    · rw [decide_eq_true hin] at t1
      have hb2 : Bt (1 + 4 * (n + 1)) (acc + r.cross) := (ha.add rb).mono (by omega)
      obtain ⟨acc', d', e', f', i1, i2⟩ := sum_loop hk hK cl h i rs (acc + r.cross) (n + 1) (.dat (.str r.one)) (.dat (.str r.other)) (.dat (sQ r.cross)) g (fun q hq => hb q (List.mem_cons_of_mem _ hq)) hb2 (by omega)
      exact ⟨acc', d', e', f', i1, (forL_nx hK g1 ((if_t t1).trans (asg_set (call_ok (S1 := S1) (S2 := S1) (args_cons (var_dat rfl) (args_cons (var_dat rfl) args_nil)) (toDs_d (toDs_d toDs_nil)) rfl (ev_law_add (ha.mono (by omega)) (rb.mono (by decide))))))).trans i2⟩
    · rw [decide_eq_false hin] at t1
      obtain ⟨acc', d', e', f', i1, i2⟩ := sum_loop hk hK cl h i rs acc n (.dat (.str r.one)) (.dat (.str r.other)) (.dat (sQ r.cross)) g (fun q hq => hb q (List.mem_cons_of_mem _ hq)) ha (by omega)
      exact ⟨acc', d', e', f', i1, (forL_nx hK g1 ((if_f t1).trans rfl)).trans i2⟩
theorem mid_at {c : Cell} {x : List Cell} : (ce ++ c :: x)[ce.length]? = some c := by simp
theorem mid_set {c c' : Cell} {x : List Cell} : (ce ++ c :: x).set ce.length c' = ce ++ c' :: x := by simp
theorem ev_products (ns : List Int) (ce : List Cell) : ∃ (ps : List Pr) (x : List Cell), (∀ p ∈ ps, PrB p) ∧ 1 ≤ ps.length ∧ ps.length ≤ 6 ∧ f_law_products E [.scr ns] ce = .ok (.loc ce.length) (ce ++ .lst (ps.map pD) :: x) := by
  obtain ⟨nm, h1, h6, hw, he⟩ := ev_names (E := E) ns
  obtain ⟨os, ho4, hov, heo⟩ := ev_owners (E := E) ns
  let T : SV → SV → SV → SV → SV → SV → SV → SV → SV → List Pr → List Cell → Sg := fun a b c d e f g h i ps x => TPr ns nm ce.length a b c d e f g h i (ce ++ .lst (ps.map pD) :: x)
  let S0 : Sg := ⟨[.dat (.scr ns), .dat (.lst (nm.map .str)), .un, .un, .un, .un, .un, .un, .un, .un, .un, .un], ce, none⟩
  have a1 : mAsg (mCall 1 (f_law_names E) [] (aCons (mVar 0) aNil)) (gSet 1) ⟨[.dat (.scr ns), .un, .un, .un, .un, .un, .un, .un, .un, .un, .un, .un], ce, none⟩ = .nx S0 := asg_set (call_ok (args_cons (var_dat rfl) args_nil) (toDs_d toDs_nil) rfl (he ce))
  let Z0 : Sg := T .un .un .un .un .un .un .un .un .un [] []
  have a2 : mAsg (mCell (nLst aNil)) (gSet 2) S0 = .nx Z0 := asg_set (cell_ok (S1 := S0) (c := .lst []) (nlst_ok args_nil toDs_nil (by decide)))
  let I : Nat → Sg → Prop := fun j S => ∃ a b c d e f g h i ps x, S = T a b c d e f g h i ps x ∧ (∀ p ∈ ps, PrB p) ∧ ps.length = j
  have hr1 : mRange1 (aCons (mCB (liftL fLen) (aCons (mVar 1) aNil)) aNil) Z0 = .ok ⟨(List.range nm.length).map fun i => .int (i : Nat), fun _ => True⟩ Z0 := by
    have ln : mCB (liftL fLen) (aCons (mVar 1) aNil) Z0 = .ok (.d (.int (nm.length : Int))) Z0 := cb_ok (args_cons (var_dat rfl) args_nil) (derefs_cons rfl derefs_nil) (by simp only [fLen, List.length_map])
    have := range1_ok (S := Z0) (S1 := Z0) (j := (nm.length : Int)) (args_cons ln args_nil) (by omega)
    rw [Int.toNat_natCast] at this; exact this
  have step : ∀ (k : Nat) (a b c d e f g h i : SV) (ps : List Pr) (x : List Cell), k < nm.length → ps.length < 6 → (∀ p ∈ ps, PrB p) → ∃ S2, (mSeq (mAsg (mCall 2 (f_law_cell E) [] (aCons (mVar 0) (aCons (mOp (lift2 fAdd) (mC (.int 6)) (mVar 3)) aNil))) (gSet 4))
    (mSeq (mAsg (mTup (aCons (mC (.int 0)) (aCons (mC (.int 1)) aNil))) (gSet 5))
    (mSeq (mFor (mIter (mCall 1 (f_law_rivalries E) [] (aCons (mVar 0) aNil))) (gTupF [(gSet 6), (gSet 7), (gSet 8)]) (mIfS (mTest (mOp (mIn false) (mOp (lift2 fIx) (mVar 1) (mVar 3)) (mTup (aCons (mVar 6) (aCons (mVar 7) aNil))))) (mAsg (mCall 2 (f_law_add E) [] (aCons (mVar 5) (aCons (mVar 8) aNil))) (gSet 5)) mNext))
    (mSeq (mAsg (mCall 2 (f_law_add E) [] (aCons (mVar 5) (aCons (mCall 2 (f_law_ratio E) [] (aCons (mOp (lift2 fAdd) (mC (.int 1)) (mOp (lift2 fMod) (mVar 4) (mC (.int 5)))) (aCons (mOp (lift2 fAdd) (mC (.int 1)) (mOp (lift2 fMod) (mOp (lift2 fDiv) (mVar 4) (mC (.int 5))) (mC (.int 3)))) aNil))) aNil))) (gSet 9))
    (mSeq (mAsg (mOp (lift2 fIx) (mCall 1 (f_law_owners E) [] (aCons (mVar 0) aNil)) (mOp (lift2 fMod) (mOp (lift2 fDiv) (mVar 4) (mC (.int 15))) (mC (.int 4)))) (gSet 10))
    (mSeq (mAsg (mCall 2 (f_law_ratio E) [] (aCons (mOp (lift2 fMod) (mOp (lift2 fDiv) (mVar 4) (mC (.int 60))) (mC (.int 9))) (aCons (mOp (lift2 fAdd) (mC (.int 1)) (mOp (lift2 fMod) (mOp (lift2 fDiv) (mVar 4) (mC (.int 540))) (mC (.int 2)))) aNil))) (gSet 11))
    (mDrop (mBM "list" fAppend (mVar 2) (aCons (mTup (aCons (mOp (lift2 fIx) (mVar 1) (mVar 3)) (aCons (mVar 10) (aCons (mCall 2 (f_law_ratio E) [] (aCons (mOp (lift2 fAdd) (mC (.int 20)) (mOp (lift2 fMod) (mOp (lift2 fDiv) (mVar 4) (mC (.int 7))) (mC (.int 90)))) (aCons (mOp (lift2 fAdd) (mC (.int 1)) (mOp (lift2 fMod) (mOp (lift2 fDiv) (mVar 4) (mC (.int 11))) (mC (.int 4)))) aNil))) (aCons (mVar 9) (aCons (mVar 11) aNil)))))) aNil))))))))) (T (.dat (.int (k : Int))) b c d e f g h i ps x) = .nx S2 ∧ I (ps.length + 1) S2 := by
    intro k a b c d e f g h i ps x hk hp6 hp
    let cl : Int := lawC ns (6 + k)
    let kk : SV := .dat (.int (k : Int))
    let S1 : Sg := T kk b c d e f g h i ps x
    have b1 : mAsg (mCall 2 (f_law_cell E) [] (aCons (mVar 0) (aCons (mOp (lift2 fAdd) (mC (.int 6)) (mVar 3)) aNil))) (gSet 4) S1 = .nx (T kk (.dat (.int cl)) c d e f g h i ps x) :=
      asg_set (call_ok (S1 := S1) (S2 := S1) (args_cons (var_dat rfl) (args_cons (op2 c_ok (var_dat rfl) rfl rfl rfl) args_nil)) (toDs_d (toDs_d toDs_nil)) rfl (ev_cell (k := 6 + k) (by omega) (by omega)))
    let S2 : Sg := T kk (.dat (.int cl)) (.dat (sQ 0)) d e f g h i ps x
    have b2 : mAsg (mTup (aCons (mC (.int 0)) (aCons (mC (.int 1)) aNil))) (gSet 5) (T kk (.dat (.int cl)) c d e f g h i ps x) = .nx S2 := asg_set (tup_ok (args_cons c_ok (args_cons c_ok args_nil)) (toDs_d (toDs_d toDs_nil)) (Nat.le_of_ble_eq_true rfl))
    obtain ⟨rs, hrl, hl36, hrv⟩ := ev_rivalries (E := E) ns (ce ++ .lst (ps.map pD) :: x)
    let x3 : List Cell := x ++ [.lst (rs.map rD)]
    have ex3 : (ce ++ Cell.lst (ps.map pD) :: x) ++ [.lst (rs.map rD)] = ce ++ .lst (ps.map pD) :: x3 := by rw [List.append_assoc]; rfl
    let K : Nat := (ce ++ Cell.lst (ps.map pD) :: x).length
    have hK : (ce ++ Cell.lst (ps.map pD) :: x3)[K]? = some (.lst (rs.map rD)) := by rw [← ex3]; exact app_at
    rw [ex3] at hrv
    let S3 : Sg := T kk (.dat (.int cl)) (.dat (sQ 0)) d e f g h i ps x3
    have hit : mIter (mCall 1 (f_law_rivalries E) [] (aCons (mVar 0) aNil)) S2 = .ok ⟨rs.map rD, fun S => S.ce[K]? = some (.lst (rs.map rD))⟩ S3 :=
      iter_loc (S1 := S3) (k := K) (call_ok (S1 := S2) (S2 := S2) (args_cons (var_dat rfl) args_nil) (toDs_d toDs_nil) rfl hrv) hK
    obtain ⟨acc, d', e', f', hacc, hsum⟩ := sum_loop (E := E) (ns := ns) (L := ce.length) hk hK (.dat (.int cl)) h i rs 0 0 d e f g hrl.c (RP.bt_zero (by decide)) (by omega)
    let S4 : Sg := T kk (.dat (.int cl)) (.dat (sQ acc)) d' e' f' g h i ps x3
    have b3 : mFor (mIter (mCall 1 (f_law_rivalries E) [] (aCons (mVar 0) aNil))) (gTupF [(gSet 6), (gSet 7), (gSet 8)]) (mIfS (mTest (mOp (mIn false) (mOp (lift2 fIx) (mVar 1) (mVar 3)) (mTup (aCons (mVar 6) (aCons (mVar 7) aNil))))) (mAsg (mCall 2 (f_law_add E) [] (aCons (mVar 5) (aCons (mVar 8) aNil))) (gSet 5)) mNext) S2 = .nx S4 := for_ok hit hsum
    obtain ⟨n1, hn1, hn1l⟩ := mod_nat (cl / 5) (show (0 : Int) < 3 by decide)
    let q1 : Rat := Rat.divInt (1 + cl % 5) ((1 + n1 : Nat) : Int)
    have hq1 : Bt 5 q1 := bt_div (by omega) (by omega) (by omega)
    let own : Rat := acc + q1
    have hown : Bt 170 own := (hacc.add hq1).mono (by decide)
    let S5 : Sg := T kk (.dat (.int cl)) (.dat (sQ acc)) d' e' f' (.dat (sQ own)) h i ps x3
    have dv : ∀ (z m : Int) (S : Sg), S.sl[4]? = some (.dat (.int cl)) → 0 < z → z < 1000 → 0 < m → mOp (lift2 fMod) (mOp (lift2 fDiv) (mVar 4) (mC (.int z))) (mC (.int m)) S = .ok (.d (.int (cl / z % m))) S := fun z m S hS h0 h1 h2 => op2 (op2 (var_dat hS) c_ok rfl rfl (fDiv_ok (okDiv_of (b := 10) h0 (by omega) (by decide)))) c_ok rfl rfl (fMod_ok h2)
    have b4 : mAsg (mCall 2 (f_law_add E) [] (aCons (mVar 5) (aCons (mCall 2 (f_law_ratio E) [] (aCons (mOp (lift2 fAdd) (mC (.int 1)) (mOp (lift2 fMod) (mVar 4) (mC (.int 5)))) (aCons (mOp (lift2 fAdd) (mC (.int 1)) (mOp (lift2 fMod) (mOp (lift2 fDiv) (mVar 4) (mC (.int 5))) (mC (.int 3)))) aNil))) aNil))) (gSet 9) S4 = .nx S5 :=
      asg_set (call_ok (S1 := S4) (S2 := S4) (args_cons (var_dat rfl) (args_cons (ratio_ok (S := S4) (d := 1 + n1) (op2 c_ok (op2 (var_dat rfl) c_ok rfl rfl (fMod_ok (by decide))) rfl rfl rfl) (op2 c_ok (dv 5 3 S4 rfl (by decide) (by decide) (by decide)) rfl rfl rfl) (by omega) (by omega) (by omega)) args_nil)) (toDs_d (toDs_d toDs_nil)) rfl (ev_law_add (hacc.mono (by decide)) (hq1.mono (by decide))))
    obtain ⟨n2, hn2, hn2l⟩ := mod_nat (cl / 15) (show (0 : Int) < 4 by decide)
    have hn2' : n2 < os.length := by omega
    let S6 : Sg := T kk (.dat (.int cl)) (.dat (sQ acc)) d' e' f' (.dat (sQ own)) (.dat (.str os[n2])) i ps x3
    have b5 : mAsg (mOp (lift2 fIx) (mCall 1 (f_law_owners E) [] (aCons (mVar 0) aNil)) (mOp (lift2 fMod) (mOp (lift2 fDiv) (mVar 4) (mC (.int 15))) (mC (.int 4)))) (gSet 10) S5 = .nx S6 :=
      asg_set (op2 (z := .str os[n2]) (call_ok (S1 := S5) (S2 := S5) (args_cons (var_dat rfl) args_nil) (toDs_d toDs_nil) rfl (heo _)) (dv 15 4 S5 rfl (by decide) (by decide) (by decide)) rfl rfl (by rw [hn2]; exact nm_ix hn2'))
    obtain ⟨n3, hn3, hn3l⟩ := mod_nat (cl / 540) (show (0 : Int) < 2 by decide)
    let q3 : Rat := Rat.divInt (cl / 60 % 9) ((1 + n3 : Nat) : Int)
    have hq3 : Bt 5 q3 := bt_div (by omega) (by omega) (by omega)
    let S7 : Sg := T kk (.dat (.int cl)) (.dat (sQ acc)) d' e' f' (.dat (sQ own)) (.dat (.str os[n2])) (.dat (sQ q3)) ps x3
    have b6 : mAsg (mCall 2 (f_law_ratio E) [] (aCons (mOp (lift2 fMod) (mOp (lift2 fDiv) (mVar 4) (mC (.int 60))) (mC (.int 9))) (aCons (mOp (lift2 fAdd) (mC (.int 1)) (mOp (lift2 fMod) (mOp (lift2 fDiv) (mVar 4) (mC (.int 540))) (mC (.int 2)))) aNil))) (gSet 11) S6 = .nx S7 :=
      asg_set (ratio_ok (S := S6) (d := 1 + n3) (dv 60 9 S6 rfl (by decide) (by decide) (by decide)) (op2 c_ok (dv 540 2 S6 rfl (by decide) (by decide) (by decide)) rfl rfl rfl) (by omega) (by omega) (by omega))
    obtain ⟨n4, hn4, hn4l⟩ := mod_nat (cl / 11) (show (0 : Int) < 4 by decide)
    let q4 : Rat := Rat.divInt (20 + cl / 7 % 90) ((1 + n4 : Nat) : Int)
    have hq4 : Bt 10 q4 := bt_div (by omega) (by omega) (by omega)
    let p : Pr := ⟨nm[k], os[n2], q4, own, q3⟩
    have wn := hw nm[k] (List.getElem_mem _)
    have wo := hov os[n2] (List.getElem_mem _)
    have hpb : PrB p := ⟨wn.n, wo.n, hq4.mono (by decide), hown, hq3.mono (by decide), wn.k⟩
    have tu : mTup (aCons (mOp (lift2 fIx) (mVar 1) (mVar 3)) (aCons (mVar 10) (aCons (mCall 2 (f_law_ratio E) [] (aCons (mOp (lift2 fAdd) (mC (.int 20)) (mOp (lift2 fMod) (mOp (lift2 fDiv) (mVar 4) (mC (.int 7))) (mC (.int 90)))) (aCons (mOp (lift2 fAdd) (mC (.int 1)) (mOp (lift2 fMod) (mOp (lift2 fDiv) (mVar 4) (mC (.int 11))) (mC (.int 4)))) aNil))) (aCons (mVar 9) (aCons (mVar 11) aNil))))) S7 = .ok (.d (pD p)) S7 :=
      tup_ok (args_cons (op2 (z := .str nm[k]) (var_dat rfl) (var_dat rfl) rfl rfl (nm_ix hk)) (args_cons (var_dat rfl) (args_cons (ratio_ok (S := S7) (d := 1 + n4) (op2 c_ok (dv 7 90 S7 rfl (by decide) (by decide) (by decide)) rfl rfl rfl) (op2 c_ok (dv 11 4 S7 rfl (by decide) (by decide) (by decide)) rfl rfl rfl) (by omega) (by omega) (by omega)) (args_cons (var_dat rfl) (args_cons (var_dat rfl) args_nil))))) (toDs_d (toDs_d (toDs_d (toDs_d (toDs_d toDs_nil))))) (Nat.le_of_ble_eq_true rfl)
    have ap := app_loc (S := S7) (S1 := S7) (S2 := S7) (L := ce.length) (ds := ps.map pD) (d := pD p) (o := mVar 2) (var_dat rfl) mid_at tu mid_at (by rw [List.length_map]; omega)
    refine ⟨T kk (.dat (.int cl)) (.dat (sQ acc)) d' e' f' (.dat (sQ own)) (.dat (.str os[n2])) (.dat (sQ q3)) (ps ++ [p]) x3, (seq_nx b1).trans ((seq_nx b2).trans ((seq_nx b3).trans ((seq_nx b4).trans ((seq_nx b5).trans ((seq_nx b6).trans (ap.trans ?_)))))), _, _, _, _, _, _, _, _, _, ps ++ [p], x3, rfl, fun y hy => (List.mem_append.mp hy).elim (hp y) fun z => by rw [List.mem_singleton] at z; subst z; exact hpb, by rw [List.length_append]; rfl⟩
    show Out.nx (⟨_, (ce ++ Cell.lst (ps.map pD) :: x3).set ce.length _, none⟩ : Sg) = Out.nx (⟨_, ce ++ Cell.lst ((ps ++ [p]).map pD) :: x3, none⟩ : Sg)
    rw [mid_set, List.map_append]; rfl
  obtain ⟨S', hf, a, b, c, d, e, f, g, h, i, ps, x, rfl, hps, hl⟩ := forL_invN (ok := fun _ => True) (g := gSet 3) (b := _) I (fun _ _ _ => trivial) ((List.range nm.length).map fun i => .int (i : Nat)) 0 Z0 (fun dd hd j S hj hI => by
      rw [List.length_map, List.length_range] at hj
      obtain ⟨k, hk, rfl⟩ := List.mem_map.mp hd
      have hk := List.mem_range.mp hk
      obtain ⟨a, b, c, d, e, f, g, h, i, ps, x, rfl, hps, hl⟩ := hI
      obtain ⟨S2, s1, s2⟩ := step k a b c d e f g h i ps x hk (by omega) hps
      rw [hl] at s2
      exact ⟨T (.dat (.int (k : Int))) b c d e f g h i ps x, S2, rfl, s1, s2⟩) ⟨_, _, _, _, _, _, _, _, _, [], [], rfl, fun _ h => (by cases h), rfl⟩
  rw [List.length_map, List.length_range] at hl
  exact ⟨ps, x, hps, by omega, by omega, fun_rt (S := T a b c d e f g h i ps x) ((seq_nx a1).trans ((seq_nx a2).trans ((seq_nx (for_ok hr1 hf)).trans (ret_d (var_dat rfl)))))⟩

end RSk32

set_option Elab.async false
set_option linter.all false
set_option maxRecDepth 100000
set_option maxHeartbeats 4000000
namespace RSk32
open PySem PySem.Spec PyProof.Rows L2 RS RPk32
local macro_rules | `(tactic| walk_at "fn") => `(tactic| fail)
local macro_rules | `(tactic| walk_at "ev2") => `(tactic| fail)
local macro_rules | `(tactic| walk_at "ev1") => `(tactic| first
  | (with_reducible exact args_nil) | (with_reducible apply args_cons) | (with_reducible exact toDs_nil) | (with_reducible apply toDs_d)
  | (with_reducible exact c_ok) | ((with_reducible apply var_dat); rfl) | ((with_reducible apply var_own); rfl) | ((with_reducible apply var_exc); rfl)
  | (with_reducible apply op2) | (with_reducible apply tup_ok) | (with_reducible apply lst_ok) | (with_reducible apply call_ok) | (with_reducible apply cb_ok) | (with_reducible apply sl_ok)
  | (with_reducible exact noPart_ok) | (with_reducible apply part_ok) | (with_reducible exact derefs_nil) | (with_reducible apply derefs_cons)
  | ((with_reducible show deref _ (.d _) = some _); rfl) | (with_reducible apply fMul_ok) | (with_reducible apply fDiv_ok) | (with_reducible apply fMod_ok) | (with_reducible apply fAddL)
  | ((with_reducible show fAdd _ _ = some _); rfl) | ((with_reducible show fSub _ _ = some _); rfl) | ((with_reducible show fLt _ _ = some _); rfl) | ((with_reducible show fLe _ _ = some _); rfl) | ((with_reducible show fGt _ _ = some _); rfl) | ((with_reducible show fGe _ _ = some _); rfl)
  | ((with_reducible show fIx _ _ = some _); rfl) | ((with_reducible show fAbs _ = some _); rfl) | ((with_reducible show fInt _ = some _); rfl) | ((with_reducible show fLen _ = some _); rfl) | ((with_reducible show fList _ = some _); rfl) | ((with_reducible show fIs _ _ = some _); rfl) | ((with_reducible show fIsNot _ _ = some _); rfl) | ((with_reducible show fIsi _ = some _); rfl)
  | ((with_reducible show List.length _ ≤ 100000); exact Nat.le_of_ble_eq_true rfl) | ((with_reducible show List.length _ = _); rfl)
  | (with_reducible apply test_bl) | (with_reducible apply not_ok) | walk_at "fn" | walk_at "ev2")
local macro_rules | `(tactic| walk_at "ev") => `(tactic| repeat' walk_at "ev1")
local macro_rules | `(tactic| walk_at "norm") => `(tactic| simp only [List.set_cons_zero, List.set_cons_succ, startL, List.map_cons, List.map_nil, List.length_cons, List.length_nil, List.replicate_succ, List.replicate_zero, List.cons_append, List.nil_append, Nat.reduceAdd, Nat.reduceSub])
open MM (Pr Rv pr2 strB dueP dueR total isIn cg slope POk ROk)
open RP (Bt Bd Sq BL BM Sh domB)
variable {E : En} {ce : List Cell}
theorem ins_loc {o e i : ME} {S S1 S2 S3 : Sg} {L : Nat} {ds : List RD} {d : RD} {n : Nat} (ho : o S = .ok (.d (.loc L)) S1) (hs : S1.ce[L]? = some (.lst ds)) (hi : i S1 = .ok (.d (.int (n : Int))) S2) (he : e S2 = .ok (.d d) S3) (hs3 : S3.ce[L]? = some (.lst ds)) (hl : ds.length < 100000) (hn : n ≤ 1000000000) : mDrop (mBM "list" fInsert o (aCons i (aCons e aNil))) S = .nx { S3 with ce := S3.ce.set L (.lst (ds.take n ++ [d] ++ ds.drop n)) } := by
  refine drop_ok (p := .d .non) ?_
  unfold mBM
  rw [ho, Rr.bind_ok, deref_loc, hs]
  show (if tyD "list" (.lst ds) = true then _ else _) = _
  rw [if_pos (by rfl), args_cons hi (args_cons he args_nil), Rr.bind_ok]
  unfold fInsert
  have hc : cellOf S3 (.d (.loc L)) = some (.lst ds) := hs3
  simp only [toD_d, Rr.bind_ok, hc, if_pos (show ds.length < 100000 ∧ (0 : Int) ≤ (n : Int) ∧ (n : Int) ≤ 1000000000 from ⟨hl, by omega, by omega⟩), Int.toNat_natCast]
  rfl
theorem fAddT {a b : List RD} (h : a.length + b.length ≤ 100000) : fAdd (.tup a) (.tup b) = some (.tup (a ++ b)) := by simp only [fAdd, if_pos h]
def qm : Rat := Rat.divInt (-1) 2
def qc : Rat := Rat.divInt 1 100
def qh : Rat := Rat.divInt 1 2
theorem qm_is : sQ qm = .tup [.int (-1), .int 2] := by rfl
theorem qc_is : sQ qc = .tup [.int 1, .int 100] := by rfl
theorem qh_is : sQ qh = .tup [.int 1, .int 2] := by rfl
theorem qm_b : Bt 3 qm := bt_div (d := 2) (by decide) (by decide) (by decide)
theorem qc_b : Bt 8 qc := bt_div (d := 100) (by decide) (by decide) (by decide)
theorem qh_b : Bt 3 qh := bt_div (d := 2) (by decide) (by decide) (by decide)
/-- the state: products, rivalries, the cell, step, k, j, row -/
def TS (Lp Lr : Nat) (c s k j : Int) (row : RD) (ce : List Cell) : Sg := ⟨[.dat (.loc Lp), .dat (.loc Lr), .dat (.int c), .dat (.int s), .dat (.int k), .dat (.int j), .dat row], ce, none⟩
noncomputable def mBr (E : En) : MS := (mIfS (mTest (mOp (mEq) (mVar 3) (mC (.int 0)))) (mAsg (mOp (lift2 fAdd) (mTup (aCons (mC (.str "Bad")) aNil)) (mSl (mVar 6) (mPart (mC (.int 1))) mNoPart)) (gSet 6)) (mIfS (mTest (mOp (mEq) (mVar 3) (mC (.int 1)))) (mAsg (mOp (lift2 fAdd) (mOp (lift2 fAdd) (mSl (mVar 6) mNoPart (mPart (mC (.int 1)))) (mTup (aCons (mC (.str "")) aNil))) (mSl (mVar 6) (mPart (mC (.int 2))) mNoPart)) (gSet 6)) (mIfS (mTest (mOp (mEq) (mVar 3) (mC (.int 2)))) (mAsg (mOp (lift2 fAdd) (mOp (lift2 fAdd) (mSl (mVar 6) mNoPart (mPart (mC (.int 2)))) (mTup (aCons (mTup (aCons (mC (.int 0)) (aCons (mC (.int 1)) aNil))) aNil))) (mSl (mVar 6) (mPart (mC (.int 3))) mNoPart)) (gSet 6)) (mIfS (mTest (mOp (mEq) (mVar 3) (mC (.int 3)))) (mAsg (mOp (lift2 fAdd) (mSl (mVar 6) mNoPart (mPart (mC (.int 4)))) (mTup (aCons (mTup (aCons (mOp (lift2 fSub) (mC (.int 0)) (mC (.int 1))) (aCons (mC (.int 2)) aNil))) aNil))) (gSet 6)) (mIfS (mTest (mOp (mEq) (mVar 3) (mC (.int 4)))) (mAsg (mOp (lift2 fAdd) (mTup (aCons (mOp (lift2 fIx) (mOp (lift2 fIx) (mVar 0) (mVar 5)) (mC (.int 0))) aNil)) (mSl (mVar 6) (mPart (mC (.int 1))) mNoPart)) (gSet 6)) (mIfS (mTest (mOp (mEq) (mVar 3) (mC (.int 5)))) (mDrop (mBM "list" fInsert (mVar 1) (aCons (mOp (lift2 fMod) (mOp (lift2 fDiv) (mCB (liftL fInt) (aCons (mVar 2) aNil)) (mC (.int 360))) (mOp (lift2 fAdd) (mCB (liftL fLen) (aCons (mVar 1) aNil)) (mC (.int 1)))) (aCons (mTup (aCons (mOp (lift2 fIx) (mVar 6) (mC (.int 0))) (aCons (mC (.str "strange")) (aCons (mTup (aCons (mC (.int 1)) (aCons (mC (.int 2)) aNil))) aNil)))) aNil)))) (mIfS (mTest (mOp (mEq) (mVar 3) (mC (.int 6)))) (mDrop (mBM "list" fInsert (mVar 1) (aCons (mOp (lift2 fMod) (mOp (lift2 fDiv) (mCB (liftL fInt) (aCons (mVar 2) aNil)) (mC (.int 360))) (mOp (lift2 fAdd) (mCB (liftL fLen) (aCons (mVar 1) aNil)) (mC (.int 1)))) (aCons (mTup (aCons (mOp (lift2 fIx) (mVar 6) (mC (.int 0))) (aCons (mOp (lift2 fIx) (mVar 6) (mC (.int 0))) (aCons (mTup (aCons (mC (.int 1)) (aCons (mC (.int 2)) aNil))) aNil)))) aNil)))) (mIfS (mTest (mOp (mEq) (mVar 3) (mC (.int 7)))) (mDrop (mBM "list" fInsert (mVar 1) (aCons (mOp (lift2 fMod) (mOp (lift2 fDiv) (mCB (liftL fInt) (aCons (mVar 2) aNil)) (mC (.int 360))) (mOp (lift2 fAdd) (mCB (liftL fLen) (aCons (mVar 1) aNil)) (mC (.int 1)))) (aCons (mTup (aCons (mOp (lift2 fIx) (mVar 6) (mC (.int 0))) (aCons (mOp (lift2 fIx) (mOp (lift2 fIx) (mVar 0) (mVar 5)) (mC (.int 0))) (aCons (mTup (aCons (mC (.int 1)) (aCons (mC (.int 2)) aNil))) aNil)))) aNil)))) (mIfS (mTest (mOp (mEq) (mVar 3) (mC (.int 8)))) (mDrop (mBM "list" fInsert (mVar 1) (aCons (mOp (lift2 fMod) (mOp (lift2 fDiv) (mCB (liftL fInt) (aCons (mVar 2) aNil)) (mC (.int 360))) (mOp (lift2 fAdd) (mCB (liftL fLen) (aCons (mVar 1) aNil)) (mC (.int 1)))) (aCons (mTup (aCons (mOp (lift2 fIx) (mVar 6) (mC (.int 0))) (aCons (mOp (lift2 fIx) (mOp (lift2 fIx) (mVar 0) (mVar 5)) (mC (.int 0))) (aCons (mTup (aCons (mC (.int 0)) (aCons (mC (.int 1)) aNil))) aNil)))) aNil)))) (mAsg (mOp (lift2 fAdd) (mOp (lift2 fAdd) (mSl (mVar 6) mNoPart (mPart (mC (.int 3)))) (mTup (aCons (mTup (aCons (mC (.int 1)) (aCons (mC (.int 100)) aNil))) aNil))) (mSl (mVar 6) (mPart (mC (.int 4))) mNoPart)) (gSet 6)))))))))))
theorem fSl_tt {ds : List RD} {p : Nat} (h : p ≤ ds.length) : fSl none (some (p : Int)) (.tup ds) = some (.tup (ds.take p)) := by
  show some (RD.tup (cutD ds none (some (p : Int)))) = _
  rw [cut_to h]
theorem fSl_tf {ds : List RD} {p : Nat} (h : p ≤ ds.length) : fSl (some (p : Int)) none (.tup ds) = some (.tup (ds.drop p)) := by
  show some (RD.tup (cutD ds (some (p : Int)) none)) = _
  rw [cut_from rfl h]
theorem pD_ix0 (p : Pr) : fIx (pD p) (.int 0) = some (.str p.name) := rfl
theorem wb_s {w : Str} (h : w.length ≤ 1000 ∧ PyData.strOk w = true) : WordB w := ⟨h.1, h.2⟩
theorem wb_bad : WordB "Bad" := ⟨by decide +kernel, by decide +kernel⟩
theorem wb_nil : WordB "" := ⟨by decide +kernel, by decide +kernel⟩
theorem wb_str : WordB "strange" := ⟨by decide +kernel, by decide +kernel⟩
theorem get_set {L : Nat} {c : Cell} (h : L < ce.length) : (ce.set L c)[L]? = some c := by rw [List.getElem?_set_self h]
theorem set_same {L : Nat} {c : Cell} (h : ce[L]? = some c) : ce.set L c = ce := by
  obtain ⟨h1, h2⟩ := List.getElem?_eq_some_iff.mp h
  rw [← h2]; exact List.set_getElem_self _
theorem ix_pD {ps : List Pr} {j : Nat} (h : j < ps.length) : fIx (.lst (ps.map pD)) (.int (j : Int)) = some (pD ps[j]) := by
  show atI (ps.map pD) (j : Int) = _
  rw [RP.atI_nat' (by rw [List.length_map]; exact h), List.getElem_map]
theorem br_0 {Lp Lr : Nat} {ps : List Pr} {rs : List Rv} {c s : Int} {k j : Nat} (hs : s = 0) (hp : ce[Lp]? = some (.lst (ps.map pD))) (hr : ce[Lr]? = some (.lst (rs.map rD))) (hk : k < ps.length) (hj : j < ps.length) (hb : ∀ p ∈ ps, PrB p) (hrb : ∀ r ∈ rs, RvB r) (hl : rs.length ≤ 50) : ∃ (p' : Pr) (rs' : List Rv), PrB p' ∧ (∀ r ∈ rs', RvB r) ∧ rs'.length ≤ rs.length + 1 ∧ mBr E (TS Lp Lr c s (k : Int) (j : Int) (pD ps[k]) ce) = .nx (TS Lp Lr c s (k : Int) (j : Int) (pD p') (ce.set Lr (.lst (rs'.map rD)))) := by
  subst hs
  let p := ps[k]
  have pb : PrB p := hb _ (List.getElem_mem _)
  have qb : PrB ps[j] := hb _ (List.getElem_mem _)
  let S : Sg := TS Lp Lr c 0 (k : Int) (j : Int) (pD p) ce
  have t : ∀ (i : Int), mTest (mOp mEq (mVar 3) (mC (.int i))) S = .ok (decide ((0 : Int) = i)) S := fun i => test_bl (eq_ok (var_dat rfl) c_ok rfl rfl eqB_int)
  have ee : ((mAsg (mOp (lift2 fAdd) (mTup (aCons (mC (.str "Bad")) aNil)) (mSl (mVar 6) (mPart (mC (.int 1))) mNoPart)) (gSet 6))) S = .nx (TS Lp Lr c 0 (k : Int) (j : Int) (pD ⟨"Bad", p.owner, p.base, p.own, p.cost⟩) ce) := (asg_set (d := pD ⟨"Bad", p.owner, p.base, p.own, p.cost⟩) (ev_is (op2 (S1 := S) (S2 := S) (tup_ok (S1 := S) (S2 := S) (ds := [.str "Bad"]) (args_cons c_ok args_nil) (toDs_d toDs_nil) (Nat.le_of_ble_eq_true rfl)) (sl_ok (S1 := S) (S2 := S) (S3 := S) (x := pD p) (var_dat rfl) (part_ok c_ok) noPart_ok rfl (fSl_tf (p := 1) (Nat.le_of_ble_eq_true rfl))) rfl rfl (fAddT (Nat.le_of_ble_eq_true rfl))) rfl))
  refine ⟨⟨"Bad", p.owner, p.base, p.own, p.cost⟩, rs, ⟨wb_bad.n, pb.o, pb.b1, pb.b2, pb.b3, wb_bad.k⟩, hrb, by omega, ?_⟩
  rw [set_same hr]
  exact (if_t (t 0)).trans (ee)
theorem br_1 {Lp Lr : Nat} {ps : List Pr} {rs : List Rv} {c s : Int} {k j : Nat} (hs : s = 1) (hp : ce[Lp]? = some (.lst (ps.map pD))) (hr : ce[Lr]? = some (.lst (rs.map rD))) (hk : k < ps.length) (hj : j < ps.length) (hb : ∀ p ∈ ps, PrB p) (hrb : ∀ r ∈ rs, RvB r) (hl : rs.length ≤ 50) : ∃ (p' : Pr) (rs' : List Rv), PrB p' ∧ (∀ r ∈ rs', RvB r) ∧ rs'.length ≤ rs.length + 1 ∧ mBr E (TS Lp Lr c s (k : Int) (j : Int) (pD ps[k]) ce) = .nx (TS Lp Lr c s (k : Int) (j : Int) (pD p') (ce.set Lr (.lst (rs'.map rD)))) := by
  subst hs
  let p := ps[k]
  have pb : PrB p := hb _ (List.getElem_mem _)
  have qb : PrB ps[j] := hb _ (List.getElem_mem _)
  let S : Sg := TS Lp Lr c 1 (k : Int) (j : Int) (pD p) ce
  have t : ∀ (i : Int), mTest (mOp mEq (mVar 3) (mC (.int i))) S = .ok (decide ((1 : Int) = i)) S := fun i => test_bl (eq_ok (var_dat rfl) c_ok rfl rfl eqB_int)
  have ee : ((mAsg (mOp (lift2 fAdd) (mOp (lift2 fAdd) (mSl (mVar 6) mNoPart (mPart (mC (.int 1)))) (mTup (aCons (mC (.str "")) aNil))) (mSl (mVar 6) (mPart (mC (.int 2))) mNoPart)) (gSet 6))) S = .nx (TS Lp Lr c 1 (k : Int) (j : Int) (pD ⟨p.name, "", p.base, p.own, p.cost⟩) ce) := (asg_set (d := pD ⟨p.name, "", p.base, p.own, p.cost⟩) (ev_is (op2 (S1 := S) (S2 := S) (op2 (S1 := S) (S2 := S) (sl_ok (S1 := S) (S2 := S) (S3 := S) (x := pD p) (var_dat rfl) noPart_ok (part_ok c_ok) rfl (fSl_tt (p := 1) (Nat.le_of_ble_eq_true rfl))) (tup_ok (S1 := S) (S2 := S) (ds := [.str ""]) (args_cons c_ok args_nil) (toDs_d toDs_nil) (Nat.le_of_ble_eq_true rfl)) rfl rfl (fAddT (Nat.le_of_ble_eq_true rfl))) (sl_ok (S1 := S) (S2 := S) (S3 := S) (x := pD p) (var_dat rfl) (part_ok c_ok) noPart_ok rfl (fSl_tf (p := 2) (Nat.le_of_ble_eq_true rfl))) rfl rfl (fAddT (Nat.le_of_ble_eq_true rfl))) rfl))
  refine ⟨⟨p.name, "", p.base, p.own, p.cost⟩, rs, ⟨pb.n, wb_nil.n, pb.b1, pb.b2, pb.b3, pb.k⟩, hrb, by omega, ?_⟩
  rw [set_same hr]
  exact (if_f (t 0)).trans ((if_t (t 1)).trans (ee))
theorem br_2 {Lp Lr : Nat} {ps : List Pr} {rs : List Rv} {c s : Int} {k j : Nat} (hs : s = 2) (hp : ce[Lp]? = some (.lst (ps.map pD))) (hr : ce[Lr]? = some (.lst (rs.map rD))) (hk : k < ps.length) (hj : j < ps.length) (hb : ∀ p ∈ ps, PrB p) (hrb : ∀ r ∈ rs, RvB r) (hl : rs.length ≤ 50) : ∃ (p' : Pr) (rs' : List Rv), PrB p' ∧ (∀ r ∈ rs', RvB r) ∧ rs'.length ≤ rs.length + 1 ∧ mBr E (TS Lp Lr c s (k : Int) (j : Int) (pD ps[k]) ce) = .nx (TS Lp Lr c s (k : Int) (j : Int) (pD p') (ce.set Lr (.lst (rs'.map rD)))) := by
  subst hs
  let p := ps[k]
  have pb : PrB p := hb _ (List.getElem_mem _)
  have qb : PrB ps[j] := hb _ (List.getElem_mem _)
  let S : Sg := TS Lp Lr c 2 (k : Int) (j : Int) (pD p) ce
  have t : ∀ (i : Int), mTest (mOp mEq (mVar 3) (mC (.int i))) S = .ok (decide ((2 : Int) = i)) S := fun i => test_bl (eq_ok (var_dat rfl) c_ok rfl rfl eqB_int)
  have ee : ((mAsg (mOp (lift2 fAdd) (mOp (lift2 fAdd) (mSl (mVar 6) mNoPart (mPart (mC (.int 2)))) (mTup (aCons (mTup (aCons (mC (.int 0)) (aCons (mC (.int 1)) aNil))) aNil))) (mSl (mVar 6) (mPart (mC (.int 3))) mNoPart)) (gSet 6))) S = .nx (TS Lp Lr c 2 (k : Int) (j : Int) (pD ⟨p.name, p.owner, 0, p.own, p.cost⟩) ce) := (asg_set (d := pD ⟨p.name, p.owner, 0, p.own, p.cost⟩) (ev_is (op2 (S1 := S) (S2 := S) (op2 (S1 := S) (S2 := S) (sl_ok (S1 := S) (S2 := S) (S3 := S) (x := pD p) (var_dat rfl) noPart_ok (part_ok c_ok) rfl (fSl_tt (p := 2) (Nat.le_of_ble_eq_true rfl))) (tup_ok (S1 := S) (S2 := S) (ds := [sQ 0]) (args_cons (tup_ok (S1 := S) (S2 := S) (args_cons c_ok (args_cons c_ok args_nil)) (toDs_d (toDs_d toDs_nil)) (Nat.le_of_ble_eq_true rfl)) args_nil) (toDs_d toDs_nil) (Nat.le_of_ble_eq_true rfl)) rfl rfl (fAddT (Nat.le_of_ble_eq_true rfl))) (sl_ok (S1 := S) (S2 := S) (S3 := S) (x := pD p) (var_dat rfl) (part_ok c_ok) noPart_ok rfl (fSl_tf (p := 3) (Nat.le_of_ble_eq_true rfl))) rfl rfl (fAddT (Nat.le_of_ble_eq_true rfl))) rfl))
  refine ⟨⟨p.name, p.owner, 0, p.own, p.cost⟩, rs, ⟨pb.n, pb.o, RP.bt_zero (by decide), pb.b2, pb.b3, pb.k⟩, hrb, by omega, ?_⟩
  rw [set_same hr]
  exact (if_f (t 0)).trans ((if_f (t 1)).trans ((if_t (t 2)).trans (ee)))
theorem br_3 {Lp Lr : Nat} {ps : List Pr} {rs : List Rv} {c s : Int} {k j : Nat} (hs : s = 3) (hp : ce[Lp]? = some (.lst (ps.map pD))) (hr : ce[Lr]? = some (.lst (rs.map rD))) (hk : k < ps.length) (hj : j < ps.length) (hb : ∀ p ∈ ps, PrB p) (hrb : ∀ r ∈ rs, RvB r) (hl : rs.length ≤ 50) : ∃ (p' : Pr) (rs' : List Rv), PrB p' ∧ (∀ r ∈ rs', RvB r) ∧ rs'.length ≤ rs.length + 1 ∧ mBr E (TS Lp Lr c s (k : Int) (j : Int) (pD ps[k]) ce) = .nx (TS Lp Lr c s (k : Int) (j : Int) (pD p') (ce.set Lr (.lst (rs'.map rD)))) := by
  subst hs
  let p := ps[k]
  have pb : PrB p := hb _ (List.getElem_mem _)
  have qb : PrB ps[j] := hb _ (List.getElem_mem _)
  let S : Sg := TS Lp Lr c 3 (k : Int) (j : Int) (pD p) ce
  have t : ∀ (i : Int), mTest (mOp mEq (mVar 3) (mC (.int i))) S = .ok (decide ((3 : Int) = i)) S := fun i => test_bl (eq_ok (var_dat rfl) c_ok rfl rfl eqB_int)
  have ee : ((mAsg (mOp (lift2 fAdd) (mSl (mVar 6) mNoPart (mPart (mC (.int 4)))) (mTup (aCons (mTup (aCons (mOp (lift2 fSub) (mC (.int 0)) (mC (.int 1))) (aCons (mC (.int 2)) aNil))) aNil))) (gSet 6))) S = .nx (TS Lp Lr c 3 (k : Int) (j : Int) (pD ⟨p.name, p.owner, p.base, p.own, qm⟩) ce) := (asg_set (d := pD ⟨p.name, p.owner, p.base, p.own, qm⟩) (ev_is (op2 (S1 := S) (S2 := S) (sl_ok (S1 := S) (S2 := S) (S3 := S) (x := pD p) (var_dat rfl) noPart_ok (part_ok c_ok) rfl (fSl_tt (p := 4) (Nat.le_of_ble_eq_true rfl))) (tup_ok (S1 := S) (S2 := S) (ds := [sQ qm]) (args_cons (tup_ok (S1 := S) (S2 := S) (args_cons (op2 (z := .int (-1)) (S1 := S) (S2 := S) c_ok c_ok rfl rfl rfl) (args_cons c_ok args_nil)) (toDs_d (toDs_d toDs_nil)) (Nat.le_of_ble_eq_true rfl)) args_nil) (toDs_d toDs_nil) (Nat.le_of_ble_eq_true rfl)) rfl rfl (fAddT (Nat.le_of_ble_eq_true rfl))) rfl))
  refine ⟨⟨p.name, p.owner, p.base, p.own, qm⟩, rs, ⟨pb.n, pb.o, pb.b1, pb.b2, qm_b.mono (by decide), pb.k⟩, hrb, by omega, ?_⟩
  rw [set_same hr]
  exact (if_f (t 0)).trans ((if_f (t 1)).trans ((if_f (t 2)).trans ((if_t (t 3)).trans (ee))))
theorem br_4 {Lp Lr : Nat} {ps : List Pr} {rs : List Rv} {c s : Int} {k j : Nat} (hs : s = 4) (hp : ce[Lp]? = some (.lst (ps.map pD))) (hr : ce[Lr]? = some (.lst (rs.map rD))) (hk : k < ps.length) (hj : j < ps.length) (hb : ∀ p ∈ ps, PrB p) (hrb : ∀ r ∈ rs, RvB r) (hl : rs.length ≤ 50) : ∃ (p' : Pr) (rs' : List Rv), PrB p' ∧ (∀ r ∈ rs', RvB r) ∧ rs'.length ≤ rs.length + 1 ∧ mBr E (TS Lp Lr c s (k : Int) (j : Int) (pD ps[k]) ce) = .nx (TS Lp Lr c s (k : Int) (j : Int) (pD p') (ce.set Lr (.lst (rs'.map rD)))) := by
  subst hs
  let p := ps[k]
  have pb : PrB p := hb _ (List.getElem_mem _)
  have qb : PrB ps[j] := hb _ (List.getElem_mem _)
  let S : Sg := TS Lp Lr c 4 (k : Int) (j : Int) (pD p) ce
  have t : ∀ (i : Int), mTest (mOp mEq (mVar 3) (mC (.int i))) S = .ok (decide ((4 : Int) = i)) S := fun i => test_bl (eq_ok (var_dat rfl) c_ok rfl rfl eqB_int)
  have ee : ((mAsg (mOp (lift2 fAdd) (mTup (aCons (mOp (lift2 fIx) (mOp (lift2 fIx) (mVar 0) (mVar 5)) (mC (.int 0))) aNil)) (mSl (mVar 6) (mPart (mC (.int 1))) mNoPart)) (gSet 6))) S = .nx (TS Lp Lr c 4 (k : Int) (j : Int) (pD ⟨ps[j].name, p.owner, p.base, p.own, p.cost⟩) ce) := (asg_set (d := pD ⟨ps[j].name, p.owner, p.base, p.own, p.cost⟩) (ev_is (op2 (S1 := S) (S2 := S) (tup_ok (S1 := S) (S2 := S) (ds := [.str ps[j].name]) (args_cons (op2 (z := .str ps[j].name) (op2 (z := pD ps[j]) (var_dat rfl) (var_dat rfl) (by rw [deref_loc]; show (ce[Lp]?).map _ = _; rw [hp]; rfl) rfl (ix_pD hj)) c_ok rfl rfl (pD_ix0 _)) args_nil) (toDs_d toDs_nil) (Nat.le_of_ble_eq_true rfl)) (sl_ok (S1 := S) (S2 := S) (S3 := S) (x := pD p) (var_dat rfl) (part_ok c_ok) noPart_ok rfl (fSl_tf (p := 1) (Nat.le_of_ble_eq_true rfl))) rfl rfl (fAddT (Nat.le_of_ble_eq_true rfl))) rfl))
  refine ⟨⟨ps[j].name, p.owner, p.base, p.own, p.cost⟩, rs, ⟨qb.n, pb.o, pb.b1, pb.b2, pb.b3, qb.k⟩, hrb, by omega, ?_⟩
  rw [set_same hr]
  exact (if_f (t 0)).trans ((if_f (t 1)).trans ((if_f (t 2)).trans ((if_f (t 3)).trans ((if_t (t 4)).trans (ee)))))
theorem br_5 {Lp Lr : Nat} {ps : List Pr} {rs : List Rv} {c s : Int} {k j : Nat} (hs : s = 5) (hp : ce[Lp]? = some (.lst (ps.map pD))) (hr : ce[Lr]? = some (.lst (rs.map rD))) (hk : k < ps.length) (hj : j < ps.length) (hb : ∀ p ∈ ps, PrB p) (hrb : ∀ r ∈ rs, RvB r) (hl : rs.length ≤ 50) : ∃ (p' : Pr) (rs' : List Rv), PrB p' ∧ (∀ r ∈ rs', RvB r) ∧ rs'.length ≤ rs.length + 1 ∧ mBr E (TS Lp Lr c s (k : Int) (j : Int) (pD ps[k]) ce) = .nx (TS Lp Lr c s (k : Int) (j : Int) (pD p') (ce.set Lr (.lst (rs'.map rD)))) := by
  subst hs
  let p := ps[k]
  have pb : PrB p := hb _ (List.getElem_mem _)
  have qb : PrB ps[j] := hb _ (List.getElem_mem _)
  let S : Sg := TS Lp Lr c 5 (k : Int) (j : Int) (pD p) ce
  have t : ∀ (i : Int), mTest (mOp mEq (mVar 3) (mC (.int i))) S = .ok (decide ((5 : Int) = i)) S := fun i => test_bl (eq_ok (var_dat rfl) c_ok rfl rfl eqB_int)
  obtain ⟨at', ha, hal⟩ := mod_nat (c / 360) (show (0 : Int) < (rs.length : Int) + 1 by omega)
  have hlen : derefs S [.d (.loc Lr)] = some [.lst (rs.map rD)] := derefs_cons (by rw [deref_loc]; show (ce[Lr]?).map _ = _; rw [hr]; rfl) derefs_nil
  have hi : mOp (lift2 fMod) (mOp (lift2 fDiv) (mCB (liftL fInt) (aCons (mVar 2) aNil)) (mC (.int 360))) (mOp (lift2 fAdd) (mCB (liftL fLen) (aCons (mVar 1) aNil)) (mC (.int 1))) S = .ok (.d (.int (at' : Int))) S :=
    ev_is (op2 (op2 (cb_ok (args_cons (var_dat rfl) args_nil) (derefs_cons rfl derefs_nil) rfl) c_ok rfl rfl (fDiv_ok (okDiv_of (b := 10) (by decide) (by decide) (by decide)))) (op2 (z := .int ((rs.length : Int) + 1)) (cb_ok (d := .int (rs.length : Int)) (args_cons (var_dat rfl) args_nil) hlen (by simp only [fLen, List.length_map])) c_ok rfl rfl rfl) rfl rfl (fMod_ok (by omega))) (by rw [ha])
  let r2 : Rv := ⟨p.name, "strange", qh⟩
  have he : (mTup (aCons (mOp (lift2 fIx) (mVar 6) (mC (.int 0))) (aCons (mC (.str "strange")) (aCons (mTup (aCons (mC (.int 1)) (aCons (mC (.int 2)) aNil))) aNil)))) S = .ok (.d (rD r2)) S := tup_ok (S1 := S) (S2 := S) (args_cons (op2 (z := .str p.name) (var_dat rfl) c_ok rfl rfl (pD_ix0 _)) (args_cons c_ok (args_cons (tup_ok (S1 := S) (S2 := S) (ds := [_, _]) (args_cons (c_ok (d := .int 1)) (args_cons (c_ok (d := .int 2)) args_nil)) (toDs_d (toDs_d toDs_nil)) (Nat.le_of_ble_eq_true rfl)) args_nil))) (toDs_d (toDs_d (toDs_d toDs_nil))) (Nat.le_of_ble_eq_true rfl)
  refine ⟨p, rs.take at' ++ [r2] ++ rs.drop at', pb, fun x hx => ?_, ?_, ?_⟩
  · rcases List.mem_append.mp hx with hx | hx
    · rcases List.mem_append.mp hx with hx | hx
      · exact hrb x (List.mem_of_mem_take hx)
      · rw [List.mem_singleton] at hx; subst hx; exact ⟨pb.n, wb_str.n, qh_b.mono (by decide), pb.k, wb_str.k⟩
    · exact hrb x (List.mem_of_mem_drop hx)
  · rw [List.length_append, List.length_append, List.length_take, List.length_drop]; simp only [List.length_cons, List.length_nil]; omega
  · refine (if_f (t 0)).trans ((if_f (t 1)).trans ((if_f (t 2)).trans ((if_f (t 3)).trans ((if_f (t 4)).trans ((if_t (t 5)).trans (?_))))))
    refine (ins_loc (S := S) (S1 := S) (S2 := S) (S3 := S) (L := Lr) (n := at') (d := rD r2) (var_dat rfl) hr hi he hr (by rw [List.length_map]; omega) (by omega)).trans ?_
    rw [List.map_append, List.map_append, List.map_take, List.map_drop]; rfl
theorem br_6 {Lp Lr : Nat} {ps : List Pr} {rs : List Rv} {c s : Int} {k j : Nat} (hs : s = 6) (hp : ce[Lp]? = some (.lst (ps.map pD))) (hr : ce[Lr]? = some (.lst (rs.map rD))) (hk : k < ps.length) (hj : j < ps.length) (hb : ∀ p ∈ ps, PrB p) (hrb : ∀ r ∈ rs, RvB r) (hl : rs.length ≤ 50) : ∃ (p' : Pr) (rs' : List Rv), PrB p' ∧ (∀ r ∈ rs', RvB r) ∧ rs'.length ≤ rs.length + 1 ∧ mBr E (TS Lp Lr c s (k : Int) (j : Int) (pD ps[k]) ce) = .nx (TS Lp Lr c s (k : Int) (j : Int) (pD p') (ce.set Lr (.lst (rs'.map rD)))) := by
  subst hs
  let p := ps[k]
  have pb : PrB p := hb _ (List.getElem_mem _)
  have qb : PrB ps[j] := hb _ (List.getElem_mem _)
  let S : Sg := TS Lp Lr c 6 (k : Int) (j : Int) (pD p) ce
  have t : ∀ (i : Int), mTest (mOp mEq (mVar 3) (mC (.int i))) S = .ok (decide ((6 : Int) = i)) S := fun i => test_bl (eq_ok (var_dat rfl) c_ok rfl rfl eqB_int)
  obtain ⟨at', ha, hal⟩ := mod_nat (c / 360) (show (0 : Int) < (rs.length : Int) + 1 by omega)
  have hlen : derefs S [.d (.loc Lr)] = some [.lst (rs.map rD)] := derefs_cons (by rw [deref_loc]; show (ce[Lr]?).map _ = _; rw [hr]; rfl) derefs_nil
  have hi : mOp (lift2 fMod) (mOp (lift2 fDiv) (mCB (liftL fInt) (aCons (mVar 2) aNil)) (mC (.int 360))) (mOp (lift2 fAdd) (mCB (liftL fLen) (aCons (mVar 1) aNil)) (mC (.int 1))) S = .ok (.d (.int (at' : Int))) S :=
    ev_is (op2 (op2 (cb_ok (args_cons (var_dat rfl) args_nil) (derefs_cons rfl derefs_nil) rfl) c_ok rfl rfl (fDiv_ok (okDiv_of (b := 10) (by decide) (by decide) (by decide)))) (op2 (z := .int ((rs.length : Int) + 1)) (cb_ok (d := .int (rs.length : Int)) (args_cons (var_dat rfl) args_nil) hlen (by simp only [fLen, List.length_map])) c_ok rfl rfl rfl) rfl rfl (fMod_ok (by omega))) (by rw [ha])
  let r2 : Rv := ⟨p.name, p.name, qh⟩
  have he : (mTup (aCons (mOp (lift2 fIx) (mVar 6) (mC (.int 0))) (aCons (mOp (lift2 fIx) (mVar 6) (mC (.int 0))) (aCons (mTup (aCons (mC (.int 1)) (aCons (mC (.int 2)) aNil))) aNil)))) S = .ok (.d (rD r2)) S := tup_ok (S1 := S) (S2 := S) (args_cons (op2 (z := .str p.name) (var_dat rfl) c_ok rfl rfl (pD_ix0 _)) (args_cons (op2 (z := .str p.name) (var_dat rfl) c_ok rfl rfl (pD_ix0 _)) (args_cons (tup_ok (S1 := S) (S2 := S) (ds := [_, _]) (args_cons (c_ok (d := .int 1)) (args_cons (c_ok (d := .int 2)) args_nil)) (toDs_d (toDs_d toDs_nil)) (Nat.le_of_ble_eq_true rfl)) args_nil))) (toDs_d (toDs_d (toDs_d toDs_nil))) (Nat.le_of_ble_eq_true rfl)
  refine ⟨p, rs.take at' ++ [r2] ++ rs.drop at', pb, fun x hx => ?_, ?_, ?_⟩
  · rcases List.mem_append.mp hx with hx | hx
    · rcases List.mem_append.mp hx with hx | hx
      · exact hrb x (List.mem_of_mem_take hx)
      · rw [List.mem_singleton] at hx; subst hx; exact ⟨pb.n, pb.n, qh_b.mono (by decide), pb.k, pb.k⟩
    · exact hrb x (List.mem_of_mem_drop hx)
  · rw [List.length_append, List.length_append, List.length_take, List.length_drop]; simp only [List.length_cons, List.length_nil]; omega
  · refine (if_f (t 0)).trans ((if_f (t 1)).trans ((if_f (t 2)).trans ((if_f (t 3)).trans ((if_f (t 4)).trans ((if_f (t 5)).trans ((if_t (t 6)).trans (?_)))))))
    refine (ins_loc (S := S) (S1 := S) (S2 := S) (S3 := S) (L := Lr) (n := at') (d := rD r2) (var_dat rfl) hr hi he hr (by rw [List.length_map]; omega) (by omega)).trans ?_
    rw [List.map_append, List.map_append, List.map_take, List.map_drop]; rfl
theorem br_7 {Lp Lr : Nat} {ps : List Pr} {rs : List Rv} {c s : Int} {k j : Nat} (hs : s = 7) (hp : ce[Lp]? = some (.lst (ps.map pD))) (hr : ce[Lr]? = some (.lst (rs.map rD))) (hk : k < ps.length) (hj : j < ps.length) (hb : ∀ p ∈ ps, PrB p) (hrb : ∀ r ∈ rs, RvB r) (hl : rs.length ≤ 50) : ∃ (p' : Pr) (rs' : List Rv), PrB p' ∧ (∀ r ∈ rs', RvB r) ∧ rs'.length ≤ rs.length + 1 ∧ mBr E (TS Lp Lr c s (k : Int) (j : Int) (pD ps[k]) ce) = .nx (TS Lp Lr c s (k : Int) (j : Int) (pD p') (ce.set Lr (.lst (rs'.map rD)))) := by
  subst hs
  let p := ps[k]
  have pb : PrB p := hb _ (List.getElem_mem _)
  have qb : PrB ps[j] := hb _ (List.getElem_mem _)
  let S : Sg := TS Lp Lr c 7 (k : Int) (j : Int) (pD p) ce
  have t : ∀ (i : Int), mTest (mOp mEq (mVar 3) (mC (.int i))) S = .ok (decide ((7 : Int) = i)) S := fun i => test_bl (eq_ok (var_dat rfl) c_ok rfl rfl eqB_int)
  obtain ⟨at', ha, hal⟩ := mod_nat (c / 360) (show (0 : Int) < (rs.length : Int) + 1 by omega)
  have hlen : derefs S [.d (.loc Lr)] = some [.lst (rs.map rD)] := derefs_cons (by rw [deref_loc]; show (ce[Lr]?).map _ = _; rw [hr]; rfl) derefs_nil
  have hi : mOp (lift2 fMod) (mOp (lift2 fDiv) (mCB (liftL fInt) (aCons (mVar 2) aNil)) (mC (.int 360))) (mOp (lift2 fAdd) (mCB (liftL fLen) (aCons (mVar 1) aNil)) (mC (.int 1))) S = .ok (.d (.int (at' : Int))) S :=
    ev_is (op2 (op2 (cb_ok (args_cons (var_dat rfl) args_nil) (derefs_cons rfl derefs_nil) rfl) c_ok rfl rfl (fDiv_ok (okDiv_of (b := 10) (by decide) (by decide) (by decide)))) (op2 (z := .int ((rs.length : Int) + 1)) (cb_ok (d := .int (rs.length : Int)) (args_cons (var_dat rfl) args_nil) hlen (by simp only [fLen, List.length_map])) c_ok rfl rfl rfl) rfl rfl (fMod_ok (by omega))) (by rw [ha])
  let r2 : Rv := ⟨p.name, ps[j].name, qh⟩
  have he : (mTup (aCons (mOp (lift2 fIx) (mVar 6) (mC (.int 0))) (aCons (mOp (lift2 fIx) (mOp (lift2 fIx) (mVar 0) (mVar 5)) (mC (.int 0))) (aCons (mTup (aCons (mC (.int 1)) (aCons (mC (.int 2)) aNil))) aNil)))) S = .ok (.d (rD r2)) S := tup_ok (S1 := S) (S2 := S) (args_cons (op2 (z := .str p.name) (var_dat rfl) c_ok rfl rfl (pD_ix0 _)) (args_cons (op2 (z := .str ps[j].name) (op2 (z := pD ps[j]) (var_dat rfl) (var_dat rfl) (by rw [deref_loc]; show (ce[Lp]?).map _ = _; rw [hp]; rfl) rfl (ix_pD hj)) c_ok rfl rfl (pD_ix0 _)) (args_cons (tup_ok (S1 := S) (S2 := S) (ds := [_, _]) (args_cons (c_ok (d := .int 1)) (args_cons (c_ok (d := .int 2)) args_nil)) (toDs_d (toDs_d toDs_nil)) (Nat.le_of_ble_eq_true rfl)) args_nil))) (toDs_d (toDs_d (toDs_d toDs_nil))) (Nat.le_of_ble_eq_true rfl)
  refine ⟨p, rs.take at' ++ [r2] ++ rs.drop at', pb, fun x hx => ?_, ?_, ?_⟩
  · rcases List.mem_append.mp hx with hx | hx
    · rcases List.mem_append.mp hx with hx | hx
      · exact hrb x (List.mem_of_mem_take hx)
      · rw [List.mem_singleton] at hx; subst hx; exact ⟨pb.n, qb.n, qh_b.mono (by decide), pb.k, qb.k⟩
    · exact hrb x (List.mem_of_mem_drop hx)
  · rw [List.length_append, List.length_append, List.length_take, List.length_drop]; simp only [List.length_cons, List.length_nil]; omega
  · refine (if_f (t 0)).trans ((if_f (t 1)).trans ((if_f (t 2)).trans ((if_f (t 3)).trans ((if_f (t 4)).trans ((if_f (t 5)).trans ((if_f (t 6)).trans ((if_t (t 7)).trans (?_))))))))
    refine (ins_loc (S := S) (S1 := S) (S2 := S) (S3 := S) (L := Lr) (n := at') (d := rD r2) (var_dat rfl) hr hi he hr (by rw [List.length_map]; omega) (by omega)).trans ?_
    rw [List.map_append, List.map_append, List.map_take, List.map_drop]; rfl
theorem br_8 {Lp Lr : Nat} {ps : List Pr} {rs : List Rv} {c s : Int} {k j : Nat} (hs : s = 8) (hp : ce[Lp]? = some (.lst (ps.map pD))) (hr : ce[Lr]? = some (.lst (rs.map rD))) (hk : k < ps.length) (hj : j < ps.length) (hb : ∀ p ∈ ps, PrB p) (hrb : ∀ r ∈ rs, RvB r) (hl : rs.length ≤ 50) : ∃ (p' : Pr) (rs' : List Rv), PrB p' ∧ (∀ r ∈ rs', RvB r) ∧ rs'.length ≤ rs.length + 1 ∧ mBr E (TS Lp Lr c s (k : Int) (j : Int) (pD ps[k]) ce) = .nx (TS Lp Lr c s (k : Int) (j : Int) (pD p') (ce.set Lr (.lst (rs'.map rD)))) := by
  subst hs
  let p := ps[k]
  have pb : PrB p := hb _ (List.getElem_mem _)
  have qb : PrB ps[j] := hb _ (List.getElem_mem _)
  let S : Sg := TS Lp Lr c 8 (k : Int) (j : Int) (pD p) ce
  have t : ∀ (i : Int), mTest (mOp mEq (mVar 3) (mC (.int i))) S = .ok (decide ((8 : Int) = i)) S := fun i => test_bl (eq_ok (var_dat rfl) c_ok rfl rfl eqB_int)
  obtain ⟨at', ha, hal⟩ := mod_nat (c / 360) (show (0 : Int) < (rs.length : Int) + 1 by omega)
  have hlen : derefs S [.d (.loc Lr)] = some [.lst (rs.map rD)] := derefs_cons (by rw [deref_loc]; show (ce[Lr]?).map _ = _; rw [hr]; rfl) derefs_nil
  have hi : mOp (lift2 fMod) (mOp (lift2 fDiv) (mCB (liftL fInt) (aCons (mVar 2) aNil)) (mC (.int 360))) (mOp (lift2 fAdd) (mCB (liftL fLen) (aCons (mVar 1) aNil)) (mC (.int 1))) S = .ok (.d (.int (at' : Int))) S :=
    ev_is (op2 (op2 (cb_ok (args_cons (var_dat rfl) args_nil) (derefs_cons rfl derefs_nil) rfl) c_ok rfl rfl (fDiv_ok (okDiv_of (b := 10) (by decide) (by decide) (by decide)))) (op2 (z := .int ((rs.length : Int) + 1)) (cb_ok (d := .int (rs.length : Int)) (args_cons (var_dat rfl) args_nil) hlen (by simp only [fLen, List.length_map])) c_ok rfl rfl rfl) rfl rfl (fMod_ok (by omega))) (by rw [ha])
  let r2 : Rv := ⟨p.name, ps[j].name, 0⟩
  have he : (mTup (aCons (mOp (lift2 fIx) (mVar 6) (mC (.int 0))) (aCons (mOp (lift2 fIx) (mOp (lift2 fIx) (mVar 0) (mVar 5)) (mC (.int 0))) (aCons (mTup (aCons (mC (.int 0)) (aCons (mC (.int 1)) aNil))) aNil)))) S = .ok (.d (rD r2)) S := tup_ok (S1 := S) (S2 := S) (args_cons (op2 (z := .str p.name) (var_dat rfl) c_ok rfl rfl (pD_ix0 _)) (args_cons (op2 (z := .str ps[j].name) (op2 (z := pD ps[j]) (var_dat rfl) (var_dat rfl) (by rw [deref_loc]; show (ce[Lp]?).map _ = _; rw [hp]; rfl) rfl (ix_pD hj)) c_ok rfl rfl (pD_ix0 _)) (args_cons (tup_ok (S1 := S) (S2 := S) (ds := [_, _]) (args_cons (c_ok (d := .int 0)) (args_cons (c_ok (d := .int 1)) args_nil)) (toDs_d (toDs_d toDs_nil)) (Nat.le_of_ble_eq_true rfl)) args_nil))) (toDs_d (toDs_d (toDs_d toDs_nil))) (Nat.le_of_ble_eq_true rfl)
  refine ⟨p, rs.take at' ++ [r2] ++ rs.drop at', pb, fun x hx => ?_, ?_, ?_⟩
  · rcases List.mem_append.mp hx with hx | hx
    · rcases List.mem_append.mp hx with hx | hx
      · exact hrb x (List.mem_of_mem_take hx)
      · rw [List.mem_singleton] at hx; subst hx; exact ⟨pb.n, qb.n, RP.bt_zero (by decide), pb.k, qb.k⟩
    · exact hrb x (List.mem_of_mem_drop hx)
  · rw [List.length_append, List.length_append, List.length_take, List.length_drop]; simp only [List.length_cons, List.length_nil]; omega
  · refine (if_f (t 0)).trans ((if_f (t 1)).trans ((if_f (t 2)).trans ((if_f (t 3)).trans ((if_f (t 4)).trans ((if_f (t 5)).trans ((if_f (t 6)).trans ((if_f (t 7)).trans ((if_t (t 8)).trans (?_)))))))))
    refine (ins_loc (S := S) (S1 := S) (S2 := S) (S3 := S) (L := Lr) (n := at') (d := rD r2) (var_dat rfl) hr hi he hr (by rw [List.length_map]; omega) (by omega)).trans ?_
    rw [List.map_append, List.map_append, List.map_take, List.map_drop]; rfl
theorem br_9 {Lp Lr : Nat} {ps : List Pr} {rs : List Rv} {c s : Int} {k j : Nat} (hs : s = 9) (hp : ce[Lp]? = some (.lst (ps.map pD))) (hr : ce[Lr]? = some (.lst (rs.map rD))) (hk : k < ps.length) (hj : j < ps.length) (hb : ∀ p ∈ ps, PrB p) (hrb : ∀ r ∈ rs, RvB r) (hl : rs.length ≤ 50) : ∃ (p' : Pr) (rs' : List Rv), PrB p' ∧ (∀ r ∈ rs', RvB r) ∧ rs'.length ≤ rs.length + 1 ∧ mBr E (TS Lp Lr c s (k : Int) (j : Int) (pD ps[k]) ce) = .nx (TS Lp Lr c s (k : Int) (j : Int) (pD p') (ce.set Lr (.lst (rs'.map rD)))) := by
  subst hs
  let p := ps[k]
  have pb : PrB p := hb _ (List.getElem_mem _)
  have qb : PrB ps[j] := hb _ (List.getElem_mem _)
  let S : Sg := TS Lp Lr c 9 (k : Int) (j : Int) (pD p) ce
  have t : ∀ (i : Int), mTest (mOp mEq (mVar 3) (mC (.int i))) S = .ok (decide ((9 : Int) = i)) S := fun i => test_bl (eq_ok (var_dat rfl) c_ok rfl rfl eqB_int)
  have ee : ((mAsg (mOp (lift2 fAdd) (mOp (lift2 fAdd) (mSl (mVar 6) mNoPart (mPart (mC (.int 3)))) (mTup (aCons (mTup (aCons (mC (.int 1)) (aCons (mC (.int 100)) aNil))) aNil))) (mSl (mVar 6) (mPart (mC (.int 4))) mNoPart)) (gSet 6))) S = .nx (TS Lp Lr c 9 (k : Int) (j : Int) (pD ⟨p.name, p.owner, p.base, qc, p.cost⟩) ce) := (asg_set (d := pD ⟨p.name, p.owner, p.base, qc, p.cost⟩) (ev_is (op2 (S1 := S) (S2 := S) (op2 (S1 := S) (S2 := S) (sl_ok (S1 := S) (S2 := S) (S3 := S) (x := pD p) (var_dat rfl) noPart_ok (part_ok c_ok) rfl (fSl_tt (p := 3) (Nat.le_of_ble_eq_true rfl))) (tup_ok (S1 := S) (S2 := S) (ds := [sQ qc]) (args_cons (tup_ok (S1 := S) (S2 := S) (args_cons c_ok (args_cons c_ok args_nil)) (toDs_d (toDs_d toDs_nil)) (Nat.le_of_ble_eq_true rfl)) args_nil) (toDs_d toDs_nil) (Nat.le_of_ble_eq_true rfl)) rfl rfl (fAddT (Nat.le_of_ble_eq_true rfl))) (sl_ok (S1 := S) (S2 := S) (S3 := S) (x := pD p) (var_dat rfl) (part_ok c_ok) noPart_ok rfl (fSl_tf (p := 4) (Nat.le_of_ble_eq_true rfl))) rfl rfl (fAddT (Nat.le_of_ble_eq_true rfl))) rfl))
  refine ⟨⟨p.name, p.owner, p.base, qc, p.cost⟩, rs, ⟨pb.n, pb.o, pb.b1, qc_b.mono (by decide), pb.b3, pb.k⟩, hrb, by omega, ?_⟩
  rw [set_same hr]
  exact (if_f (t 0)).trans ((if_f (t 1)).trans ((if_f (t 2)).trans ((if_f (t 3)).trans ((if_f (t 4)).trans ((if_f (t 5)).trans ((if_f (t 6)).trans ((if_f (t 7)).trans ((if_f (t 8)).trans (ee)))))))))
theorem ev_spoil {Lp Lr : Nat} {ps : List Pr} {rs : List Rv} {c : Int} (hne : Lp ≠ Lr) (hp : ce[Lp]? = some (.lst (ps.map pD))) (hr : ce[Lr]? = some (.lst (rs.map rD))) (h1 : 1 ≤ ps.length) (h6 : ps.length ≤ 6) (hb : ∀ p ∈ ps, PrB p) (hrb : ∀ r ∈ rs, RvB r) (hl : rs.length ≤ 50) : ∃ (ps' : List Pr) (rs' : List Rv) (ce' : List Cell), ce'[Lp]? = some (.lst (ps'.map pD)) ∧ ce'[Lr]? = some (.lst (rs'.map rD)) ∧ (∀ p ∈ ps', PrB p) ∧ (∀ r ∈ rs', RvB r) ∧ ps'.length = ps.length ∧ rs'.length ≤ rs.length + 1 ∧ f_law_spoil E [.loc Lp, .loc Lr, .int c] ce = .ok .non ce' := by
  obtain ⟨k, hk, hkl⟩ := mod_nat (c / 10) (show (0 : Int) < (ps.length : Int) by omega)
  obtain ⟨j, hj, hjl⟩ := mod_nat (c / 60) (show (0 : Int) < (ps.length : Int) by omega)
  have hk' : k < ps.length := by omega
  have hj' : j < ps.length := by omega
  have hs0 := Int.emod_nonneg c (show (10 : Int) ≠ 0 by decide)
  have hs1 := Int.emod_lt_of_pos c (show (0 : Int) < 10 by decide)
  have hbr : ∃ (p' : Pr) (rs' : List Rv), PrB p' ∧ (∀ r ∈ rs', RvB r) ∧ rs'.length ≤ rs.length + 1 ∧ mBr E (TS Lp Lr c (c % 10) (k : Int) (j : Int) (pD ps[k]) ce) = .nx (TS Lp Lr c (c % 10) (k : Int) (j : Int) (pD p') (ce.set Lr (.lst (rs'.map rD)))) := by
    have hcase : c % 10 = 0 ∨ c % 10 = 1 ∨ c % 10 = 2 ∨ c % 10 = 3 ∨ c % 10 = 4 ∨ c % 10 = 5 ∨ c % 10 = 6 ∨ c % 10 = 7 ∨ c % 10 = 8 ∨ c % 10 = 9 := by omega
    rcases hcase with h | h | h | h | h | h | h | h | h | h
    · exact br_0 h hp hr hk' hj' hb hrb hl
    · exact br_1 h hp hr hk' hj' hb hrb hl
    · exact br_2 h hp hr hk' hj' hb hrb hl
    · exact br_3 h hp hr hk' hj' hb hrb hl
    · exact br_4 h hp hr hk' hj' hb hrb hl
    · exact br_5 h hp hr hk' hj' hb hrb hl
    · exact br_6 h hp hr hk' hj' hb hrb hl
    · exact br_7 h hp hr hk' hj' hb hrb hl
    · exact br_8 h hp hr hk' hj' hb hrb hl
    · exact br_9 h hp hr hk' hj' hb hrb hl
  obtain ⟨p', rs', b1, b2, b3, b4⟩ := hbr
  have Llt : Lr < ce.length := (List.getElem?_eq_some_iff.mp hr).1
  let T : SV → SV → SV → SV → Sg := fun a b d e => ⟨[.dat (.loc Lp), .dat (.loc Lr), .dat (.int c), a, b, d, e], ce, none⟩
  have ci : ∀ a b d e, mCB (liftL fInt) (aCons (mVar 2) aNil) (T a b d e) = .ok (.d (.int c)) (T a b d e) := fun _ _ _ _ => cb_ok (args_cons (var_dat rfl) args_nil) (derefs_cons rfl derefs_nil) rfl
  have dp : ∀ a b d e, deref (T a b d e) (.d (.loc Lp)) = some (.lst (ps.map pD)) := fun a b d e => by rw [deref_loc]; show (ce[Lp]?).map _ = _; rw [hp]; rfl
  have ln : ∀ a b d e, mCB (liftL fLen) (aCons (mVar 0) aNil) (T a b d e) = .ok (.d (.int (ps.length : Int))) (T a b d e) := fun a b d e => cb_ok (args_cons (var_dat rfl) args_nil) (derefs_cons (dp _ _ _ _) derefs_nil) (by simp only [fLen, List.length_map])
  have a1 : mAsg (mOp (lift2 fMod) (mCB (liftL fInt) (aCons (mVar 2) aNil)) (mC (.int 10))) (gSet 3) (T .un .un .un .un) = .nx (T (.dat (.int (c % 10))) .un .un .un) := asg_set (op2 (ci _ _ _ _) c_ok rfl rfl (fMod_ok (by decide)))
  have a2 : mAsg (mOp (lift2 fMod) (mOp (lift2 fDiv) (mCB (liftL fInt) (aCons (mVar 2) aNil)) (mC (.int 10))) (mCB (liftL fLen) (aCons (mVar 0) aNil))) (gSet 4) (T (.dat (.int (c % 10))) .un .un .un) = .nx (T (.dat (.int (c % 10))) (.dat (.int (k : Int))) .un .un) := asg_set (ev_is (op2 (op2 (ci _ _ _ _) c_ok rfl rfl (fDiv_ok (okDiv_of (b := 10) (by decide) (by decide) (by decide)))) (ln _ _ _ _) rfl rfl (fMod_ok (by omega))) (by rw [hk]))
  have a3 : mAsg (mOp (lift2 fMod) (mOp (lift2 fDiv) (mCB (liftL fInt) (aCons (mVar 2) aNil)) (mC (.int 60))) (mCB (liftL fLen) (aCons (mVar 0) aNil))) (gSet 5) (T (.dat (.int (c % 10))) (.dat (.int (k : Int))) .un .un) = .nx (T (.dat (.int (c % 10))) (.dat (.int (k : Int))) (.dat (.int (j : Int))) .un) := asg_set (ev_is (op2 (op2 (ci _ _ _ _) c_ok rfl rfl (fDiv_ok (okDiv_of (b := 10) (by decide) (by decide) (by decide)))) (ln _ _ _ _) rfl rfl (fMod_ok (by omega))) (by rw [hj]))
  have a4 : mAsg (mOp (lift2 fIx) (mVar 0) (mVar 4)) (gSet 6) (T (.dat (.int (c % 10))) (.dat (.int (k : Int))) (.dat (.int (j : Int))) .un) = .nx (TS Lp Lr c (c % 10) (k : Int) (j : Int) (pD ps[k]) ce) := asg_set (op2 (z := pD ps[k]) (var_dat rfl) (var_dat rfl) (dp _ _ _ _) rfl (ix_pD hk'))
  let ce1 : List Cell := ce.set Lr (.lst (rs'.map rD))
  have hp1 : ce1[Lp]? = some (.lst (ps.map pD)) := by show (ce.set Lr _)[Lp]? = _; rw [List.getElem?_set_ne (fun z => hne z.symm)]; exact hp
  have hr1 : ce1[Lr]? = some (.lst (rs'.map rD)) := get_set Llt
  have pl1 : Lp < ce1.length := (List.getElem?_eq_some_iff.mp hp1).1
  have a5 := set_loc (S := TS Lp Lr c (c % 10) (k : Int) (j : Int) (pD p') ce1) (S1 := TS Lp Lr c (c % 10) (k : Int) (j : Int) (pD p') ce1) (S2 := TS Lp Lr c (c % 10) (k : Int) (j : Int) (pD p') ce1) (S3 := TS Lp Lr c (c % 10) (k : Int) (j : Int) (pD p') ce1) (e := mVar 6) (o := mVar 0) (i := mVar 4) (L := Lp) (n := (k : Int)) (j := k) (d := pD p') (ds := ps.map pD) (var_dat rfl) (var_dat rfl) (var_dat rfl) hp1 (ixN_nat (by rw [List.length_map]; exact hk'))
  refine ⟨ps.set k p', rs', ce1.set Lp (.lst ((ps.set k p').map pD)), get_set pl1, ?_, fun p hp => ?_, b2, List.length_set, b3, ?_⟩
  · rw [List.getElem?_set_ne hne]; exact hr1
  · rcases List.mem_or_eq_of_mem_set hp with h | h
    · exact hb p h
    · rw [h]; exact b1
  · have := fun_nx (n := 7) (m := m_law_spoil E) (ds := [.loc Lp, .loc Lr, .int c]) (ce := ce) ((seq_nx a1).trans ((seq_nx a2).trans ((seq_nx a3).trans ((seq_nx a4).trans ((seq_nx b4).trans a5)))))
    rw [List.map_set]
    exact this

end RSk32

set_option Elab.async false
set_option linter.all false
set_option maxRecDepth 100000
set_option maxHeartbeats 4000000
namespace RSk32
open PySem PySem.Spec PyProof.Rows L2 RS RPk32
local macro_rules | `(tactic| walk_at "fn") => `(tactic| fail)
local macro_rules | `(tactic| walk_at "ev2") => `(tactic| fail)
local macro_rules | `(tactic| walk_at "ev1") => `(tactic| first
  | (with_reducible exact args_nil) | (with_reducible apply args_cons) | (with_reducible exact toDs_nil) | (with_reducible apply toDs_d)
  | (with_reducible exact c_ok) | ((with_reducible apply var_dat); rfl) | ((with_reducible apply var_own); rfl) | ((with_reducible apply var_exc); rfl)
  | (with_reducible apply op2) | (with_reducible apply tup_ok) | (with_reducible apply lst_ok) | (with_reducible apply call_ok) | (with_reducible apply cb_ok) | (with_reducible apply sl_ok)
  | (with_reducible exact noPart_ok) | (with_reducible apply part_ok) | (with_reducible exact derefs_nil) | (with_reducible apply derefs_cons)
  | ((with_reducible show deref _ (.d _) = some _); rfl) | (with_reducible apply fMul_ok) | (with_reducible apply fDiv_ok) | (with_reducible apply fMod_ok) | (with_reducible apply fAddL)
  | ((with_reducible show fAdd _ _ = some _); rfl) | ((with_reducible show fSub _ _ = some _); rfl) | ((with_reducible show fLt _ _ = some _); rfl) | ((with_reducible show fLe _ _ = some _); rfl) | ((with_reducible show fGt _ _ = some _); rfl) | ((with_reducible show fGe _ _ = some _); rfl)
  | ((with_reducible show fIx _ _ = some _); rfl) | ((with_reducible show fAbs _ = some _); rfl) | ((with_reducible show fInt _ = some _); rfl) | ((with_reducible show fLen _ = some _); rfl) | ((with_reducible show fList _ = some _); rfl) | ((with_reducible show fIs _ _ = some _); rfl) | ((with_reducible show fIsNot _ _ = some _); rfl) | ((with_reducible show fIsi _ = some _); rfl)
  | ((with_reducible show List.length _ ≤ 100000); exact Nat.le_of_ble_eq_true rfl) | ((with_reducible show List.length _ = _); rfl)
  | (with_reducible apply test_bl) | (with_reducible apply not_ok) | walk_at "fn" | walk_at "ev2")
local macro_rules | `(tactic| walk_at "ev") => `(tactic| repeat' walk_at "ev1")
local macro_rules | `(tactic| walk_at "norm") => `(tactic| simp only [List.set_cons_zero, List.set_cons_succ, startL, List.map_cons, List.map_nil, List.length_cons, List.length_nil, List.replicate_succ, List.replicate_zero, List.cons_append, List.nil_append, Nat.reduceAdd, Nat.reduceSub])
open MM (Pr Rv pr2 strB dueP dueR total isIn cg slope POk ROk)
open RP (Bt Bd Sq BL BM Sh domB)
variable {E : En} {ce : List Cell}
theorem mem4 {d : RD} (h : d ∈ ([.int 12, .int 15, .int 18, .int 21] : List RD)) : ∃ k : Nat, d = .int (k : Int) ∧ k ≤ 30 := by
  simp only [List.mem_cons, List.mem_nil_iff, or_false] at h
  rcases h with rfl | rfl | rfl | rfl
  · exact ⟨12, rfl, by decide⟩
  · exact ⟨15, rfl, by decide⟩
  · exact ⟨18, rfl, by decide⟩
  · exact ⟨21, rfl, by decide⟩
theorem erS_str (o : Option String) : ∃ s : Str, erS o = .str s := by cases o <;> exact ⟨_, rfl⟩
theorem law_true (E : En) (ns : List Int) (hn : ns.length ≤ 100) : ∃ ce, f_law E [.scr ns] [] = .ok (.bl true) ce := by
  let T : SV → SV → SV → SV → List Cell → Sg := fun a b c d ce => ⟨[.dat (.scr ns), a, b, c, d], ce, none⟩
  let Z0 : Sg := T .un .un .un .un []
  have hit : mIter (mTup (aCons (mC (.int 12)) (aCons (mC (.int 15)) (aCons (mC (.int 18)) (aCons (mC (.int 21)) aNil))))) Z0 = .ok ⟨[.int 12, .int 15, .int 18, .int 21], fun _ => True⟩ Z0 := iter_tup (tup_ok (args_cons c_ok (args_cons c_ok (args_cons c_ok (args_cons c_ok args_nil)))) (toDs_d (toDs_d (toDs_d (toDs_d toDs_nil)))) (Nat.le_of_ble_eq_true rfl))
  let I : Sg → Prop := fun S => ∃ a b c d ce, S = T a b c d ce
  obtain ⟨S', hf, a, b, c, d, ce, rfl⟩ := forL_inv (ok := fun _ => True) (g := gSet 1) (b := mSeq (mAsg (mCall 1 (f_law_products E) [] (aCons (mVar 0) aNil)) (gSet 2))
    (mSeq (mAsg (mCall 1 (f_law_rivalries E) [] (aCons (mVar 0) aNil)) (gSet 3))
    (mSeq (mFor (mRange1 (aCons (mOp (lift2 fAdd) (mC (.int 2)) (mOp (lift2 fMod) (mCall 2 (f_law_cell E) [] (aCons (mVar 0) (aCons (mVar 1) aNil))) (mC (.int 2)))) aNil)) (gSet 4) (mDrop (mCall 3 (f_law_spoil E) [] (aCons (mVar 2) (aCons (mVar 3) (aCons (mOp (lift2 fDiv) (mCall 2 (f_law_cell E) [] (aCons (mVar 0) (aCons (mOp (lift2 fAdd) (mVar 1) (mVar 4)) aNil))) (mC (.int 2))) aNil))))))
    (mIfS (mTest (mOp (mNe) (mCall 2 (f_law_error E) [] (aCons (mVar 2) (aCons (mVar 3) aNil))) (mCall 2 (f_law_due E) [] (aCons (mVar 2) (aCons (mVar 3) aNil))))) (mRet (mC (.bl false))) mNext)))) I (fun _ _ => trivial) [.int 12, .int 15, .int 18, .int 21] Z0 (fun dd hd S hI => by
      obtain ⟨k, rfl, hk⟩ := mem4 hd
      obtain ⟨a, b, c, d, ce, rfl⟩ := hI
      let S1 : Sg := T (.dat (.int (k : Int))) b c d ce
      obtain ⟨ps, x, hps, h1, h6, hpr⟩ := ev_products (E := E) ns ce
      let ce2 : List Cell := ce ++ .lst (ps.map pD) :: x
      let S2 : Sg := T (.dat (.int (k : Int))) (.dat (.loc ce.length)) c d ce2
      have b1 : mAsg (mCall 1 (f_law_products E) [] (aCons (mVar 0) aNil)) (gSet 2) S1 = .nx S2 := asg_set (call_ok (S1 := S1) (S2 := S1) (args_cons (var_dat rfl) args_nil) (toDs_d toDs_nil) rfl hpr)
      obtain ⟨rs, hrl, hl36, hrv⟩ := ev_rivalries (E := E) ns ce2
      let ce3 : List Cell := ce2 ++ [.lst (rs.map rD)]
      let Lr : Nat := ce2.length
      let S3 : Sg := T (.dat (.int (k : Int))) (.dat (.loc ce.length)) (.dat (.loc Lr)) d ce3
      have b2 : mAsg (mCall 1 (f_law_rivalries E) [] (aCons (mVar 0) aNil)) (gSet 3) S2 = .nx S3 := asg_set (call_ok (S1 := S2) (S2 := S2) (args_cons (var_dat rfl) args_nil) (toDs_d toDs_nil) rfl hrv)
      have hne : ce.length ≠ Lr := by show ce.length ≠ (ce ++ Cell.lst (ps.map pD) :: x).length; rw [List.length_append, List.length_cons]; omega
      have hp3 : ce3[ce.length]? = some (.lst (ps.map pD)) := app_lt mid_at
      have hr3 : ce3[Lr]? = some (.lst (rs.map rD)) := app_at
      obtain ⟨m, hm, hm2⟩ := mod_nat (lawC ns k) (show (0 : Int) < 2 by decide)
      let J : Nat → Sg → Prop := fun i S => ∃ (d : SV) (ps : List Pr) (rs : List Rv) (ce4 : List Cell), S = T (.dat (.int (k : Int))) (.dat (.loc ce.length)) (.dat (.loc Lr)) d ce4 ∧ ce4[ce.length]? = some (.lst (ps.map pD)) ∧ ce4[Lr]? = some (.lst (rs.map rD)) ∧ (∀ p ∈ ps, PrB p) ∧ (∀ r ∈ rs, RvB r) ∧ 1 ≤ ps.length ∧ ps.length ≤ 6 ∧ rs.length ≤ 36 + i
      obtain ⟨S4, hf4, d4, ps4, rs4, ce4, rfl, j1, j2, j3, j4, j5, j6, j7⟩ := forL_invN (ok := fun _ => True) (g := gSet 4) (b := mDrop (mCall 3 (f_law_spoil E) [] (aCons (mVar 2) (aCons (mVar 3) (aCons (mOp (lift2 fDiv) (mCall 2 (f_law_cell E) [] (aCons (mVar 0) (aCons (mOp (lift2 fAdd) (mVar 1) (mVar 4)) aNil))) (mC (.int 2))) aNil))))) J (fun _ _ _ => trivial) ((List.range (2 + m)).map fun i => .int (i : Nat)) 0 S3 (fun dd hd i S hi hJ => by
          rw [List.length_map, List.length_range] at hi
          obtain ⟨q, hq, rfl⟩ := List.mem_map.mp hd
          have hq := List.mem_range.mp hq
          obtain ⟨d, ps, rs, ce4, rfl, j1, j2, j3, j4, j5, j6, j7⟩ := hJ
          obtain ⟨ps', rs', ce', e1, e2, e3, e4, e5, e6, e7⟩ := ev_spoil (E := E) (c := lawC ns (k + q) / 2) hne j1 j2 j5 j6 j3 j4 (by omega)
          let S5 : Sg := T (.dat (.int (k : Int))) (.dat (.loc ce.length)) (.dat (.loc Lr)) (.dat (.int (q : Int))) ce4
          have hc : mOp (lift2 fDiv) (mCall 2 (f_law_cell E) [] (aCons (mVar 0) (aCons (mOp (lift2 fAdd) (mVar 1) (mVar 4)) aNil))) (mC (.int 2)) S5 = .ok (.d (.int (lawC ns (k + q) / 2))) S5 := op2 (call_ok (S1 := S5) (S2 := S5) (args_cons (var_dat rfl) (args_cons (op2 (var_dat rfl) (var_dat rfl) rfl rfl rfl) args_nil)) (toDs_d (toDs_d toDs_nil)) rfl (ev_cell (k := k + q) (by omega) (by omega))) c_ok rfl rfl (fDiv_ok (okDiv_of (b := 10) (by decide) (by decide) (by decide)))
          exact ⟨S5, T (.dat (.int (k : Int))) (.dat (.loc ce.length)) (.dat (.loc Lr)) (.dat (.int (q : Int))) ce', rfl, drop_ok (call_ok (S1 := S5) (S2 := S5) (args_cons (var_dat rfl) (args_cons (var_dat rfl) (args_cons hc args_nil))) (toDs_d (toDs_d (toDs_d toDs_nil))) rfl e7), _, ps', rs', ce', rfl, e1, e2, e3, e4, by omega, by omega, by omega⟩) ⟨d, ps, rs, ce3, rfl, hp3, hr3, hps, hrl.b, h1, h6, by omega⟩
      rw [List.length_map, List.length_range] at j7
      have hr1 : mRange1 (aCons (mOp (lift2 fAdd) (mC (.int 2)) (mOp (lift2 fMod) (mCall 2 (f_law_cell E) [] (aCons (mVar 0) (aCons (mVar 1) aNil))) (mC (.int 2)))) aNil) S3 = .ok ⟨(List.range (2 + m)).map fun i => .int (i : Nat), fun _ => True⟩ S3 := by
        have hc : mOp (lift2 fAdd) (mC (.int 2)) (mOp (lift2 fMod) (mCall 2 (f_law_cell E) [] (aCons (mVar 0) (aCons (mVar 1) aNil))) (mC (.int 2))) S3 = .ok (.d (.int ((2 + m : Nat) : Int))) S3 := ev_is (op2 (S1 := S3) (S2 := S3) c_ok (op2 (S1 := S3) (S2 := S3) (call_ok (S1 := S3) (S2 := S3) (args_cons (var_dat rfl) (args_cons (var_dat rfl) args_nil)) (toDs_d (toDs_d toDs_nil)) rfl (ev_cell (k := k) rfl (by omega))) c_ok rfl rfl (fMod_ok (by decide))) rfl rfl rfl) (by rw [hm]; congr 1)
        have := range1_ok (S := S3) (S1 := S3) (j := ((2 + m : Nat) : Int)) (args_cons hc args_nil) (by omega)
        rw [Int.toNat_natCast] at this; exact this
      have b3 := for_ok hr1 hf4
      let S4 : Sg := T (.dat (.int (k : Int))) (.dat (.loc ce.length)) (.dat (.loc Lr)) d4 ce4
      obtain ⟨y, hy⟩ := ev_law_error (E := E) j1 j2 j5 j6 j3 j4 (by omega)
      have hdue := ev_law_due (E := E) (ce := ce4 ++ y) (appL j1) (appL j2) j5 j6 j3 j4 (by omega)
      let S5 : Sg := T (.dat (.int (k : Int))) (.dat (.loc ce.length)) (.dat (.loc Lr)) d4 (ce4 ++ y)
      obtain ⟨s, hs⟩ := erS_str (dueA ps4 rs4)
      rw [hs] at hy hdue
      have t : mTest (mOp (mNe) (mCall 2 (f_law_error E) [] (aCons (mVar 2) (aCons (mVar 3) aNil))) (mCall 2 (f_law_due E) [] (aCons (mVar 2) (aCons (mVar 3) aNil)))) S4 = .ok false S5 :=
        test_bl (ev_is (ne_ok (S1 := S5) (S2 := S5) (x := .str s) (y := .str s) (call_ok (S1 := S4) (S2 := S4) (args_cons (var_dat rfl) (args_cons (var_dat rfl) args_nil)) (toDs_d (toDs_d toDs_nil)) rfl hy) (call_ok (S1 := S5) (S2 := S5) (args_cons (var_dat rfl) (args_cons (var_dat rfl) args_nil)) (toDs_d (toDs_d toDs_nil)) rfl hdue) rfl rfl eqB_str) (by simp))
      exact ⟨S1, S5, rfl, (seq_nx b1).trans ((seq_nx b2).trans ((seq_nx b3).trans ((if_f t).trans rfl))), _, _, _, _, _, rfl⟩) ⟨_, _, _, _, _, rfl⟩
  exact ⟨ce, fun_rt (n := 5) (m := m_law E) (ds := [.scr ns]) (ce := []) (S := T a b c d ce) ((seq_nx (for_ok hit hf)).trans (ret_d c_ok))⟩

end RSk32

set_option Elab.async false
set_option linter.all false
set_option maxRecDepth 100000
set_option maxHeartbeats 4000000

namespace RSk32
open PySem PySem.Spec PyProof.Rows L2 RS RPk32
theorem all_mk {l : PySem.W.OpenLaw} {w : World} {K : PySem.W.Frag} {h : Heap} {mg : Str → Option Value} {fa : Addr} (X : K.In h) (G : h.Ns mainGlobals mg) (hfa : mg "law" = some (.ref fa))
    {f_law_cell : Addr} {oc_law_cell kV_law_cell dc_law_cell pm_law_cell cd_law_cell ct_law_cell : Value} {od_law_cell an_law_cell : Option Addr} {sl_law_cell : Array (Option Value)}
    (a_law_cell : PySem.W.nsIn K mainGlobals "_law_cell" = some (some (.ref f_law_cell))) (l_law_cell : K.lookup f_law_cell = some ⟨oc_law_cell, od_law_cell, .func (PySem.W.fnOf "_law_cell" "_law_cell" (defArgs s_law_cell) (defBody s_law_cell) (defScope s_law_cell) .none kV_law_cell dc_law_cell pm_law_cell an_law_cell cd_law_cell ct_law_cell), sl_law_cell⟩) (c_law_cell : PySem.W.codeIn K cd_law_cell "_law_cell" = true) (k_law_cell : PySem.W.keepIn K (.ref f_law_cell) = true)
    {f_law_ratio : Addr} {oc_law_ratio kV_law_ratio dc_law_ratio pm_law_ratio cd_law_ratio ct_law_ratio : Value} {od_law_ratio an_law_ratio : Option Addr} {sl_law_ratio : Array (Option Value)}
    (a_law_ratio : PySem.W.nsIn K mainGlobals "_law_ratio" = some (some (.ref f_law_ratio))) (l_law_ratio : K.lookup f_law_ratio = some ⟨oc_law_ratio, od_law_ratio, .func (PySem.W.fnOf "_law_ratio" "_law_ratio" (defArgs s_law_ratio) (defBody s_law_ratio) (defScope s_law_ratio) .none kV_law_ratio dc_law_ratio pm_law_ratio an_law_ratio cd_law_ratio ct_law_ratio), sl_law_ratio⟩) (c_law_ratio : PySem.W.codeIn K cd_law_ratio "_law_ratio" = true) (k_law_ratio : PySem.W.keepIn K (.ref f_law_ratio) = true)
    {f_law_add : Addr} {oc_law_add kV_law_add dc_law_add pm_law_add cd_law_add ct_law_add : Value} {od_law_add an_law_add : Option Addr} {sl_law_add : Array (Option Value)}
    (a_law_add : PySem.W.nsIn K mainGlobals "_law_add" = some (some (.ref f_law_add))) (l_law_add : K.lookup f_law_add = some ⟨oc_law_add, od_law_add, .func (PySem.W.fnOf "_law_add" "_law_add" (defArgs s_law_add) (defBody s_law_add) (defScope s_law_add) .none kV_law_add dc_law_add pm_law_add an_law_add cd_law_add ct_law_add), sl_law_add⟩) (c_law_add : PySem.W.codeIn K cd_law_add "_law_add" = true) (k_law_add : PySem.W.keepIn K (.ref f_law_add) = true)
    {f_law_less : Addr} {oc_law_less kV_law_less dc_law_less pm_law_less cd_law_less ct_law_less : Value} {od_law_less an_law_less : Option Addr} {sl_law_less : Array (Option Value)}
    (a_law_less : PySem.W.nsIn K mainGlobals "_law_less" = some (some (.ref f_law_less))) (l_law_less : K.lookup f_law_less = some ⟨oc_law_less, od_law_less, .func (PySem.W.fnOf "_law_less" "_law_less" (defArgs s_law_less) (defBody s_law_less) (defScope s_law_less) .none kV_law_less dc_law_less pm_law_less an_law_less cd_law_less ct_law_less), sl_law_less⟩) (c_law_less : PySem.W.codeIn K cd_law_less "_law_less" = true) (k_law_less : PySem.W.keepIn K (.ref f_law_less) = true)
    {f_law_is_name : Addr} {oc_law_is_name kV_law_is_name dc_law_is_name pm_law_is_name cd_law_is_name ct_law_is_name : Value} {od_law_is_name an_law_is_name : Option Addr} {sl_law_is_name : Array (Option Value)}
    (a_law_is_name : PySem.W.nsIn K mainGlobals "_law_is_name" = some (some (.ref f_law_is_name))) (l_law_is_name : K.lookup f_law_is_name = some ⟨oc_law_is_name, od_law_is_name, .func (PySem.W.fnOf "_law_is_name" "_law_is_name" (defArgs s_law_is_name) (defBody s_law_is_name) (defScope s_law_is_name) .none kV_law_is_name dc_law_is_name pm_law_is_name an_law_is_name cd_law_is_name ct_law_is_name), sl_law_is_name⟩) (c_law_is_name : PySem.W.codeIn K cd_law_is_name "_law_is_name" = true) (k_law_is_name : PySem.W.keepIn K (.ref f_law_is_name) = true)
    {f_law_products_due : Addr} {oc_law_products_due kV_law_products_due dc_law_products_due pm_law_products_due cd_law_products_due ct_law_products_due : Value} {od_law_products_due an_law_products_due : Option Addr} {sl_law_products_due : Array (Option Value)}
    (a_law_products_due : PySem.W.nsIn K mainGlobals "_law_products_due" = some (some (.ref f_law_products_due))) (l_law_products_due : K.lookup f_law_products_due = some ⟨oc_law_products_due, od_law_products_due, .func (PySem.W.fnOf "_law_products_due" "_law_products_due" (defArgs s_law_products_due) (defBody s_law_products_due) (defScope s_law_products_due) .none kV_law_products_due dc_law_products_due pm_law_products_due an_law_products_due cd_law_products_due ct_law_products_due), sl_law_products_due⟩) (c_law_products_due : PySem.W.codeIn K cd_law_products_due "_law_products_due" = true) (k_law_products_due : PySem.W.keepIn K (.ref f_law_products_due) = true)
    {f_law_due : Addr} {oc_law_due kV_law_due dc_law_due pm_law_due cd_law_due ct_law_due : Value} {od_law_due an_law_due : Option Addr} {sl_law_due : Array (Option Value)}
    (a_law_due : PySem.W.nsIn K mainGlobals "_law_due" = some (some (.ref f_law_due))) (l_law_due : K.lookup f_law_due = some ⟨oc_law_due, od_law_due, .func (PySem.W.fnOf "_law_due" "_law_due" (defArgs s_law_due) (defBody s_law_due) (defScope s_law_due) .none kV_law_due dc_law_due pm_law_due an_law_due cd_law_due ct_law_due), sl_law_due⟩) (c_law_due : PySem.W.codeIn K cd_law_due "_law_due" = true) (k_law_due : PySem.W.keepIn K (.ref f_law_due) = true)
    {f_pair : Addr} {oc_pair kV_pair dc_pair pm_pair cd_pair ct_pair : Value} {od_pair an_pair : Option Addr} {sl_pair : Array (Option Value)}
    (a_pair : PySem.W.nsIn K mainGlobals "_pair" = some (some (.ref f_pair))) (l_pair : K.lookup f_pair = some ⟨oc_pair, od_pair, .func (PySem.W.fnOf "_pair" "_pair" (defArgs s_pair) (defBody s_pair) (defScope s_pair) .none kV_pair dc_pair pm_pair an_pair cd_pair ct_pair), sl_pair⟩) (c_pair : PySem.W.codeIn K cd_pair "_pair" = true) (k_pair : PySem.W.keepIn K (.ref f_pair) = true)
    {f_lowest : Addr} {oc_lowest kV_lowest dc_lowest pm_lowest cd_lowest ct_lowest : Value} {od_lowest an_lowest : Option Addr} {sl_lowest : Array (Option Value)}
    (a_lowest : PySem.W.nsIn K mainGlobals "_lowest" = some (some (.ref f_lowest))) (l_lowest : K.lookup f_lowest = some ⟨oc_lowest, od_lowest, .func (PySem.W.fnOf "_lowest" "_lowest" (defArgs s_lowest) (defBody s_lowest) (defScope s_lowest) .none kV_lowest dc_lowest pm_lowest an_lowest cd_lowest ct_lowest), sl_lowest⟩) (c_lowest : PySem.W.codeIn K cd_lowest "_lowest" = true) (k_lowest : PySem.W.keepIn K (.ref f_lowest) = true)
    {f_sub : Addr} {oc_sub kV_sub dc_sub pm_sub cd_sub ct_sub : Value} {od_sub an_sub : Option Addr} {sl_sub : Array (Option Value)}
    (a_sub : PySem.W.nsIn K mainGlobals "sub" = some (some (.ref f_sub))) (l_sub : K.lookup f_sub = some ⟨oc_sub, od_sub, .func (PySem.W.fnOf "sub" "sub" (defArgs s_sub) (defBody s_sub) (defScope s_sub) .none kV_sub dc_sub pm_sub an_sub cd_sub ct_sub), sl_sub⟩) (c_sub : PySem.W.codeIn K cd_sub "sub" = true) (k_sub : PySem.W.keepIn K (.ref f_sub) = true)
    {f_sign : Addr} {oc_sign kV_sign dc_sign pm_sign cd_sign ct_sign : Value} {od_sign an_sign : Option Addr} {sl_sign : Array (Option Value)}
    (a_sign : PySem.W.nsIn K mainGlobals "sign" = some (some (.ref f_sign))) (l_sign : K.lookup f_sign = some ⟨oc_sign, od_sign, .func (PySem.W.fnOf "sign" "sign" (defArgs s_sign) (defBody s_sign) (defScope s_sign) .none kV_sign dc_sign pm_sign an_sign cd_sign ct_sign), sl_sign⟩) (c_sign : PySem.W.codeIn K cd_sign "sign" = true) (k_sign : PySem.W.keepIn K (.ref f_sign) = true)
    {f_crosses_by_pair : Addr} {oc_crosses_by_pair kV_crosses_by_pair dc_crosses_by_pair pm_crosses_by_pair cd_crosses_by_pair ct_crosses_by_pair : Value} {od_crosses_by_pair an_crosses_by_pair : Option Addr} {sl_crosses_by_pair : Array (Option Value)}
    (a_crosses_by_pair : PySem.W.nsIn K mainGlobals "_crosses_by_pair" = some (some (.ref f_crosses_by_pair))) (l_crosses_by_pair : K.lookup f_crosses_by_pair = some ⟨oc_crosses_by_pair, od_crosses_by_pair, .func (PySem.W.fnOf "_crosses_by_pair" "_crosses_by_pair" (defArgs s_crosses_by_pair) (defBody s_crosses_by_pair) (defScope s_crosses_by_pair) .none kV_crosses_by_pair dc_crosses_by_pair pm_crosses_by_pair an_crosses_by_pair cd_crosses_by_pair ct_crosses_by_pair), sl_crosses_by_pair⟩) (c_crosses_by_pair : PySem.W.codeIn K cd_crosses_by_pair "_crosses_by_pair" = true) (k_crosses_by_pair : PySem.W.keepIn K (.ref f_crosses_by_pair) = true)
    {f_is_name : Addr} {oc_is_name kV_is_name dc_is_name pm_is_name cd_is_name ct_is_name : Value} {od_is_name an_is_name : Option Addr} {sl_is_name : Array (Option Value)}
    (a_is_name : PySem.W.nsIn K mainGlobals "is_name" = some (some (.ref f_is_name))) (l_is_name : K.lookup f_is_name = some ⟨oc_is_name, od_is_name, .func (PySem.W.fnOf "is_name" "is_name" (defArgs s_is_name) (defBody s_is_name) (defScope s_is_name) .none kV_is_name dc_is_name pm_is_name an_is_name cd_is_name ct_is_name), sl_is_name⟩) (c_is_name : PySem.W.codeIn K cd_is_name "is_name" = true) (k_is_name : PySem.W.keepIn K (.ref f_is_name) = true)
    {f_products_by_name : Addr} {oc_products_by_name kV_products_by_name dc_products_by_name pm_products_by_name cd_products_by_name ct_products_by_name : Value} {od_products_by_name an_products_by_name : Option Addr} {sl_products_by_name : Array (Option Value)}
    (a_products_by_name : PySem.W.nsIn K mainGlobals "_products_by_name" = some (some (.ref f_products_by_name))) (l_products_by_name : K.lookup f_products_by_name = some ⟨oc_products_by_name, od_products_by_name, .func (PySem.W.fnOf "_products_by_name" "_products_by_name" (defArgs s_products_by_name) (defBody s_products_by_name) (defScope s_products_by_name) .none kV_products_by_name dc_products_by_name pm_products_by_name an_products_by_name cd_products_by_name ct_products_by_name), sl_products_by_name⟩) (c_products_by_name : PySem.W.codeIn K cd_products_by_name "_products_by_name" = true) (k_products_by_name : PySem.W.keepIn K (.ref f_products_by_name) = true)
    {f_size : Addr} {oc_size kV_size dc_size pm_size cd_size ct_size : Value} {od_size an_size : Option Addr} {sl_size : Array (Option Value)}
    (a_size : PySem.W.nsIn K mainGlobals "_size" = some (some (.ref f_size))) (l_size : K.lookup f_size = some ⟨oc_size, od_size, .func (PySem.W.fnOf "_size" "_size" (defArgs s_size) (defBody s_size) (defScope s_size) .none kV_size dc_size pm_size an_size cd_size ct_size), sl_size⟩) (c_size : PySem.W.codeIn K cd_size "_size" = true) (k_size : PySem.W.keepIn K (.ref f_size) = true)
    {f_add : Addr} {oc_add kV_add dc_add pm_add cd_add ct_add : Value} {od_add an_add : Option Addr} {sl_add : Array (Option Value)}
    (a_add : PySem.W.nsIn K mainGlobals "add" = some (some (.ref f_add))) (l_add : K.lookup f_add = some ⟨oc_add, od_add, .func (PySem.W.fnOf "add" "add" (defArgs s_add) (defBody s_add) (defScope s_add) .none kV_add dc_add pm_add an_add cd_add ct_add), sl_add⟩) (c_add : PySem.W.codeIn K cd_add "add" = true) (k_add : PySem.W.keepIn K (.ref f_add) = true)
    {f_less : Addr} {oc_less kV_less dc_less pm_less cd_less ct_less : Value} {od_less an_less : Option Addr} {sl_less : Array (Option Value)}
    (a_less : PySem.W.nsIn K mainGlobals "less" = some (some (.ref f_less))) (l_less : K.lookup f_less = some ⟨oc_less, od_less, .func (PySem.W.fnOf "less" "less" (defArgs s_less) (defBody s_less) (defScope s_less) .none kV_less dc_less pm_less an_less cd_less ct_less), sl_less⟩) (c_less : PySem.W.codeIn K cd_less "less" = true) (k_less : PySem.W.keepIn K (.ref f_less) = true)
    {f_leads : Addr} {oc_leads kV_leads dc_leads pm_leads cd_leads ct_leads : Value} {od_leads an_leads : Option Addr} {sl_leads : Array (Option Value)}
    (a_leads : PySem.W.nsIn K mainGlobals "_leads" = some (some (.ref f_leads))) (l_leads : K.lookup f_leads = some ⟨oc_leads, od_leads, .func (PySem.W.fnOf "_leads" "_leads" (defArgs s_leads) (defBody s_leads) (defScope s_leads) .none kV_leads dc_leads pm_leads an_leads cd_leads ct_leads), sl_leads⟩) (c_leads : PySem.W.codeIn K cd_leads "_leads" = true) (k_leads : PySem.W.keepIn K (.ref f_leads) = true)
    {f_is_dominant : Addr} {oc_is_dominant kV_is_dominant dc_is_dominant pm_is_dominant cd_is_dominant ct_is_dominant : Value} {od_is_dominant an_is_dominant : Option Addr} {sl_is_dominant : Array (Option Value)}
    (a_is_dominant : PySem.W.nsIn K mainGlobals "is_dominant" = some (some (.ref f_is_dominant))) (l_is_dominant : K.lookup f_is_dominant = some ⟨oc_is_dominant, od_is_dominant, .func (PySem.W.fnOf "is_dominant" "is_dominant" (defArgs s_is_dominant) (defBody s_is_dominant) (defScope s_is_dominant) .none kV_is_dominant dc_is_dominant pm_is_dominant an_is_dominant cd_is_dominant ct_is_dominant), sl_is_dominant⟩) (c_is_dominant : PySem.W.codeIn K cd_is_dominant "is_dominant" = true) (k_is_dominant : PySem.W.keepIn K (.ref f_is_dominant) = true)
    {f_law_error : Addr} {oc_law_error kV_law_error dc_law_error pm_law_error cd_law_error ct_law_error : Value} {od_law_error an_law_error : Option Addr} {sl_law_error : Array (Option Value)}
    (a_law_error : PySem.W.nsIn K mainGlobals "_law_error" = some (some (.ref f_law_error))) (l_law_error : K.lookup f_law_error = some ⟨oc_law_error, od_law_error, .func (PySem.W.fnOf "_law_error" "_law_error" (defArgs s_law_error) (defBody s_law_error) (defScope s_law_error) .none kV_law_error dc_law_error pm_law_error an_law_error cd_law_error ct_law_error), sl_law_error⟩) (c_law_error : PySem.W.codeIn K cd_law_error "_law_error" = true) (k_law_error : PySem.W.keepIn K (.ref f_law_error) = true)
    {f_law_words : Addr} {oc_law_words kV_law_words dc_law_words pm_law_words cd_law_words ct_law_words : Value} {od_law_words an_law_words : Option Addr} {sl_law_words : Array (Option Value)}
    (a_law_words : PySem.W.nsIn K mainGlobals "_law_words" = some (some (.ref f_law_words))) (l_law_words : K.lookup f_law_words = some ⟨oc_law_words, od_law_words, .func (PySem.W.fnOf "_law_words" "_law_words" (defArgs s_law_words) (defBody s_law_words) (defScope s_law_words) .none kV_law_words dc_law_words pm_law_words an_law_words cd_law_words ct_law_words), sl_law_words⟩) (c_law_words : PySem.W.codeIn K cd_law_words "_law_words" = true) (k_law_words : PySem.W.keepIn K (.ref f_law_words) = true)
    {f_law_names : Addr} {oc_law_names kV_law_names dc_law_names pm_law_names cd_law_names ct_law_names : Value} {od_law_names an_law_names : Option Addr} {sl_law_names : Array (Option Value)}
    (a_law_names : PySem.W.nsIn K mainGlobals "_law_names" = some (some (.ref f_law_names))) (l_law_names : K.lookup f_law_names = some ⟨oc_law_names, od_law_names, .func (PySem.W.fnOf "_law_names" "_law_names" (defArgs s_law_names) (defBody s_law_names) (defScope s_law_names) .none kV_law_names dc_law_names pm_law_names an_law_names cd_law_names ct_law_names), sl_law_names⟩) (c_law_names : PySem.W.codeIn K cd_law_names "_law_names" = true) (k_law_names : PySem.W.keepIn K (.ref f_law_names) = true)
    {f_law_owners : Addr} {oc_law_owners kV_law_owners dc_law_owners pm_law_owners cd_law_owners ct_law_owners : Value} {od_law_owners an_law_owners : Option Addr} {sl_law_owners : Array (Option Value)}
    (a_law_owners : PySem.W.nsIn K mainGlobals "_law_owners" = some (some (.ref f_law_owners))) (l_law_owners : K.lookup f_law_owners = some ⟨oc_law_owners, od_law_owners, .func (PySem.W.fnOf "_law_owners" "_law_owners" (defArgs s_law_owners) (defBody s_law_owners) (defScope s_law_owners) .none kV_law_owners dc_law_owners pm_law_owners an_law_owners cd_law_owners ct_law_owners), sl_law_owners⟩) (c_law_owners : PySem.W.codeIn K cd_law_owners "_law_owners" = true) (k_law_owners : PySem.W.keepIn K (.ref f_law_owners) = true)
    {f_law_rivalries : Addr} {oc_law_rivalries kV_law_rivalries dc_law_rivalries pm_law_rivalries cd_law_rivalries ct_law_rivalries : Value} {od_law_rivalries an_law_rivalries : Option Addr} {sl_law_rivalries : Array (Option Value)}
    (a_law_rivalries : PySem.W.nsIn K mainGlobals "_law_rivalries" = some (some (.ref f_law_rivalries))) (l_law_rivalries : K.lookup f_law_rivalries = some ⟨oc_law_rivalries, od_law_rivalries, .func (PySem.W.fnOf "_law_rivalries" "_law_rivalries" (defArgs s_law_rivalries) (defBody s_law_rivalries) (defScope s_law_rivalries) .none kV_law_rivalries dc_law_rivalries pm_law_rivalries an_law_rivalries cd_law_rivalries ct_law_rivalries), sl_law_rivalries⟩) (c_law_rivalries : PySem.W.codeIn K cd_law_rivalries "_law_rivalries" = true) (k_law_rivalries : PySem.W.keepIn K (.ref f_law_rivalries) = true)
    {f_law_products : Addr} {oc_law_products kV_law_products dc_law_products pm_law_products cd_law_products ct_law_products : Value} {od_law_products an_law_products : Option Addr} {sl_law_products : Array (Option Value)}
    (a_law_products : PySem.W.nsIn K mainGlobals "_law_products" = some (some (.ref f_law_products))) (l_law_products : K.lookup f_law_products = some ⟨oc_law_products, od_law_products, .func (PySem.W.fnOf "_law_products" "_law_products" (defArgs s_law_products) (defBody s_law_products) (defScope s_law_products) .none kV_law_products dc_law_products pm_law_products an_law_products cd_law_products ct_law_products), sl_law_products⟩) (c_law_products : PySem.W.codeIn K cd_law_products "_law_products" = true) (k_law_products : PySem.W.keepIn K (.ref f_law_products) = true)
    {f_law_spoil : Addr} {oc_law_spoil kV_law_spoil dc_law_spoil pm_law_spoil cd_law_spoil ct_law_spoil : Value} {od_law_spoil an_law_spoil : Option Addr} {sl_law_spoil : Array (Option Value)}
    (a_law_spoil : PySem.W.nsIn K mainGlobals "_law_spoil" = some (some (.ref f_law_spoil))) (l_law_spoil : K.lookup f_law_spoil = some ⟨oc_law_spoil, od_law_spoil, .func (PySem.W.fnOf "_law_spoil" "_law_spoil" (defArgs s_law_spoil) (defBody s_law_spoil) (defScope s_law_spoil) .none kV_law_spoil dc_law_spoil pm_law_spoil an_law_spoil cd_law_spoil ct_law_spoil), sl_law_spoil⟩) (c_law_spoil : PySem.W.codeIn K cd_law_spoil "_law_spoil" = true) (k_law_spoil : PySem.W.keepIn K (.ref f_law_spoil) = true)
    {f_law : Addr} {oc_law kV_law dc_law pm_law cd_law ct_law : Value} {od_law an_law : Option Addr} {sl_law : Array (Option Value)}
    (a_law : PySem.W.nsIn K mainGlobals "law" = some (some (.ref f_law))) (l_law : K.lookup f_law = some ⟨oc_law, od_law, .func (PySem.W.fnOf "law" "law" (defArgs s_law) (defBody s_law) (defScope s_law) .none kV_law dc_law pm_law an_law cd_law ct_law), sl_law⟩) (c_law : PySem.W.codeIn K cd_law "law" = true) (k_law : PySem.W.keepIn K (.ref f_law) = true)
    (z_abs : PySem.W.nsIn K mainGlobals "abs" = some none)
    (z_all : PySem.W.nsIn K mainGlobals "all" = some none)
    (z_enumerate : PySem.W.nsIn K mainGlobals "enumerate" = some none)
    (z_int : PySem.W.nsIn K mainGlobals "int" = some none)
    (z_isinstance : PySem.W.nsIn K mainGlobals "isinstance" = some none)
    (z_len : PySem.W.nsIn K mainGlobals "len" = some none)
    (z_list : PySem.W.nsIn K mainGlobals "list" = some none)
    (z_range : PySem.W.nsIn K mainGlobals "range" = some none)
    (z_sorted : PySem.W.nsIn K mainGlobals "sorted" = some none)
    (z_str : PySem.W.nsIn K mainGlobals "str" = some none)
    (i_gcd : PySem.W.nsIn K mainGlobals "gcd" = some (some (.builtin "math.gcd")))
    {t_LETTERS : Tok} (c_LETTERS : PySem.W.nsIn K mainGlobals "LETTERS" = some (some (.str "abcdefghijklmnopqrstuvwxyz" t_LETTERS)))
    {t_LONGEST_NAME : Tok} (c_LONGEST_NAME : PySem.W.nsIn K mainGlobals "LONGEST_NAME" = some (some (.int 12 t_LONGEST_NAME)))
    {t_MOST_PRODUCTS : Tok} (c_MOST_PRODUCTS : PySem.W.nsIn K mainGlobals "MOST_PRODUCTS" = some (some (.int 6 t_MOST_PRODUCTS)))
    {t_OWN : Tok} (c_OWN : PySem.W.nsIn K mainGlobals "OWN" = some (some (.int 3 t_OWN)))
    {z_ZERO : Addr} {dd_ZERO : Option Addr} {n_ZERO : Nat} {sl_ZERO : Array (Option Value)} {u_ZERO_0 : Tok} {u_ZERO_1 : Tok} (c_ZERO : PySem.W.nsIn K mainGlobals "ZERO" = some (some (.ref z_ZERO))) (y_ZERO : K.lookup z_ZERO = some ⟨.type "tuple", dd_ZERO, .seq #[.int 0 u_ZERO_0, .int 1 u_ZERO_1] n_ZERO, sl_ZERO⟩)
    {C_DuplicateName : Addr} (gC_DuplicateName : PySem.W.nsIn K mainGlobals "DuplicateName" = some (some (.ref C_DuplicateName)))
    (x_DuplicateName : PySem.W.excIn K C_DuplicateName [.type "ValueError", .type "Exception", .type "BaseException", .type "object"] "ValueError.__new__" = true) (k_DuplicateName : PySem.W.keepIn K (.ref C_DuplicateName) = true) (b_DuplicateName : PySem.W.subIn K (.ref C_DuplicateName) (.type "BaseException") = some true) (t_DuplicateName : PySem.W.typeIn K (.ref C_DuplicateName) = some (.type "type")) (i_DuplicateName : PySem.W.isClsIn K C_DuplicateName = true) (e_DuplicateName : PySem.W.subIn K (.ref C_DuplicateName) (.ref C_DuplicateName) = some true)
    {C_InvalidMarket : Addr} (gC_InvalidMarket : PySem.W.nsIn K mainGlobals "InvalidMarket" = some (some (.ref C_InvalidMarket)))
    (x_InvalidMarket : PySem.W.excIn K C_InvalidMarket [.type "ValueError", .type "Exception", .type "BaseException", .type "object"] "ValueError.__new__" = true) (k_InvalidMarket : PySem.W.keepIn K (.ref C_InvalidMarket) = true) (b_InvalidMarket : PySem.W.subIn K (.ref C_InvalidMarket) (.type "BaseException") = some true) (t_InvalidMarket : PySem.W.typeIn K (.ref C_InvalidMarket) = some (.type "type")) (i_InvalidMarket : PySem.W.isClsIn K C_InvalidMarket = true) (e_InvalidMarket : PySem.W.subIn K (.ref C_InvalidMarket) (.ref C_InvalidMarket) = some true)
    {C_Market : Addr} (gC_Market : PySem.W.nsIn K mainGlobals "Market" = some (some (.ref C_Market)))
    {C_UnknownName : Addr} (gC_UnknownName : PySem.W.nsIn K mainGlobals "UnknownName" = some (some (.ref C_UnknownName)))
    (x_UnknownName : PySem.W.excIn K C_UnknownName [.type "ValueError", .type "Exception", .type "BaseException", .type "object"] "ValueError.__new__" = true) (k_UnknownName : PySem.W.keepIn K (.ref C_UnknownName) = true) (b_UnknownName : PySem.W.subIn K (.ref C_UnknownName) (.type "BaseException") = some true) (t_UnknownName : PySem.W.typeIn K (.ref C_UnknownName) = some (.type "type")) (i_UnknownName : PySem.W.isClsIn K C_UnknownName = true) (e_UnknownName : PySem.W.subIn K (.ref C_UnknownName) (.ref C_UnknownName) = some true)
    (K_Market : Cls K C_Market)
    {f_Market_cross : Addr} {oc_Market_cross kV_Market_cross dc_Market_cross pm_Market_cross cd_Market_cross ct_Market_cross : Value} {od_Market_cross an_Market_cross : Option Addr} {sl_Market_cross : Array (Option Value)}
    (at_Market_cross : PySem.W.findIn K (.ref C_Market) "cross" = some (some (.ref f_Market_cross))) (l_Market_cross : K.lookup f_Market_cross = some ⟨oc_Market_cross, od_Market_cross, .func (PySem.W.fnOf "cross" "Market.cross" (defArgs s_Market_cross) (defBody s_Market_cross) (defScope s_Market_cross) .none kV_Market_cross dc_Market_cross pm_Market_cross an_Market_cross cd_Market_cross ct_Market_cross), sl_Market_cross⟩) (c_Market_cross : PySem.W.codeIn K cd_Market_cross "Market.cross" = true) (k_Market_cross : PySem.W.keepIn K (.ref f_Market_cross) = true) (fn_Market_cross : PySem.W.isFn K (.ref f_Market_cross) = true)
    {f_Market_slopes : Addr} {oc_Market_slopes kV_Market_slopes dc_Market_slopes pm_Market_slopes cd_Market_slopes ct_Market_slopes : Value} {od_Market_slopes an_Market_slopes : Option Addr} {sl_Market_slopes : Array (Option Value)}
    (at_Market_slopes : PySem.W.findIn K (.ref C_Market) "_slopes" = some (some (.ref f_Market_slopes))) (l_Market_slopes : K.lookup f_Market_slopes = some ⟨oc_Market_slopes, od_Market_slopes, .func (PySem.W.fnOf "_slopes" "Market._slopes" (defArgs s_Market_slopes) (defBody s_Market_slopes) (defScope s_Market_slopes) .none kV_Market_slopes dc_Market_slopes pm_Market_slopes an_Market_slopes cd_Market_slopes ct_Market_slopes), sl_Market_slopes⟩) (c_Market_slopes : PySem.W.codeIn K cd_Market_slopes "Market._slopes" = true) (k_Market_slopes : PySem.W.keepIn K (.ref f_Market_slopes) = true) (fn_Market_slopes : PySem.W.isFn K (.ref f_Market_slopes) = true)
    {f_Market_init : Addr} {oc_Market_init kV_Market_init dc_Market_init pm_Market_init cd_Market_init ct_Market_init : Value} {od_Market_init an_Market_init : Option Addr} {sl_Market_init : Array (Option Value)}
    (at_Market_init : PySem.W.findIn K (.ref C_Market) "__init__" = some (some (.ref f_Market_init))) (l_Market_init : K.lookup f_Market_init = some ⟨oc_Market_init, od_Market_init, .func (PySem.W.fnOf "__init__" "Market.__init__" (defArgs s_Market_init) (defBody s_Market_init) (defScope s_Market_init) .none kV_Market_init dc_Market_init pm_Market_init an_Market_init cd_Market_init ct_Market_init), sl_Market_init⟩) (c_Market_init : PySem.W.codeIn K cd_Market_init "Market.__init__" = true) (k_Market_init : PySem.W.keepIn K (.ref f_Market_init) = true) (fn_Market_init : PySem.W.isFn K (.ref f_Market_init) = true)
    (ma_Market : PySem.W.makesIn K C_Market = true) (kp_Market : PySem.W.keepIn K (.ref C_Market) = true)
    (nf_Market_crosses : PySem.W.findIn K (.ref C_Market) "_crosses" = some none)
    (nf_Market_table : PySem.W.findIn K (.ref C_Market) "_table" = some none)
    (nf_Market_products : PySem.W.findIn K (.ref C_Market) "products" = some none)
    (E_DuplicateName : ExcC K C_DuplicateName)
    (E_InvalidMarket : ExcC K C_InvalidMarket)
    (E_UnknownName : ExcC K C_UnknownName)
    (n_InvalidMarket_DuplicateName : PySem.W.subIn K (.ref C_InvalidMarket) (.ref C_DuplicateName) = some false)
    (n_UnknownName_DuplicateName : PySem.W.subIn K (.ref C_UnknownName) (.ref C_DuplicateName) = some false)
    (n_DuplicateName_InvalidMarket : PySem.W.subIn K (.ref C_DuplicateName) (.ref C_InvalidMarket) = some false)
    (n_UnknownName_InvalidMarket : PySem.W.subIn K (.ref C_UnknownName) (.ref C_InvalidMarket) = some false)
    (n_DuplicateName_UnknownName : PySem.W.subIn K (.ref C_DuplicateName) (.ref C_UnknownName) = some false)
    (n_InvalidMarket_UnknownName : PySem.W.subIn K (.ref C_InvalidMarket) (.ref C_UnknownName) = some false)
    : ∃ fd : FuncData, (∀ (s : Shared) (v : Value), BindsTo s fd ⟨[v], []⟩ [("script", v)]) ∧ ∀ base : Heap, K.In base → base.Ns mainGlobals mg → FnOk l.prog w K mg base (L2.CX l.prog w) 8 fa fd ["script"] (RP.spF K 1 R_lawS) := by
  have e := hfa.symm.trans (PySem.W.mg_of X G a_law)
  cases e
  let T : Txt K mg := {
    a_law_cell := f_law_cell
    fd_law_cell := _
    F_law_cell := fun_mk (st := s_law_cell) l_law_cell c_law_cell k_law_cell
    g_law_cell := PySem.W.mg_of X G a_law_cell
    b_law_cell := (fun_mk (st := s_law_cell) l_law_cell c_law_cell k_law_cell).binds (ps := ["script", "k"]) (fun _ _ _ _ _ _ us hl => match us, hl with | [_, _], _ => rfl)
    a_law_ratio := f_law_ratio
    fd_law_ratio := _
    F_law_ratio := fun_mk (st := s_law_ratio) l_law_ratio c_law_ratio k_law_ratio
    g_law_ratio := PySem.W.mg_of X G a_law_ratio
    b_law_ratio := (fun_mk (st := s_law_ratio) l_law_ratio c_law_ratio k_law_ratio).binds (ps := ["n", "d"]) (fun _ _ _ _ _ _ us hl => match us, hl with | [_, _], _ => rfl)
    a_law_add := f_law_add
    fd_law_add := _
    F_law_add := fun_mk (st := s_law_add) l_law_add c_law_add k_law_add
    g_law_add := PySem.W.mg_of X G a_law_add
    b_law_add := (fun_mk (st := s_law_add) l_law_add c_law_add k_law_add).binds (ps := ["x", "y"]) (fun _ _ _ _ _ _ us hl => match us, hl with | [_, _], _ => rfl)
    a_law_less := f_law_less
    fd_law_less := _
    F_law_less := fun_mk (st := s_law_less) l_law_less c_law_less k_law_less
    g_law_less := PySem.W.mg_of X G a_law_less
    b_law_less := (fun_mk (st := s_law_less) l_law_less c_law_less k_law_less).binds (ps := ["x", "y"]) (fun _ _ _ _ _ _ us hl => match us, hl with | [_, _], _ => rfl)
    a_law_is_name := f_law_is_name
    fd_law_is_name := _
    F_law_is_name := fun_mk (st := s_law_is_name) l_law_is_name c_law_is_name k_law_is_name
    g_law_is_name := PySem.W.mg_of X G a_law_is_name
    b_law_is_name := (fun_mk (st := s_law_is_name) l_law_is_name c_law_is_name k_law_is_name).binds (ps := ["word"]) (fun _ _ _ _ _ _ us hl => match us, hl with | [_], _ => rfl)
    a_law_products_due := f_law_products_due
    fd_law_products_due := _
    F_law_products_due := fun_mk (st := s_law_products_due) l_law_products_due c_law_products_due k_law_products_due
    g_law_products_due := PySem.W.mg_of X G a_law_products_due
    b_law_products_due := (fun_mk (st := s_law_products_due) l_law_products_due c_law_products_due k_law_products_due).binds (ps := ["products"]) (fun _ _ _ _ _ _ us hl => match us, hl with | [_], _ => rfl)
    a_law_due := f_law_due
    fd_law_due := _
    F_law_due := fun_mk (st := s_law_due) l_law_due c_law_due k_law_due
    g_law_due := PySem.W.mg_of X G a_law_due
    b_law_due := (fun_mk (st := s_law_due) l_law_due c_law_due k_law_due).binds (ps := ["products", "rivalries"]) (fun _ _ _ _ _ _ us hl => match us, hl with | [_, _], _ => rfl)
    a_pair := f_pair
    fd_pair := _
    F_pair := fun_mk (st := s_pair) l_pair c_pair k_pair
    g_pair := PySem.W.mg_of X G a_pair
    b_pair := (fun_mk (st := s_pair) l_pair c_pair k_pair).binds (ps := ["one", "other"]) (fun _ _ _ _ _ _ us hl => match us, hl with | [_, _], _ => rfl)
    a_Market_cross := f_Market_cross
    fd_Market_cross := _
    F_Market_cross := fun_mk (st := s_Market_cross) l_Market_cross c_Market_cross k_Market_cross
    b_Market_cross := (fun_mk (st := s_Market_cross) l_Market_cross c_Market_cross k_Market_cross).binds (ps := ["self", "one", "other"]) (fun _ _ _ _ _ _ us hl => match us, hl with | [_, _, _], _ => rfl)
    a_lowest := f_lowest
    fd_lowest := _
    F_lowest := fun_mk (st := s_lowest) l_lowest c_lowest k_lowest
    g_lowest := PySem.W.mg_of X G a_lowest
    b_lowest := (fun_mk (st := s_lowest) l_lowest c_lowest k_lowest).binds (ps := ["n", "d"]) (fun _ _ _ _ _ _ us hl => match us, hl with | [_, _], _ => rfl)
    a_sub := f_sub
    fd_sub := _
    F_sub := fun_mk (st := s_sub) l_sub c_sub k_sub
    g_sub := PySem.W.mg_of X G a_sub
    b_sub := (fun_mk (st := s_sub) l_sub c_sub k_sub).binds (ps := ["a", "b"]) (fun _ _ _ _ _ _ us hl => match us, hl with | [_, _], _ => rfl)
    a_Market_slopes := f_Market_slopes
    fd_Market_slopes := _
    F_Market_slopes := fun_mk (st := s_Market_slopes) l_Market_slopes c_Market_slopes k_Market_slopes
    b_Market_slopes := (fun_mk (st := s_Market_slopes) l_Market_slopes c_Market_slopes k_Market_slopes).binds (ps := ["self", "name"]) (fun _ _ _ _ _ _ us hl => match us, hl with | [_, _], _ => rfl)
    a_sign := f_sign
    fd_sign := _
    F_sign := fun_mk (st := s_sign) l_sign c_sign k_sign
    g_sign := PySem.W.mg_of X G a_sign
    b_sign := (fun_mk (st := s_sign) l_sign c_sign k_sign).binds (ps := ["a"]) (fun _ _ _ _ _ _ us hl => match us, hl with | [_], _ => rfl)
    a_crosses_by_pair := f_crosses_by_pair
    fd_crosses_by_pair := _
    F_crosses_by_pair := fun_mk (st := s_crosses_by_pair) l_crosses_by_pair c_crosses_by_pair k_crosses_by_pair
    g_crosses_by_pair := PySem.W.mg_of X G a_crosses_by_pair
    b_crosses_by_pair := (fun_mk (st := s_crosses_by_pair) l_crosses_by_pair c_crosses_by_pair k_crosses_by_pair).binds (ps := ["rivalries", "table"]) (fun _ _ _ _ _ _ us hl => match us, hl with | [_, _], _ => rfl)
    a_is_name := f_is_name
    fd_is_name := _
    F_is_name := fun_mk (st := s_is_name) l_is_name c_is_name k_is_name
    g_is_name := PySem.W.mg_of X G a_is_name
    b_is_name := (fun_mk (st := s_is_name) l_is_name c_is_name k_is_name).binds (ps := ["text"]) (fun _ _ _ _ _ _ us hl => match us, hl with | [_], _ => rfl)
    a_products_by_name := f_products_by_name
    fd_products_by_name := _
    F_products_by_name := fun_mk (st := s_products_by_name) l_products_by_name c_products_by_name k_products_by_name
    g_products_by_name := PySem.W.mg_of X G a_products_by_name
    b_products_by_name := (fun_mk (st := s_products_by_name) l_products_by_name c_products_by_name k_products_by_name).binds (ps := ["products"]) (fun _ _ _ _ _ _ us hl => match us, hl with | [_], _ => rfl)
    a_size := f_size
    fd_size := _
    F_size := fun_mk (st := s_size) l_size c_size k_size
    g_size := PySem.W.mg_of X G a_size
    b_size := (fun_mk (st := s_size) l_size c_size k_size).binds (ps := ["value"]) (fun _ _ _ _ _ _ us hl => match us, hl with | [_], _ => rfl)
    a_add := f_add
    fd_add := _
    F_add := fun_mk (st := s_add) l_add c_add k_add
    g_add := PySem.W.mg_of X G a_add
    b_add := (fun_mk (st := s_add) l_add c_add k_add).binds (ps := ["a", "b"]) (fun _ _ _ _ _ _ us hl => match us, hl with | [_, _], _ => rfl)
    a_less := f_less
    fd_less := _
    F_less := fun_mk (st := s_less) l_less c_less k_less
    g_less := PySem.W.mg_of X G a_less
    b_less := (fun_mk (st := s_less) l_less c_less k_less).binds (ps := ["a", "b"]) (fun _ _ _ _ _ _ us hl => match us, hl with | [_, _], _ => rfl)
    a_leads := f_leads
    fd_leads := _
    F_leads := fun_mk (st := s_leads) l_leads c_leads k_leads
    g_leads := PySem.W.mg_of X G a_leads
    b_leads := (fun_mk (st := s_leads) l_leads c_leads k_leads).binds (ps := ["row", "at"]) (fun _ _ _ _ _ _ us hl => match us, hl with | [_, _], _ => rfl)
    a_is_dominant := f_is_dominant
    fd_is_dominant := _
    F_is_dominant := fun_mk (st := s_is_dominant) l_is_dominant c_is_dominant k_is_dominant
    g_is_dominant := PySem.W.mg_of X G a_is_dominant
    b_is_dominant := (fun_mk (st := s_is_dominant) l_is_dominant c_is_dominant k_is_dominant).binds (ps := ["rows"]) (fun _ _ _ _ _ _ us hl => match us, hl with | [_], _ => rfl)
    a_Market_init := f_Market_init
    fd_Market_init := _
    F_Market_init := fun_mk (st := s_Market_init) l_Market_init c_Market_init k_Market_init
    b_Market_init := (fun_mk (st := s_Market_init) l_Market_init c_Market_init k_Market_init).binds (ps := ["self", "products", "rivalries"]) (fun _ _ _ _ _ _ us hl => match us, hl with | [_, _, _], _ => rfl)
    a_law_error := f_law_error
    fd_law_error := _
    F_law_error := fun_mk (st := s_law_error) l_law_error c_law_error k_law_error
    g_law_error := PySem.W.mg_of X G a_law_error
    b_law_error := (fun_mk (st := s_law_error) l_law_error c_law_error k_law_error).binds (ps := ["products", "rivalries"]) (fun _ _ _ _ _ _ us hl => match us, hl with | [_, _], _ => rfl)
    a_law_words := f_law_words
    fd_law_words := _
    F_law_words := fun_mk (st := s_law_words) l_law_words c_law_words k_law_words
    g_law_words := PySem.W.mg_of X G a_law_words
    b_law_words := (fun_mk (st := s_law_words) l_law_words c_law_words k_law_words).binds (ps := ["cell"]) (fun _ _ _ _ _ _ us hl => match us, hl with | [_], _ => rfl)
    a_law_names := f_law_names
    fd_law_names := _
    F_law_names := fun_mk (st := s_law_names) l_law_names c_law_names k_law_names
    g_law_names := PySem.W.mg_of X G a_law_names
    b_law_names := (fun_mk (st := s_law_names) l_law_names c_law_names k_law_names).binds (ps := ["script"]) (fun _ _ _ _ _ _ us hl => match us, hl with | [_], _ => rfl)
    a_law_owners := f_law_owners
    fd_law_owners := _
    F_law_owners := fun_mk (st := s_law_owners) l_law_owners c_law_owners k_law_owners
    g_law_owners := PySem.W.mg_of X G a_law_owners
    b_law_owners := (fun_mk (st := s_law_owners) l_law_owners c_law_owners k_law_owners).binds (ps := ["script"]) (fun _ _ _ _ _ _ us hl => match us, hl with | [_], _ => rfl)
    a_law_rivalries := f_law_rivalries
    fd_law_rivalries := _
    F_law_rivalries := fun_mk (st := s_law_rivalries) l_law_rivalries c_law_rivalries k_law_rivalries
    g_law_rivalries := PySem.W.mg_of X G a_law_rivalries
    b_law_rivalries := (fun_mk (st := s_law_rivalries) l_law_rivalries c_law_rivalries k_law_rivalries).binds (ps := ["script"]) (fun _ _ _ _ _ _ us hl => match us, hl with | [_], _ => rfl)
    a_law_products := f_law_products
    fd_law_products := _
    F_law_products := fun_mk (st := s_law_products) l_law_products c_law_products k_law_products
    g_law_products := PySem.W.mg_of X G a_law_products
    b_law_products := (fun_mk (st := s_law_products) l_law_products c_law_products k_law_products).binds (ps := ["script"]) (fun _ _ _ _ _ _ us hl => match us, hl with | [_], _ => rfl)
    a_law_spoil := f_law_spoil
    fd_law_spoil := _
    F_law_spoil := fun_mk (st := s_law_spoil) l_law_spoil c_law_spoil k_law_spoil
    g_law_spoil := PySem.W.mg_of X G a_law_spoil
    b_law_spoil := (fun_mk (st := s_law_spoil) l_law_spoil c_law_spoil k_law_spoil).binds (ps := ["products", "rivalries", "cell"]) (fun _ _ _ _ _ _ us hl => match us, hl with | [_, _, _], _ => rfl)
    a_law := fa
    fd_law := _
    F_law := fun_mk (st := s_law) l_law c_law k_law
    g_law := PySem.W.mg_of X G a_law
    b_law := (fun_mk (st := s_law) l_law c_law k_law).binds (ps := ["script"]) (fun _ _ _ _ _ _ us hl => match us, hl with | [_], _ => rfl)
    m_abs := PySem.W.mg_none_of X G z_abs
    m_all := PySem.W.mg_none_of X G z_all
    m_enumerate := PySem.W.mg_none_of X G z_enumerate
    m_int := PySem.W.mg_none_of X G z_int
    m_isinstance := PySem.W.mg_none_of X G z_isinstance
    m_len := PySem.W.mg_none_of X G z_len
    m_list := PySem.W.mg_none_of X G z_list
    m_range := PySem.W.mg_none_of X G z_range
    m_sorted := PySem.W.mg_none_of X G z_sorted
    m_str := PySem.W.mg_none_of X G z_str
    g_gcd := PySem.W.mg_of X G i_gcd
    t_LETTERS := t_LETTERS
    c_LETTERS := PySem.W.mg_of X G c_LETTERS
    t_LONGEST_NAME := t_LONGEST_NAME
    c_LONGEST_NAME := PySem.W.mg_of X G c_LONGEST_NAME
    t_MOST_PRODUCTS := t_MOST_PRODUCTS
    c_MOST_PRODUCTS := PySem.W.mg_of X G c_MOST_PRODUCTS
    t_OWN := t_OWN
    c_OWN := PySem.W.mg_of X G c_OWN
    z_ZERO := z_ZERO
    c_ZERO := PySem.W.mg_of X G c_ZERO
    s_ZERO := fun _ => .inr ⟨_, _, _, y_ZERO, rfl, rfl, Nat.le_of_ble_eq_true rfl, (.cons ⟨_, rfl⟩ (.cons ⟨_, rfl⟩ .nil))⟩
    C_DuplicateName := C_DuplicateName
    gC_DuplicateName := PySem.W.mg_of X G gC_DuplicateName
    x_DuplicateName := x_DuplicateName
    k_DuplicateName := k_DuplicateName
    b_DuplicateName := b_DuplicateName
    t_DuplicateName := t_DuplicateName
    i_DuplicateName := i_DuplicateName
    e_DuplicateName := e_DuplicateName
    C_InvalidMarket := C_InvalidMarket
    gC_InvalidMarket := PySem.W.mg_of X G gC_InvalidMarket
    x_InvalidMarket := x_InvalidMarket
    k_InvalidMarket := k_InvalidMarket
    b_InvalidMarket := b_InvalidMarket
    t_InvalidMarket := t_InvalidMarket
    i_InvalidMarket := i_InvalidMarket
    e_InvalidMarket := e_InvalidMarket
    C_Market := C_Market
    gC_Market := PySem.W.mg_of X G gC_Market
    C_UnknownName := C_UnknownName
    gC_UnknownName := PySem.W.mg_of X G gC_UnknownName
    x_UnknownName := x_UnknownName
    k_UnknownName := k_UnknownName
    b_UnknownName := b_UnknownName
    t_UnknownName := t_UnknownName
    i_UnknownName := i_UnknownName
    e_UnknownName := e_UnknownName
    K_Market := K_Market
    M_Market_cross := ⟨at_Market_cross, fn_Market_cross, k_Market_cross⟩
    M_Market_slopes := ⟨at_Market_slopes, fn_Market_slopes, k_Market_slopes⟩
    Mk_Market := ⟨ma_Market, at_Market_init, fn_Market_init, kp_Market⟩
    nf_Market_crosses := nf_Market_crosses
    nf_Market_table := nf_Market_table
    nf_Market_products := nf_Market_products
    E_DuplicateName := E_DuplicateName
    E_InvalidMarket := E_InvalidMarket
    E_UnknownName := E_UnknownName
    n_InvalidMarket_DuplicateName := n_InvalidMarket_DuplicateName
    n_UnknownName_DuplicateName := n_UnknownName_DuplicateName
    n_DuplicateName_InvalidMarket := n_DuplicateName_InvalidMarket
    n_UnknownName_InvalidMarket := n_UnknownName_InvalidMarket
    n_DuplicateName_UnknownName := n_DuplicateName_UnknownName
    n_InvalidMarket_UnknownName := n_InvalidMarket_UnknownName }
  exact ⟨PySem.W.fnOf "law" "law" (defArgs s_law) (defBody s_law) (defScope s_law) .none kV_law dc_law pm_law an_law cd_law ct_law, fun s v => .of_eq rfl, fun base _ _ => end_law (E := mkE T) (fk_law T) (fun ns hn => law_true (mkE T) ns hn)⟩
end RSk32
open PySem PySem.W PyProof.Rows
set_option maxHeartbeats 0 in
theorem PySem.Challenge.cw_rivalprices_k32_the_first_error_of_a_mar_holds : PySem.Challenge.rw_rivalprices_k32_the_first_error_of_a_mar.Holds := by
  w_on; o_law; k_head; (case hw => w_witness2)
  k_fill
  refine L2.walk_of (l := PySem.Challenge.rw_rivalprices_k32_the_first_error_of_a_mar) (n := 63) (k := 8) (x := "script") (CX := fun w => L2.CX PySem.Challenge.pw_rivalprices_k32_the_first_error_of_a_mar w) (sp := fun w => RP.spF _ 1 RS.R_lawS) rfl (by decide) rfl ⟨rfl, by decide, by decide⟩ (fun w h Y => PySem.W.kIn_of Y) ?F (fun _ H a ns hl _ hS => ⟨H, [.scr ns], .ok (.bl true), rfl, Evl.Ex.refl H, .cons (.scr hS) .nil, ⟨ns, rfl, Nat.le_trans hl (by decide), rfl⟩, fun v _ _ _ r => r.bl_inv⟩) (fun _ _ _ _ _ h => by obtain ⟨_, _, _, _, _, _, _, _, _, _, _, _, z⟩ := h; exact z.elim)
  case F =>
    intro w mg fa h KX G hmg
    refine' RSk32.all_mk KX G hmg ?a_law_cell ?l_law_cell ?c_law_cell ?k_law_cell ?a_law_ratio ?l_law_ratio ?c_law_ratio ?k_law_ratio ?a_law_add ?l_law_add ?c_law_add ?k_law_add ?a_law_less ?l_law_less ?c_law_less ?k_law_less ?a_law_is_name ?l_law_is_name ?c_law_is_name ?k_law_is_name ?a_law_products_due ?l_law_products_due ?c_law_products_due ?k_law_products_due ?a_law_due ?l_law_due ?c_law_due ?k_law_due ?a_pair ?l_pair ?c_pair ?k_pair ?a_lowest ?l_lowest ?c_lowest ?k_lowest ?a_sub ?l_sub ?c_sub ?k_sub ?a_sign ?l_sign ?c_sign ?k_sign ?a_crosses_by_pair ?l_crosses_by_pair ?c_crosses_by_pair ?k_crosses_by_pair ?a_is_name ?l_is_name ?c_is_name ?k_is_name ?a_products_by_name ?l_products_by_name ?c_products_by_name ?k_products_by_name ?a_size ?l_size ?c_size ?k_size ?a_add ?l_add ?c_add ?k_add ?a_less ?l_less ?c_less ?k_less ?a_leads ?l_leads ?c_leads ?k_leads ?a_is_dominant ?l_is_dominant ?c_is_dominant ?k_is_dominant ?a_law_error ?l_law_error ?c_law_error ?k_law_error ?a_law_words ?l_law_words ?c_law_words ?k_law_words ?a_law_names ?l_law_names ?c_law_names ?k_law_names ?a_law_owners ?l_law_owners ?c_law_owners ?k_law_owners ?a_law_rivalries ?l_law_rivalries ?c_law_rivalries ?k_law_rivalries ?a_law_products ?l_law_products ?c_law_products ?k_law_products ?a_law_spoil ?l_law_spoil ?c_law_spoil ?k_law_spoil ?a_law ?l_law ?c_law ?k_law ?z_abs ?z_all ?z_enumerate ?z_int ?z_isinstance ?z_len ?z_list ?z_range ?z_sorted ?z_str ?i_gcd ?c_LETTERS ?c_LONGEST_NAME ?c_MOST_PRODUCTS ?c_OWN ?c_ZERO ?y_ZERO ?gC_DuplicateName ?x_DuplicateName ?k_DuplicateName ?b_DuplicateName ?t_DuplicateName ?i_DuplicateName ?e_DuplicateName ?gC_InvalidMarket ?x_InvalidMarket ?k_InvalidMarket ?b_InvalidMarket ?t_InvalidMarket ?i_InvalidMarket ?e_InvalidMarket ?gC_Market ?gC_UnknownName ?x_UnknownName ?k_UnknownName ?b_UnknownName ?t_UnknownName ?i_UnknownName ?e_UnknownName ?K_Market ?at_Market_cross ?l_Market_cross ?c_Market_cross ?k_Market_cross ?fn_Market_cross ?at_Market_slopes ?l_Market_slopes ?c_Market_slopes ?k_Market_slopes ?fn_Market_slopes ?at_Market_init ?l_Market_init ?c_Market_init ?k_Market_init ?fn_Market_init ?ma_Market ?kp_Market ?nf_Market_crosses ?nf_Market_table ?nf_Market_products ?E_DuplicateName ?E_InvalidMarket ?E_UnknownName ?n_InvalidMarket_DuplicateName ?n_UnknownName_DuplicateName ?n_DuplicateName_InvalidMarket ?n_UnknownName_InvalidMarket ?n_DuplicateName_UnknownName ?n_InvalidMarket_UnknownName
    (case a_law_cell => k_is); (case l_law_cell => k_is); (case c_law_cell => k_is); (case k_law_cell => k_is); (case a_law_ratio => k_is); (case l_law_ratio => k_is); (case c_law_ratio => k_is); (case k_law_ratio => k_is); (case a_law_add => k_is); (case l_law_add => k_is); (case c_law_add => k_is); (case k_law_add => k_is); (case a_law_less => k_is); (case l_law_less => k_is); (case c_law_less => k_is); (case k_law_less => k_is); (case a_law_is_name => k_is); (case l_law_is_name => k_is); (case c_law_is_name => k_is); (case k_law_is_name => k_is); (case a_law_products_due => k_is); (case l_law_products_due => k_is); (case c_law_products_due => k_is); (case k_law_products_due => k_is); (case a_law_due => k_is); (case l_law_due => k_is); (case c_law_due => k_is); (case k_law_due => k_is); (case a_pair => k_is); (case l_pair => k_is); (case c_pair => k_is); (case k_pair => k_is); (case a_lowest => k_is); (case l_lowest => k_is); (case c_lowest => k_is); (case k_lowest => k_is); (case a_sub => k_is); (case l_sub => k_is); (case c_sub => k_is); (case k_sub => k_is); (case a_sign => k_is); (case l_sign => k_is); (case c_sign => k_is); (case k_sign => k_is); (case a_crosses_by_pair => k_is); (case l_crosses_by_pair => k_is); (case c_crosses_by_pair => k_is); (case k_crosses_by_pair => k_is); (case a_is_name => k_is); (case l_is_name => k_is); (case c_is_name => k_is); (case k_is_name => k_is); (case a_products_by_name => k_is); (case l_products_by_name => k_is); (case c_products_by_name => k_is); (case k_products_by_name => k_is); (case a_size => k_is); (case l_size => k_is); (case c_size => k_is); (case k_size => k_is); (case a_add => k_is); (case l_add => k_is); (case c_add => k_is); (case k_add => k_is); (case a_less => k_is); (case l_less => k_is); (case c_less => k_is); (case k_less => k_is); (case a_leads => k_is); (case l_leads => k_is); (case c_leads => k_is); (case k_leads => k_is); (case a_is_dominant => k_is); (case l_is_dominant => k_is); (case c_is_dominant => k_is); (case k_is_dominant => k_is); (case a_law_error => k_is); (case l_law_error => k_is); (case c_law_error => k_is); (case k_law_error => k_is); (case a_law_words => k_is); (case l_law_words => k_is); (case c_law_words => k_is); (case k_law_words => k_is); (case a_law_names => k_is); (case l_law_names => k_is); (case c_law_names => k_is); (case k_law_names => k_is); (case a_law_owners => k_is); (case l_law_owners => k_is); (case c_law_owners => k_is); (case k_law_owners => k_is); (case a_law_rivalries => k_is); (case l_law_rivalries => k_is); (case c_law_rivalries => k_is); (case k_law_rivalries => k_is); (case a_law_products => k_is); (case l_law_products => k_is); (case c_law_products => k_is); (case k_law_products => k_is); (case a_law_spoil => k_is); (case l_law_spoil => k_is); (case c_law_spoil => k_is); (case k_law_spoil => k_is); (case a_law => k_is); (case l_law => k_is); (case c_law => k_is); (case k_law => k_is); (case z_abs => k_is); (case z_all => k_is); (case z_enumerate => k_is); (case z_int => k_is); (case z_isinstance => k_is); (case z_len => k_is); (case z_list => k_is); (case z_range => k_is); (case z_sorted => k_is); (case z_str => k_is); (case i_gcd => k_is); (case c_LETTERS => k_is); (case c_LONGEST_NAME => k_is); (case c_MOST_PRODUCTS => k_is); (case c_OWN => k_is); (case c_ZERO => k_is); (case y_ZERO => k_is); (case gC_DuplicateName => k_is); (case x_DuplicateName => k_exc); (case k_DuplicateName => k_is); (case b_DuplicateName => k_is); (case t_DuplicateName => k_is); (case i_DuplicateName => k_is); (case e_DuplicateName => first | rfl | k_is); (case gC_InvalidMarket => k_is); (case x_InvalidMarket => k_exc); (case k_InvalidMarket => k_is); (case b_InvalidMarket => k_is); (case t_InvalidMarket => k_is); (case i_InvalidMarket => k_is); (case e_InvalidMarket => first | rfl | k_is); (case gC_Market => k_is); (case gC_UnknownName => k_is); (case x_UnknownName => k_exc); (case k_UnknownName => k_is); (case b_UnknownName => k_is); (case t_UnknownName => k_is); (case i_UnknownName => k_is); (case e_UnknownName => first | rfl | k_is); (case K_Market => exact ⟨by k_is, by k_is, by k_is, by k_is⟩); (case at_Market_cross => k_is); (case l_Market_cross => k_is); (case c_Market_cross => k_is); (case k_Market_cross => k_is); (case fn_Market_cross => k_is); (case at_Market_slopes => k_is); (case l_Market_slopes => k_is); (case c_Market_slopes => k_is); (case k_Market_slopes => k_is); (case fn_Market_slopes => k_is); (case at_Market_init => k_is); (case l_Market_init => k_is); (case c_Market_init => k_is); (case k_Market_init => k_is); (case fn_Market_init => k_is); (case ma_Market => k_is); (case kp_Market => k_is); (case nf_Market_crosses => k_is); (case nf_Market_table => k_is); (case nf_Market_products => k_is); (case E_DuplicateName => exact ⟨by k_is, by k_is, by k_is, by k_is, by k_is, by k_is, by k_is, by k_is⟩); (case E_InvalidMarket => exact ⟨by k_is, by k_is, by k_is, by k_is, by k_is, by k_is, by k_is, by k_is⟩); (case E_UnknownName => exact ⟨by k_is, by k_is, by k_is, by k_is, by k_is, by k_is, by k_is, by k_is⟩); (case n_InvalidMarket_DuplicateName => first | rfl | k_is); (case n_UnknownName_DuplicateName => first | rfl | k_is); (case n_DuplicateName_InvalidMarket => first | rfl | k_is); (case n_UnknownName_InvalidMarket => first | rfl | k_is); (case n_DuplicateName_UnknownName => first | rfl | k_is); (case n_InvalidMarket_UnknownName => first | rfl | k_is)
