import PyProof.Rows.All
import Wide.All
import OpenK.AllK
import Wide.FinOn
import HandS.ForMost
import HandS.Walk
import HandS.Wide
import HandS.WideBits
import HandS.Flow
import HandS.IsInst
import HandS.Exc
import HandS.ExcOwn
import HandS.TryOnly
import HandS.WordsExc
import HandS.TupMul
import HandS.TupAny
import HandS.TupLe
import HandS.EndBits
import HandS.ExcIs
import HandS.ExcField
import HandS.Deep
import HandS.Defaults
import KE.KExcInit
import HandS.ExcInit
import HandS.Codes
import KE.KExcIs
import KE.KExcLine
import KE.GoesEnum
import HandS.Conv
import PySem.Challenge.RW_rowhaul_k04_whole_one_in_the_place_of_an
set_option Elab.async false
set_option linter.all false
set_option maxRecDepth 100000
set_option maxHeartbeats 4000000
/-! Ev1: values as data, a store of lists that change, what stands for what in the heap. -/
namespace Ev
open PySem PySem.Spec PyProof.Rows L2

/-! ### data in the heap: nothing of it lies at an address that may change (U) -/
def keyD : Key → PyData
  | .inl i => .int i
  | .inr x => .str x
/-- a list of the module's own top -/
def KL (K : PySem.W.Frag) (a : Addr) (xs : List V) : Prop :=
  ∃ (o : Obj) (its : Array Value) (n : Nat), K.lookup a = some o ∧ o.cls = .type "list" ∧ o.dict = none ∧ o.data = .seq its n ∧ its.size ≤ sizeLine ∧ Vals xs its.toList
def KT (K : PySem.W.Frag) (a : Addr) (xs : List V) : Prop :=
  ∃ (o : Obj) (its : Array Value) (n : Nat), K.lookup a = some o ∧ o.cls = .type "tuple" ∧ o.data = .seq its n ∧ its.size ≤ sizeLine ∧ Vals xs its.toList
def LstAt (K : PySem.W.Frag) (U : Addr → Prop) (H : Hp) (a : Addr) (xs : List V) : Prop := (Rd H a (.lst xs) ∧ ¬ U a) ∨ KL K a xs
def TupAt (K : PySem.W.Frag) (U : Addr → Prop) (H : Hp) (a : Addr) (xs : List V) : Prop := (Rd H a (.tup xs) ∧ ¬ U a) ∨ KT K a xs
mutual
inductive Pd (K : PySem.W.Frag) (U : Addr → Prop) (H : Hp) : V → PyData → Prop
  | non : Pd K U H .non .none
  | bl (b : Bool) : Pd K U H (.bl b) (.bool b)
  | int (i : Int) : Pd K U H (.int i) (.int i)
  | str (x : Str) : Pd K U H (.str x) (.str x)
  | lst {a : Addr} {xs : List V} {ds : List PyData} : H a = some (.lst xs) → ¬ U a → PdA K U H xs ds → Pd K U H (.ref a) (.list ds)
  | tup {a : Addr} {xs : List V} {ds : List PyData} : TupAt K U H a xs → PdA K U H xs ds → Pd K U H (.ref a) (.tuple ds)
  | dct {a : Addr} {kvs : List (Key × V)} {ds : List (PyData × PyData)} : H a = some (.dK kvs) → ¬ U a → PdK K U H kvs ds → Pd K U H (.ref a) (.dict ds)
inductive PdA (K : PySem.W.Frag) (U : Addr → Prop) (H : Hp) : List V → List PyData → Prop
  | nil : PdA K U H [] []
  | cons {v : V} {vs : List V} {d : PyData} {ds : List PyData} : Pd K U H v d → PdA K U H vs ds → PdA K U H (v :: vs) (d :: ds)
inductive PdK (K : PySem.W.Frag) (U : Addr → Prop) (H : Hp) : List (Key × V) → List (PyData × PyData) → Prop
  | nil : PdK K U H [] []
  | cons {k : Key} {v : V} {vs : List (Key × V)} {d : PyData} {ds : List (PyData × PyData)} : Pd K U H v d → PdK K U H vs ds → PdK K U H ((k, v) :: vs) ((keyD k, d) :: ds)
end
section
variable {K : PySem.W.Frag} {U U' : Addr → Prop} {H H' : Hp}
/-- all that may not change stays -/
structure Stays (U U' : Addr → Prop) (H H' : Hp) : Prop where
  keep : ∀ a o, H a = some o → ¬ U a → H' a = some o
  own : ∀ a, U' a → U a ∨ H a = none
theorem Stays.not {a : Addr} {o : HO} (s : Stays U U' H H') (h : H a = some o) (n : ¬ U a) : ¬ U' a := fun z => by
  rcases s.own a z with z | z
  · exact n z
  · rw [h] at z; cases z
theorem LstAt.stays {a : Addr} {xs : List V} (s : Stays U U' H H') (h : LstAt K U H a xs) : LstAt K U' H' a xs := by
  rcases h with ⟨h | ⟨o, h⟩, n⟩ | h
  · exact .inl ⟨.inl (s.keep a _ h n), s.not h n⟩
  · exact .inl ⟨.inr ⟨o, s.keep a _ h n⟩, s.not h n⟩
  · exact .inr h
theorem TupAt.stays {a : Addr} {xs : List V} (s : Stays U U' H H') (h : TupAt K U H a xs) : TupAt K U' H' a xs := by
  rcases h with ⟨h | ⟨o, h⟩, n⟩ | h
  · exact .inl ⟨.inl (s.keep a _ h n), s.not h n⟩
  · exact .inl ⟨.inr ⟨o, s.keep a _ h n⟩, s.not h n⟩
  · exact .inr h
mutual
theorem Pd.stays (s : Stays U U' H H') : ∀ {d : PyData} {v : V}, Pd K U H v d → Pd K U' H' v d
  | _, _, .non => .non
  | _, _, .bl b => .bl b
  | _, _, .int i => .int i
  | _, _, .str x => .str x
  | _, _, .lst h n q => .lst (s.keep _ _ h n) (s.not h n) (PdA.stays s q)
  | _, _, .tup h q => .tup (h.stays s) (PdA.stays s q)
  | _, _, .dct h n q => .dct (s.keep _ _ h n) (s.not h n) (PdK.stays s q)
theorem PdA.stays (s : Stays U U' H H') : ∀ {ds : List PyData} {vs : List V}, PdA K U H vs ds → PdA K U' H' vs ds
  | _, _, .nil => .nil
  | _, _, .cons h q => .cons (Pd.stays s h) (PdA.stays s q)
theorem PdK.stays (s : Stays U U' H H') : ∀ {ds : List (PyData × PyData)} {vs : List (Key × V)}, PdK K U H vs ds → PdK K U' H' vs ds
  | _, _, .nil => .nil
  | _, _, .cons h q => .cons (Pd.stays s h) (PdK.stays s q)
end
theorem Stays.weak (h : ∀ a, U' a → U a) : Stays U U' H H := ⟨fun _ _ e _ => e, fun a z => .inl (h a z)⟩
theorem LstAt.seq {a : Addr} {xs : List V} (h : LstAt K U H a xs) : SqL K H a xs := by
  rcases h with ⟨h, _⟩ | h
  · exact .inl h
  · exact .inr h
theorem TupAt.seq {a : Addr} {xs : List V} (h : TupAt K U H a xs) : SqT K H a xs := by
  rcases h with ⟨h, _⟩ | h
  · exact .inl h
  · exact .inr h
theorem PdA.len : ∀ {ds : List PyData} {vs : List V}, PdA K U H vs ds → vs.length = ds.length
  | _, _, .nil => rfl
  | _, _, .cons _ q => congrArg (· + 1) (PdA.len q)
theorem PdA.at_ : ∀ {ds : List PyData} {vs : List V} {i : Nat} {d : PyData}, PdA K U H vs ds → ds[i]? = some d → ∃ v, vs[i]? = some v ∧ Pd K U H v d
  | _, _, _, _, .nil, e => by simp at e
  | _, _, 0, _, .cons h _, e => by
    simp at e; subst e; exact ⟨_, rfl, h⟩
  | _, _, i + 1, _, .cons _ q, e => by
    obtain ⟨v, h1, h2⟩ := PdA.at_ (i := i) q (by simpa using e)
    exact ⟨v, by simpa using h1, h2⟩
theorem PdA.set {d : PyData} {v : V} (h : Pd K U H v d) : ∀ {ds : List PyData} {vs : List V} (i : Nat), PdA K U H vs ds → PdA K U H (vs.set i v) (ds.set i d)
  | _, _, _, .nil => .nil
  | _, _, 0, .cons _ q => .cons h q
  | _, _, i + 1, .cons p q => .cons p (PdA.set h i q)
theorem PdA.app : ∀ {ds es : List PyData} {vs ws : List V}, PdA K U H vs ds → PdA K U H ws es → PdA K U H (vs ++ ws) (ds ++ es)
  | _, _, _, _, .nil, r => r
  | _, _, _, _, .cons h q, r => .cons h (PdA.app q r)
theorem PdA.take : ∀ {ds : List PyData} {vs : List V} (n : Nat), PdA K U H vs ds → PdA K U H (vs.take n) (ds.take n)
  | _, _, 0, _ => .nil
  | _, _, _ + 1, .nil => .nil
  | _, _, n + 1, .cons h q => .cons h (PdA.take n q)
theorem PdA.drop : ∀ {ds : List PyData} {vs : List V} (n : Nat), PdA K U H vs ds → PdA K U H (vs.drop n) (ds.drop n)
  | _, _, 0, q => q
  | _, _, _ + 1, .nil => .nil
  | _, _, n + 1, .cons _ q => PdA.drop n q
theorem PdA.snoc {d : PyData} {v : V} {ds : List PyData} {vs : List V} (q : PdA K U H vs ds) (h : Pd K U H v d) : PdA K U H (vs ++ [v]) (ds ++ [d]) := q.app (.cons h .nil)
theorem PdA.one {d : PyData} {vs : List V} (q : PdA K U H vs [d]) : ∃ v, vs = [v] ∧ Pd K U H v d := by
  cases q with
  | cons h r => cases r; exact ⟨_, rfl, h⟩
end

/-! ### exceptions -/
/-- an exception: its class by the module's name, its fields -/
structure Exc where
  cls : Str
  flds : List (Str × PyData)
section
variable {K : PySem.W.Frag} {mg : Str → Option Value} {H H1 : Hp}
/-- what stands for an exception: its class's object, its dict -/
def ExcR (K : PySem.W.Frag) (mg : Str → Option Value) (U : Addr → Prop) (H : Hp) (x : Exc) (cls : Value) (dx : Option Addr) : Prop :=
  mg x.cls = some cls ∧ ((x.flds = [] ∧ dx = none) ∨ ∃ d fs, x.flds ≠ [] ∧ dx = some d ∧ ¬ U d ∧ H d = some (.xd fs) ∧ ∀ f y, x.flds.lookup f = some y → ∃ v, fs.lookup f = some v ∧ Pd K U H v y)
theorem ExcR.stays {U U' : Addr → Prop} {x : Exc} {cls : Value} {dx : Option Addr} (s : Stays U U' H H1) (h : ExcR K mg U H x cls dx) : ExcR K mg U' H1 x cls dx := by
  obtain ⟨h1, h⟩ := h
  refine ⟨h1, ?_⟩
  rcases h with h | ⟨d, fs, nf, rfl, n, e, q⟩
  · exact .inl h
  · exact .inr ⟨d, fs, nf, rfl, s.not e n, s.keep d _ e n, fun f y hy => let ⟨v, a, b⟩ := q f y hy; ⟨v, a, b.stays s⟩⟩
end
/-! ### values, the store -/
inductive Ty where
  | int | bool | str | tuple | list | dict | none
  deriving DecidableEq
def Ty.name : Ty → String
  | .int => "int" | .bool => "bool" | .str => "str" | .tuple => "tuple" | .list => "list" | .dict => "dict" | .none => "NoneType"
inductive D where
  | dat (d : PyData)
  | loc (n : Nat)
  | glob (x : Str)
  /-- a list that nobody changes (the script) -/
  | fz (ds : List PyData)
  /-- a class of Python's own -/
  | ty (t : Ty)
  /-- just this value (a caught error, its classes) -/
  | raw (v : V)
  /-- a caught error: where it lies, its class, its dict -/
  | err (v : V) (cls : Value) (d : Option Addr) (x : Exc)
inductive Cell where
  | lst (xs : List PyData)
  | dead
abbrev Sto := List Cell
/-- where the store's lists lie; the addresses that a running comprehension fills -/
structure Rg where
  r : List Addr
  p : List Addr
/-- the addresses that may change -/
def Own (R : Rg) (st : Sto) (a : Addr) : Prop := (∃ (n : Nat) (xs : List PyData), R.r[n]? = some a ∧ st[n]? = some (Cell.lst xs)) ∨ a ∈ R.p
structure Sim (K : PySem.W.Frag) (R : Rg) (H : Hp) (st : Sto) : Prop where
  len : R.r.length = st.length
  nd : R.r.Nodup
  nr : ∀ a ∈ R.r, a ∉ R.p
  trk : ∀ a, a ∈ R.r ∨ a ∈ R.p → H a ≠ none
  at_ : ∀ (n : Nat) (a : Addr) (xs : List PyData), R.r[n]? = some a → st[n]? = some (Cell.lst xs) → ∃ vs, H a = some (.lst vs) ∧ PdA K (Own R st) H vs xs
structure Ext (R : Rg) (H : Hp) (st : Sto) (R' : Rg) (H' : Hp) (st' : Sto) : Prop where
  pre : ∃ S, R'.r = R.r ++ S ∧ ∀ a ∈ S, H a = none
  pe : R'.p = R.p
  prv : ∀ a ∈ R.p, ∀ o, H a = some o → H' a = some o
  stays : Stays (Own R st) (Own R' st') H H'
section
variable {K : PySem.W.Frag} {mg : Str → Option Value} {R R1 R2 : Rg} {H H1 H2 : Hp} {st st1 st2 : Sto}
theorem Ext.refl : Ext R H st R H st := ⟨⟨[], by simp, fun _ h => by cases h⟩, rfl, fun _ _ _ h => h, Stays.weak fun _ h => h⟩
theorem Ext.trans (S1 : Sim K R1 H1 st1) (a : Ext R H st R1 H1 st1) (b : Ext R1 H1 st1 R2 H2 st2) : Ext R H st R2 H2 st2 := by
  obtain ⟨⟨s1, e1, n1⟩, p1, v1, k1⟩ := a
  obtain ⟨⟨s2, e2, n2⟩, p2, v2, k2⟩ := b
  have fresh : ∀ x, H1 x = none → H x = none := fun x hx => by
    cases q : H x with
    | none => rfl
    | some o =>
      by_cases hu : Own R st x
      · refine absurd hx (S1.trk x ?_)
        rcases hu with ⟨n, xs, hn, _⟩ | hp
        · exact .inl (by rw [e1]; exact List.mem_append_left _ (List.mem_of_getElem? hn))
        · exact .inr (by rw [p1]; exact hp)
      · rw [k1.keep x o q hu] at hx; cases hx
  refine ⟨⟨s1 ++ s2, by rw [e2, e1, List.append_assoc], fun x hx => ?_⟩, p2.trans p1, fun x hx o q => v2 x (by rw [p1]; exact hx) o (v1 x hx o q), fun x o q hu => ?_, fun x z => ?_⟩
  · rcases List.mem_append.mp hx with h | h
    · exact n1 x h
    · exact fresh x (n2 x h)
  · exact k2.keep x o (k1.keep x o q hu) (k1.not q hu)
  · rcases k2.own x z with z | z
    · exact k1.own x z
    · exact .inr (fresh x z)
theorem Ext.at_ {n : Nat} {a : Addr} (e : Ext R H st R1 H1 st1) (h : R.r[n]? = some a) : R1.r[n]? = some a := by
  obtain ⟨⟨S, e1, _⟩, _⟩ := e
  rw [e1, List.getElem?_append_left (List.getElem?_eq_some_iff.mp h).1]
  exact h

/-- what a value stands for -/
def Dv (K : PySem.W.Frag) (mg : Str → Option Value) (R : Rg) (st : Sto) (H : Hp) (v : V) : D → Prop
  | .dat d => Pd K (Own R st) H v d
  | .loc n => ∃ a, R.r[n]? = some a ∧ v = .ref a
  | .glob x => ∃ a, mg x = some (.ref a) ∧ v = .ref a
  | .fz ds => ∃ a xs, v = .ref a ∧ LstAt K (Own R st) H a xs ∧ PdA K (Own R st) H xs ds
  | .ty t => v = .ty t.name
  | .raw u => v = u
  | .err u cls d x => v = u ∧ ExcR K mg (Own R st) H x cls d
theorem Dv.ext {v : V} {d : D} (e : Ext R H st R1 H1 st1) (h : Dv K mg R st H v d) : Dv K mg R1 st1 H1 v d := by
  cases d with
  | dat d => exact Pd.stays e.stays h
  | loc n => obtain ⟨a, h1, h2⟩ := h; exact ⟨a, e.at_ h1, h2⟩
  | glob x => exact h
  | fz ds => obtain ⟨a, xs, h1, h2, h3⟩ := h; exact ⟨a, xs, h1, h2.stays e.stays, h3.stays e.stays⟩
  | ty t => exact h
  | raw t => exact h
  | err u cls d x => exact ⟨h.1, h.2.stays e.stays⟩
inductive DvA (K : PySem.W.Frag) (mg : Str → Option Value) (R : Rg) (st : Sto) (H : Hp) : List V → List D → Prop
  | nil : DvA K mg R st H [] []
  | cons {v : V} {vs : List V} {d : D} {ds : List D} : Dv K mg R st H v d → DvA K mg R st H vs ds → DvA K mg R st H (v :: vs) (d :: ds)
theorem DvA.ext (e : Ext R H st R1 H1 st1) : ∀ {vs : List V} {ds : List D}, DvA K mg R st H vs ds → DvA K mg R1 st1 H1 vs ds
  | _, _, .nil => .nil
  | _, _, .cons h q => .cons (h.ext e) (DvA.ext e q)
theorem DvA.len : ∀ {vs : List V} {ds : List D}, DvA K mg R st H vs ds → vs.length = ds.length
  | _, _, .nil => rfl
  | _, _, .cons _ q => congrArg (· + 1) (DvA.len q)
theorem DvA.at_ : ∀ {ds : List D} {vs : List V} {i : Nat} {d : D}, DvA K mg R st H vs ds → ds[i]? = some d → ∃ v, vs[i]? = some v ∧ Dv K mg R st H v d
  | _, _, _, _, .nil, e => by simp at e
  | _, _, 0, _, .cons h _, e => by
    simp at e; subst e; exact ⟨_, rfl, h⟩
  | _, _, i + 1, _, .cons _ q, e => by
    obtain ⟨v, h1, h2⟩ := DvA.at_ (i := i) q (by simpa using e)
    exact ⟨v, by simpa using h1, h2⟩

abbrev Env := List (Option D)
structure EnvR (K : PySem.W.Frag) (mg : Str → Option Value) (R : Rg) (st : Sto) (H : Hp) (σ : L2.St) (ρ : Env) : Prop where
  len : σ.length = ρ.length
  at_ : ∀ (i : Nat) (d : D), ρ[i]? = some (some d) → ∃ v, σ[i]? = some (some v) ∧ Dv K mg R st H v d
theorem EnvR.ext {σ : L2.St} {ρ : Env} (e : Ext R H st R1 H1 st1) (h : EnvR K mg R st H σ ρ) : EnvR K mg R1 st1 H1 σ ρ :=
  ⟨h.len, fun i d q => let ⟨v, h1, h2⟩ := h.at_ i d q; ⟨v, h1, h2.ext e⟩⟩
theorem EnvR.set {σ : L2.St} {ρ : Env} {v : V} {d : D} (h : EnvR K mg R st H σ ρ) (i : Nat) (q : Dv K mg R st H v d) : EnvR K mg R st H (σ.set i (some v)) (ρ.set i (some d)) := by
  refine ⟨by simp [h.len], fun j e hj => ?_⟩
  by_cases hij : j = i
  · subst hij
    have hl : j < ρ.length := by
      have := (List.getElem?_eq_some_iff.mp hj).1
      simpa using this
    rw [List.getElem?_set_self hl] at hj
    cases hj
    exact ⟨v, by rw [List.getElem?_set_self (by rw [h.len]; exact hl)], q⟩
  · rw [List.getElem?_set_ne (Ne.symm hij)] at hj ⊢
    exact h.at_ j e hj
theorem EnvR.unset {σ : L2.St} {ρ : Env} (h : EnvR K mg R st H σ ρ) (i : Nat) : EnvR K mg R st H (σ.set i none) (ρ.set i none) := by
  refine ⟨by simp [h.len], fun j e hj => ?_⟩
  by_cases hij : j = i
  · subst hij
    have hl : j < ρ.length := by
      have := (List.getElem?_eq_some_iff.mp hj).1
      simpa using this
    rw [List.getElem?_set_self hl] at hj
    cases hj
  · rw [List.getElem?_set_ne (Ne.symm hij)] at hj ⊢
    exact h.at_ j e hj

/-! ### results -/
inductive Res (α : Type) where
  | ok (a : α) (st : Sto)
  | exc (x : Exc) (st : Sto)
  | bad
abbrev M (α : Type) := Sto → Res α
def M.pure {α : Type} (a : α) : M α := fun st => .ok a st
def M.bind {α β : Type} (m : M α) (f : α → M β) : M β := fun st =>
  match m st with
  | .ok a st' => f a st'
  | .exc x st' => .exc x st'
  | .bad => .bad
def M.bad {α : Type} : M α := fun _ => .bad
abbrev RelT (α β : Type) := Rg → Sto → Hp → β → α → Prop
def Post {α β : Type} (K : PySem.W.Frag) (mg : Str → Option Value) (Rel : RelT α β) (R : Rg) (H : Hp) (st : Sto) (r : Res α) (Q : β → Hp → Prop) (W : XK) : Prop :=
  match r with
  | .ok a st' => ∀ b R' H', Ext R H st R' H' st' → Sim K R' H' st' → Rel R' st' H' b a → Q b H'
  | .exc x st' => ∀ R' H' cls dx, Ext R H st R' H' st' → Sim K R' H' st' → ExcR K mg (Own R' st') H' x cls dx → W cls dx H'
  | .bad => False
section
variable {α β γ δ : Type} {Rel : RelT α β} {Rel2 : RelT γ δ} {W : XK}
theorem Post.shift {r : Res α} {Q : β → Hp → Prop} (S1 : Sim K R1 H1 st1) (e : Ext R H st R1 H1 st1) (h : Post K mg Rel R H st r Q W) : Post K mg Rel R1 H1 st1 r Q W := by
  cases r with
  | ok a st' => exact fun b R' H' e' s' q => h b R' H' (e.trans S1 e') s' q
  | exc x st' => exact fun R' H' cls dx e' s' q => h R' H' cls dx (e.trans S1 e') s' q
  | bad => exact h
theorem Post.bind {m : M α} {f : α → M γ} {Q : δ → Hp → Prop} (h : Post K mg Rel2 R H st (M.bind m f st) Q W) :
    Post K mg Rel R H st (m st) (fun b H1 => ∃ R1 st1 a, Ext R H st R1 H1 st1 ∧ Sim K R1 H1 st1 ∧ Rel R1 st1 H1 b a ∧ Post K mg Rel2 R1 H1 st1 (f a st1) Q W) W := by
  unfold M.bind at h
  cases e : m st with
  | ok a st' =>
    rw [e] at h
    exact fun b R' H' e' s' q => ⟨R', st', a, e', s', q, Post.shift s' e' h⟩
  | exc x st' =>
    rw [e] at h
    exact h
  | bad =>
    rw [e] at h
    exact h
end
end

/-! ### expressions -/
section
variable (K : PySem.W.Frag) (mg : Str → Option Value)
def RelB : RelT Bool Bool := fun _ _ _ b a => b = a
def tM (W : WX) (m : Env → M D) : TE := fun σ H Q => ∃ R ρ st, Sim K R H st ∧ EnvR K mg R st H σ ρ ∧ Post K mg (Dv K mg) R H st (m ρ st) Q (fun c d H' => W c d σ H')
def tMB (W : WX) (m : Env → M Bool) : TT := fun σ H Q => ∃ R ρ st, Sim K R H st ∧ EnvR K mg R st H σ ρ ∧ Post K mg RelB R H st (m ρ st) Q (fun c d H' => W c d σ H')
def tMA (W : WX) (m : Env → M (List D)) : TA := fun σ H Q => ∃ R ρ st, Sim K R H st ∧ EnvR K mg R st H σ ρ ∧ Post K mg (DvA K mg) R H st (m ρ st) Q (fun c d H' => W c d σ H')
end
structure EV (X : Cx) (W : WX) (e : Expr) (m : Env → M D) : Prop where
  pe : PE X e (tM X.K X.mg W m)
structure EVT (X : Cx) (W : WX) (e : Expr) (m : Env → M Bool) : Prop where
  pt : PT X e (tMB X.K X.mg W m)
structure EVW (X : Cx) (W : WX) (e : Expr) (m : Env → M Bool) : Prop where
  pw : PW X e (tMB X.K X.mg W m)
structure EVA (X : Cx) (W : WX) (es : List Expr) (m : Env → M (List D)) : Prop where
  pa : PA X es (tMA X.K X.mg W m)
theorem PE.imp {X : Cx} {e : Expr} {t u : TE} (h : PE X e t) (q : ∀ σ H Q, u σ H Q → t σ H Q) : PE X e u := ⟨fun pins s σ H Q I z => h.run pins s σ H Q I (q σ H Q z)⟩
theorem PT.imp {X : Cx} {e : Expr} {t u : TT} (h : PT X e t) (q : ∀ σ H Q, u σ H Q → t σ H Q) : PT X e u := ⟨fun pins s σ H Q I z => h.run pins s σ H Q I (q σ H Q z)⟩
theorem PW.imp {X : Cx} {e : Expr} {t u : TT} (h : PW X e t) (q : ∀ σ H Q, u σ H Q → t σ H Q) : PW X e u := ⟨fun whole pins s σ H Q I z => h.run whole pins s σ H Q I (q σ H Q z)⟩
theorem PA.imp {X : Cx} {e : List Expr} {t u : TA} (h : PA X e t) (q : ∀ σ H Q, u σ H Q → t σ H Q) : PA X e u := ⟨fun pos pins s σ H Q I z => h.run pos pins s σ H Q I (q σ H Q z)⟩
end Ev
set_option Elab.async false
set_option linter.all false
set_option maxRecDepth 100000
set_option maxHeartbeats 4000000
/-! Ev2: expressions by their functions. -/
namespace Ev
open PySem PySem.Spec PyProof.Rows L2

/-! ### new objects -/
section
variable {K : PySem.W.Frag} {mg : Str → Option Value} {R : Rg} {H : Hp} {st : Sto} {p : Addr} {o : HO}
theorem Sim.fresh (S : Sim K R H st) (h : H p = none) : p ∉ R.r := fun q => S.trk p (.inl q) h
theorem Sim.freshP (S : Sim K R H st) (h : H p = none) : p ∉ R.p := fun q => S.trk p (.inr q) h
theorem Sim.notOwn (S : Sim K R H st) (h : H p = none) : ¬ Own R st p := fun z => by
  rcases z with ⟨_, _, e, _⟩ | z
  · exact S.fresh h (List.mem_of_getElem? e)
  · exact S.freshP h z
theorem Ext.new (h : H p = none) : Ext R H st R (upd H p o) st :=
  ⟨⟨[], by simp, fun _ h => by cases h⟩, rfl, fun a _ u e => by rw [upd_ne (ne_of_none e h)]; exact e, ⟨fun a u e _ => by rw [upd_ne (ne_of_none e h)]; exact e, fun _ z => .inl z⟩⟩
theorem Sim.new (S : Sim K R H st) (h : H p = none) : Sim K R (upd H p o) st := by
  refine ⟨S.len, S.nd, S.nr, fun a ha => ?_, fun n a xs h1 h2 => ?_⟩
  · have ne : a ≠ p := fun e => S.trk a ha (e ▸ h)
    rw [upd_ne ne]; exact S.trk a ha
  · obtain ⟨vs, e, q⟩ := S.at_ n a xs h1 h2
    exact ⟨vs, by rw [upd_ne (ne_of_none e h)]; exact e, q.stays (Ext.new h).stays⟩
theorem Dv.int (i : Int) : Dv K mg R st H (.int i) (.dat (.int i)) := Pd.int i
theorem Dv.bl (i : Bool) : Dv K mg R st H (.bl i) (.dat (.bool i)) := Pd.bl i
theorem Dv.str (i : Str) : Dv K mg R st H (.str i) (.dat (.str i)) := Pd.str i
theorem Dv.non : Dv K mg R st H .non (.dat .none) := Pd.non
theorem Post.okR {α β : Type} {Rel : RelT α β} {a : α} {b : β} {Q : β → Hp → Prop} {W : XK} (S : Sim K R H st) (r : Rel R st H b a) (h : Post K mg Rel R H st (.ok a st) Q W) : Q b H := h b R H .refl S r
theorem Post.okN {α β : Type} {Rel : RelT α β} {a : α} {b : β} {Q : β → Hp → Prop} {W : XK} (S : Sim K R H st) (hp : H p = none) (r : Rel R st (upd H p o) b a) (h : Post K mg Rel R H st (.ok a st) Q W) : Q b (upd H p o) := h b R _ (.new hp) (S.new hp) r
theorem newTup {vs : List V} {ds : List PyData} (S : Sim K R H st) (hp : H p = none) (q : PdA K (Own R st) H vs ds) : Dv K mg R st (upd H p (.tup vs)) (.ref p) (.dat (.tuple ds)) :=
  Pd.tup (.inl ⟨.inl upd_same, S.notOwn hp⟩) (q.stays (Ext.new hp).stays)
theorem newLst {vs : List V} {ds : List PyData} (S : Sim K R H st) (hp : H p = none) (q : PdA K (Own R st) H vs ds) : Dv K mg R st (upd H p (.lst vs)) (.ref p) (.dat (.list ds)) :=
  Pd.lst upd_same (S.notOwn hp) (q.stays (Ext.new hp).stays)

/-- what a value tells as data, now -/
def dataOf (d : D) (st : Sto) : Option PyData :=
  match d with
  | .dat d => some d
  | .loc n => match st[n]? with
    | some (.lst xs) => some (.list xs)
    | _ => none
  | _ => none
abbrev NoU : Addr → Prop := fun _ => False
theorem noStays {U : Addr → Prop} : Stays U NoU H H := Stays.weak fun _ h => h.elim
theorem Dv.data {v : V} {d : D} {x : PyData} (S : Sim K R H st) (h : Dv K mg R st H v d) (e : dataOf d st = some x) : Pd K NoU H v x := by
  cases d with
  | dat y =>
    cases e
    exact Pd.stays noStays h
  | loc n =>
    obtain ⟨a, h1, rfl⟩ := h
    unfold dataOf at e
    simp only at e
    split at e
    · rename_i xs q
      cases e
      obtain ⟨vs, e1, e2⟩ := S.at_ n a xs h1 q
      exact .lst e1 (fun z => z) (e2.stays noStays)
    · cases e
  | glob x => cases e
  | fz ds => cases e
  | ty t => cases e
  | raw t => cases e
  | err _ _ _ _ => cases e
end

/-! ### operations on values, by functions -/
def OpOk (K : PySem.W.Frag) (mg : Str → Option Value) (r : R2) (f : D → D → M D) : Prop :=
  ∀ (R : Rg) (H : Hp) (st : Sto) (v w : V) (d e : D) (Q : VK) (W : XK), Sim K R H st → Dv K mg R st H v d → Dv K mg R st H w e → Post K mg (Dv K mg) R H st (f d e st) Q W → r v w H Q
def UnOk (K : PySem.W.Frag) (mg : Str → Option Value) (r : V → Hp → VK → Prop) (f : D → M D) : Prop :=
  ∀ (R : Rg) (H : Hp) (st : Sto) (v : V) (d : D) (Q : VK) (W : XK), Sim K R H st → Dv K mg R st H v d → Post K mg (Dv K mg) R H st (f d st) Q W → r v H Q
def CallOk (K : PySem.W.Frag) (mg : Str → Option Value) (r : List V → Hp → VK → Prop) (f : List D → M D) : Prop :=
  ∀ (R : Rg) (H : Hp) (st : Sto) (vs : List V) (ds : List D) (Q : VK) (W : XK), Sim K R H st → DvA K mg R st H vs ds → Post K mg (Dv K mg) R H st (f ds st) Q W → r vs H Q
def m2 (f : D → D → M D) (a b : Env → M D) : Env → M D := fun ρ => M.bind (a ρ) fun x => M.bind (b ρ) fun y => f x y
def m1 (f : D → M D) (a : Env → M D) : Env → M D := fun ρ => M.bind (a ρ) f
def mC (f : List D → M D) (a : Env → M (List D)) : Env → M D := fun ρ => M.bind (a ρ) f
def asB : D → M Bool
  | .dat (.bool b) => M.pure b
  | _ => M.bad
def mT (a : Env → M D) : Env → M Bool := fun ρ => M.bind (a ρ) asB

section
variable {X : Cx} {W : WX} {a b c : Expr} {ma mb mc : Env → M D} {pos : Pos}

theorem tM_bind {K : PySem.W.Frag} {mg : Str → Option Value} {m : Env → M D} {f : D → M D} {σ : L2.St} {H : Hp} {Q : VK} (h : tM K mg W (fun ρ => M.bind (m ρ) f) σ H Q) :
    ∃ R ρ st, Sim K R H st ∧ EnvR K mg R st H σ ρ ∧ tM K mg W m σ H (fun v H1 => ∃ R1 st1 d, Ext R H st R1 H1 st1 ∧ Sim K R1 H1 st1 ∧ Dv K mg R1 st1 H1 v d ∧ Post K mg (Dv K mg) R1 H1 st1 (f d st1) Q (fun c d H' => W c d σ H')) := by
  obtain ⟨R, ρ, st, S, E, h⟩ := h
  exact ⟨R, ρ, st, S, E, R, ρ, st, S, E, Post.bind h⟩

theorem tOp_of {r : R2} {f : D → D → M D} (hf : OpOk X.K X.mg r f) {σ : L2.St} {H : Hp} {Q : VK} (h : tM X.K X.mg W (m2 f ma mb) σ H Q) : tOp r (tM X.K X.mg W ma) (tM X.K X.mg W mb) σ H Q := by
  obtain ⟨R, ρ, st, S, E, h⟩ := h
  refine ⟨R, ρ, st, S, E, ?_⟩
  have h1 := Post.bind (Rel := Dv X.K X.mg) (Rel2 := Dv X.K X.mg) h
  cases e1 : ma ρ st with
  | bad => rw [e1] at h1; exact h1
  | exc x st' => rw [e1] at h1; exact h1
  | ok d1 st1 =>
    rw [e1] at h1
    intro v1 R1 H1 x1 S1 D1
    obtain ⟨R1', st1', d1', x1', S1', D1', h2⟩ := h1 v1 R1 H1 x1 S1 D1
    refine ⟨R1', ρ, st1', S1', E.ext x1', ?_⟩
    have h3 := Post.bind (Rel := Dv X.K X.mg) (Rel2 := Dv X.K X.mg) h2
    cases e2 : mb ρ st1' with
    | bad => rw [e2] at h3; exact h3
    | exc x st' => rw [e2] at h3; exact h3
    | ok d2 st2 =>
      rw [e2] at h3
      intro v2 R2 H2 x2 S2 D2
      obtain ⟨R2', st2', d2', x2', S2', D2', h4⟩ := h3 v2 R2 H2 x2 S2 D2
      exact hf R2' H2 st2' v1 v2 d1' d2' Q _ S2' (D1'.ext x2') D2' h4

theorem ev_bin {op : Operator} {r : R2} {f : D → D → M D} (ho : OpR X (binaryOp op) r) (hf : OpOk X.K X.mg r f) (ha : EV X W a ma) (hb : EV X W b mb) : EV X W (.BinOp a op b pos) (m2 f ma mb) :=
  ⟨PE.imp (pe_op ho ha.pe hb.pe) fun _ _ _ h => tOp_of hf h⟩
theorem ev_cmp {op : CmpOp} {r : R2} {f : D → D → M D} (ho : OpR X (compareOp op) r) (hf : OpOk X.K X.mg r f) (hm : behindInMarks op b = false) (ha : EV X W a ma) (hb : EV X W b mb) : EV X W (.Compare a [op] [b] pos) (m2 f ma mb) :=
  ⟨PE.imp (pe_cmpR ho ha.pe hb.pe hm) fun _ _ _ h => tOp_of hf h⟩
theorem ev_ix {r : R2} {f : D → D → M D} (ho : IxR X r) (hf : OpOk X.K X.mg r f) (hs : PlainIx b) (ha : EV X W a ma) (hb : EV X W b mb) : EV X W (.Subscript a b pos) (m2 f ma mb) :=
  ⟨PE.imp (pe_ix ho ha.pe hb.pe hs) fun _ _ _ h => tOp_of hf h⟩
theorem ev_un {op : UnaryOp} {r : V → Hp → VK → Prop} {f : D → M D} (ho : UnR X (unaryOp op) r) (hf : UnOk X.K X.mg r f) (ha : EV X W a ma) : EV X W (.UnaryOp op a pos) (m1 f ma) := by
  refine ⟨PE.imp (pe_un ho ha.pe) fun σ H Q h => ?_⟩
  obtain ⟨R, ρ, st, S, E, h⟩ := h
  refine ⟨R, ρ, st, S, E, ?_⟩
  have h1 := Post.bind (Rel := Dv X.K X.mg) (Rel2 := Dv X.K X.mg) h
  cases e1 : ma ρ st with
  | bad => rw [e1] at h1; exact h1
  | exc x st' => rw [e1] at h1; exact h1
  | ok d1 st1 =>
    rw [e1] at h1
    intro v1 R1 H1 x1 S1 D1
    obtain ⟨R1', st1', d1', x1', S1', D1', h2⟩ := h1 v1 R1 H1 x1 S1 D1
    exact hf R1' H1 st1' v1 d1' Q _ S1' D1' h2

/-! ### names, constants -/
def vr (i : Nat) : Env → M D := fun ρ st =>
  match ρ[i]? with
  | some (some d) => .ok d st
  | _ => .bad
def ct (d : D) : Env → M D := fun _ st => .ok d st
theorem ev_vr (i : Nat) {x : Str} (hN : X.N[i]? = some x := by rfl) (hv : Vis X.env.scope x := by first | exact Or.inl rfl | exact Or.inr (Or.inl rfl) | exact Or.inr (Or.inr rfl)) (hd : (x == ("__debug__" : Str)) = false := by decide)
    (hcd : (x == ("__classdict__" : Str)) = false := by decide) : EV X W (.Name x pos) (vr i) := by
  refine ⟨PE.imp (pe_var hN hv hd hcd) fun σ H Q h => ?_⟩
  obtain ⟨R, ρ, st, S, E, h⟩ := h
  unfold vr at h
  split at h
  · rename_i d e
    obtain ⟨v, h1, h2⟩ := E.at_ i d e
    exact ⟨v, h1, h.okR S h2⟩
  · exact h.elim
theorem tC_of {v : V} {d : D} {σ : L2.St} {H : Hp} {Q : VK} (hd : ∀ R st H, Dv X.K X.mg R st H v d) (h : tM X.K X.mg W (ct d) σ H Q) : tC v σ H Q := by
  obtain ⟨R, ρ, st, S, E, h⟩ := h
  exact h.okR S (hd _ _ _)
theorem ev_int {i : Int} {j : Nat} : EV X W (.Constant (.int i) j pos) (ct (.dat (.int i))) := ⟨PE.imp pe_int fun _ _ _ h => tC_of (fun _ _ _ => Dv.int i) h⟩
theorem ev_bl {i : Bool} {j : Nat} : EV X W (.Constant (.bool i) j pos) (ct (.dat (.bool i))) := ⟨PE.imp pe_bl fun _ _ _ h => tC_of (fun _ _ _ => Dv.bl i) h⟩
theorem ev_non {j : Nat} : EV X W (.Constant .none j pos) (ct (.dat .none)) := ⟨PE.imp pe_non fun _ _ _ h => tC_of (fun _ _ _ => Dv.non) h⟩
theorem ev_str {i : Str} {j : Nat} : EV X W (.Constant (.str i) j pos) (ct (.dat (.str i))) := ⟨PE.imp pe_str fun _ _ _ h => tC_of (fun _ _ _ => Dv.str i) h⟩
/-- a module's int -/
theorem ev_gint {x : Str} {i : Int} {u : Value} (hg : Gl X x) (hm : X.mg x = some u) (r : RelV (.int i) u) (hd : (x == ("__debug__" : Str)) = false := by decide) : EV X W (.Name x pos) (ct (.dat (.int i))) :=
  ⟨PE.imp (pe_glob hg hm r hd) fun _ _ _ h => tC_of (fun _ _ _ => Dv.int i) h⟩

/-! ### tests -/
theorem Post.asB {K : PySem.W.Frag} {mg : Str → Option Value} {R : Rg} {H : Hp} {st : Sto} {d : D} {v : V} {Q : Bool → Hp → Prop} {W : XK} (S : Sim K R H st) (D1 : Dv K mg R st H v d) (h : Post K mg RelB R H st (asB d st) Q W) :
    ∃ k, v = .bl k ∧ d = .dat (.bool k) ∧ Q k H := by
  unfold Ev.asB at h
  split at h
  · rename_i b
    cases D1
    exact ⟨b, rfl, rfl, h.okR S rfl⟩
  · exact h.elim
theorem tTest_of {m : Env → M D} {σ : L2.St} {H : Hp} {Q : Bool → Hp → Prop} (h : tMB X.K X.mg W (mT m) σ H Q) : tM X.K X.mg W m σ H fun x H' => ∃ k, x = .bl k ∧ Q k H' := by
  obtain ⟨R, ρ, st, S, E, h⟩ := h
  refine ⟨R, ρ, st, S, E, ?_⟩
  have h1 := Post.bind (Rel := Dv X.K X.mg) (Rel2 := RelB) h
  cases e1 : m ρ st with
  | bad => rw [e1] at h1; exact h1
  | exc x st' => rw [e1] at h1; exact h1
  | ok d1 st1 =>
    rw [e1] at h1
    intro v1 R1 H1 x1 S1 D1
    obtain ⟨R1', st1', d1', x1', S1', D1', h2⟩ := h1 v1 R1 H1 x1 S1 D1
    obtain ⟨k, e, _, q⟩ := Post.asB S1' D1' h2
    exact ⟨k, e, q⟩
theorem evt_cmp {op : CmpOp} {r : R2} {f : D → D → M D} (ho : OpR X (compareOp op) r) (hf : OpOk X.K X.mg r f) (hm : behindInMarks op b = false) (ha : EV X W a ma) (hb : EV X W b mb) : EVT X W (.Compare a [op] [b] pos) (mT (m2 f ma mb)) :=
  ⟨PT.imp (pt_cmpR ho ha.pe hb.pe hm) fun _ _ _ h => tOp_of hf (tTest_of h)⟩
/-- a name, a call, a subscript that gives True or False -/
theorem evt_tru (ha : EV X W a ma) (he : ∀ whole, isTrue a X.env whole = (do let v ← whole; standAt a.pos; holding [v] (truthy v)) := by intro _; rfl) : EVT X W a (mT ma) := by
  refine ⟨PT.imp (pt_truth ha.pe he) fun σ H Q h => ?_⟩
  obtain ⟨R, ρ, st, S, E, h⟩ := tTest_of h
  refine ⟨R, ρ, st, S, E, ?_⟩
  cases e1 : ma ρ st with
  | bad => rw [e1] at h; exact h
  | exc x st' => rw [e1] at h; exact h
  | ok d1 st1 =>
    rw [e1] at h
    intro v1 R1 H1 x1 S1 D1
    obtain ⟨k, rfl, q⟩ := h v1 R1 H1 x1 S1 D1
    exact ⟨k, rfl, q⟩
def mNot (m : Env → M Bool) : Env → M Bool := fun ρ => M.bind (m ρ) fun b => M.pure !b
def mAnd (m n : Env → M Bool) : Env → M Bool := fun ρ => M.bind (m ρ) fun b => if b = true then n ρ else M.pure false
def mOr (m n : Env → M Bool) : Env → M Bool := fun ρ => M.bind (m ρ) fun b => if b = true then M.pure true else n ρ
variable {ta tb : Env → M Bool} {rest : List Expr}
theorem tB_bind {α : Type} {m : Env → M Bool} {f : Env → Bool → M α} {β : Type} {Rel : RelT α β} {σ : L2.St} {H : Hp} {Q : β → Hp → Prop} {R : Rg} {ρ : Env} {st : Sto} (S : Sim X.K R H st) (E : EnvR X.K X.mg R st H σ ρ)
    (h : Post X.K X.mg Rel R H st (M.bind (m ρ) (f ρ) st) Q (fun c d H' => W c d σ H')) :
    tMB X.K X.mg W m σ H (fun k H1 => ∃ R1 st1, Sim X.K R1 H1 st1 ∧ EnvR X.K X.mg R1 st1 H1 σ ρ ∧ Post X.K X.mg Rel R1 H1 st1 (f ρ k st1) Q (fun c d H' => W c d σ H')) := by
  refine ⟨R, ρ, st, S, E, ?_⟩
  have h1 := Post.bind (Rel := RelB) (Rel2 := Rel) h
  cases e1 : m ρ st with
  | bad => rw [e1] at h1; exact h1
  | exc x st' => rw [e1] at h1; exact h1
  | ok d1 st1 =>
    rw [e1] at h1
    intro v1 R1 H1 x1 S1 D1
    obtain ⟨R1', st1', d1', x1', S1', D1', h2⟩ := h1 v1 R1 H1 x1 S1 D1
    have e : v1 = d1' := D1'
    subst e
    exact ⟨R1', st1', S1', E.ext x1', h2⟩
theorem evt_not (ha : EVT X W a ta) : EVT X W (.UnaryOp .Not a pos) (mNot ta) := by
  refine ⟨PT.imp (pt_not ha.pt) fun σ H Q h => ?_⟩
  obtain ⟨R, ρ, st, S, E, h⟩ := h
  obtain ⟨R0, ρ0, st0, S0, E0, h0⟩ := tB_bind (f := fun _ b => M.pure !b) S E h
  refine ⟨R0, ρ0, st0, S0, E0, ?_⟩
  cases e1 : ta ρ0 st0 with
  | bad => rw [e1] at h0; exact h0
  | exc x st' => rw [e1] at h0; exact h0
  | ok d1 st1 =>
    rw [e1] at h0
    intro v1 R1 H1 x1 S1 D1
    obtain ⟨R1', st1', S1', E1, h2⟩ := h0 v1 R1 H1 x1 S1 D1
    exact h2.okR S1' rfl
theorem Post.monoQ {K : PySem.W.Frag} {mg : Str → Option Value} {α β : Type} {Rel : RelT α β} {R : Rg} {H : Hp} {st : Sto} {r : Res α} {Q Q' : β → Hp → Prop} {W : XK} (h : Post K mg Rel R H st r Q W) (q : ∀ b H, Q b H → Q' b H) : Post K mg Rel R H st r Q' W := by
  cases r with
  | ok a st' => exact fun b R' H' e s z => q _ _ (h b R' H' e s z)
  | exc x st' => exact h
  | bad => exact h
theorem tMB.mono {K : PySem.W.Frag} {mg : Str → Option Value} {m : Env → M Bool} {σ : L2.St} {H : Hp} {Q Q' : Bool → Hp → Prop} (h : tMB K mg W m σ H Q) (q : ∀ b H, Q b H → Q' b H) : tMB K mg W m σ H Q' := by
  obtain ⟨R, ρ, st, S, E, h⟩ := h
  exact ⟨R, ρ, st, S, E, h.monoQ q⟩
theorem tM.mono {K : PySem.W.Frag} {mg : Str → Option Value} {m : Env → M D} {σ : L2.St} {H : Hp} {Q Q' : VK} (h : tM K mg W m σ H Q) (q : ∀ b H, Q b H → Q' b H) : tM K mg W m σ H Q' := by
  obtain ⟨R, ρ, st, S, E, h⟩ := h
  exact ⟨R, ρ, st, S, E, h.monoQ q⟩
theorem evw_and1 (ha : EVT X W a ta) : EVW X W (.BoolOp .And [a] pos) ta := ⟨pw_and1 ha.pt⟩
theorem evw_or1 (ha : EVT X W a ta) : EVW X W (.BoolOp .Or [a] pos) ta := ⟨pw_or1 ha.pt⟩
theorem evw_and (ha : EVT X W a ta) (hb : EVW X W (.BoolOp .And (b :: rest) pos) tb) : EVW X W (.BoolOp .And (a :: b :: rest) pos) (mAnd ta tb) := by
  refine ⟨PW.imp (pw_and ha.pt hb.pw) fun σ H Q h => ?_⟩
  obtain ⟨R, ρ, st, S, E, h⟩ := h
  refine tMB.mono (tB_bind (f := fun ρ b => if b = true then tb ρ else M.pure false) S E h) fun k H1 ⟨R1, st1, S1, E1, h1⟩ => ?_
  cases k with
  | true => exact ⟨R1, ρ, st1, S1, E1, h1⟩
  | false => exact h1.okR S1 rfl
theorem evw_or (ha : EVT X W a ta) (hb : EVW X W (.BoolOp .Or (b :: rest) pos) tb) : EVW X W (.BoolOp .Or (a :: b :: rest) pos) (mOr ta tb) := by
  refine ⟨PW.imp (pw_or ha.pt hb.pw) fun σ H Q h => ?_⟩
  obtain ⟨R, ρ, st, S, E, h⟩ := h
  refine tMB.mono (tB_bind (f := fun ρ b => if b = true then M.pure true else tb ρ) S E h) fun k H1 ⟨R1, st1, S1, E1, h1⟩ => ?_
  cases k with
  | true => exact h1.okR S1 rfl
  | false => exact ⟨R1, ρ, st1, S1, E1, h1⟩
theorem evt_w (h : EVW X W a ta) : EVT X W a ta := ⟨h.pw.pt⟩
/-- a if t else b -/
def mIf (t : Env → M Bool) (m n : Env → M D) : Env → M D := fun ρ => M.bind (t ρ) fun k => if k = true then m ρ else n ρ
theorem ev_if (hc : EVT X W c ta) (ha : EV X W a ma) (hb : EV X W b mb) : EV X W (.IfExp c a b pos) (mIf ta ma mb) := by
  refine ⟨PE.imp (pe_ifExp hc.pt ha.pe hb.pe) fun σ H Q h => ?_⟩
  obtain ⟨R, ρ, st, S, E, h⟩ := h
  refine tMB.mono (tB_bind (f := fun ρ b => if b = true then ma ρ else mb ρ) S E h) fun k H1 ⟨R1, st1, S1, E1, h1⟩ => ?_
  cases k with
  | true => exact ⟨R1, ρ, st1, S1, E1, h1⟩
  | false => exact ⟨R1, ρ, st1, S1, E1, h1⟩

/-! ### and, or, not as values: all but the last True or False -/
def mAndV (m n : Env → M D) : Env → M D := fun ρ => M.bind (m ρ) fun x => M.bind (asB x) fun b => if b = true then n ρ else M.pure (.dat (.bool false))
def mOrV (m n : Env → M D) : Env → M D := fun ρ => M.bind (m ρ) fun x => M.bind (asB x) fun b => if b = true then M.pure (.dat (.bool true)) else n ρ
def mNotV (m : Env → M D) : Env → M D := fun ρ => M.bind (m ρ) fun x => M.bind (asB x) fun b => M.pure (.dat (.bool !b))
theorem tV_bind {m : Env → M D} {f : Env → Bool → M D} {σ : L2.St} {H : Hp} {Q : VK} (h : tM X.K X.mg W (fun ρ => M.bind (m ρ) fun x => M.bind (asB x) (f ρ)) σ H Q) :
    tM X.K X.mg W m σ H (fun v H1 => ∃ k, v = .bl k ∧ ∃ R1 st1 ρ, Sim X.K R1 H1 st1 ∧ EnvR X.K X.mg R1 st1 H1 σ ρ ∧ Post X.K X.mg (Dv X.K X.mg) R1 H1 st1 (f ρ k st1) Q (fun c d H' => W c d σ H')) := by
  obtain ⟨R, ρ, st, S, E, h⟩ := h
  refine ⟨R, ρ, st, S, E, ?_⟩
  have h1 := Post.bind (Rel := Dv X.K X.mg) (Rel2 := Dv X.K X.mg) h
  cases e1 : m ρ st with
  | bad => rw [e1] at h1; exact h1
  | exc x st' => rw [e1] at h1; exact h1
  | ok d1 st1 =>
    rw [e1] at h1
    intro v1 R1 H1 x1 S1 D1
    obtain ⟨R1', st1', d1', x1', S1', D1', h2⟩ := h1 v1 R1 H1 x1 S1 D1
    have h3 := Post.bind (Rel := RelB) (Rel2 := Dv X.K X.mg) h2
    obtain ⟨k, rfl, rfl, R2, st2, a, x2, S2, rb, h4⟩ := Post.asB S1' D1' h3
    have e : k = a := rb
    subst e
    exact ⟨k, rfl, R2, st2, ρ, S2, (E.ext x1').ext x2, h4⟩
theorem ev_one {op : BoolOp} (h : EV X W a ma) : EV X W (.BoolOp op [a] pos) ma := ⟨pe_one h.pe⟩
theorem ev_and (ha : EV X W a ma) (hb : EV X W (.BoolOp .And (b :: rest) pos) mb) : EV X W (.BoolOp .And (a :: b :: rest) pos) (mAndV ma mb) := by
  refine ⟨PE.imp (pe_and ha.pe hb.pe) fun σ H Q h => ?_⟩
  refine tM.mono (tV_bind (f := fun ρ b => if b = true then mb ρ else M.pure (.dat (.bool false))) h) fun v H1 ⟨k, e, R1, st1, ρ, S1, E1, h1⟩ => ⟨k, e, ?_⟩
  cases k with
  | true => exact ⟨R1, ρ, st1, S1, E1, h1⟩
  | false => exact h1.okR S1 (Pd.bl false)
theorem ev_or (ha : EV X W a ma) (hb : EV X W (.BoolOp .Or (b :: rest) pos) mb) : EV X W (.BoolOp .Or (a :: b :: rest) pos) (mOrV ma mb) := by
  refine ⟨PE.imp (pe_or ha.pe hb.pe) fun σ H Q h => ?_⟩
  refine tM.mono (tV_bind (f := fun ρ b => if b = true then M.pure (.dat (.bool true)) else mb ρ) h) fun v H1 ⟨k, e, R1, st1, ρ, S1, E1, h1⟩ => ⟨k, e, ?_⟩
  cases k with
  | true => exact h1.okR S1 (Pd.bl true)
  | false => exact ⟨R1, ρ, st1, S1, E1, h1⟩
theorem ev_not (ha : EV X W a ma) : EV X W (.UnaryOp .Not a pos) (mNotV ma) := by
  refine ⟨PE.imp (pe_not ha.pe) fun σ H Q h => ?_⟩
  refine tM.mono (tV_bind (f := fun ρ b => M.pure (.dat (.bool !b))) h) fun v H1 ⟨k, e, R1, st1, ρ, S1, E1, h1⟩ => ⟨k, e, ?_⟩
  exact h1.okR S1 (Pd.bl (!k))
/-- a op b op' c -/
def mChain (f g : D → D → M D) (ma mb mc : Env → M D) : Env → M D := fun ρ => M.bind (ma ρ) fun x => M.bind (mb ρ) fun y => M.bind (f x y) fun z => M.bind (asB z) fun k => if k = true then M.bind (mc ρ) fun w => g y w else M.pure (.dat (.bool false))
theorem tChain_of {r r' : R2} {f g : D → D → M D} (hf : OpOk X.K X.mg r f) (hg : OpOk X.K X.mg r' g) {σ : L2.St} {H : Hp} {Q : VK} (h : tM X.K X.mg W (mChain f g ma mb mc) σ H Q) : tChain r r' (tM X.K X.mg W ma) (tM X.K X.mg W mb) (tM X.K X.mg W mc) σ H Q := by
  obtain ⟨R, ρ, st, S, E, h⟩ := h
  refine ⟨R, ρ, st, S, E, ?_⟩
  have h1 := Post.bind (Rel := Dv X.K X.mg) (Rel2 := Dv X.K X.mg) h
  refine h1.monoQ ?_
  intro v1 H1 ⟨R1, st1, d1, x1, S1, D1, h2⟩
  refine ⟨R1, ρ, st1, S1, E.ext x1, ?_⟩
  have h3 := Post.bind (Rel := Dv X.K X.mg) (Rel2 := Dv X.K X.mg) h2
  refine h3.monoQ ?_
  intro v2 H2 ⟨R2, st2, d2, x2, S2, D2, h4⟩
  have h5 := Post.bind (Rel := Dv X.K X.mg) (Rel2 := Dv X.K X.mg) h4
  refine hf R2 H2 st2 v1 v2 d1 d2 _ _ S2 (D1.ext x2) D2 (h5.monoQ ?_)
  intro v3 H3 ⟨R3, st3, d3, x3, S3, D3, h6⟩
  have h7 := Post.bind (Rel := RelB) (Rel2 := Dv X.K X.mg) h6
  obtain ⟨k, rfl, rfl, R4, st4, a, x4, S4, rb, h8⟩ := Post.asB S3 D3 h7
  have e : k = a := rb
  subst e
  refine ⟨k, rfl, ?_⟩
  cases k with
  | true =>
    rw [if_pos rfl] at h8 ⊢
    refine ⟨R4, ρ, st4, S4, (((E.ext x1).ext x2).ext x3).ext x4, ?_⟩
    have h9 := Post.bind (Rel := Dv X.K X.mg) (Rel2 := Dv X.K X.mg) h8
    refine h9.monoQ ?_
    intro v5 H5 ⟨R5, st5, d5, x5, S5, D5, h10⟩
    exact hg R5 H5 st5 v2 v5 d2 d5 _ _ S5 (((D2.ext x3).ext x4).ext x5) D5 h10
  | false =>
    rw [if_neg Bool.false_ne_true] at h8 ⊢
    exact h8.okR S4 (Pd.bl false)
theorem ev_chain {op op' : CmpOp} {r r' : R2} {f g : D → D → M D} (ho : OpR X (compareOp op) r) (hf : OpOk X.K X.mg r f) (ho' : OpR X (compareOp op') r') (hg : OpOk X.K X.mg r' g) (hm : lastMarks [op, op'] [b, c] = false) (ha : EV X W a ma) (hb : EV X W b mb) (hc : EV X W c mc) :
    EV X W (.Compare a [op, op'] [b, c] pos) (mChain f g ma mb mc) := ⟨PE.imp (pe_chain ho ho' ha.pe hb.pe hc.pe hm) fun _ _ _ h => tChain_of hf hg h⟩
theorem evt_chain {op op' : CmpOp} {r r' : R2} {f g : D → D → M D} (ho : OpR X (compareOp op) r) (hf : OpOk X.K X.mg r f) (ho' : OpR X (compareOp op') r') (hg : OpOk X.K X.mg r' g) (hm : lastMarks [op, op'] [b, c] = false) (ha : EV X W a ma) (hb : EV X W b mb) (hc : EV X W c mc) :
    EVT X W (.Compare a [op, op'] [b, c] pos) (mT (mChain f g ma mb mc)) := ⟨PT.imp (pt_chain ho ho' ha.pe hb.pe hc.pe hm) fun _ _ _ h => tChain_of hf hg (tTest_of h)⟩

/-! ### argument lists, displays, calls of built-ins -/
def aNil : Env → M (List D) := fun _ => M.pure []
def aCons (m : Env → M D) (r : Env → M (List D)) : Env → M (List D) := fun ρ => M.bind (m ρ) fun x => M.bind (r ρ) fun xs => M.pure (x :: xs)
variable {e : Expr} {es : List Expr} {me : Env → M D} {ms : Env → M (List D)}
theorem ea_nil : EVA X W [] aNil := by
  refine ⟨PA.imp pa_nil fun σ H Q h => ?_⟩
  obtain ⟨R, ρ, st, S, E, h⟩ := h
  exact h.okR S .nil
theorem ea_cons (ha : EV X W e me) (hr : EVA X W es ms) (hs : starEach (e :: es) X.env = (false, eval e X.env) :: starEach es X.env := by rfl) : EVA X W (e :: es) (aCons me ms) := by
  refine ⟨PA.imp (pa_cons ha.pe hr.pa hs) fun σ H Q h => ?_⟩
  obtain ⟨R, ρ, st, S, E, h⟩ := h
  refine ⟨R, ρ, st, S, E, ?_⟩
  have h1 := Post.bind (Rel := Dv X.K X.mg) (Rel2 := DvA X.K X.mg) h
  refine h1.monoQ ?_
  intro v1 H1 ⟨R1, st1, d1, x1, S1, D1, h2⟩
  refine ⟨R1, ρ, st1, S1, E.ext x1, ?_⟩
  have h3 := Post.bind (Rel := DvA X.K X.mg) (Rel2 := DvA X.K X.mg) h2
  refine h3.monoQ ?_
  intro vs H2 ⟨R2, st2, ds, x2, S2, D2, h4⟩
  exact h4.okR S2 (.cons (D1.ext x2) D2)
theorem tA_of {β : Type} {f : List D → M D} {σ : L2.St} {H : Hp} {Q : VK} (h : tM X.K X.mg W (mC f ms) σ H Q) :
    tMA X.K X.mg W ms σ H (fun vs H1 => ∃ R1 st1 ds, Sim X.K R1 H1 st1 ∧ DvA X.K X.mg R1 st1 H1 vs ds ∧ Post X.K X.mg (Dv X.K X.mg) R1 H1 st1 (f ds st1) Q (fun c d H' => W c d σ H')) := by
  obtain ⟨R, ρ, st, S, E, h⟩ := h
  refine ⟨R, ρ, st, S, E, ?_⟩
  have h1 := Post.bind (Rel := DvA X.K X.mg) (Rel2 := Dv X.K X.mg) h
  exact h1.monoQ fun vs H1 ⟨R1, st1, ds, x1, S1, D1, h2⟩ => ⟨R1, st1, ds, S1, D1, h2⟩
theorem ev_callB {x : Str} {p : Pos} {id : String} {r : List V → Hp → VK → Prop} {f : List D → M D} (hc : CallR X (.builtin id) r) (hf : CallOk X.K X.mg r f) (hg : Gl X x) (hm : X.mg x = none) (hv : bootBuiltins x = some (.builtin id)) (ha : EVA X W (e :: es) ms)
    (hn : x ≠ "__name__" := by decide) (hdb : (x == ("__debug__" : Str)) = false := by decide)
    (he : starEach (e :: es) X.env = (false, eval e X.env) :: starEach es X.env := by rfl) (hpl : (backTo pos (starEach es X.env)).any (·.1) = false := by rfl) : EV X W (.Call (.Name x p) (e :: es) [] pos) (mC f ms) := by
  refine ⟨PE.imp (pe_callB hc hg hm hv ha.pa hn hdb he hpl) fun σ H Q h => ?_⟩
  obtain ⟨R, ρ, st, S, E, h⟩ := tA_of (β := V) h
  exact ⟨R, ρ, st, S, E, h.monoQ fun vs H1 ⟨R1, st1, ds, S1, D1, h2⟩ => hf R1 H1 st1 vs ds Q _ S1 D1 h2⟩
theorem ev_callTy {x : Str} {p : Pos} {T : String} {r : List V → Hp → VK → Prop} {f : List D → M D} (hc : CallR X (.type T) r) (hf : CallOk X.K X.mg r f) (hg : Gl X x) (hm : X.mg x = none) (hv : bootBuiltins x = some (.type T)) (ha : EVA X W (e :: es) ms)
    (hn : x ≠ "__name__" := by decide) (hdb : (x == ("__debug__" : Str)) = false := by decide)
    (he : starEach (e :: es) X.env = (false, eval e X.env) :: starEach es X.env := by rfl) (hpl : (backTo pos (starEach es X.env)).any (·.1) = false := by rfl) : EV X W (.Call (.Name x p) (e :: es) [] pos) (mC f ms) := by
  refine ⟨PE.imp (pe_callTy hc hg hm hv ha.pa hn hdb he hpl) fun σ H Q h => ?_⟩
  obtain ⟨R, ρ, st, S, E, h⟩ := tA_of (β := V) h
  exact ⟨R, ρ, st, S, E, h.monoQ fun vs H1 ⟨R1, st1, ds, S1, D1, h2⟩ => hf R1 H1 st1 vs ds Q _ S1 D1 h2⟩
/-- all of them data -/
def datas : List D → Option (List PyData)
  | [] => some []
  | .dat d :: r => (datas r).map (d :: ·)
  | _ :: _ => none
theorem datas_of {K : PySem.W.Frag} {mg : Str → Option Value} {R : Rg} {H : Hp} {st : Sto} : ∀ {ds : List D} {vs : List V} {xs : List PyData}, DvA K mg R st H vs ds → datas ds = some xs → PdA K (Own R st) H vs xs
  | _, _, _, .nil, e => by cases e; exact .nil
  | .dat d :: r, _, _, .cons h q, e => by
    unfold datas at e
    cases z : datas r with
    | none => rw [z] at e; cases e
    | some ys =>
      rw [z] at e
      cases e
      exact .cons h (datas_of q z)
  | .loc _ :: _, _, _, .cons _ _, e => by cases e
  | .glob _ :: _, _, _, .cons _ _, e => by cases e
  | .fz _ :: _, _, _, .cons _ _, e => by cases e
  | .ty _ :: _, _, _, .cons _ _, e => by cases e
  | .raw _ :: _, _, _, .cons _ _, e => by cases e
  | .err _ _ _ _ :: _, _, _, .cons _ _, e => by cases e
def mkTup (ds : List D) : M D := fun st =>
  match datas ds with
  | some xs => if xs.length ≤ 100000 then .ok (.dat (.tuple xs)) st else .bad
  | none => .bad
def mkLst (ds : List D) : M D := fun st =>
  match datas ds with
  | some xs => if xs.length ≤ 100000 then .ok (.dat (.list xs)) st else .bad
  | none => .bad
/-- a list that is to change: it goes into the store -/
def mkLoc (ds : List D) : M D := fun st =>
  match datas ds with
  | some xs => if xs.length ≤ 100000 then .ok (.loc st.length) (st ++ [.lst xs]) else .bad
  | none => .bad
theorem small5 {n : Nat} (h : n ≤ 100000) : n ≤ sizeLine := by rw [sizeLine_eq]; omega
theorem ev_tup {x1} (h : EVA X W es ms) : EV X W (.Tuple es x1 pos) (mC mkTup ms) := by
  refine ⟨PE.imp (pe_tup h.pa) fun σ H Q h => ?_⟩
  obtain ⟨R, ρ, st, S, E, h⟩ := tA_of (β := V) h
  refine ⟨R, ρ, st, S, E, h.monoQ fun vs H1 ⟨R1, st1, ds, S1, D1, h2⟩ => ?_⟩
  unfold mkTup at h2
  split at h2
  · rename_i xs e
    split at h2
    · rename_i hl
      have q := datas_of D1 e
      exact ⟨by rw [q.len]; exact small5 hl, fun p hp => h2.okN S1 hp (newTup S1 hp q)⟩
    · exact h2.elim
  · exact h2.elim
theorem ev_lst (h : EVA X W es ms) : EV X W (.List es pos) (mC mkLst ms) := by
  refine ⟨PE.imp (pe_lst h.pa) fun σ H Q h => ?_⟩
  obtain ⟨R, ρ, st, S, E, h⟩ := tA_of (β := V) h
  refine ⟨R, ρ, st, S, E, h.monoQ fun vs H1 ⟨R1, st1, ds, S1, D1, h2⟩ => ?_⟩
  unfold mkLst at h2
  split at h2
  · rename_i xs e
    split at h2
    · rename_i hl
      have q := datas_of D1 e
      exact ⟨by rw [q.len]; exact small5 hl, fun p hp => h2.okN S1 hp (newLst S1 hp q)⟩
    · exact h2.elim
  · exact h2.elim
end
/-- a new list enters the store -/
def Rg.put (R : Rg) (p : Addr) : Rg := ⟨R.r ++ [p], R.p⟩
theorem ext_loc {K : PySem.W.Frag} {R : Rg} {H : Hp} {st : Sto} {p : Addr} {vs : List V} {xs : List PyData} (S : Sim K R H st) (hp : H p = none) (q : PdA K (Own R st) H vs xs) :
    Ext R H st (R.put p) (upd H p (.lst vs)) (st ++ [.lst xs]) ∧ Sim K (R.put p) (upd H p (.lst vs)) (st ++ [.lst xs]) := by
  have own : ∀ a, Own (R.put p) (st ++ [.lst xs]) a → Own R st a ∨ a = p := by
    rintro a (⟨n, ys, h1, h2⟩ | h)
    · unfold Rg.put at h1
      dsimp only at h1
      by_cases hn : n < R.r.length
      · rw [List.getElem?_append_left hn] at h1
        rw [List.getElem?_append_left (by rw [← S.len]; exact hn)] at h2
        exact .inl (.inl ⟨n, ys, h1, h2⟩)
      · right
        rw [List.getElem?_append_right (by omega)] at h1
        have := List.mem_of_getElem? h1
        simpa using this
    · exact .inl (.inr h)
  have E : Ext R H st (R.put p) (upd H p (.lst vs)) (st ++ [.lst xs]) := by
    refine ⟨⟨[p], rfl, fun a ha => ?_⟩, rfl, fun a _ u e => by rw [upd_ne (ne_of_none e hp)]; exact e, ⟨fun a u e _ => by rw [upd_ne (ne_of_none e hp)]; exact e, fun a z => ?_⟩⟩
    · have e : a = p := by simpa using ha
      rw [e]; exact hp
    · rcases own a z with z | rfl
      · exact .inl z
      · exact .inr hp
  refine ⟨E, by simp [Rg.put, S.len], ?_, fun a ha => ?_, fun a ha => ?_, fun n a ys h1 h2 => ?_⟩
  · refine List.nodup_append.mpr ⟨S.nd, by simp, fun a ha b hb => ?_⟩
    have e : b = p := by simpa using hb
    rw [e]
    exact fun z => S.fresh hp (z ▸ ha)
  · rcases List.mem_append.mp ha with h | h
    · exact S.nr a h
    · have e : a = p := by simpa using h
      rw [e]; exact S.freshP hp
  · by_cases e : a = p
    · rw [e, upd_same]; simp
    · rw [upd_ne e]
      refine S.trk a ?_
      rcases ha with h | h
      · rcases List.mem_append.mp h with h | h
        · exact .inl h
        · exact absurd (by simpa using h) e
      · exact .inr h
  · unfold Rg.put at h1
    dsimp only at h1
    by_cases hn : n < R.r.length
    · rw [List.getElem?_append_left hn] at h1
      rw [List.getElem?_append_left (by rw [← S.len]; exact hn)] at h2
      obtain ⟨ws, e, w⟩ := S.at_ n a ys h1 h2
      exact ⟨ws, by rw [upd_ne (ne_of_none e hp)]; exact e, w.stays E.stays⟩
    · rw [List.getElem?_append_right (by omega)] at h1
      rw [List.getElem?_append_right (by rw [← S.len]; omega)] at h2
      have e1 : a = p := by
        have := List.mem_of_getElem? h1
        simpa using this
      have e2 : Cell.lst ys = Cell.lst xs := by
        have := List.mem_of_getElem? h2
        simpa using this
      cases e2
      exact ⟨vs, by rw [e1, upd_same], q.stays E.stays⟩
theorem put_at {K : PySem.W.Frag} {R : Rg} {H : Hp} {st : Sto} {p : Addr} (S : Sim K R H st) : (R.put p).r[st.length]? = some p := by
  unfold Rg.put
  rw [← S.len, List.getElem?_append_right (Nat.le_refl _), Nat.sub_self]
  rfl
section
variable {X : Cx} {W : WX} {pos : Pos} {es : List Expr} {ms : Env → M (List D)}
theorem ev_loc (h : EVA X W es ms) : EV X W (.List es pos) (mC mkLoc ms) := by
  refine ⟨PE.imp (pe_lst h.pa) fun σ H Q h => ?_⟩
  obtain ⟨R, ρ, st, S, E, h⟩ := tA_of (β := V) h
  refine ⟨R, ρ, st, S, E, h.monoQ fun vs H1 ⟨R1, st1, ds, S1, D1, h2⟩ => ?_⟩
  unfold mkLoc at h2
  split at h2
  · rename_i xs e
    split at h2
    · rename_i hl
      have q := datas_of D1 e
      refine ⟨by rw [q.len]; exact small5 hl, fun p hp => ?_⟩
      obtain ⟨x2, S2⟩ := ext_loc S1 hp q
      exact h2 _ _ _ x2 S2 ⟨p, put_at S1, rfl⟩
    · exact h2.elim
  · exact h2.elim
end
end Ev
set_option Elab.async false
set_option linter.all false
set_option maxRecDepth 100000
set_option maxHeartbeats 4000000
/-! EvT: a tuple none or one time. -/
namespace Ev
open PySem PySem.Spec PyProof.Rows L2
theorem mul_same (l : Addr) (its : Array Value) (m : Nat) (dd : Option Addr) (sl : Array (Option Value)) (k : Int) (t : Tok)
    (h0 : (decide (k < -(2 ^ 63)) || decide (k ≥ 2 ^ 63)) = false) (h1 : (its.isEmpty || k == 1) = true) :
    Meets (Builtin.«tuple.__mul__» ⟨[.ref l, .int k t], []⟩) (fun _ R s => s.heap.get? l = some ⟨.type "tuple", dd, .seq its m, sl⟩ ∧ R (.ok (.ret (.ref l))) s) := by
  refine .of_wp fun prog w A R s h => ?_
  obtain ⟨hp, g, d, tk, os⟩ := s
  obtain ⟨hl, h⟩ := h
  have f1 := AutoSeq1.idx_int
  wp_walk using wpAny_loadPart' hl
  repeat (first
    | (refine wpAny_ite_false (decide_eq_false (fun z => by rw [h0] at z; cases z)) ?_
       wp_walk using wpAny_loadPart' hl)
    | (refine wpAny_ite_true (decide_eq_true h1) ?_
       wp_walk using wpAny_loadPart' hl))
  exact ⟨_, rfl, h⟩
theorem mul_none (l : Addr) (its : Array Value) (m : Nat) (dd : Option Addr) (sl : Array (Option Value)) (k : Int) (t : Tok)
    (h0 : (decide (k < -(2 ^ 63)) || decide (k ≥ 2 ^ 63)) = false) (h1 : (its.isEmpty || k == 1) = false) (h2 : (decide (k ≤ 0) || its.isEmpty) = true) :
    Meets (Builtin.«tuple.__mul__» ⟨[.ref l, .int k t], []⟩) (fun _ R s => s.heap.get? l = some ⟨.type "tuple", dd, .seq its m, sl⟩ ∧
      R (.ok (.ret (.ref s.heap.objs.size))) { s with heap := s.heap.push { cls := .type "tuple", data := .seq #[] } }) := by
  refine .of_wp fun prog w A R s h => ?_
  obtain ⟨hp, g, d, tk, os⟩ := s
  obtain ⟨hl, h⟩ := h
  have f1 := AutoSeq1.idx_int
  wp_walk using wpAny_loadPart' hl
  repeat (first
    | (refine wpAny_ite_false (decide_eq_false (fun z => by rw [h0] at z; cases z)) ?_
       wp_walk using wpAny_loadPart' hl)
    | (refine wpAny_ite_false (decide_eq_false (fun z => by rw [h1] at z; cases z)) ?_
       wp_walk using wpAny_loadPart' hl)
    | (refine wpAny_ite_true (decide_eq_true h2) ?_
       wp_walk using wpAny_loadPart' hl))
  exact ⟨_, rfl, h⟩
/-- t * k, whatever k is -/
def rRepA (K : PySem.W.Frag) : R2 := fun x y H Q => ∃ l k xs, x = .ref l ∧ y = .int k ∧ SqT K H l xs ∧ -1000 ≤ k ∧ k ≤ 1000 ∧ xs.length ≤ 1000 ∧
  ((xs = [] ∨ k = 1) → Q (.ref l) H) ∧ (xs ≠ [] → k ≠ 1 → ∀ p, H p = none → Q (.ref p) (upd H p (.tup (List.replicate k.toNat xs).flatten)))
theorem op_repA {X : Cx} : OpR X (binaryOp .Mult) (rRepA X.K) := by
  intro pins s σ H x y v u Q I rx ry h
  obtain ⟨l, k, xs, rfl, rfl, hT, lo, hi9, hz, q1, q2⟩ := h
  by_cases big : xs ≠ [] ∧ 2 ≤ k
  · exact op_repT pins s σ H _ _ v u Q I rx ry ⟨l, k, xs, rfl, rfl, hT, big.1, big.2, hi9, hz, q2 big.1 (by omega)⟩
  cases rx
  obtain ⟨tk, rfl⟩ := ry
  obtain ⟨ws, rv, ⟨⟨c9, dd, d9, sl⟩, hw, hc, n, hd⟩, _⟩ := I.tuple hT
  simp only at hc hd
  subst hc
  subst hd
  have hle : ws.length = xs.length := rv.length.symm
  have c0 : (decide (k < -(2 ^ 63)) || decide (k ≥ 2 ^ 63)) = false := by
    rw [decide_eq_false (by omega : ¬ k < -(2 ^ 63)), decide_eq_false (by omega : ¬ k ≥ 2 ^ 63)] <;> rfl
  by_cases same : xs = [] ∨ k = 1
  · have c1 : (ws.toArray.isEmpty || k == 1) = true := by
      rcases same with e | e
      · have : ws = [] := List.eq_nil_of_length_eq_zero (by rw [hle, e]; rfl)
        rw [this] <;> rfl
      · rw [e, Bool.or_eq_true]
        exact .inr rfl
    refine wpAny_binaryOp_repeat_ref (T := "tuple") (U := "int") (by decide) ⟨_, hw, rfl⟩ (fun z => typeIs_int z k tk) noFill_tuple_mul F.fills_int_mul F.slot_int_rmul repeat_tuple F.slot_int_index.lookup
      (call_meets F.slot_int_rmul (typeIs_int s k tk) F.entry_int_rmul (F.args_int_rmul_2 _ _) (int_rmul_tuple k tk l ws.toArray n dd sl)
        ⟨hw, rfl, ⟨_, hw, rfl⟩, call_meets F.slot_tuple_mul ⟨_, hw, rfl⟩ F.entry_tuple_mul (F.args_tuple_mul_2 _ _) (mul_same l ws.toArray n dd sl k tk c0 c1) ⟨hw, ?_⟩⟩)
    exact ⟨.ref l, H, I, rfl, q1 same⟩
  · have hx : xs ≠ [] := fun e => same (.inl e)
    have hk : k ≠ 1 := fun e => same (.inr e)
    have k0 : k ≤ 0 := by
      by_cases z : 2 ≤ k
      · exact absurd ⟨hx, z⟩ big
      · omega
    have hi : ws.toArray.isEmpty = false := by
      cases ws with
      | nil => exact absurd (List.eq_nil_of_length_eq_zero hle.symm) hx
      | cons a b => rfl
    have c1 : (ws.toArray.isEmpty || k == 1) = false := by
      rw [hi, Bool.false_or]
      exact beq_eq_false_iff_ne.mpr hk
    have c2 : (decide (k ≤ 0) || ws.toArray.isEmpty) = true := by
      rw [decide_eq_true k0] <;> rfl
    refine wpAny_binaryOp_repeat_ref (T := "tuple") (U := "int") (by decide) ⟨_, hw, rfl⟩ (fun z => typeIs_int z k tk) noFill_tuple_mul F.fills_int_mul F.slot_int_rmul repeat_tuple F.slot_int_index.lookup
      (call_meets F.slot_int_rmul (typeIs_int s k tk) F.entry_int_rmul (F.args_int_rmul_2 _ _) (int_rmul_tuple k tk l ws.toArray n dd sl)
        ⟨hw, rfl, ⟨_, hw, rfl⟩, call_meets F.slot_tuple_mul ⟨_, hw, rfl⟩ F.entry_tuple_mul (F.args_tuple_mul_2 _ _) (mul_none l ws.toArray n dd sl k tk c0 c1 c2) ⟨hw, ?_⟩⟩)
    have e0 : (List.replicate k.toNat xs).flatten = [] := by
      rw [show k.toNat = 0 by omega]
      rfl
    have q := q2 hx hk _ (I.hok.fresh (Nat.le_refl _))
    rw [e0] at q
    refine ⟨.ref s.heap.objs.size, _, I.laid (t' := s.toks) (o := .tup []) (fun b ob z => Heap.get?_push_of_some _ z) (Nat.le_refl _) ?_, rfl, q⟩
    exact ⟨by rw [sizeLine_eq]; decide, [], .nil, IsTup.new _ _⟩
end Ev
set_option Elab.async false
set_option linter.all false
set_option maxRecDepth 100000
set_option maxHeartbeats 4000000
/-! Ev3: the operations on data. -/
namespace Ev
open PySem PySem.Spec PyProof.Rows L2

/-! ### reading the heap as data -/
section
variable {K : PySem.W.Frag} {U : Addr → Prop} {H : Hp}
mutual
theorem Pd.dp : ∀ {d : PyData} {v : V}, Pd K U H v d → d.canLay0 = true → Dp K H v d
  | _, _, .non, _ => .non
  | _, _, .bl b, _ => .bl b
  | _, _, .int i, _ => .int i
  | _, _, .str x, _ => .str x
  | _, _, .lst h n q, c => .lst (.inl (.inl h)) (PdA.dp q (by simpa [PyData.canLay0] using c))
  | _, _, .tup h q, c => .tup h.seq (PdA.dp q (by simpa [PyData.canLay0] using c))
  | _, _, .dct _ _ _, c => by simp [PyData.canLay0] at c
theorem PdA.dp : ∀ {ds : List PyData} {vs : List V}, PdA K U H vs ds → PyData.canLayAll0 ds = true → DpAll K H vs ds
  | _, _, .nil, _ => .nil
  | _, _, .cons h q, c => by
    simp only [PyData.canLayAll0, Bool.and_eq_true] at c
    exact .cons (Pd.dp h c.1) (PdA.dp q c.2)
end
end
mutual
/-- no list stands in it -/
def noList : PyData → Bool
  | .none | .bool _ | .int _ | .str _ => true
  | .tuple xs => noListA xs
  | .list _ => false
  | .dict kvs => noListK kvs
def noListA : List PyData → Bool
  | [] => true
  | x :: r => noList x && noListA r
def noListK : List (PyData × PyData) → Bool
  | [] => true
  | (_, v) :: r => noList v && noListK r
end
def bigLine : Nat := 16000000
def reprOk (d : PyData) : Bool := d.showable && decide (d.depth ≤ 64) && decide (d.shown.length ≤ bigLine)

section
variable {X : Cx} {pins : List (Addr × Obj)} {σ : L2.St} {H : Hp} {s : Shared} {U : Addr → Prop}
theorem keyD_reads {h : Heap} {k : Key} {u : Value} (e : keyIs k u = true) : Reads h u (keyD k) [] := by
  rcases keyIs_shape e with ⟨i, t, rfl, rfl⟩ | ⟨x, t, rfl, rfl⟩
  · exact .int i t
  · exact .str x t
mutual
theorem Pd.reads (I : Inv X pins σ H s) (hs : H sysModules = none) : ∀ {d : PyData} {v : V} {u : Value}, Pd X.K U H v d → RelV v u → ∃ as, Reads s.heap u d as ∧ sysModules ∉ as
  | _, _, _, .non, r => by cases r; exact ⟨_, .none, fun z => by cases z⟩
  | _, _, _, .bl b, r => by cases r; exact ⟨_, .bool b, fun z => by cases z⟩
  | _, _, _, .int i, r => by obtain ⟨t, rfl⟩ := r; exact ⟨_, .int i t, fun z => by cases z⟩
  | _, _, _, .str x, r => by obtain ⟨t, rfl⟩ := r; exact ⟨_, .str x t, fun z => by cases z⟩
  | _, _, _, .lst h _ q, r => by
    cases r
    obtain ⟨its, rv, ⟨o, n, ho, hc, _, hd⟩, _⟩ := I.list (.inl (.inl h))
    obtain ⟨as, hr, hn⟩ := PdA.reads I hs q rv
    refine ⟨_, .list ho hc hd (by simpa using hr), fun z => ?_⟩
    simp only [List.mem_cons] at z
    rcases z with z | z
    · rw [← z, hs] at h; cases h
    · exact hn z
  | _, _, _, .tup h q, r => by
    cases r
    obtain ⟨its, rv, ⟨o, ho, hc, n, hd⟩, _⟩ := I.tuple h.seq
    obtain ⟨as, hr, hn⟩ := PdA.reads I hs q rv
    exact ⟨_, .tuple ho hc hd (by simpa using hr), hn⟩
  | _, _, _, .dct h _ q, r => by
    cases r
    obtain ⟨_, hS, vs, rv, o, es, ep, ho, hx, hd, _, hp, _⟩ := (show ObjOk X.prog X.w H s.heap _ (.dK _) from I.hok _ _ h)
    obtain ⟨as, hk, hv, c'⟩ := PdK.reads I hs q rv hp
    refine ⟨_, .dict ho hx.1 hd hk hv, ?_⟩
    have ne : sysModules ≠ _ := fun e => (beq_eq_false_iff_ne.mp hS) e.symm
    intro z
    simp only [List.cons_append, List.nil_append, List.mem_cons] at z
    rcases z with z | z
    · exact ne z
    · exact c' z
theorem PdA.reads (I : Inv X pins σ H s) (hs : H sysModules = none) : ∀ {ds : List PyData} {vs : List V} {us : List Value}, PdA X.K U H vs ds → Vals vs us → ∃ as, ReadsAll s.heap us ds as ∧ sysModules ∉ as
  | _, _, _, .nil, r => by cases r; exact ⟨_, .nil, fun z => by cases z⟩
  | _, _, _, .cons h q, r => by
    cases r with
    | cons r1 r2 =>
      obtain ⟨as, a1, a2⟩ := Pd.reads I hs h r1
      obtain ⟨bs, b1, b2⟩ := PdA.reads I hs q r2
      refine ⟨_, .cons a1 b1, ?_⟩
      exact fun z => (List.mem_append.mp z).elim a2 b2
theorem PdK.reads (I : Inv X pins σ H s) (hs : H sysModules = none) : ∀ {ds : List (PyData × PyData)} {kvs : List (Key × V)} {vs : List (Key × Value)} {es : List DictEntry}, PdK X.K U H kvs ds → KV kvs vs →
    Pairs (mixKind X.prog X.w) es vs → ∃ bs, ReadsAll s.heap (es.map (·.key)) (ds.map (·.1)) [] ∧ ReadsAll s.heap (es.map (·.val)) (ds.map (·.2)) bs ∧ sysModules ∉ bs
  | _, _, _, _, .nil, r, z => by cases r; cases z; exact ⟨_, .nil, .nil, fun z => by cases z⟩
  | _, _, _, _, .cons h q, r, z => by
    cases r with
    | cons r1 r2 =>
      cases z with
      | cons z1 z2 z3 =>
        obtain ⟨bs, a1, a2, a3⟩ := PdK.reads I hs q r2 z3
        obtain ⟨e1, e2⟩ := r1
        obtain ⟨cs, c1, c2⟩ := Pd.reads I hs h e2
        refine ⟨cs ++ bs, ReadsAll.cons (as := []) (bs := []) (keyD_reads (by rw [← e1] at z1; exact z1)) a1, ReadsAll.cons (as := cs) (bs := bs) (by show Reads _ (DictEntry.val _) _ _; rw [z2]; exact c1) a2, ?_⟩
        exact fun z => (List.mem_append.mp z).elim c2 a3
end
end

/-! ### numbers -/
def asInts (f : Int → Int → M D) : D → D → M D
  | .dat (.int i), .dat (.int j) => f i j
  | _, _ => M.bad
def retI (i : Int) : M D := M.pure (.dat (.int i))
def retB (b : Bool) : M D := M.pure (.dat (.bool b))
def guardM (c : Prop) [Decidable c] (m : M D) : M D := if c then m else M.bad
def wideI (i : Int) : Prop := i.natAbs < 2 ^ 4000
instance (i : Int) : Decidable (wideI i) := by unfold wideI; exact inferInstance

section
variable {K : PySem.W.Frag} {mg : Str → Option Value}
theorem okI {R : Rg} {H : Hp} {st : Sto} {v w : V} {d e : D} {Q : VK} {W : XK} {f : Int → Int → M D} (h1 : Dv K mg R st H v d) (h2 : Dv K mg R st H w e) (h : Post K mg (Dv K mg) R H st (asInts f d e st) Q W) :
    ∃ i j, v = .int i ∧ w = .int j ∧ d = .dat (.int i) ∧ e = .dat (.int j) ∧ Post K mg (Dv K mg) R H st (f i j st) Q W := by
  unfold asInts at h
  split at h
  · cases h1
    cases h2
    exact ⟨_, _, rfl, rfl, rfl, rfl, h⟩
  · exact h.elim
theorem okG {R : Rg} {H : Hp} {st : Sto} {Q : VK} {W : XK} {c : Prop} [Decidable c] {m : M D} (h : Post K mg (Dv K mg) R H st (guardM c m st) Q W) : c ∧ Post K mg (Dv K mg) R H st (m st) Q W := by
  unfold guardM at h
  split at h
  · rename_i hc
    exact ⟨hc, h⟩
  · exact h.elim
theorem ok_rI0 {g : Int → Int → Int} : OpOk K mg (rI0 fun i j => .int (g i j)) (asInts fun i j => retI (g i j)) := by
  intro R H st v w d e Q W S h1 h2 h
  obtain ⟨i, j, rfl, rfl, rfl, rfl, h⟩ := okI h1 h2 h
  exact ⟨i, j, rfl, rfl, h.okR S (Dv.int _)⟩
theorem ok_rB0 {g : Int → Int → Bool} : OpOk K mg (rI0 fun i j => .bl (g i j)) (asInts fun i j => retB (g i j)) := by
  intro R H st v w d e Q W S h1 h2 h
  obtain ⟨i, j, rfl, rfl, rfl, rfl, h⟩ := okI h1 h2 h
  exact ⟨i, j, rfl, rfl, h.okR S (Dv.bl _)⟩
theorem ok_rI {C : Int → Int → Prop} {c : Int → Int → Prop} [∀ i j, Decidable (c i j)] {g : Int → Int → Int} (hc : ∀ i j, c i j → C i j) : OpOk K mg (rI C fun i j => .int (g i j)) (asInts fun i j => guardM (c i j) (retI (g i j))) := by
  intro R H st v w d e Q W S h1 h2 h
  obtain ⟨i, j, rfl, rfl, rfl, rfl, h⟩ := okI h1 h2 h
  obtain ⟨z, h⟩ := okG h
  exact ⟨i, j, rfl, rfl, hc i j z, h.okR S (Dv.int _)⟩
end
def dSub : D → D → M D := asInts fun i j => retI (i - j)
def dLt : D → D → M D := asInts fun i j => retB (decide (i < j))
def dLe : D → D → M D := asInts fun i j => retB (decide (i ≤ j))
def dGt : D → D → M D := asInts fun i j => retB (decide (j < i))
def dGe : D → D → M D := asInts fun i j => retB (decide (j ≤ i))
def dMod : D → D → M D := asInts fun i j => guardM (j ≠ 0) (retI (i.fmod j))
def dFdiv : D → D → M D := asInts fun i j => guardM (0 < j ∧ wideI j ∨ j ≠ 0 ∧ j.natAbs < 1073741824) (retI (i.fdiv j))
def dPow : D → D → M D := asInts fun i j => guardM (0 ≤ j ∧ (Builtin.Int.intBits i : Int) * j ≤ 100000) (retI (i ^ j.toNat))
section
variable {X : Cx}
theorem op_mod2 : OpR X (binaryOp .Mod) (rI (fun _ j => j ≠ 0) fun i j => .int (i.fmod j)) := op_modN
theorem op_fdiv2 : OpR X (binaryOp .FloorDiv) (rI (fun _ j => 0 < j ∧ wideI j ∨ j ≠ 0 ∧ j.natAbs < 1073741824) fun i j => .int (i.fdiv j)) := opI fun i j _ _ _ _ _ hc q => by
  rcases hc with ⟨h1, h2⟩ | hc
  · refine floordiv_int (by omega) q (.inl (PyProof.noPylong_of_log2 ?_))
    exact Nat.lt_of_lt_of_le (PySem.Flt.log2_lt_of (by decide : 0 < 4000) h2) (by decide)
  · exact floordiv_int hc.1 q (.inl (PyProof.noPylong_small hc.2))
theorem op_pow2 : OpR X (binaryOp .Pow) (rI (fun i j => 0 ≤ j ∧ (Builtin.Int.intBits i : Int) * j ≤ 100000) fun i j => .int (i ^ j.toNat)) := opI fun i j _ _ _ _ _ hc q =>
  PyProof.Rows.pow_int hc.1 (Int.le_trans hc.2 (by decide)) q
end
def dNeg : D → M D
  | .dat (.int i) => retI (-i)
  | _ => M.bad
theorem ok_neg {K : PySem.W.Frag} {mg : Str → Option Value} : UnOk K mg (rU fun i => .int (-i)) dNeg := by
  intro R H st v d Q W S h1 h
  unfold dNeg at h
  split at h
  · cases h1
    exact ⟨_, rfl, h.okR S (Dv.int _)⟩
  · exact h.elim
/-! ### + and * of numbers, texts, lists, tuples -/
def ifLen (n : Nat) (d : PyData) : M D := if n ≤ 100000 then M.pure (.dat d) else M.bad
/-- two things read as data -/
def asData (f : PyData → PyData → M D) (d e : D) : M D := fun st =>
  match dataOf d st, dataOf e st with
  | some x, some y => f x y st
  | _, _ => .bad
def addD : PyData → PyData → M D
  | .int i, .int j => retI (i + j)
  | .str x, .str y => ifLen (x.length + y.length) (.str (x ++ y))
  | .list xs, .list ys => ifLen (xs.length + ys.length) (.list (xs ++ ys))
  | .tuple xs, .tuple ys => ifLen (xs.length + ys.length) (.tuple (xs ++ ys))
  | _, _ => M.bad
def dAdd : D → D → M D := asData addD
section
variable {K : PySem.W.Frag} {mg : Str → Option Value} {R : Rg} {H : Hp} {st : Sto} {v w : V} {d e : D} {Q : VK} {W : XK}
theorem okL {n : Nat} {x : PyData} (h : Post K mg (Dv K mg) R H st (ifLen n x st) Q W) : n ≤ 100000 ∧ Post K mg (Dv K mg) R H st (.ok (.dat x) st) Q W := by
  unfold ifLen at h
  split at h
  · rename_i z; exact ⟨z, h⟩
  · exact h.elim
theorem okA {f : PyData → PyData → M D} (h : Post K mg (Dv K mg) R H st (asData f d e st) Q W) : ∃ x y, dataOf d st = some x ∧ dataOf e st = some y ∧ Post K mg (Dv K mg) R H st (f x y st) Q W := by
  unfold asData at h
  split at h
  · rename_i x y h1 h2; exact ⟨x, y, h1, h2, h⟩
  · exact h.elim
/-- what is told as data lies as data, unless it is a list of the store -/
theorem Dv.dataT {ds : List PyData} (h : Dv K mg R st H v d) (e : dataOf d st = some (.tuple ds)) : Pd K (Own R st) H v (.tuple ds) := by
  cases d with
  | dat x => cases e; exact h
  | loc n =>
    unfold dataOf at e
    simp only at e
    split at e <;> cases e
  | glob x => cases e
  | fz ds => cases e
  | ty t => cases e
  | raw t => cases e
  | err _ _ _ _ => cases e
/-- a list, told: where it lies, and its items as data that stay -/
theorem Dv.dataL {ds : List PyData} (S : Sim K R H st) (h : Dv K mg R st H v d) (e : dataOf d st = some (.list ds)) : ∃ a vs, v = .ref a ∧ H a = some (.lst vs) ∧ PdA K (Own R st) H vs ds := by
  cases d with
  | dat x =>
    cases e
    cases (show Pd K (Own R st) H v (.list ds) from h) with
    | lst h1 h2 h3 => exact ⟨_, _, rfl, h1, h3⟩
  | loc n =>
    obtain ⟨a, h1, rfl⟩ := h
    unfold dataOf at e
    simp only at e
    split at e
    · rename_i xs q
      cases e
      obtain ⟨vs, e1, e2⟩ := S.at_ n a ds h1 q
      exact ⟨a, vs, rfl, e1, e2⟩
    · cases e
  | glob x => cases e
  | fz ds => cases e
  | ty t => cases e
  | raw t => cases e
  | err _ _ _ _ => cases e
theorem Dv.dataI {i : Int} (h : Dv K mg R st H v d) (e : dataOf d st = some (.int i)) : v = .int i := by
  cases d with
  | dat x => cases e; cases h; rfl
  | loc n =>
    unfold dataOf at e
    simp only at e
    split at e <;> cases e
  | glob x => cases e
  | fz ds => cases e
  | ty t => cases e
  | raw t => cases e
  | err _ _ _ _ => cases e
theorem Dv.dataS {x : Str} (h : Dv K mg R st H v d) (e : dataOf d st = some (.str x)) : v = .str x := by
  cases d with
  | dat x => cases e; cases h; rfl
  | loc n =>
    unfold dataOf at e
    simp only at e
    split at e <;> cases e
  | glob x => cases e
  | fz ds => cases e
  | ty t => cases e
  | raw t => cases e
  | err _ _ _ _ => cases e
end
def rAddAll (K : PySem.W.Frag) : R2 := fun x y H Q => (∃ i j, x = .int i ∧ y = .int j ∧ Q (.int (i + j)) H) ∨ (∃ i j, x = .str i ∧ y = .str j ∧ i.length + j.length ≤ sizeLine ∧ Q (.str (i ++ j)) H) ∨ rCat x y H Q ∨ rCatA K x y H Q
theorem op_addAll {X : Cx} : OpR X (binaryOp .Add) (rAddAll X.K) := (op_add).or (op_add_str.or (op_cat.or op_catA))
theorem ok_addAll {K : PySem.W.Frag} {mg : Str → Option Value} : OpOk K mg (rAddAll K) dAdd := by
  intro R H st v w d e Q W S h1 h2 h
  obtain ⟨x, y, e1, e2, h⟩ := okA h
  unfold addD at h
  split at h
  · have a := h1.dataI e1
    have b := h2.dataI e2
    subst a; subst b
    exact .inl ⟨_, _, rfl, rfl, h.okR S (Dv.int _)⟩
  · have a := h1.dataS e1
    have b := h2.dataS e2
    subst a; subst b
    obtain ⟨z, h⟩ := okL h
    exact .inr (.inl ⟨_, _, rfl, rfl, small5 z, h.okR S (Dv.str _)⟩)
  · obtain ⟨a, vs, rfl, ha, pa⟩ := h1.dataL S e1
    obtain ⟨b, ws, rfl, hb, pb⟩ := h2.dataL S e2
    obtain ⟨z, h⟩ := okL h
    exact .inr (.inr (.inl ⟨a, b, vs, ws, rfl, rfl, ha, hb, small5 (by rw [pa.len, pb.len]; exact z), fun p hp => h.okN S hp (newLst S hp (pa.app pb))⟩))
  · cases h1.dataT e1 with
    | tup ta pa =>
      cases h2.dataT e2 with
      | tup tb pb =>
        obtain ⟨z, h⟩ := okL h
        refine .inr (.inr (.inr ⟨_, _, _, _, rfl, rfl, ta.seq, tb.seq, small5 (by rw [pa.len, pb.len]; exact z), fun q => ?_, fun _ q => ?_, fun _ _ p hp => h.okN S hp (newTup S hp (pa.app pb))⟩))
        · refine h.okR S (Pd.tup tb ?_)
          subst q
          cases pa
          exact pb
        · refine h.okR S (Pd.tup ta ?_)
          subst q
          cases pb
          rw [List.append_nil]
          exact pa
  · exact h.elim
/-- so many times the items -/
def repD (k : Nat) (xs : List PyData) : List PyData := (List.replicate k xs).flatten
theorem PdA.rep {K : PySem.W.Frag} {U : Addr → Prop} {H : Hp} {vs : List V} {ds : List PyData} (q : PdA K U H vs ds) : ∀ k : Nat, PdA K U H (List.replicate k vs).flatten (repD k ds)
  | 0 => .nil
  | k + 1 => by
    unfold repD
    rw [List.replicate_succ, List.replicate_succ, List.flatten_cons, List.flatten_cons]
    exact q.app (PdA.rep q k)
theorem rep_nil : ∀ k : Nat, repD k [] = []
  | 0 => rfl
  | k + 1 => by
    unfold repD
    rw [List.replicate_succ, List.flatten_cons]
    exact rep_nil k
theorem rep_one (xs : List PyData) : repD 1 xs = xs := by
  unfold repD
  simp
def mulD : PyData → PyData → M D
  | .int i, .int j => guardM (wideI i ∧ wideI j) (retI (i * j))
  | .list xs, .int k => guardM (k ≤ 1000 ∧ -1000 ≤ k ∧ xs.length ≤ 100) (M.pure (.dat (.list (repD k.toNat xs))))
  | .tuple xs, .int k => guardM (-1000 ≤ k ∧ k ≤ 1000 ∧ xs.length ≤ 100) (M.pure (.dat (.tuple (repD k.toNat xs))))
  | _, _ => M.bad
def dMul : D → D → M D := asData mulD
def rMulAll (K : PySem.W.Frag) : R2 := fun x y H Q => rI CMulW (fun i j => .int (i * j)) x y H Q ∨ rRep x y H Q ∨ rRepA K x y H Q
theorem op_mulAll {X : Cx} : OpR X (binaryOp .Mult) (rMulAll X.K) := op_mulW.or (op_rep.or op_repA)
theorem ok_mulAll {K : PySem.W.Frag} {mg : Str → Option Value} : OpOk K mg (rMulAll K) dMul := by
  intro R H st v w d e Q W S h1 h2 h
  obtain ⟨x, y, e1, e2, h⟩ := okA h
  unfold mulD at h
  split at h
  · have a := h1.dataI e1
    have b := h2.dataI e2
    subst a; subst b
    obtain ⟨z, h⟩ := okG h
    exact .inl ⟨_, _, rfl, rfl, wide_mul z.1 z.2 (by decide) (by decide) (by decide), h.okR S (Dv.int _)⟩
  · obtain ⟨a, vs, rfl, ha, pa⟩ := h1.dataL S e1
    have b := h2.dataI e2
    subst b
    obtain ⟨⟨z1, z2, z3⟩, h⟩ := okG h
    refine .inr (.inl ⟨a, _, vs, rfl, rfl, ha, by omega, by omega, ?_, fun p hp => h.okN S hp (newLst S hp (pa.rep _))⟩)
    rw [pa.len, sizeLine_eq]
    exact Nat.le_trans (Nat.mul_le_mul z3 (show _ ≤ 1000 by omega)) (by decide)
  · cases h1.dataT e1 with
    | tup ta pa =>
      have b := h2.dataI e2
      subst b
      obtain ⟨⟨z1, z2, z3⟩, h⟩ := okG h
      refine .inr (.inr ⟨_, _, _, rfl, rfl, ta.seq, z1, z2, by rw [pa.len]; omega, fun q => ?_, fun _ _ p hp => h.okN S hp (newTup S hp (pa.rep _))⟩)
      refine h.okR S (Pd.tup ta ?_)
      have e := pa.rep ‹Int›.toNat
      rcases q with rfl | rfl
      · cases pa
        rw [rep_nil] at e ⊢
        exact .nil
      · rw [show repD (1 : Int).toNat _ = _ from rep_one _]
        exact pa
  · exact h.elim

/-! ### == and != -/
/-- two lists of unlike lengths -/
def lenDiff : PyData → PyData → Bool
  | .list xs, .list ys => xs.length != ys.length
  | .tuple xs, .tuple ys => (xs.isEmpty || ys.isEmpty) && xs.length != ys.length
  | _, _ => false
def eqD : PyData → PyData → M D
  | .str x, .str y => retB (decide (x = y))
  | x, y => if SeqAt.shaped x = true ∧ SeqAt.shaped y = true then retB (PyData.eqv x y) else if lenDiff x y = true then retB false else M.bad
def notM (m : M D) : M D := M.bind m fun x => M.bind (asB x) fun b => retB (!b)
def dEq : D → D → M D := asData eqD
def dNe : D → D → M D := asData fun x y => notM (eqD x y)
def rEqLen (K : PySem.W.Frag) (b : Bool) : R2 := fun x y H Q => ∃ l m xs ys, x = .ref l ∧ y = .ref m ∧ SqL K H l xs ∧ SqL K H m ys ∧ xs.length ≠ ys.length ∧ Q (.bl b) H
theorem op_eqLen {X : Cx} (hu : X.A.units + 64 < cLine) : OpR X (compareOp .Eq) (rEqLen X.K false) := by
  intro pins s σ H x y v u Q I rx ry h
  obtain ⟨l, m, xs, ys, rfl, rfl, h1, h2, hn, q⟩ := h
  cases rx
  cases ry
  obtain ⟨us, r1, p1, _⟩ := I.list h1
  obtain ⟨ws, r2, p2, _⟩ := I.list h2
  refine SeqAt.eq_list_lengthsAt p1.isList p2.isList ?_ (by omega) ⟨.bl false, H, I, rfl, q⟩
  rw [List.size_toArray, List.size_toArray, ← r1.length, ← r2.length, bne_iff_ne]
  exact hn
theorem op_neLen {X : Cx} (hu : X.A.units + 64 < cLine) : OpR X (compareOp .NotEq) (rEqLen X.K true) := by
  intro pins s σ H x y v u Q I rx ry h
  obtain ⟨l, m, xs, ys, rfl, rfl, h1, h2, hn, q⟩ := h
  cases rx
  cases ry
  obtain ⟨us, r1, p1, _⟩ := I.list h1
  obtain ⟨ws, r2, p2, _⟩ := I.list h2
  refine SeqAt.RcNeAt.lists_lengths p1.isList p2.isList ?_ (by omega) X.prog X.w _ _ ⟨.bl true, H, I, rfl, q⟩
  rw [List.size_toArray, List.size_toArray, ← r1.length, ← r2.length, bne_iff_ne]
  exact hn
/-- two tuples, one of them empty -/
def rEqTup0 (K : PySem.W.Frag) (b : Bool) : R2 := fun x y H Q => ∃ l m xs ys, x = .ref l ∧ y = .ref m ∧ SqT K H l xs ∧ SqT K H m ys ∧ (xs = [] ∨ ys = []) ∧ xs.length ≠ ys.length ∧ Q (.bl b) H
theorem none_less {α β : Type} {us : List α} {ws : List β} (h : us = [] ∨ ws = []) : min us.toArray.size ws.toArray.size = 0 := by
  rcases h with h | h
  · rw [h]; simp
  · rw [h]; simp
theorem op_eqTup0 {X : Cx} (hu : X.A.units + 64 < cLine) : OpR X (compareOp .Eq) (rEqTup0 X.K false) := by
  intro pins s σ H x y v u Q I rx ry h
  obtain ⟨l, m, xs, ys, rfl, rfl, h1, h2, h0, hn, q⟩ := h
  cases rx
  cases ry
  obtain ⟨us, r1, p1, _⟩ := I.tuple h1
  obtain ⟨ws, r2, p2, _⟩ := I.tuple h2
  have e0 : us = [] ∨ ws = [] := by
    rcases h0 with h0 | h0
    · exact .inl (List.eq_nil_of_length_eq_zero (by rw [← r1.length, h0]; rfl))
    · exact .inr (List.eq_nil_of_length_eq_zero (by rw [← r2.length, h0]; rfl))
  have z := none_less e0
  refine SeqAt.eq_tupleAt (e := fun _ => true) p1 p2 (by omega) (fun j a1 a2 => ?_) ?_
  · have : j < min us.toArray.size ws.toArray.size := Nat.lt_min.mpr ⟨a1, a2⟩
    omega
  · rw [z]
    have : (us.toArray.size == ws.toArray.size) = false := by
      rw [beq_eq_false_iff_ne, List.size_toArray, List.size_toArray, ← r1.length, ← r2.length]
      exact hn
    rw [this]
    exact ⟨.bl false, H, I, rfl, q⟩
theorem op_neTup0 {X : Cx} (hu : X.A.units + 64 < cLine) : OpR X (compareOp .NotEq) (rEqTup0 X.K true) := by
  intro pins s σ H x y v u Q I rx ry h
  obtain ⟨l, m, xs, ys, rfl, rfl, h1, h2, h0, hn, q⟩ := h
  cases rx
  cases ry
  obtain ⟨us, r1, p1, _⟩ := I.tuple h1
  obtain ⟨ws, r2, p2, _⟩ := I.tuple h2
  have e0 : us = [] ∨ ws = [] := by
    rcases h0 with h0 | h0
    · exact .inl (List.eq_nil_of_length_eq_zero (by rw [← r1.length, h0]; rfl))
    · exact .inr (List.eq_nil_of_length_eq_zero (by rw [← r2.length, h0]; rfl))
  have z := none_less e0
  refine SeqAt.RcNeAt.tuples (e := fun _ => true) p1 p2 (by omega) (fun j a1 a2 => ?_) X.prog X.w _ _ ?_
  · have : j < min us.toArray.size ws.toArray.size := Nat.lt_min.mpr ⟨a1, a2⟩
    omega
  · rw [z]
    have : (us.toArray.size == ws.toArray.size) = false := by
      rw [beq_eq_false_iff_ne, List.size_toArray, List.size_toArray, ← r1.length, ← r2.length]
      exact hn
    rw [this]
    exact ⟨.bl true, H, I, rfl, q⟩
def rEqAll (K : PySem.W.Frag) : R2 := fun x y H Q => rEq x y H Q ∨ rEqD K x y H Q ∨ rEqLen K false x y H Q ∨ rEqTup0 K false x y H Q
def rNeAll (K : PySem.W.Frag) : R2 := fun x y H Q => rNe x y H Q ∨ rNeD K x y H Q ∨ rEqLen K true x y H Q ∨ rEqTup0 K true x y H Q
theorem op_eqAll {X : Cx} (hu : X.A.units + 64 < cLine) : OpR X (compareOp .Eq) (rEqAll X.K) := op_eq.or ((op_eqD hu).or ((op_eqLen hu).or (op_eqTup0 hu)))
theorem op_neAll {X : Cx} (hu : X.A.units + 64 < cLine) : OpR X (compareOp .NotEq) (rNeAll X.K) := op_ne.or ((op_neD hu).or ((op_neLen hu).or (op_neTup0 hu)))
theorem eqD_cases {x y : PyData} {st : Sto} {r : Res D} (h : eqD x y st = r) : (∃ a b, x = .str a ∧ y = .str b ∧ r = .ok (.dat (.bool (decide (a = b)))) st) ∨ (SeqAt.shaped x = true ∧ SeqAt.shaped y = true ∧ r = .ok (.dat (.bool (PyData.eqv x y))) st) ∨
    (∃ xs ys, x = .list xs ∧ y = .list ys ∧ xs.length ≠ ys.length ∧ r = .ok (.dat (.bool false)) st) ∨
    (∃ xs ys, x = .tuple xs ∧ y = .tuple ys ∧ (xs = [] ∨ ys = []) ∧ xs.length ≠ ys.length ∧ r = .ok (.dat (.bool false)) st) ∨ r = .bad := by
  subst h
  unfold eqD
  split
  · exact .inl ⟨_, _, rfl, rfl, rfl⟩
  · split
    · rename_i z
      exact .inr (.inl ⟨z.1, z.2, rfl⟩)
    · split
      · rename_i z
        unfold lenDiff at z
        split at z
        · exact .inr (.inr (.inl ⟨_, _, rfl, rfl, by simpa using z, rfl⟩))
        · rw [Bool.and_eq_true, Bool.or_eq_true, List.isEmpty_iff, List.isEmpty_iff, bne_iff_ne] at z
          exact .inr (.inr (.inr (.inl ⟨_, _, rfl, rfl, z.1, z.2, rfl⟩)))
        · cases z
      · exact .inr (.inr (.inr (.inr rfl)))
theorem ok_eqAll {K : PySem.W.Frag} {mg : Str → Option Value} : OpOk K mg (rEqAll K) dEq := by
  intro R H st v w d e Q W S h1 h2 h
  obtain ⟨x, y, e1, e2, h⟩ := okA h
  rcases eqD_cases (x := x) (y := y) (st := st) rfl with ⟨a, b, rfl, rfl, z⟩ | ⟨z1, z2, z⟩ | ⟨xs, ys, rfl, rfl, z0, z⟩ | ⟨xs, ys, rfl, rfl, z1, z0, z⟩ | z
  · rw [z] at h
    have a' := h1.dataS e1
    have b' := h2.dataS e2
    subst a'; subst b'
    refine .inl ⟨rfl, ?_⟩
    have := h.okR S (Dv.bl _)
    simpa using this
  · rw [z] at h
    have p1 := (h1.data S e1).dp (SeqAt.canLay_of_shaped z1)
    have p2 := (h2.data S e2).dp (SeqAt.canLay_of_shaped z2)
    exact .inr (.inl ⟨x, y, p1, p2, z1, z2, h.okR S (Dv.bl _)⟩)
  · rw [z] at h
    obtain ⟨a, vs, rfl, ha, pa⟩ := h1.dataL S e1
    obtain ⟨b, ws, rfl, hb, pb⟩ := h2.dataL S e2
    exact .inr (.inr (.inl ⟨a, b, vs, ws, rfl, rfl, .inl (.inl ha), .inl (.inl hb), by rw [pa.len, pb.len]; exact z0, h.okR S (Dv.bl _)⟩))
  · rw [z] at h
    cases h1.dataT e1 with
    | tup ta pa =>
      cases h2.dataT e2 with
      | tup tb pb =>
        refine .inr (.inr (.inr ⟨_, _, _, _, rfl, rfl, ta.seq, tb.seq, ?_, by rw [pa.len, pb.len]; exact z0, h.okR S (Dv.bl _)⟩))
        rcases z1 with z1 | z1
        · subst z1; cases pa; exact .inl rfl
        · subst z1; cases pb; exact .inr rfl
  · rw [z] at h
    exact h.elim
theorem ok_neAll {K : PySem.W.Frag} {mg : Str → Option Value} : OpOk K mg (rNeAll K) dNe := by
  intro R H st v w d e Q W S h1 h2 h
  obtain ⟨x, y, e1, e2, h⟩ := okA h
  have un : ∀ b : Bool, eqD x y st = .ok (.dat (.bool b)) st → notM (eqD x y) st = .ok (.dat (.bool (!b))) st := fun b z => by
    unfold notM M.bind
    rw [z]
    rfl
  rcases eqD_cases (x := x) (y := y) (st := st) rfl with ⟨a, b, rfl, rfl, z⟩ | ⟨z1, z2, z⟩ | ⟨xs, ys, rfl, rfl, z0, z⟩ | ⟨xs, ys, rfl, rfl, z1, z0, z⟩ | z
  · rw [un _ z] at h
    have a' := h1.dataS e1
    have b' := h2.dataS e2
    subst a'; subst b'
    refine .inl ⟨rfl, ?_⟩
    have := h.okR S (Dv.bl _)
    simpa using this
  · rw [un _ z] at h
    have p1 := (h1.data S e1).dp (SeqAt.canLay_of_shaped z1)
    have p2 := (h2.data S e2).dp (SeqAt.canLay_of_shaped z2)
    exact .inr (.inl ⟨x, y, p1, p2, z1, z2, h.okR S (Dv.bl _)⟩)
  · rw [un _ z] at h
    obtain ⟨a, vs, rfl, ha, pa⟩ := h1.dataL S e1
    obtain ⟨b, ws, rfl, hb, pb⟩ := h2.dataL S e2
    exact .inr (.inr (.inl ⟨a, b, vs, ws, rfl, rfl, .inl (.inl ha), .inl (.inl hb), by rw [pa.len, pb.len]; exact z0, h.okR S (Dv.bl _)⟩))
  · rw [un _ z] at h
    cases h1.dataT e1 with
    | tup ta pa =>
      cases h2.dataT e2 with
      | tup tb pb =>
        refine .inr (.inr (.inr ⟨_, _, _, _, rfl, rfl, ta.seq, tb.seq, ?_, by rw [pa.len, pb.len]; exact z0, h.okR S (Dv.bl _)⟩))
        rcases z1 with z1 | z1
        · subst z1; cases pa; exact .inl rfl
        · subst z1; cases pb; exact .inr rfl
  · have : notM (eqD x y) st = .bad := by
      unfold notM M.bind
      rw [z]
    rw [this] at h
    exact h.elim
/-! ### is None -/
def isN : D → D → M D
  | .dat d, .dat .none => fun st => .ok (.dat (.bool (match d with | .none => true | _ => false))) st
  | .dat (.bool a), .dat (.bool b) => retB (decide (a = b))
  | .loc _, .dat .none => retB false
  | .glob _, .dat .none => retB false
  | _, _ => M.bad
def isNotN (d e : D) : M D := notM (isN d e)
theorem isN_cases {K : PySem.W.Frag} {mg : Str → Option Value} {R : Rg} {H : Hp} {st : Sto} {v w : V} {d e : D} (h1 : Dv K mg R st H v d) (h2 : Dv K mg R st H w e) :
    (w = .non ∧ isN d e st = .ok (.dat (.bool (decide (v = .non)))) st) ∨ (∃ a b : Bool, v = .bl a ∧ w = .bl b ∧ isN d e st = .ok (.dat (.bool (decide (a = b)))) st) ∨ isN d e st = .bad := by
  cases e with
  | dat y =>
    cases y with
    | none =>
      cases h2
      cases d with
      | dat x =>
        refine .inl ⟨rfl, ?_⟩
        cases h1 <;> rfl
      | loc n => obtain ⟨a, _, rfl⟩ := h1; exact .inl ⟨rfl, rfl⟩
      | glob n => obtain ⟨a, _, rfl⟩ := h1; exact .inl ⟨rfl, rfl⟩
      | fz ds => exact .inr (.inr rfl)
      | ty t => exact .inr (.inr rfl)
      | raw t => exact .inr (.inr rfl)
      | err _ _ _ _ => exact .inr (.inr rfl)
    | bool b =>
      cases h2
      cases d with
      | dat x =>
        cases x with
        | bool a => cases h1; exact .inr (.inl ⟨a, b, rfl, rfl, rfl⟩)
        | _ => exact .inr (.inr rfl)
      | _ => exact .inr (.inr rfl)
    | _ =>
      refine .inr (.inr ?_)
      cases d with
      | dat x => cases x <;> rfl
      | _ => rfl
  | _ =>
    refine .inr (.inr ?_)
    cases d with
    | dat x => cases x <;> rfl
    | _ => rfl
def rIsA : R2 := fun x y H Q => (y = .non ∧ Q (.bl (decide (x = .non))) H) ∨ ∃ a b : Bool, x = .bl a ∧ y = .bl b ∧ Q (.bl (decide (a = b))) H
def rNotA : R2 := fun x y H Q => (y = .non ∧ Q (.bl (!decide (x = .non))) H) ∨ ∃ a b : Bool, x = .bl a ∧ y = .bl b ∧ Q (.bl (!decide (a = b))) H
theorem op_isA {X : Cx} : OpR X (compareOp .Is) rIsA := op_isN.or op_is_bl
theorem op_notA {X : Cx} : OpR X (compareOp .IsNot) rNotA := op_notN.or op_isnot_bl
theorem ok_isN {K : PySem.W.Frag} {mg : Str → Option Value} : OpOk K mg rIsA isN := by
  intro R H st v w d e Q W S h1 h2 h
  rcases isN_cases h1 h2 with ⟨rfl, z⟩ | ⟨a, b, rfl, rfl, z⟩ | z
  · rw [z] at h
    exact .inl ⟨rfl, h.okR S (Dv.bl _)⟩
  · rw [z] at h
    exact .inr ⟨a, b, rfl, rfl, h.okR S (Dv.bl _)⟩
  · rw [z] at h
    exact h.elim
theorem ok_isNotN {K : PySem.W.Frag} {mg : Str → Option Value} : OpOk K mg rNotA isNotN := by
  intro R H st v w d e Q W S h1 h2 h
  rcases isN_cases h1 h2 with ⟨rfl, z⟩ | ⟨a, b, rfl, rfl, z⟩ | z
  · have : isNotN d e st = .ok (.dat (.bool (!decide (v = .non)))) st := by
      unfold isNotN notM M.bind
      rw [z]
      rfl
    rw [this] at h
    exact .inl ⟨rfl, h.okR S (Dv.bl _)⟩
  · have : isNotN d e st = .ok (.dat (.bool (!decide (a = b)))) st := by
      unfold isNotN notM M.bind
      rw [z]
      rfl
    rw [this] at h
    exact .inr ⟨a, b, rfl, rfl, h.okR S (Dv.bl _)⟩
  · have : isNotN d e st = .bad := by
      unfold isNotN notM M.bind
      rw [z]
    rw [this] at h
    exact h.elim
/-! ### xs[i] -/
def ixD (i : Int) : PyData → M D
  | .list xs => fun st => match atI xs i with | some d => .ok (.dat d) st | none => .bad
  | .tuple xs => fun st => match atI xs i with | some d => .ok (.dat d) st | none => .bad
  | _ => M.bad
def dIx (d e : D) : M D := fun st =>
  match d, e with
  | .fz xs, .dat (.int i) => match atI xs i with | some d => .ok (.dat d) st | none => .bad
  | d, .dat (.int i) => match dataOf d st with | some x => ixD i x st | none => .bad
  | _, _ => .bad
theorem PdA.atI {K : PySem.W.Frag} {U : Addr → Prop} {H : Hp} {vs : List V} {ds : List PyData} {i : Int} {d : PyData} (q : PdA K U H vs ds) (h : L2.atI ds i = some d) : ∃ v, L2.atI vs i = some v ∧ Pd K U H v d := by
  unfold L2.atI at h ⊢
  rw [q.len]
  cases e : ixN ds.length i with
  | none => rw [e] at h; cases h
  | some j => rw [e] at h; exact q.at_ h
theorem ok_ix {K : PySem.W.Frag} {mg : Str → Option Value} : OpOk K mg (rIx K) dIx := by
  intro R H st v w d e Q W S h1 h2 h
  unfold dIx at h
  split at h
  · obtain ⟨a, xs, rfl, hl, pa⟩ := h1
    cases h2
    split at h
    · rename_i z
      obtain ⟨u, z2, pu⟩ := pa.atI z
      exact .inl ⟨a, xs, _, u, rfl, rfl, hl.seq, z2, h.okR S pu⟩
    · exact h.elim
  · cases h2
    split at h
    · rename_i x z
      cases x with
      | list ys =>
        obtain ⟨a, vs, rfl, ha, pa⟩ := h1.dataL S z
        simp only [ixD] at h
        split at h
        · rename_i z
          obtain ⟨u, z2, pu⟩ := pa.atI z
          exact .inl ⟨a, vs, _, u, rfl, rfl, .inl (.inl ha), z2, h.okR S pu⟩
        · exact h.elim
      | tuple ys =>
        cases h1.dataT z with
        | tup ta pa =>
          simp only [ixD] at h
          split at h
          · rename_i z
            obtain ⟨u, z2, pu⟩ := pa.atI z
            exact .inr (.inl ⟨_, _, _, u, rfl, rfl, ta.seq, z2, h.okR S pu⟩)
          · exact h.elim
      | _ => exact h.elim
    · exact h.elim
  · exact h.elim
end Ev
set_option Elab.async false
set_option linter.all false
set_option maxRecDepth 100000
set_option maxHeartbeats 4000000
/-! Ev4: slices, built-in functions. -/
namespace Ev
open PySem PySem.Spec PyProof.Rows L2

/-! ### slices -/
def mNoPart : Env → M (Option Int) := fun _ => M.pure none
def asPart : D → M (Option Int)
  | .dat (.int i) => M.pure (some i)
  | _ => M.bad
def mPart (m : Env → M D) : Env → M (Option Int) := fun ρ => M.bind (m ρ) asPart
def RelP : RelT (Option Int) (Option Int) := fun _ _ _ b a => b = a
def tMP (K : PySem.W.Frag) (mg : Str → Option Value) (W : WX) (m : Env → M (Option Int)) : TO := fun σ H Q => ∃ R ρ st, Sim K R H st ∧ EnvR K mg R st H σ ρ ∧ Post K mg RelP R H st (m ρ st) Q (fun c d H' => W c d σ H')
structure EVP (X : Cx) (W : WX) (e : Option Expr) (m : Env → M (Option Int)) : Prop where
  po : PO X e (tMP X.K X.mg W m)
theorem PO.imp {X : Cx} {e : Option Expr} {t u : TO} (h : PO X e t) (q : ∀ σ H Q, u σ H Q → t σ H Q) : PO X e u := ⟨fun pins s σ H Q I z => h.run pins s σ H Q I (q σ H Q z)⟩
/-- list, tuple: the items from lo on, below hi -/
def cutD (xs : List PyData) (lo hi : Option Int) : List PyData := (xs.drop (HT.sIx xs.length 0 lo)).take (HT.sIx xs.length xs.length hi - HT.sIx xs.length 0 lo)
def slD (lo hi : Option Int) : PyData → M D
  | .list xs => M.pure (.dat (.list (cutD xs lo hi)))
  | .tuple xs => M.pure (.dat (.tuple (cutD xs lo hi)))
  | _ => M.bad
def dSl (d : D) (lo hi : Option Int) : M D := fun st => match dataOf d st with | some x => slD lo hi x st | none => .bad
def mSl (m : Env → M D) (l u : Env → M (Option Int)) : Env → M D := fun ρ => M.bind (m ρ) fun x => M.bind (l ρ) fun i => M.bind (u ρ) fun j => dSl x i j
theorem PdA.cut {K : PySem.W.Frag} {U : Addr → Prop} {H : Hp} {vs : List V} {ds : List PyData} (q : PdA K U H vs ds) (lo hi : Option Int) : PdA K U H (cutV vs lo hi) (cutD ds lo hi) := by
  unfold cutV cutD
  rw [q.len]
  exact (q.drop _).take _
section
variable {X : Cx} {W : WX} {e : Expr} {me : Env → M D} {lo hi : Option Expr} {ml mu : Env → M (Option Int)} {pos p2 : Pos}
theorem evp_none : EVP X W none mNoPart := by
  refine ⟨PO.imp po_none fun σ H Q h => ?_⟩
  obtain ⟨R, ρ, st, S, E, h⟩ := h
  exact h.okR S rfl
theorem evp_some (h : EV X W e me) : EVP X W (some e) (mPart me) := by
  refine ⟨PO.imp (po_some h.pe) fun σ H Q h => ?_⟩
  obtain ⟨R, ρ, st, S, E, h⟩ := h
  refine ⟨R, ρ, st, S, E, (Post.bind (Rel := Dv X.K X.mg) (Rel2 := RelP) h).monoQ fun v H1 ⟨R1, st1, d, x1, S1, D1, h2⟩ => ?_⟩
  unfold asPart at h2
  split at h2
  · cases D1
    exact ⟨_, rfl, h2.okR S1 rfl⟩
  · exact h2.elim
def rSlAll (K : PySem.W.Frag) : V → Option Int → Option Int → Hp → VK → Prop := fun x lo hi H Q => rSlL K x lo hi H Q ∨ rSlA K x lo hi H Q
theorem cut_all (xs : List V) (lo hi : Option Int) (h : HT.sIx xs.length 0 lo = 0 ∧ HT.sIx xs.length xs.length hi = xs.length) : cutV xs lo hi = xs := by
  unfold cutV
  rw [h.1, h.2]
  simp
theorem ev_slice (he : EV X W e me) (hl : EVP X W lo ml) (hu : EVP X W hi mu) : EV X W (.Subscript e (.Slice lo hi none p2) pos) (mSl me ml mu) := by
  refine ⟨PE.imp (pe_slice (sl_list.or sl_tupA) he.pe hl.po hu.po) fun σ H Q h => ?_⟩
  obtain ⟨R, ρ, st, S, E, h⟩ := h
  refine ⟨R, ρ, st, S, E, (Post.bind (Rel := Dv X.K X.mg) (Rel2 := Dv X.K X.mg) h).monoQ fun v H1 ⟨R1, st1, d, x1, S1, D1, h2⟩ => ?_⟩
  refine ⟨R1, ρ, st1, S1, E.ext x1, (Post.bind (Rel := RelP) (Rel2 := Dv X.K X.mg) h2).monoQ fun i H2 ⟨R2, st2, i', x2, S2, e2, h3⟩ => ?_⟩
  refine ⟨R2, ρ, st2, S2, (E.ext x1).ext x2, (Post.bind (Rel := RelP) (Rel2 := Dv X.K X.mg) h3).monoQ fun j H3 ⟨R3, st3, j', x3, S3, e3, h4⟩ => ?_⟩
  obtain rfl : i = i' := e2
  obtain rfl : j = j' := e3
  have D3 := (D1.ext x2).ext x3
  unfold dSl at h4
  split at h4
  · rename_i x z
    cases x with
    | list ys =>
      obtain ⟨a, vs, rfl, ha, pa⟩ := D3.dataL S3 z
      exact .inl ⟨a, vs, rfl, .inl (.inl ha), fun p hp => h4.okN S3 hp (newLst S3 hp (pa.cut i j))⟩
    | tuple ys =>
      cases D3.dataT z with
      | tup ta pa =>
        refine .inr ⟨_, _, rfl, ta.seq, fun hw => h4.okR S3 (Pd.tup ta ?_), fun _ p hp => h4.okN S3 hp (newTup S3 hp (pa.cut i j))⟩
        have := pa.cut i j
        rw [cut_all _ _ _ hw] at this
        exact this
    | _ => exact h4.elim
  · exact h4.elim
end

/-! ### built-in functions of one or two numbers -/
def on1 (f : D → M D) : List D → M D
  | [d] => f d
  | _ => M.bad
def on2 (f : D → D → M D) : List D → M D
  | [d, e] => f d e
  | _ => M.bad
section
variable {K : PySem.W.Frag} {mg : Str → Option Value} {R : Rg} {H : Hp} {st : Sto} {vs : List V} {ds : List D} {Q : VK} {W : XK}
theorem ok1 {f : D → M D} (h1 : DvA K mg R st H vs ds) (h : Post K mg (Dv K mg) R H st (on1 f ds st) Q W) : ∃ v d, vs = [v] ∧ ds = [d] ∧ Dv K mg R st H v d ∧ Post K mg (Dv K mg) R H st (f d st) Q W := by
  unfold on1 at h
  split at h
  · cases h1 with
    | cons a b => cases b; exact ⟨_, _, rfl, rfl, a, h⟩
  · exact h.elim
theorem ok2 {f : D → D → M D} (h1 : DvA K mg R st H vs ds) (h : Post K mg (Dv K mg) R H st (on2 f ds st) Q W) : ∃ v w d e, vs = [v, w] ∧ ds = [d, e] ∧ Dv K mg R st H v d ∧ Dv K mg R st H w e ∧ Post K mg (Dv K mg) R H st (f d e st) Q W := by
  unfold on2 at h
  split at h
  · cases h1 with
    | cons a b =>
      cases b with
      | cons b c => cases c; exact ⟨_, _, _, _, rfl, rfl, a, b, h⟩
  · exact h.elim
end
def iAbs (i : Int) : Int := if i < 0 then -i else i
def iMax (i j : Int) : Int := if j > i then j else i
def iMin (i j : Int) : Int := if j < i then j else i
def dAbs : D → M D
  | .dat (.int i) => retI (iAbs i)
  | _ => M.bad
def dMax2 : D → D → M D := asInts fun i j => retI (iMax i j)
def dMin2 : D → D → M D := asInts fun i j => retI (iMin i j)
def dInt : D → M D
  | .dat (.int i) => retI i
  | .dat (.bool b) => retI (if b then 1 else 0)
  | _ => M.bad
section
variable {K : PySem.W.Frag} {mg : Str → Option Value}
theorem ok_abs : CallOk K mg (fun xs H Q => ∃ i, xs = [.int i] ∧ Q (.int (if i < 0 then -i else i)) H) (on1 dAbs) := by
  intro R H st vs ds Q W S hd h
  obtain ⟨v, d, rfl, rfl, h1, h⟩ := ok1 hd h
  unfold dAbs at h
  split at h
  · cases h1
    exact ⟨_, rfl, h.okR S (Dv.int _)⟩
  · exact h.elim
theorem ok_max2 : CallOk K mg (fun xs H Q => ∃ i j, xs = [.int i, .int j] ∧ Q (.int (if j > i then j else i)) H) (on2 dMax2) := by
  intro R H st vs ds Q W S hd h
  obtain ⟨v, w, d, e, rfl, rfl, h1, h2, h⟩ := ok2 hd h
  obtain ⟨i, j, rfl, rfl, rfl, rfl, h⟩ := okI h1 h2 h
  exact ⟨i, j, rfl, h.okR S (Dv.int _)⟩
theorem ok_min2 : CallOk K mg (fun xs H Q => ∃ i j, xs = [.int i, .int j] ∧ Q (.int (if j < i then j else i)) H) (on2 dMin2) := by
  intro R H st vs ds Q W S hd h
  obtain ⟨v, w, d, e, rfl, rfl, h1, h2, h⟩ := ok2 hd h
  obtain ⟨i, j, rfl, rfl, rfl, rfl, h⟩ := okI h1 h2 h
  exact ⟨i, j, rfl, h.okR S (Dv.int _)⟩
theorem ok_int : CallOk K mg (fun xs H Q => (∃ i, xs = [.int i] ∧ Q (.int i) H) ∨ ∃ k, xs = [.bl k] ∧ Q (.int (if k then 1 else 0)) H) (on1 dInt) := by
  intro R H st vs ds Q W S hd h
  obtain ⟨v, d, rfl, rfl, h1, h⟩ := ok1 hd h
  unfold dInt at h
  split at h
  · cases h1
    exact .inl ⟨_, rfl, h.okR S (Dv.int _)⟩
  · cases h1
    exact .inr ⟨_, rfl, h.okR S (Dv.int _)⟩
  · exact h.elim
end
/-! ### len -/
def lenD : PyData → M D
  | .str x => if x.length ≤ 100000 then retI x.length else M.bad
  | .list xs => retI xs.length
  | .tuple xs => retI xs.length
  | .dict kvs => retI kvs.length
  | _ => M.bad
def dLen (d : D) : M D := fun st =>
  match d with
  | .fz xs => retI xs.length st
  | d => match dataOf d st with
    | some x => lenD x st
    | none => .bad
theorem PdK.len {K : PySem.W.Frag} {U : Addr → Prop} {H : Hp} : ∀ {ds : List (PyData × PyData)} {vs : List (Key × V)}, PdK K U H vs ds → vs.length = ds.length
  | _, _, .nil => rfl
  | _, _, .cons _ q => congrArg (· + 1) (PdK.len q)
def rLenAll (K : PySem.W.Frag) : List V → Hp → VK → Prop := fun xs H Q => (∃ x n, xs = [x] ∧ LenV K x H n ∧ Q (.int n) H) ∨ ∃ a kvs, xs = [V.ref a] ∧ H a = some (.dK kvs) ∧ Q (.int kvs.length) H
theorem CallR.or {X : Cx} {f : Value} {r r' : List V → Hp → VK → Prop} (h : CallR X f r) (h' : CallR X f r') : CallR X f (fun xs H Q => r xs H Q ∨ r' xs H Q) := by
  intro pins s σ H xs us Q I rv q
  rcases q with q | q
  · exact h pins s σ H xs us Q I rv q
  · exact h' pins s σ H xs us Q I rv q
theorem call_lenAll {X : Cx} : CallR X (.builtin "len") (rLenAll X.K) := CallR.or call_len call_lenD
theorem ok_len {K : PySem.W.Frag} {mg : Str → Option Value} : CallOk K mg (rLenAll K) (on1 dLen) := by
  intro R H st vs ds Q W S hd h
  obtain ⟨v, d, rfl, rfl, h1, h⟩ := ok1 hd h
  have core : ∀ x, dataOf d st = some x → Post K mg (Dv K mg) R H st (lenD x st) Q W → rLenAll K [v] H Q := fun x z h => by
    cases x with
    | str y =>
      have a := h1.dataS z
      subst a
      simp only [lenD] at h
      split at h
      · rename_i hl
        exact .inl ⟨_, y.length, rfl, ⟨small5 hl, rfl⟩, h.okR S (Dv.int _)⟩
      · exact h.elim
    | list ys =>
      obtain ⟨a, vs, rfl, ha, pa⟩ := h1.dataL S z
      exact .inl ⟨_, vs.length, rfl, .inl ⟨vs, .inl (.inl ha), rfl⟩, by rw [pa.len]; exact h.okR S (Dv.int _)⟩
    | tuple ys =>
      cases h1.dataT z with
      | tup ta pa => exact .inl ⟨_, _, rfl, .inr ⟨_, ta.seq, rfl⟩, by rw [pa.len]; exact h.okR S (Dv.int _)⟩
    | dict ys =>
      cases h1.data S z with
      | dct ha _ pa => exact .inr ⟨_, _, rfl, ha, by rw [pa.len]; exact h.okR S (Dv.int _)⟩
    | _ => exact h.elim
  cases d with
  | fz xs =>
    obtain ⟨a, vs, rfl, hl, pa⟩ := h1
    exact .inl ⟨_, vs.length, rfl, .inl ⟨vs, hl.seq, rfl⟩, by rw [pa.len]; exact h.okR S (Dv.int _)⟩
  | dat x => exact core x rfl h
  | loc n =>
    have h' : Post K mg (Dv K mg) R H st (match dataOf (.loc n) st with | some x => lenD x st | none => .bad) Q W := h
    cases z : dataOf (.loc n) st with
    | none => rw [z] at h'; exact h'.elim
    | some x => rw [z] at h'; exact core x z h'
  | glob x => exact h.elim
  | ty t => exact h.elim
  | raw t => exact h.elim
  | err _ _ _ _ => exact h.elim
/-! ### tuple(xs), list(xs) -/
def tupOf (d : D) : M D := fun st =>
  match dataOf d st with
  | some (.list xs) => .ok (.dat (.tuple xs)) st
  | some (.tuple xs) => .ok (.dat (.tuple xs)) st
  | _ => .bad
def lstOf (d : D) : M D := fun st =>
  match dataOf d st with
  | some (.list xs) => .ok (.dat (.list xs)) st
  | some (.tuple xs) => .ok (.dat (.list xs)) st
  | _ => .bad
/-- list(xs) that is to change -/
def locOf (d : D) : M D := fun st =>
  match dataOf d st with
  | some (.list xs) => .ok (.loc st.length) (st ++ [.lst xs])
  | some (.tuple xs) => .ok (.loc st.length) (st ++ [.lst xs])
  | _ => .bad
section
variable {K : PySem.W.Frag} {mg : Str → Option Value}
theorem ok_tupOf : CallOk K mg (fun xs H Q => ∃ p ys, xs = [.ref p] ∧ ((SqL K H p ys ∧ ∀ l, H l = none → Q (.ref l) (upd H l (.tup ys))) ∨ (SqT K H p ys ∧ Q (.ref p) H))) (on1 tupOf) := by
  intro R H st vs ds Q W S hd h
  obtain ⟨v, d, rfl, rfl, h1, h⟩ := ok1 hd h
  unfold tupOf at h
  split at h
  · rename_i z
    obtain ⟨a, vs, rfl, ha, pa⟩ := h1.dataL S z
    exact ⟨a, vs, rfl, .inl ⟨.inl (.inl ha), fun p hp => h.okN S hp (newTup S hp pa)⟩⟩
  · rename_i z
    have h2 := h1.dataT z
    cases h2 with
    | tup ta pa => exact ⟨_, _, rfl, .inr ⟨ta.seq, h.okR S (Pd.tup ta pa)⟩⟩
  · exact h.elim
theorem ok_lstOf : CallOk K mg (fun xs H Q => ∃ p ys, xs = [.ref p] ∧ (SqL K H p ys ∨ SqT K H p ys) ∧ ∀ l, H l = none → Q (.ref l) (upd H l (.lst ys))) (on1 lstOf) := by
  intro R H st vs ds Q W S hd h
  obtain ⟨v, d, rfl, rfl, h1, h⟩ := ok1 hd h
  unfold lstOf at h
  split at h
  · rename_i z
    obtain ⟨a, vs, rfl, ha, pa⟩ := h1.dataL S z
    exact ⟨a, vs, rfl, .inl (.inl (.inl ha)), fun p hp => h.okN S hp (newLst S hp pa)⟩
  · rename_i z
    have h2 := h1.dataT z
    cases h2 with
    | tup ta pa => exact ⟨_, _, rfl, .inr ta.seq, fun p hp => h.okN S hp (newLst S hp pa)⟩
  · exact h.elim
theorem ok_locOf : CallOk K mg (fun xs H Q => ∃ p ys, xs = [.ref p] ∧ (SqL K H p ys ∨ SqT K H p ys) ∧ ∀ l, H l = none → Q (.ref l) (upd H l (.lst ys))) (on1 locOf) := by
  intro R H st vs ds Q W S hd h
  obtain ⟨v, d, rfl, rfl, h1, h⟩ := ok1 hd h
  unfold locOf at h
  have fin : ∀ (vs : List V) (xs : List PyData), PdA K (Own R st) H vs xs → Post K mg (Dv K mg) R H st (.ok (.loc st.length) (st ++ [.lst xs])) Q W → ∀ p, H p = none → Q (.ref p) (upd H p (.lst vs)) := fun vs xs pa h p hp => by
    obtain ⟨x2, S2⟩ := ext_loc S hp pa
    exact h _ _ _ x2 S2 ⟨p, put_at S, rfl⟩
  split at h
  · rename_i z
    obtain ⟨a, vs, rfl, ha, pa⟩ := h1.dataL S z
    exact ⟨a, vs, rfl, .inl (.inl (.inl ha)), fin vs _ pa h⟩
  · rename_i z
    have h2 := h1.dataT z
    cases h2 with
    | tup ta pa => exact ⟨_, _, rfl, .inr ta.seq, fin _ _ pa h⟩
  · exact h.elim
end
/-! ### sum, all, any of a list -/
def intsOf : List PyData → Option (List Int)
  | [] => some []
  | .int i :: r => (intsOf r).map (i :: ·)
  | _ :: _ => none
def boolsOf : List PyData → Option (List Bool)
  | [] => some []
  | .bool i :: r => (boolsOf r).map (i :: ·)
  | _ :: _ => none
theorem intsOf_vals {K : PySem.W.Frag} {U : Addr → Prop} {H : Hp} : ∀ {ds : List PyData} {vs : List V} {ns : List Int}, PdA K U H vs ds → intsOf ds = some ns → vs = ns.map V.int
  | _, _, _, .nil, e => by cases e; rfl
  | .int i :: r, _, _, .cons h q, e => by
    unfold intsOf at e
    cases z : intsOf r with
    | none => rw [z] at e; cases e
    | some ys =>
      rw [z] at e
      cases e
      cases h
      rw [intsOf_vals q z]
      rfl
  | .none :: _, _, _, .cons _ _, e => by cases e
  | .bool _ :: _, _, _, .cons _ _, e => by cases e
  | .str _ :: _, _, _, .cons _ _, e => by cases e
  | .list _ :: _, _, _, .cons _ _, e => by cases e
  | .tuple _ :: _, _, _, .cons _ _, e => by cases e
  | .dict _ :: _, _, _, .cons _ _, e => by cases e
theorem boolsOf_vals {K : PySem.W.Frag} {U : Addr → Prop} {H : Hp} : ∀ {ds : List PyData} {vs : List V} {ns : List Bool}, PdA K U H vs ds → boolsOf ds = some ns → vs = ns.map V.bl
  | _, _, _, .nil, e => by cases e; rfl
  | .bool i :: r, _, _, .cons h q, e => by
    unfold boolsOf at e
    cases z : boolsOf r with
    | none => rw [z] at e; cases e
    | some ys =>
      rw [z] at e
      cases e
      cases h
      rw [boolsOf_vals q z]
      rfl
  | .none :: _, _, _, .cons _ _, e => by cases e
  | .int _ :: _, _, _, .cons _ _, e => by cases e
  | .str _ :: _, _, _, .cons _ _, e => by cases e
  | .list _ :: _, _, _, .cons _ _, e => by cases e
  | .tuple _ :: _, _, _, .cons _ _, e => by cases e
  | .dict _ :: _, _, _, .cons _ _, e => by cases e
/-- a list's items -/
def itemsOf (f : List PyData → M D) (d : D) : M D := fun st =>
  match dataOf d st with
  | some (.list xs) => f xs st
  | _ => .bad
def onBools (f : List Bool → Bool) (xs : List PyData) : M D := match boolsOf xs with | some bs => retB (f bs) | none => M.bad
def onInts (f : List Int → M D) (xs : List PyData) : M D := match intsOf xs with | some bs => f bs | none => M.bad
def dAll : D → M D := itemsOf (onBools fun bs => bs.all id)
def dAny : D → M D := itemsOf (onBools fun bs => bs.any id)
def dSum : D → M D := itemsOf (onInts fun ns => retI ns.sum)
section
variable {K : PySem.W.Frag} {mg : Str → Option Value}
theorem okIt {R : Rg} {H : Hp} {st : Sto} {v : V} {d : D} {Q : VK} {W : XK} {f : List PyData → M D} (S : Sim K R H st) (h1 : Dv K mg R st H v d) (h : Post K mg (Dv K mg) R H st (itemsOf f d st) Q W) :
    ∃ a vs xs, v = .ref a ∧ H a = some (.lst vs) ∧ PdA K (Own R st) H vs xs ∧ Post K mg (Dv K mg) R H st (f xs st) Q W := by
  unfold itemsOf at h
  split at h
  · rename_i z
    obtain ⟨a, vs, rfl, ha, pa⟩ := h1.dataL S z
    exact ⟨a, vs, _, rfl, ha, pa, h⟩
  · exact h.elim
theorem okBs {R : Rg} {H : Hp} {st : Sto} {Q : VK} {W : XK} {f : List Bool → Bool} {xs : List PyData} (h : Post K mg (Dv K mg) R H st (onBools f xs st) Q W) : ∃ bs, boolsOf xs = some bs ∧ Post K mg (Dv K mg) R H st (retB (f bs) st) Q W := by
  unfold onBools at h
  cases z : boolsOf xs with
  | none => rw [z] at h; exact h.elim
  | some bs => rw [z] at h; exact ⟨bs, rfl, h⟩
theorem okIs {R : Rg} {H : Hp} {st : Sto} {Q : VK} {W : XK} {f : List Int → M D} {xs : List PyData} (h : Post K mg (Dv K mg) R H st (onInts f xs st) Q W) : ∃ bs, intsOf xs = some bs ∧ Post K mg (Dv K mg) R H st (f bs st) Q W := by
  unfold onInts at h
  cases z : intsOf xs with
  | none => rw [z] at h; exact h.elim
  | some bs => rw [z] at h; exact ⟨bs, rfl, h⟩
theorem ok_all : CallOk K mg (rAll K) (on1 dAll) := by
  intro R H st vs ds Q W S hd h
  obtain ⟨v, d, rfl, rfl, h1, h⟩ := ok1 hd h
  obtain ⟨a, vs, xs, rfl, ha, pa, h⟩ := okIt S h1 h
  obtain ⟨bs, e, h⟩ := okBs h
  have q := boolsOf_vals pa e
  subst q
  exact ⟨a, bs, rfl, .inl (.inl ha), h.okR S (Dv.bl _)⟩
theorem ok_any : CallOk K mg (rAny K) (on1 dAny) := by
  intro R H st vs ds Q W S hd h
  obtain ⟨v, d, rfl, rfl, h1, h⟩ := ok1 hd h
  obtain ⟨a, vs, xs, rfl, ha, pa, h⟩ := okIt S h1 h
  obtain ⟨bs, e, h⟩ := okBs h
  have q := boolsOf_vals pa e
  subst q
  exact ⟨a, bs, rfl, .inl (.inl ha), h.okR S (Dv.bl _)⟩
theorem ok_sum : CallOk K mg (rSum K) (on1 dSum) := by
  intro R H st vs ds Q W S hd h
  obtain ⟨v, d, rfl, rfl, h1, h⟩ := ok1 hd h
  obtain ⟨a, vs, xs, rfl, ha, pa, h⟩ := okIt S h1 h
  obtain ⟨bs, e, h⟩ := okIs h
  have q := intsOf_vals pa e
  subst q
  exact ⟨a, bs, rfl, .inl (.inl ha), h.okR S (Dv.int _)⟩
end
/-! ### repr -/
def dRepr (d : D) : M D := fun st =>
  match dataOf d st with
  | some x => if reprOk x = true then .ok (.dat (.str x.shown)) st else .bad
  | none => .bad
def rRepr (K : PySem.W.Frag) : List V → Hp → VK → Prop := fun xs H Q => ∃ v d, xs = [v] ∧ Pd K NoU H v d ∧ reprOk d = true ∧ Q (.str d.shown) H
theorem call_repr {X : Cx} (hg : X.A.guards = some []) (hm : ∃ o, X.base.get? sysModules = some o) (hu : X.A.units + 128 < cLine) : CallR X (.builtin "repr") (rRepr X.K) := by
  intro pins s σ H xs us Q I rv h
  obtain ⟨v, d, rfl, p, ok, q⟩ := h
  obtain ⟨u, rfl, ru⟩ := vals1 rv
  have hs : H sysModules = none := let ⟨o, e⟩ := hm; (I.bs _ o e).2
  obtain ⟨as, hr, hn⟩ := Pd.reads I hs p ru
  unfold reprOk at ok
  simp only [Bool.and_eq_true, decide_eq_true_eq] at ok
  obtain ⟨⟨h1, h2⟩, h3⟩ := ok
  have hz : d.shown.length ≤ sizeLine := by
    rw [sizeLine_eq]
    have : bigLine = 16000000 := rfl
    omega
  have big : ∀ {u : Value} {as : List Addr}, Reads s.heap u d as → sysModules ∉ as → (∃ a, u = .ref a) → wpAny (model X.prog X.w) X.A (call (.builtin "repr") [u]) (EP X pins σ Q) X.xe s := by
    rintro u as hr hn ⟨a, rfl⟩
    exact repr_of_reads' (h₀ := s.heap) hr h1 (fun _ => hn) hg (by omega) (fun _ _ e => e) (fun h' u tk hk => ⟨.str d.shown, H, I.kept hk, ⟨_, rfl⟩, q⟩) hz
  cases p with
  | non => cases ru; exact PySem.P.repr_of_none ⟨.str _, H, I.tok _, ⟨_, rfl⟩, q⟩
  | bl b => cases ru; exact PySem.P.repr_of_bool ⟨.str _, H, I.tok _, ⟨_, rfl⟩, q⟩
  | int i =>
    obtain ⟨t, rfl⟩ := ru
    have hi : i.natAbs.log2 < 1920 := by simpa [PyData.showable] using h1
    exact PySem.P.repr_of_int hi ⟨.str _, H, I.tok _, ⟨_, rfl⟩, q⟩
  | str x =>
    obtain ⟨t, rfl⟩ := ru
    exact PySem.P.repr_of_str ⟨.str _, H, I.tok _, ⟨_, rfl⟩, q⟩ hz
  | lst _ _ _ => cases ru; exact big hr hn ⟨_, rfl⟩
  | tup _ _ => cases ru; exact big hr hn ⟨_, rfl⟩
  | dct _ _ _ => cases ru; exact big hr hn ⟨_, rfl⟩
theorem ok_repr {K : PySem.W.Frag} {mg : Str → Option Value} : CallOk K mg (rRepr K) (on1 dRepr) := by
  intro R H st vs ds Q W S hd h
  obtain ⟨v, d, rfl, rfl, h1, h⟩ := ok1 hd h
  unfold dRepr at h
  split at h
  · rename_i x z
    split at h
    · rename_i hk
      exact ⟨v, x, rfl, h1.data S z, hk, h.okR S (Dv.str _)⟩
    · exact h.elim
  · exact h.elim
end Ev
set_option Elab.async false
set_option linter.all false
set_option maxRecDepth 100000
set_option maxHeartbeats 4000000
/-! Ev5: isinstance, statements, loops, comprehensions. -/
namespace Ev
open PySem PySem.Spec PyProof.Rows L2

/-! ### isinstance of data -/
@[simp] def tyOf : PyData → Ty
  | .none => .none
  | .bool _ => .bool
  | .int _ => .int
  | .str _ => .str
  | .list _ => .list
  | .tuple _ => .tuple
  | .dict _ => .dict
@[simp] def isi : Ty → Ty → Bool
  | .bool, .int => true
  | a, b => decide (a = b)
theorem kit_isi (a b : Ty) : kitB a.name b.name = some (isi a b) := by
  cases a <;> cases b <;> decide +kernel
def dIsi (d e : D) : M D := fun st =>
  match e with
  | .ty t => match dataOf d st with
    | some x => .ok (.dat (.bool (isi (tyOf x) t))) st
    | none => .bad
  | _ => .bad
theorem Pd.tyX {K : PySem.W.Frag} {H : Hp} {v : V} {d : PyData} (h : Pd K NoU H v d) : TyX K H v (.type (tyOf d).name) := by
  cases h with
  | non => exact .base .non
  | bl b => exact .base (.bl b)
  | int i => exact .base (.int i)
  | str x => exact .base (.str x)
  | lst h _ _ => exact .base (.lst h)
  | tup h _ =>
    rcases h with ⟨h | ⟨o, h⟩, _⟩ | ⟨o, its, n, h1, h2, _⟩
    · exact .base (.tup h)
    · exact .fTuple h
    · exact .kTuple h1 h2
  | dct h _ _ => exact .base (.dK h)
theorem ok_isi {K : PySem.W.Frag} {mg : Str → Option Value} : CallOk K mg (rIsi K) (on2 dIsi) := by
  intro R H st vs ds Q W S hd h
  obtain ⟨v, w, d, e, rfl, rfl, h1, h2, h⟩ := ok2 hd h
  unfold dIsi at h
  cases e with
  | ty t =>
    cases z : dataOf d st with
    | none =>
      simp only [z] at h
      exact h.elim
    | some x =>
      simp only [z] at h
      have e2 : w = .ty t.name := h2
      subst e2
      exact ⟨v, _, _, .type t.name, _, rfl, ⟨.ty _, (h1.data S z).tyX, kit_ty (kit_isi _ _), h.okR S (Dv.bl _)⟩⟩
  | _ => exact h.elim

/-! ### statements -/
inductive SRes where
  | nx (ρ : Env) (st : Sto)
  | rt (d : D) (st : Sto)
  | bk (ρ : Env) (st : Sto)
  | ct (ρ : Env) (st : Sto)
  | exc (x : Exc) (ρ : Env) (st : Sto)
  | bad
abbrev SM := Env → Sto → SRes
section
variable (K : PySem.W.Frag) (mg : Str → Option Value)
def PostS (R : Rg) (H : Hp) (st : Sto) (r : SRes) (D : Ends) (W : WX) : Prop :=
  match r with
  | .nx ρ' st' => ∀ σ' R' H', Ext R H st R' H' st' → Sim K R' H' st' → EnvR K mg R' st' H' σ' ρ' → D.nx σ' H'
  | .rt d st' => ∀ v R' H', Ext R H st R' H' st' → Sim K R' H' st' → Dv K mg R' st' H' v d → D.rt v H'
  | .bk ρ' st' => ∀ σ' R' H', Ext R H st R' H' st' → Sim K R' H' st' → EnvR K mg R' st' H' σ' ρ' → D.bk σ' H'
  | .ct ρ' st' => ∀ σ' R' H', Ext R H st R' H' st' → Sim K R' H' st' → EnvR K mg R' st' H' σ' ρ' → D.ct σ' H'
  | .exc x ρ' st' => ∀ σ' R' H' cls dx, Ext R H st R' H' st' → Sim K R' H' st' → EnvR K mg R' st' H' σ' ρ' → ExcR K mg (Own R' st') H' x cls dx → W cls dx σ' H'
  | .bad => False
def tS (W : WX) (m : SM) : TS := fun D σ H => ∃ R ρ st, Sim K R H st ∧ EnvR K mg R st H σ ρ ∧ PostS K mg R H st (m ρ st) D W
end
structure EVS (X : Cx) (W : WX) (s : Stmt) (m : SM) : Prop where
  ps : PS X s (tS X.K X.mg W m)
structure EVSs (X : Cx) (W : WX) (s : List Stmt) (m : SM) : Prop where
  ps : PSs X s (tS X.K X.mg W m)
theorem PS.imp {X : Cx} {s : Stmt} {t u : TS} (h : PS X s t) (q : ∀ D σ H, u D σ H → t D σ H) : PS X s u := ⟨fun pins s σ H D I z => h.run pins s σ H D I (q D σ H z)⟩
theorem PSs.imp {X : Cx} {s : List Stmt} {t u : TS} (h : PSs X s t) (q : ∀ D σ H, u D σ H → t D σ H) : PSs X s u := ⟨fun pins s σ H D I z => h.run pins s σ H D I (q D σ H z)⟩
section
variable {K : PySem.W.Frag} {mg : Str → Option Value} {R R1 : Rg} {H H1 : Hp} {st st1 : Sto} {W : WX}
theorem PostS.shift {r : SRes} {D : Ends} (S1 : Sim K R1 H1 st1) (e : Ext R H st R1 H1 st1) (h : PostS K mg R H st r D W) : PostS K mg R1 H1 st1 r D W := by
  cases r with
  | nx ρ st' => exact fun σ' R' H' e' s' q => h σ' R' H' (e.trans S1 e') s' q
  | rt d st' => exact fun σ' R' H' e' s' q => h σ' R' H' (e.trans S1 e') s' q
  | bk ρ st' => exact fun σ' R' H' e' s' q => h σ' R' H' (e.trans S1 e') s' q
  | ct ρ st' => exact fun σ' R' H' e' s' q => h σ' R' H' (e.trans S1 e') s' q
  | exc x ρ st' => exact fun σ' R' H' cls dx e' s' q => h σ' R' H' cls dx (e.trans S1 e') s' q
  | bad => exact h
/-- an expression ahead of the rest of a statement -/
def sBind {α : Type} (m : Env → M α) (f : α → SM) : SM := fun ρ st =>
  match m ρ st with
  | .ok a st' => f a ρ st'
  | .exc x st' => .exc x ρ st'
  | .bad => .bad
theorem PostS.bind {α β : Type} {Rel : RelT α β} {m : Env → M α} {f : α → SM} {D : Ends} {σ : L2.St} {ρ : Env} (E : EnvR K mg R st H σ ρ) (h : PostS K mg R H st (sBind m f ρ st) D W) :
    Post K mg Rel R H st (m ρ st) (fun b H1 => ∃ R1 st1 a, Sim K R1 H1 st1 ∧ EnvR K mg R1 st1 H1 σ ρ ∧ Rel R1 st1 H1 b a ∧ PostS K mg R1 H1 st1 (f a ρ st1) D W) (fun c d H' => W c d σ H') := by
  unfold sBind at h
  cases e : m ρ st with
  | ok a st' =>
    rw [e] at h
    exact fun b R' H' e' s' q => ⟨R', st', a, s', E.ext e', q, PostS.shift s' e' h⟩
  | exc x st' =>
    rw [e] at h
    exact fun R' H' cls dx e' s' q => h σ R' H' cls dx e' s' (E.ext e') q
  | bad =>
    rw [e] at h
    exact h
def sNil : SM := fun ρ st => .nx ρ st
def sSeq (m n : SM) : SM := fun ρ st =>
  match m ρ st with
  | .nx ρ' st' => n ρ' st'
  | r => r
end
section
variable {X : Cx} {W : WX} {s : Stmt} {rest a b : List Stmt} {m n : SM} {c e : Expr} {mc : Env → M Bool} {me : Env → M D} {pos : Pos}
theorem evs_nil : EVSs X W [] sNil := by
  refine ⟨PSs.imp pss_nil fun D σ H h => ?_⟩
  obtain ⟨R, ρ, st, S, E, h⟩ := h
  exact h σ R H .refl S E
theorem evs_cons (h1 : EVS X W s m) (h2 : EVSs X W rest n) : EVSs X W (s :: rest) (sSeq m n) := by
  refine ⟨PSs.imp (pss_cons h1.ps h2.ps) fun D σ H h => ?_⟩
  obtain ⟨R, ρ, st, S, E, h⟩ := h
  refine ⟨R, ρ, st, S, E, ?_⟩
  unfold sSeq at h
  cases z : m ρ st with
  | nx ρ' st' =>
    rw [z] at h
    exact fun σ' R' H' e' s' q => ⟨R', ρ', st', s', q, PostS.shift s' e' h⟩
  | rt d st' => rw [z] at h; exact h
  | bk ρ' st' => rw [z] at h; exact h
  | ct ρ' st' => rw [z] at h; exact h
  | exc x ρ' st' => rw [z] at h; exact h
  | bad => rw [z] at h; exact h
theorem evs_one (h1 : EVS X W s m) : EVSs X W [s] m := ⟨pss_one h1.ps⟩
def sRet (m : Env → M D) : SM := sBind m fun d _ st => .rt d st
theorem evs_ret (he : EV X W e me) : EVS X W (.Return (some e) pos) (sRet me) := by
  refine ⟨PS.imp (ps_ret he.pe) fun D σ H h => ?_⟩
  obtain ⟨R, ρ, st, S, E, h⟩ := h
  exact ⟨R, ρ, st, S, E, (PostS.bind (Rel := Dv X.K X.mg) E h).monoQ fun v H1 ⟨R1, st1, d, S1, E1, D1, h1⟩ => h1 v R1 H1 .refl S1 D1⟩
def sRetN : SM := fun _ st => .rt (.dat .none) st
theorem evs_retN : EVS X W (.Return none pos) sRetN := by
  refine ⟨PS.imp ps_retN fun D σ H h => ?_⟩
  obtain ⟨R, ρ, st, S, E, h⟩ := h
  exact h _ R H .refl S Dv.non
def sIf (c : Env → M Bool) (m n : SM) : SM := sBind c fun b => if b = true then m else n
theorem evs_if (hc : EVT X W c mc) (ha : EVSs X W a m) (hb : EVSs X W b n) : EVS X W (.If c a b pos) (sIf mc m n) := by
  refine ⟨PS.imp (ps_if hc.pt ha.ps hb.ps) fun D σ H h => ?_⟩
  obtain ⟨R, ρ, st, S, E, h⟩ := h
  refine ⟨R, ρ, st, S, E, (PostS.bind (Rel := RelB) E h).monoQ fun k H1 ⟨R1, st1, d, S1, E1, D1, h1⟩ => ?_⟩
  obtain rfl : k = d := D1
  cases k with
  | true => exact ⟨R1, ρ, st1, S1, E1, h1⟩
  | false => exact ⟨R1, ρ, st1, S1, E1, h1⟩
def sDrop (m : Env → M D) : SM := sBind m fun _ ρ st => .nx ρ st
theorem evs_expr (he : EV X W e me) (hs : swapsWith e none pos.line X.env = pure false := by rfl) : EVS X W (.Expr e pos) (sDrop me) := by
  refine ⟨PS.imp (ps_expr he.pe hs) fun D σ H h => ?_⟩
  obtain ⟨R, ρ, st, S, E, h⟩ := h
  exact ⟨R, ρ, st, S, E, (PostS.bind (Rel := Dv X.K X.mg) E h).monoQ fun v H1 ⟨R1, st1, d, S1, E1, D1, h1⟩ => h1 σ R1 H1 .refl S1 E1⟩
def sSet (i : Nat) (m : Env → M D) : SM := sBind m fun d ρ st => .nx (ρ.set i (some d)) st
theorem tAsg_of {i : Nat} {D : Ends} {σ : L2.St} {H : Hp} (h : tS X.K X.mg W (sSet i me) D σ H) : tM X.K X.mg W me σ H (fun x H1 => gName i x σ H1 D.nx) := by
  obtain ⟨R, ρ, st, S, E, h⟩ := h
  exact ⟨R, ρ, st, S, E, (PostS.bind (Rel := Dv X.K X.mg) E h).monoQ fun v H1 ⟨R1, st1, d, S1, E1, D1, h1⟩ => h1 _ R1 H1 .refl S1 (E1.set i D1)⟩
theorem evs_set {i : Nat} {x : Str} {pos' : Pos} (hN : X.N.Nodup) (hi : X.N[i]? = some x) (hx : Loc X.env.scope x) (he : EV X W e me) (hs : swapsWith e (some (.Name x pos')) pos.line X.env = pure false := by rfl)
    (hf : X.fn x = true ∨ X.env.scope.names.lookup x = some .local := by first | exact .inl rfl | exact .inr rfl | assumption) : EVS X W (.Assign [.Name x pos'] e pos) (sSet i me) :=
  ⟨PS.imp (ps_set hN hi hx he.pe hs hf) fun D σ H h => tAsg_of h⟩
def sPass : SM := fun ρ st => .nx ρ st
def sBrk : SM := fun ρ st => .bk ρ st
def sCnt : SM := fun ρ st => .ct ρ st
theorem evs_pass : EVS X W (.Pass pos) sPass := by
  refine ⟨PS.imp ps_pass fun D σ H h => ?_⟩
  obtain ⟨R, ρ, st, S, E, h⟩ := h
  exact h σ R H .refl S E
theorem evs_break : EVS X W (.Break pos) sBrk := by
  refine ⟨PS.imp ps_break fun D σ H h => ?_⟩
  obtain ⟨R, ρ, st, S, E, h⟩ := h
  exact h σ R H .refl S E
theorem evs_continue : EVS X W (.Continue pos) sCnt := by
  refine ⟨PS.imp ps_continue fun D σ H h => ?_⟩
  obtain ⟨R, ρ, st, S, E, h⟩ := h
  exact h σ R H .refl S E
/-- x += e of ints -/
def sAug (i : Nat) (f : D → D → M D) (m : Env → M D) : SM := fun ρ st =>
  match ρ[i]? with
  | some (some x) => sBind m (fun y ρ st => match f x y st with | .ok z st' => .nx (ρ.set i (some z)) st' | _ => .bad) ρ st
  | _ => .bad
end

/-! ### a list of the store is written -/
section
variable {K : PySem.W.Frag} {mg : Str → Option Value} {R : Rg} {H : Hp} {st : Sto} {n : Nat} {a : Addr} {vs : List V} {xs ys : List PyData}
theorem own_set (h1 : R.r[n]? = some a) (h2 : st[n]? = some (Cell.lst xs)) (b : Addr) : Own R (st.set n (.lst ys)) b ↔ Own R st b := by
  constructor
  · rintro (⟨m, zs, e1, e2⟩ | h)
    · by_cases hm : n = m
      · subst hm
        rw [h1] at e1; cases e1
        exact .inl ⟨n, xs, h1, h2⟩
      · rw [List.getElem?_set_ne hm] at e2
        exact .inl ⟨m, zs, e1, e2⟩
    · exact .inr h
  · rintro (⟨m, zs, e1, e2⟩ | h)
    · by_cases hm : n = m
      · subst hm
        rw [h1] at e1; cases e1
        exact .inl ⟨n, ys, h1, by rw [List.getElem?_set_self (List.getElem?_eq_some_iff.mp h2).1]⟩
      · exact .inl ⟨m, zs, e1, by rw [List.getElem?_set_ne hm]; exact e2⟩
    · exact .inr h
theorem ext_set (S : Sim K R H st) (h1 : R.r[n]? = some a) (h2 : st[n]? = some (Cell.lst xs)) (q : PdA K (Own R st) H vs ys) :
    Ext R H st R (upd H a (.lst vs)) (st.set n (.lst ys)) ∧ Sim K R (upd H a (.lst vs)) (st.set n (.lst ys)) := by
  have oa : Own R st a := .inl ⟨n, xs, h1, h2⟩
  have E : Ext R H st R (upd H a (.lst vs)) (st.set n (.lst ys)) := by
    refine ⟨⟨[], by simp, fun _ h => by cases h⟩, rfl, fun b hb o e => ?_, ⟨fun b o e hb => ?_, fun b z => .inl ((own_set h1 h2 b).mp z)⟩⟩
    · have ne : b ≠ a := fun z => S.nr a (List.mem_of_getElem? h1) (z ▸ hb)
      rw [upd_ne ne]; exact e
    · have ne : b ≠ a := fun z => hb (z ▸ oa)
      rw [upd_ne ne]; exact e
  refine ⟨E, by simp [S.len], S.nd, S.nr, fun b hb => ?_, fun m b zs e1 e2 => ?_⟩
  · by_cases ne : b = a
    · rw [ne, upd_same]; simp
    · rw [upd_ne ne]; exact S.trk b hb
  · by_cases hm : n = m
    · subst hm
      rw [h1] at e1; cases e1
      rw [List.getElem?_set_self (List.getElem?_eq_some_iff.mp h2).1] at e2
      cases e2
      exact ⟨vs, upd_same, q.stays E.stays⟩
    · rw [List.getElem?_set_ne hm] at e2
      obtain ⟨ws, e, w⟩ := S.at_ m b zs e1 e2
      have ne : b ≠ a := fun z => by
        subst z
        have i1 := (List.getElem?_eq_some_iff.mp h1)
        have i2 := (List.getElem?_eq_some_iff.mp e1)
        obtain ⟨l1, g1⟩ := i1
        obtain ⟨l2, g2⟩ := i2
        exact hm ((List.getElem_inj S.nd).mp (g1.trans g2.symm))
      exact ⟨ws, by rw [upd_ne ne]; exact e, w.stays E.stays⟩
end
/-- a list of the store, changed -/
def onLoc (f : List PyData → Option (List PyData × PyData)) (d : D) : M D := fun st =>
  match d with
  | .loc n => match st[n]? with
    | some (.lst xs) => match f xs with
      | some (ys, r) => .ok (.dat r) (st.set n (.lst ys))
      | none => .bad
    | _ => .bad
  | _ => .bad
section
variable {X : Cx} {W : WX} {pos : Pos} {o i e : Expr} {mo mi me : Env → M D}
/-- xs[i] = e -/
def setAt (k : Int) (y : PyData) (xs : List PyData) : Option (List PyData × PyData) := (ixN xs.length k).map fun j => (xs.set j y, .none)
def sSetIx (mo mi me : Env → M D) : SM := sBind me fun y => sBind mo fun l => sBind mi fun k => sBind (fun _ => match k, y with | .dat (.int k), .dat y => onLoc (setAt k y) l | _, _ => M.bad) fun _ ρ st => .nx ρ st
theorem evs_setix {pos' : Pos} (ho : EV X W o mo) (hi : EV X W i mi) (he : EV X W e me)
    (ha : ∀ v, assign (.Subscript o i pos') X.env v = (do
      let ov ← holding [v] (eval o X.env)
      let iv ← holding [v, ov] (eval i X.env)
      standAt pos'
      holding [v, ov, iv] (setItem ov iv v)
      release [v, ov, iv] []) := by intro _; rfl)
    (hs : swapsWithSole [.Subscript o i pos'] e pos.line X.env = pure false := by rfl) (hw : swappedStores [.Subscript o i pos'] e X.env = pure none := by rfl)
    (h1 : (assignEach [.Subscript o i pos'] X.env).map (·.2) = [assign (.Subscript o i pos') X.env] := by rfl) : EVS X W (.Assign [.Subscript o i pos'] e pos) (sSetIx mo mi me) := by
  refine ⟨PS.imp (ps_asg he.pe (pg_sub ho.pe hi.pe set_list ha) hs hw h1) fun D σ H h => ?_⟩
  obtain ⟨R, ρ, st, S, E, h⟩ := h
  refine ⟨R, ρ, st, S, E, (PostS.bind (Rel := Dv X.K X.mg) E h).monoQ fun v H1 ⟨R1, st1, y, S1, E1, D1, h1⟩ => ?_⟩
  refine ⟨R1, ρ, st1, S1, E1, ?_⟩
  have h1' := PostS.bind (Rel := fun R st H (b : V) d => Dv X.K X.mg R st H v y ∧ Dv X.K X.mg R st H b d) E1 h1
  revert h1'
  cases z1 : mo ρ st1 with
  | bad => exact fun q => q
  | exc x st' => exact fun q => q
  | ok d2 st2 =>
    intro h1' ov R2 H2 x2 S2 D2
    obtain ⟨R2', st2', l, S2', E2, ⟨D1', D2'⟩, h2⟩ := h1' ov R2 H2 x2 S2 ⟨D1.ext x2, D2⟩
    refine ⟨R2', ρ, st2', S2', E2, ?_⟩
    have h2' := PostS.bind (Rel := fun R st H (b : V) d => Dv X.K X.mg R st H v y ∧ Dv X.K X.mg R st H ov l ∧ Dv X.K X.mg R st H b d) E2 h2
    revert h2'
    cases z2 : mi ρ st2' with
    | bad => exact fun q => q
    | exc x st' => exact fun q => q
    | ok d3 st3 =>
      intro h2' iv R3 H3 x3 S3 D3
      obtain ⟨R3', st3', k, S3', E3, ⟨D1'', D2'', D3'⟩, h3⟩ := h2' iv R3 H3 x3 S3 ⟨D1'.ext x3, D2'.ext x3, D3⟩
      unfold sBind at h3
      dsimp only at h3
      cases k with
      | dat kd =>
        cases kd with
        | int k =>
          cases y with
          | dat y =>
            dsimp only at h3
            unfold onLoc at h3
            cases l with
            | loc n =>
              dsimp only at h3
              cases z3 : st3'[n]? with
              | none => rw [z3] at h3; exact h3.elim
              | some c =>
                rw [z3] at h3
                cases c with
                | dead => exact h3.elim
                | lst xs =>
                  dsimp only at h3
                  unfold setAt at h3
                  cases z4 : ixN xs.length k with
                  | none => rw [z4] at h3; exact h3.elim
                  | some j =>
                    rw [z4] at h3
                    obtain ⟨a, ha', rfl⟩ := D2''
                    cases D3'
                    obtain ⟨vs, e1, e2⟩ := S3'.at_ n a xs ha' z3
                    obtain ⟨E4, S4⟩ := ext_set S3' ha' z3 (e2.set D1'' j)
                    exact ⟨a, vs, k, j, rfl, rfl, e1, by rw [e2.len]; exact z4, h3 σ R3' _ E4 S4 (E3.ext E4)⟩
            | _ => exact h3.elim
          | _ => exact h3.elim
        | _ => cases y <;> exact h3.elim
      | _ => cases y <;> exact h3.elim
end
end Ev
set_option Elab.async false
set_option linter.all false
set_option maxRecDepth 100000
set_option maxHeartbeats 4000000
/-! Ev6: what is walked, loops, comprehensions. -/
namespace Ev
open PySem PySem.Spec PyProof.Rows L2
open Classical

/-! ### targets -/
abbrev Tg := D → Env → Option Env
abbrev Tgs := List PyData → Env → Option Env
structure EVG (X : Cx) (tg : Expr) (g : TG) (t : Tg) (sl : List Nat) : Prop where
  pg : PG X tg g
  ok : ∀ (R : Rg) (st : Sto) (H : Hp) (σ : L2.St) (v : V) (d : D) (ρ ρ' : Env) (Q : L2.St → Hp → Prop), EnvR X.K X.mg R st H σ ρ → Dv X.K X.mg R st H v d → t d ρ = some ρ' →
    (∀ σ', EnvR X.K X.mg R st H σ' ρ' → (∀ vs, (∀ i ∈ sl, i ∈ vs) → wipe σ' vs = wipe σ vs) → Q σ' H) → g v σ H Q
structure EVGs (X : Cx) (tg : List Expr) (g : TGs) (t : Tgs) (n : Nat) (sl : List Nat) : Prop where
  pg : PGs X tg g
  len : ∀ (ds : List PyData) (ρ ρ' : Env), t ds ρ = some ρ' → ds.length = n
  ok : ∀ (R : Rg) (st : Sto) (H : Hp) (σ : L2.St) (vs : List V) (ds : List PyData) (ρ ρ' : Env) (Q : L2.St → Hp → Prop), EnvR X.K X.mg R st H σ ρ → PdA X.K (Own R st) H vs ds → t ds ρ = some ρ' →
    (∀ σ', EnvR X.K X.mg R st H σ' ρ' → (∀ vs, (∀ i ∈ sl, i ∈ vs) → wipe σ' vs = wipe σ vs) → Q σ' H) → g vs σ H Q
def tgName (i : Nat) : Tg := fun d ρ => some (ρ.set i (some d))
def tgNil : Tgs := fun ds ρ => match ds with | [] => some ρ | _ => none
def tgCons (t : Tg) (u : Tgs) : Tgs := fun ds ρ => match ds with | d :: r => (t (.dat d) ρ).bind (u r) | [] => none
def tgTup (u : Tgs) : Tg := fun d ρ => match d with | .dat (.tuple ds) => u ds ρ | _ => none
theorem wipe_set (σ : L2.St) (i : Nat) (x : Option V) : ∀ vs : List Nat, i ∈ vs → wipe (σ.set i x) vs = wipe σ vs
  | [], h => by cases h
  | v :: vs, h => by
    show (wipe (σ.set i x) vs).set v none = (wipe σ vs).set v none
    by_cases hv : i ∈ vs
    · rw [wipe_set σ i x vs hv]
    · have e : i = v := by
        rcases List.mem_cons.mp h with e | e
        · exact e
        · exact absurd e hv
      have com : ∀ ws : List Nat, i ∉ ws → wipe (σ.set i x) ws = (wipe σ ws).set i x := fun ws => by
        induction ws with
        | nil => intro _; rfl
        | cons w ws ih =>
          intro hw
          have h1 : i ≠ w := fun z => hw (by rw [z]; exact List.mem_cons_self)
          show (wipe (σ.set i x) ws).set w none = ((wipe σ ws).set w none).set i x
          rw [ih fun z => hw (List.mem_cons_of_mem _ z), List.set_comm _ _ h1]
      rw [com vs hv, ← e, List.set_set]
theorem eg_name {X : Cx} {i : Nat} {x : Str} {pos : Pos} (hN : X.N.Nodup) (hi : X.N[i]? = some x) (hx : Loc X.env.scope x) (hf : X.fn x = true ∨ X.env.scope.names.lookup x = some .local := by first | exact .inl rfl | exact .inr rfl | assumption) :
    EVG X (.Name x pos) (gName i) (tgName i) [i] := by
  refine ⟨pg_name hN hi hx hf, fun R st H σ v d ρ ρ' Q E D1 e q => ?_⟩
  cases e
  exact q _ (E.set i D1) fun vs hv => wipe_set σ i _ vs (hv i (by simp))
theorem eg_nil {X : Cx} : EVGs X [] gNil tgNil 0 [] := by
  refine ⟨pgs_nil, fun ds ρ ρ' e => ?_, fun R st H σ vs ds ρ ρ' Q E p e q => ?_⟩
  · cases ds with
    | nil => rfl
    | cons _ _ => cases e
  · cases p with
    | nil => cases e; exact ⟨rfl, q σ E fun _ _ => rfl⟩
    | cons _ _ => cases e
theorem tgCons_some {t : Tg} {u : Tgs} {d : PyData} {ds : List PyData} {ρ ρ' : Env} (e : tgCons t u (d :: ds) ρ = some ρ') : ∃ ρ1, t (.dat d) ρ = some ρ1 ∧ u ds ρ1 = some ρ' := by
  have e' : (t (.dat d) ρ).bind (u ds) = some ρ' := e
  cases z : t (.dat d) ρ with
  | none => rw [z] at e'; cases e'
  | some ρ1 => rw [z] at e'; exact ⟨ρ1, rfl, e'⟩
theorem eg_cons {X : Cx} {e : Expr} {es : List Expr} {g : TG} {gs : TGs} {t : Tg} {u : Tgs} {n : Nat} {sl sl' : List Nat} (h1 : EVG X e g t sl) (h2 : EVGs X es gs u n sl')
    (hs : (assignEach (e :: es) X.env).map (·.2) = assign e X.env :: (assignEach es X.env).map (·.2) := by rfl) : EVGs X (e :: es) (gCons g gs) (tgCons t u) (n + 1) (sl ++ sl') := by
  refine ⟨pgs_cons h1.pg h2.pg hs, fun ds ρ ρ' e => ?_, fun R st H σ vs ds ρ ρ' Q E p e q => ?_⟩
  · cases ds with
    | nil => cases e
    | cons d ds =>
      obtain ⟨ρ1, e1, e2⟩ := tgCons_some e
      rw [List.length_cons, h2.len ds ρ1 ρ' e2]
  · cases p with
    | nil => cases e
    | @cons v vs d ds hd p =>
      obtain ⟨ρ1, e1, e2⟩ := tgCons_some e
      refine ⟨v, vs, rfl, h1.ok R st H σ v (.dat d) ρ ρ1 _ E hd e1 fun σ1 E1 w1 => ?_⟩
      refine h2.ok R st H σ1 vs ds ρ1 ρ' Q E1 p e2 fun σ' E' w2 => q σ' E' fun ws hw => ?_
      rw [w2 ws fun i hi => hw i (List.mem_append_right _ hi), w1 ws fun i hi => hw i (List.mem_append_left _ hi)]
theorem eg_tup {X : Cx} {es : List Expr} {k : Nat} {pos : Pos} {gs : TGs} {u : Tgs} {n : Nat} {sl : List Nat} (hc : X.calm = true) (h : EVGs X es gs u n sl) (hn : (assignEach es X.env).length = n := by rfl) (hst : (assignEach es X.env).findIdx? (·.1) = none := by rfl) :
    EVG X (.Tuple es k pos) (gTup X.K n gs) (tgTup u) sl := by
  refine ⟨pg_tup hc h.pg hn hst, fun R st H σ v d ρ ρ' Q E D1 e q => ?_⟩
  unfold tgTup at e
  split at e
  · rename_i ds
    have D2 : Pd X.K (Own R st) H v (.tuple ds) := D1
    cases D2 with
    | tup ta pa => exact ⟨_, _, rfl, ta.seq, by rw [pa.len]; exact h.len ds ρ ρ' e, h.ok R st H σ _ ds ρ ρ' Q E pa e q⟩
  · cases e

/-! ### what is walked -/
structure Src where
  items : List D
  ok : Sto → Prop
/-- later: the store's lists where they were, what may not change as it was -/
structure Lat (R : Rg) (H : Hp) (st : Sto) (R' : Rg) (H' : Hp) (st' : Sto) : Prop where
  at_ : ∀ (n : Nat) (a : Addr), R.r[n]? = some a → R'.r[n]? = some a
  stays : Stays (Own R st) (Own R' st') H H'
theorem Ext.lat {R R' : Rg} {H H' : Hp} {st st' : Sto} (e : Ext R H st R' H' st') : Lat R H st R' H' st' := ⟨fun _ _ h => e.at_ h, e.stays⟩
structure Wk (K : PySem.W.Frag) (mg : Str → Option Value) (R : Rg) (st : Sto) (H : Hp) (J : It) (s : Src) : Prop where
  go : ∀ i R' H' st', i < s.items.length → Lat R H st R' H' st' → Sim K R' H' st' → s.ok st' → J.go i H'
  stop : ∀ R' H' st', Lat R H st R' H' st' → Sim K R' H' st' → s.ok st' → J.stop s.items.length H'
  yld : ∀ i R' H' st' x H2, i < s.items.length → Lat R H st R' H' st' → Sim K R' H' st' → s.ok st' → J.yld i H' x H2 → Ext R' H' st' R' H2 st' ∧ Sim K R' H2 st' ∧ ∃ d, s.items[i]? = some d ∧ Dv K mg R' st' H2 x d
def RelI (K : PySem.W.Frag) (mg : Str → Option Value) : RelT Src It := fun R st H J s => Wk K mg R st H J s
def tMI (K : PySem.W.Frag) (mg : Str → Option Value) (W : WX) (m : Env → M Src) : TI := fun σ H Q => ∃ R ρ st, Sim K R H st ∧ EnvR K mg R st H σ ρ ∧ Post K mg (RelI K mg) R H st (m ρ st) Q (fun c d H' => W c d σ H')
structure EVI (X : Cx) (W : WX) (tg iter : Expr) (m : Env → M Src) : Prop where
  pi : PI X tg iter (tMI X.K X.mg W m)
theorem PI.imp {X : Cx} {tg e : Expr} {t u : TI} (h : PI X tg e t) (q : ∀ σ H Q, u σ H Q → t σ H Q) : PI X tg e u := ⟨fun pins s σ H Q I z => h.run pins s σ H Q I (q σ H Q z)⟩
def Src.data (xs : List PyData) : Src := ⟨xs.map D.dat, fun _ => True⟩
def srcOf (d : D) : M Src := fun st =>
  match d with
  | .fz xs => .ok (.data xs) st
  | .loc n => match st[n]? with
    | some (.lst xs) => .ok ⟨xs.map D.dat, fun st' => st'[n]? = some (.lst xs)⟩ st
    | _ => .bad
  | .dat (.list xs) => .ok (.data xs) st
  | .dat (.tuple xs) => .ok (.data xs) st
  | _ => .bad
section
variable {K : PySem.W.Frag} {mg : Str → Option Value} {R : Rg} {H : Hp} {st : Sto} {a : Addr} {vs : List V} {xs : List PyData}
theorem wk_list {s : Src} (hs : s.items = xs.map D.dat) (q : ∀ R' H' st', Lat R H st R' H' st' → Sim K R' H' st' → s.ok st' → ∃ vs, SqL K H' a vs ∧ PdA K (Own R' st') H' vs xs) : Wk K mg R st H (Itl K a) s := by
  have hl : s.items.length = xs.length := by rw [hs, List.length_map]
  refine ⟨fun i R' H' st' hi E S o => ?_, fun R' H' st' E S o => ?_, fun i R' H' st' x H2 hi E S o y => ?_⟩
  · obtain ⟨vs, h1, h2⟩ := q R' H' st' E S o
    have hv : i < vs.length := by rw [h2.len]; omega
    exact ⟨vs, vs[i], h1, by simp [hv]⟩
  · obtain ⟨vs, h1, h2⟩ := q R' H' st' E S o
    exact ⟨vs, h1, by rw [h2.len, hl]; exact Nat.le_refl _⟩
  · obtain ⟨vs, h1, h2⟩ := q R' H' st' E S o
    obtain ⟨rfl, y⟩ := y
    have hx : i < xs.length := by omega
    obtain ⟨v, e1, e2⟩ := h2.at_ (i := i) (d := xs[i]) (by simp [hx])
    have e3 := y vs h1
    rw [e1] at e3
    cases e3
    exact ⟨.refl, S, .dat xs[i], by rw [hs, List.getElem?_map]; simp [hx], e2⟩
theorem wk_tup {s : Src} (hs : s.items = xs.map D.dat) (q : ∀ R' H' st', Lat R H st R' H' st' → Sim K R' H' st' → s.ok st' → ∃ vs, SqT K H' a vs ∧ PdA K (Own R' st') H' vs xs) : Wk K mg R st H (Itt K a) s := by
  have hl : s.items.length = xs.length := by rw [hs, List.length_map]
  refine ⟨fun i R' H' st' hi E S o => ?_, fun R' H' st' E S o => ?_, fun i R' H' st' x H2 hi E S o y => ?_⟩
  · obtain ⟨vs, h1, h2⟩ := q R' H' st' E S o
    have hv : i < vs.length := by rw [h2.len]; omega
    exact ⟨vs, vs[i], h1, by simp [hv]⟩
  · obtain ⟨vs, h1, h2⟩ := q R' H' st' E S o
    exact ⟨vs, h1, by rw [h2.len, hl]; exact Nat.le_refl _⟩
  · obtain ⟨vs, h1, h2⟩ := q R' H' st' E S o
    obtain ⟨rfl, y⟩ := y
    have hx : i < xs.length := by omega
    obtain ⟨v, e1, e2⟩ := h2.at_ (i := i) (d := xs[i]) (by simp [hx])
    have e3 := y vs h1
    rw [e1] at e3
    cases e3
    exact ⟨.refl, S, .dat xs[i], by rw [hs, List.getElem?_map]; simp [hx], e2⟩
/-- which walk a value has -/
theorem srcOf_wk {v : V} {d : D} {Q : It → Hp → Prop} {W : XK} (S : Sim K R H st) (D1 : Dv K mg R st H v d) (h : Post K mg (RelI K mg) R H st (srcOf d st) Q W) :
    ∃ a, v = .ref a ∧ ((∃ ws, SqL K H a ws) ∧ Q (Itl K a) H ∨ (∃ ws, SqT K H a ws) ∧ Q (Itt K a) H) := by
  unfold srcOf at h
  split at h
  · obtain ⟨a, ws, rfl, hl, pa⟩ := D1
    exact ⟨a, rfl, .inl ⟨⟨ws, hl.seq⟩, h.okR S (wk_list rfl fun R' H' st' E _ _ => ⟨ws, (hl.stays E.stays).seq, pa.stays E.stays⟩)⟩⟩
  · rename_i n
    obtain ⟨a, ha, rfl⟩ := D1
    split at h
    · rename_i xs z
      obtain ⟨ws, e1, e2⟩ := S.at_ n a xs ha z
      exact ⟨a, rfl, .inl ⟨⟨ws, .inl (.inl e1)⟩, h.okR S (wk_list rfl fun R' H' st' E S' o => by
        obtain ⟨ws', e3, e4⟩ := S'.at_ n a xs (E.at_ n a ha) o
        exact ⟨ws', .inl (.inl e3), e4⟩)⟩⟩
    · exact h.elim
  · have D2 : Pd K (Own R st) H v (.list _) := D1
    cases D2 with
    | lst h1 h2 h3 => exact ⟨_, rfl, .inl ⟨⟨_, .inl (.inl h1)⟩, h.okR S (wk_list rfl fun R' H' st' E _ _ => ⟨_, .inl (.inl (E.stays.keep _ _ h1 h2)), h3.stays E.stays⟩)⟩⟩
  · have D2 : Pd K (Own R st) H v (.tuple _) := D1
    cases D2 with
    | tup h1 h3 => exact ⟨_, rfl, .inr ⟨⟨_, h1.seq⟩, h.okR S (wk_tup rfl fun R' H' st' E _ _ => ⟨_, (h1.stays E.stays).seq, h3.stays E.stays⟩)⟩⟩
  · exact h.elim
end
section
variable {X : Cx} {W : WX} {tg l e : Expr} {m : Env → M D} {ms : Env → M (List D)} {p pos : Pos}
def mSeq (m : Env → M D) : Env → M Src := fun ρ => M.bind (m ρ) srcOf
/-- a list or a tuple is walked -/
theorem evi_seq (h : EV X W l m) : EVI X W tg l (mSeq m) := by
  refine ⟨⟨fun pins s σ H Rr I hh => ?_⟩⟩
  obtain ⟨R, ρ, st, S, E, hh⟩ := hh
  refine thn (h.pe.run pins s σ H (fun v H1 => ∃ a, v = .ref a ∧ ((∃ ws, SqL X.K H1 a ws) ∧ Rr (Itl X.K a) H1 ∨ (∃ ws, SqT X.K H1 a ws) ∧ Rr (Itt X.K a) H1)) I
    ⟨R, ρ, st, S, E, (Post.bind (Rel := Dv X.K X.mg) (Rel2 := RelI X.K X.mg) hh).monoQ fun v H1 ⟨R1, st1, d, x1, S1, D1, h1⟩ => srcOf_wk S1 D1 h1⟩) fun v s1 ⟨x, H1, I1, r1, a, ex, q⟩ => ?_
  subst ex
  cases r1
  rcases q with ⟨⟨ws, hq⟩, q⟩ | ⟨⟨ws, hq⟩, q⟩
  · obtain ⟨its, rv, pl, hz⟩ := I1.list hq
    refine wpAny_pyIter_list pl.isList ⟨s1.heap.objs.size, [s1.heap.objs.size], _, _, H1, rfl, ?_, turn_list a _, ?_, fun b hb => ?_, q⟩
    · exact I1.kept (t' := s1.toks) fun b o z => Heap.get?_push_of_some _ z
    · exact ⟨_, Heap.get?_push_size _ rfl, rfl, rfl⟩
    · obtain rfl : b = s1.heap.objs.size := List.mem_singleton.mp hb
      exact I1.fpOk (Nat.le_refl _) (I1.hok.fresh (Nat.le_refl _))
  · obtain ⟨its, rv, pt, hz⟩ := I1.tuple hq
    refine wpAny_pyIter_tuple (show s1.heap.IsTuple a its.toArray from pt) ⟨s1.heap.objs.size, [s1.heap.objs.size], _, _, H1, rfl, ?_, turn_tuple a _, ?_, fun b hb => ?_, q⟩
    · exact I1.kept (t' := s1.toks) fun b o z => Heap.get?_push_of_some _ z
    · exact ⟨_, Heap.get?_push_size _ rfl, rfl, rfl⟩
    · obtain rfl : b = s1.heap.objs.size := List.mem_singleton.mp hb
      exact I1.fpOk (Nat.le_refl _) (I1.hok.fresh (Nat.le_refl _))
/-- lo, lo + 1, .., so many -/
def rangeD (lo : Int) (n : Nat) : Src := ⟨(List.range n).map fun k : Nat => D.dat (.int (lo + (k : Int))), fun _ => True⟩
def rng1 : List D → M Src
  | [.dat (.int j)] => if -(2 ^ 62) ≤ j ∧ j < 2 ^ 62 then M.pure (rangeD 0 j.toNat) else M.bad
  | _ => M.bad
def rng2 : List D → M Src
  | [.dat (.int i), .dat (.int j)] => if -(2 ^ 62) ≤ i ∧ i < 2 ^ 62 ∧ -(2 ^ 62) ≤ j ∧ j < 2 ^ 62 then M.pure (rangeD i (j - i).toNat) else M.bad
  | _ => M.bad
def mRng1 (m : Env → M (List D)) : Env → M Src := fun ρ => M.bind (m ρ) rng1
def mRng2 (m : Env → M (List D)) : Env → M Src := fun ρ => M.bind (m ρ) rng2
theorem wk_range {K : PySem.W.Frag} {mg : Str → Option Value} {R : Rg} {H : Hp} {st : Sto} {lo : Int} {n : Nat} : Wk K mg R st H (Itr lo n) (rangeD lo n) := by
  have hl : (rangeD lo n).items.length = n := by simp [rangeD]
  refine ⟨fun i R' H' st' hi E S o => ?_, fun R' H' st' E S o => ?_, fun i R' H' st' x H2 hi E S o y => ?_⟩
  · rw [hl] at hi; exact hi
  · rw [hl]; exact Nat.le_refl _
  · obtain ⟨rfl, rfl⟩ := y
    rw [hl] at hi
    exact ⟨.refl, S, _, by simp [rangeD, hi], Dv.int _⟩
theorem evi_range1 (hg : Gl X "range") (hm : X.mg "range" = none) (ha : EVA X W [e] ms) (hs : starEach [e] X.env = [(false, eval e X.env)] := by rfl) : EVI X W tg (.Call (.Name "range" p) [e] [] pos) (mRng1 ms) := by
  refine ⟨PI.imp (pi_range1 hg hm ha.pa hs) fun σ H Q h => ?_⟩
  obtain ⟨R, ρ, st, S, E, h⟩ := h
  refine ⟨R, ρ, st, S, E, (Post.bind (Rel := DvA X.K X.mg) (Rel2 := RelI X.K X.mg) h).monoQ fun vs H1 ⟨R1, st1, ds, x1, S1, D1, h1⟩ => ?_⟩
  unfold rng1 at h1
  split at h1
  · cases D1 with
    | cons a b =>
      cases b
      cases a
      split at h1
      · rename_i hc
        exact ⟨_, rfl, hc.1, hc.2, h1.okR S1 wk_range⟩
      · exact h1.elim
  · exact h1.elim
theorem evi_range2 {e2 : Expr} (hg : Gl X "range") (hm : X.mg "range" = none) (ha : EVA X W [e, e2] ms) (hs : starEach [e, e2] X.env = [(false, eval e X.env), (false, eval e2 X.env)] := by rfl) (hs2 : starEach [e2] X.env = [(false, eval e2 X.env)] := by rfl) :
    EVI X W tg (.Call (.Name "range" p) [e, e2] [] pos) (mRng2 ms) := by
  refine ⟨PI.imp (pi_range2 hg hm ha.pa hs hs2) fun σ H Q h => ?_⟩
  obtain ⟨R, ρ, st, S, E, h⟩ := h
  refine ⟨R, ρ, st, S, E, (Post.bind (Rel := DvA X.K X.mg) (Rel2 := RelI X.K X.mg) h).monoQ fun vs H1 ⟨R1, st1, ds, x1, S1, D1, h1⟩ => ?_⟩
  unfold rng2 at h1
  split at h1
  · cases D1 with
    | cons a b =>
      cases b with
      | cons b c =>
        cases c
        cases a
        cases b
        split at h1
        · rename_i hc
          exact ⟨_, _, rfl, hc, h1.okR S1 wk_range⟩
        · exact h1.elim
  · exact h1.elim

/-! ### for -/
noncomputable def loopS (ok : Sto → Prop) (t : Tg) (body : SM) : List D → SM
  | [], ρ, st => if ok st then .nx ρ st else .bad
  | d :: ds, ρ, st => if ok st then match t d ρ with
      | some ρ1 => match body ρ1 st with
        | .nx ρ2 st2 => loopS ok t body ds ρ2 st2
        | .ct ρ2 st2 => loopS ok t body ds ρ2 st2
        | .bk ρ2 st2 => .nx ρ2 st2
        | r => r
      | none => .bad
    else .bad
noncomputable def sFor (src : Env → M Src) (t : Tg) (body : SM) : SM := sBind src fun s => loopS s.ok t body s.items
theorem loopS_ok {ok : Sto → Prop} {t : Tg} {body : SM} {ds : List D} {ρ : Env} {st : Sto} (h : loopS ok t body ds ρ st ≠ .bad) : ok st := by
  by_cases z : ok st
  · exact z
  · cases ds with
    | nil => exact absurd (by simp [loopS, z]) h
    | cons d ds => exact absurd (by simp [loopS, z]) h
theorem PostS.nb {K : PySem.W.Frag} {mg : Str → Option Value} {R : Rg} {H : Hp} {st : Sto} {r : SRes} {D : Ends} (h : PostS K mg R H st r D W) : r ≠ .bad := fun e => by rw [e] at h; exact h
theorem evs_for {iter : Expr} {body : List Stmt} {g : TG} {t : Tg} {sl : List Nat} {src : Env → M Src} {mb : SM} (hp : PassesOwn (model X.prog X.w) X.A X.env X.xe) (hc : X.calm = true) (hi : EVI X W tg iter src) (hg : EVG X tg g t sl) (hb : EVSs X W body mb)
    (hs : ∀ x, foldedSetIterable iter X.env x = pure x := by intro _; rfl) : EVS X W (.For tg iter body [] pos) (sFor src t mb) := by
  refine ⟨PS.imp (ps_for hp hc hi.pi hg.pg hb.ps hs) fun Dn σ H h => ?_⟩
  obtain ⟨R, ρ, st, S, E, h⟩ := h
  refine ⟨R, ρ, st, S, E, ?_⟩
  have hb' := PostS.bind (Rel := fun R' st' H' (J : It) (s : Src) => RelI X.K X.mg R' st' H' J s) E h
  refine hb'.monoQ fun J H1 ⟨R1, st1, s, S1, E1, wk, h1⟩ => ?_
  -- the turns: the loop that is left tells what is wanted
  refine ⟨fun i m σ' H' => m = s.items.length - i ∧ i ≤ s.items.length ∧ ∃ R' ρ' st', Ext R1 H1 st1 R' H' st' ∧ Sim X.K R' H' st' ∧ EnvR X.K X.mg R' st' H' σ' ρ' ∧ PostS X.K X.mg R' H' st' (loopS s.ok t mb (s.items.drop i) ρ' st') Dn W,
    ⟨s.items.length, by simp, Nat.zero_le _, R1, _, st1, .refl, S1, E1, h1⟩, ?_⟩
  rintro i m σ' H' ⟨rfl, hi, R', ρ', st', x', S', E', h'⟩
  have okk := loopS_ok h'.nb
  by_cases hlt : i < s.items.length
  · refine .inr ⟨wk.go i R' H' st' hlt x'.lat S' okk, fun σ'' H'' => ∃ R'' ρ'' st'', Ext R1 H1 st1 R'' H'' st'' ∧ Sim X.K R'' H'' st'' ∧ EnvR X.K X.mg R'' st'' H'' σ'' ρ'' ∧ PostS X.K X.mg R'' H'' st'' (loopS s.ok t mb (s.items.drop (i + 1)) ρ'' st'') Dn W,
      fun σ'' H'' ⟨R'', ρ'', st'', a1, a2, a3, a4⟩ => ⟨s.items.length - (i + 1), by omega, rfl, hlt, R'', ρ'', st'', a1, a2, a3, a4⟩, fun x H2 y => ?_⟩
    obtain ⟨x2, S2, d, ed, D2⟩ := wk.yld i R' H' st' x H2 hlt x'.lat S' okk y
    have dr : s.items.drop i = d :: s.items.drop (i + 1) := by
      rw [List.drop_eq_getElem_cons hlt]
      congr 1
      rw [List.getElem?_eq_getElem hlt] at ed
      exact Option.some.inj ed
    rw [dr] at h'
    unfold loopS at h'
    rw [if_pos okk] at h'
    cases z : t d ρ' with
    | none => rw [z] at h'; exact h'.elim
    | some ρ1 =>
      rw [z] at h'
      dsimp only at h'
      refine hg.ok R' st' H2 σ' x d ρ' ρ1 _ (E'.ext x2) D2 z fun σ1 E1' _ => ?_
      refine ⟨R', ρ1, st', S2, E1', ?_⟩
      have h2 := PostS.shift S2 x2 h'
      have xx := x'.trans S' x2
      cases zb : mb ρ1 st' with
      | nx ρ2 st2 =>
        rw [zb] at h2
        exact fun σ3 R3 H3 e3 s3 q3 => ⟨R3, ρ2, st2, xx.trans S2 e3, s3, q3, PostS.shift s3 e3 h2⟩
      | ct ρ2 st2 =>
        rw [zb] at h2
        exact fun σ3 R3 H3 e3 s3 q3 => ⟨R3, ρ2, st2, xx.trans S2 e3, s3, q3, PostS.shift s3 e3 h2⟩
      | bk ρ2 st2 => rw [zb] at h2; exact h2
      | rt d2 st2 => rw [zb] at h2; exact h2
      | exc x2 ρ2 st2 => rw [zb] at h2; exact h2
      | bad => rw [zb] at h2; exact h2
  · have e : i = s.items.length := by omega
    subst e
    refine .inl ⟨wk.stop R' H' st' x'.lat S' okk, ?_⟩
    rw [List.drop_length] at h'
    unfold loopS at h'
    rw [if_pos okk] at h'
    exact h' σ' R' H' .refl S' E'
end
end Ev
set_option Elab.async false
set_option linter.all false
set_option maxRecDepth 100000
set_option maxHeartbeats 4000000
/-! Ev7: comprehensions; methods of lists; x op= e. -/
namespace Ev
open PySem PySem.Spec PyProof.Rows L2
open Classical

/-! ### a comprehension's own list: private while it runs -/
def Rg.hide (R : Rg) (p : Addr) : Rg := ⟨R.r, p :: R.p⟩
def Rg.back (R0 R : Rg) : Rg := ⟨R.r, R0.p⟩
section
variable {K : PySem.W.Frag} {mg : Str → Option Value} {R R' : Rg} {H H' : Hp} {st st' : Sto} {p : Addr} {vs : List V} {xs : List PyData} {o o' : HO}
theorem own_hide {a : Addr} : Own (R.hide p) st a ↔ Own R st a ∨ a = p := by
  unfold Own Rg.hide
  dsimp only
  rw [List.mem_cons]
  constructor
  · rintro (h | h | h)
    · exact .inl (.inl h)
    · exact .inr h
    · exact .inl (.inr h)
  · rintro ((h | h) | h)
    · exact .inl h
    · exact .inr (.inr h)
    · exact .inr (.inl h)
theorem sim_hide (S : Sim K R H st) (hp : H p = none) : Sim K (R.hide p) (upd H p o) st := by
  have S' := S.new (o := o) hp
  refine ⟨S.len, S.nd, fun a ha z => ?_, fun a ha => ?_, fun n a xs h1 h2 => ?_⟩
  · rcases List.mem_cons.mp z with z | z
    · exact S.fresh hp (z ▸ ha)
    · exact S.nr a ha z
  · rcases ha with h | h
    · exact S'.trk a (.inl h)
    · rcases List.mem_cons.mp h with h | h
      · rw [h, upd_same]; simp
      · exact S'.trk a (.inr h)
  · obtain ⟨ws, e1, e2⟩ := S.at_ n a xs h1 h2
    refine ⟨ws, by rw [upd_ne (ne_of_none e1 hp)]; exact e1, e2.stays ⟨fun b u e _ => by rw [upd_ne (ne_of_none e hp)]; exact e, fun b z => ?_⟩⟩
    rcases own_hide.mp z with z | z
    · exact .inl z
    · exact .inr (z ▸ hp)
/-- the private list changes: nothing else hangs on it -/
theorem sim_prv (S : Sim K R H st) (hp : p ∈ R.p) : Sim K R (upd H p o) st := by
  have st0 : Stays (Own R st) (Own R st) H (upd H p o) := ⟨fun b u e n => by rw [upd_ne (show b ≠ p from fun z => n (.inr (z ▸ hp)))]; exact e, fun b z => .inl z⟩
  refine ⟨S.len, S.nd, S.nr, fun a ha => ?_, fun n a xs h1 h2 => ?_⟩
  · by_cases e : a = p
    · rw [e, upd_same]; simp
    · rw [upd_ne e]; exact S.trk a ha
  · obtain ⟨ws, e1, e2⟩ := S.at_ n a xs h1 h2
    have ne : a ≠ p := fun z => S.nr a (List.mem_of_getElem? h1) (z ▸ hp)
    exact ⟨ws, by rw [upd_ne ne]; exact e1, e2.stays st0⟩
theorem ext_prv (hp : p ∈ R.p) (e : Ext R (upd H p o) st R' H' st') : Ext R (upd H p o') st R' (upd H' p o') st' := by
  obtain ⟨⟨S, e1, e2⟩, e3, e4, e5⟩ := e
  refine ⟨⟨S, e1, fun a ha => ?_⟩, e3, fun a ha u z => ?_, ⟨fun a u z n => ?_, fun a z => ?_⟩⟩
  · have q := e2 a ha
    by_cases h : a = p
    · rw [h, upd_same] at q; cases q
    · rw [upd_ne h] at q ⊢; exact q
  · by_cases h : a = p
    · rw [h, upd_same] at z ⊢; exact z
    · rw [upd_ne h] at z ⊢
      exact e4 a ha u (by rw [upd_ne h]; exact z)
  · have h : a ≠ p := fun y => n (.inr (y ▸ hp))
    rw [upd_ne h] at z ⊢
    exact e5.keep a u (by rw [upd_ne h]; exact z) n
  · rcases e5.own a z with q | q
    · exact .inl q
    · right
      by_cases h : a = p
      · rw [h, upd_same] at q; cases q
      · rw [upd_ne h] at q ⊢; exact q
theorem ext_back (hp : H p = none) (e : Ext (R.hide p) (upd H p o) st R' H' st') : Ext R H st (R.back R') H' st' := by
  obtain ⟨⟨S, e1, e2⟩, e3, e4, e5⟩ := e
  have low : ∀ a u, H a = some u → upd H p o a = some u := fun a u z => by rw [upd_ne (ne_of_none z hp)]; exact z
  have non : ∀ a, upd H p o a = none → H a = none := fun a q => by
    by_cases h : a = p
    · rw [h, upd_same] at q; cases q
    · rw [upd_ne h] at q; exact q
  refine ⟨⟨S, e1, fun a ha => non a (e2 a ha)⟩, rfl, fun a ha u z => e4 a (List.mem_cons_of_mem _ ha) u (low a u z), ⟨fun a u z n => ?_, fun a z => ?_⟩⟩
  · refine e5.keep a u (low a u z) fun y => ?_
    rcases own_hide.mp y with y | y
    · exact n y
    · rw [y, hp] at z; cases z
  · have z' : Own R' st' a := by
      rcases z with z | z
      · exact .inl z
      · exact .inr (by rw [e3]; exact List.mem_cons_of_mem _ z)
    rcases e5.own a z' with q | q
    · rcases own_hide.mp q with q | q
      · exact .inl q
      · exact .inr (q ▸ hp)
    · exact .inr (non a q)
theorem sim_back (e3 : R'.p = p :: R.p) (S : Sim K R' H' st') : Sim K (R.back R') H' st' := by
  refine ⟨S.len, S.nd, fun a ha z => S.nr a ha (by rw [e3]; exact List.mem_cons_of_mem _ z), fun a ha => S.trk a ?_, fun n a xs h1 h2 => ?_⟩
  · rcases ha with h | h
    · exact .inl h
    · exact .inr (by rw [e3]; exact List.mem_cons_of_mem _ h)
  · obtain ⟨ws, e1, e2⟩ := S.at_ n a xs h1 h2
    refine ⟨ws, e1, e2.stays (Stays.weak fun b z => ?_)⟩
    rcases z with z | z
    · exact .inl z
    · exact .inr (by rw [e3]; exact List.mem_cons_of_mem _ z)
end
/-- the slots of the block's own names forgotten -/
def wipeE (ρ : Env) : List Nat → Env
  | [] => ρ
  | v :: vs => (wipeE ρ vs).set v none
theorem EnvR.wipe {K : PySem.W.Frag} {mg : Str → Option Value} {R : Rg} {H : Hp} {st : Sto} {σ : L2.St} {ρ : Env} (E : EnvR K mg R st H σ ρ) : ∀ vs : List Nat, EnvR K mg R st H (L2.wipe σ vs) (wipeE ρ vs)
  | [] => E
  | v :: vs => (EnvR.wipe E vs).unset v
/-- the turns: acc is what is made so far -/
noncomputable def loopC (ok : Sto → Prop) (t : Tg) (test : Env → M Bool) (elt : Env → M D) (ρ : Env) : List D → List PyData → Sto → Res D
  | [], acc, st => if ok st then .ok (.dat (.list acc)) st else .bad
  | d :: ds, acc, st => if ok st ∧ acc.length ≤ 100000 then match t d ρ with
      | some ρ1 => match test ρ1 st with
        | .ok true st1 => match elt ρ1 st1 with
          | .ok (.dat y) st2 => loopC ok t test elt ρ ds (acc ++ [y]) st2
          | _ => .bad
        | .ok false st1 => loopC ok t test elt ρ ds acc st1
        | _ => .bad
      | none => .bad
    else .bad
noncomputable def mLc (src : Env → M Src) (own : List Nat) (t : Tg) (test : Env → M Bool) (elt : Env → M D) : Env → M D := fun ρ => M.bind (src ρ) fun s => fun st => loopC s.ok t test elt (wipeE ρ own) s.items [] st
def mYes : Env → M Bool := fun _ => M.pure true
def W0 : WX := fun _ _ _ _ => False
structure EVTs (X : Cx) (W : WX) (es : List Expr) (m : Env → M Bool) : Prop where
  pts : PTs X es (tMB X.K X.mg W m)
theorem evts_nil {X : Cx} {W : WX} : EVTs X W [] mYes := by
  refine ⟨⟨fun pins s σ H Q I h => ?_⟩⟩
  obtain ⟨R, ρ, st, S, E, h⟩ := h
  exact pts_nil.run pins s σ H Q I (h.okR S rfl)
theorem evts_one {X : Cx} {W : WX} {c : Expr} {m : Env → M Bool} (h : EVT X W c m) : EVTs X W [c] m := ⟨pts_one h.pt⟩
theorem loopC_ok {ok : Sto → Prop} {t : Tg} {test : Env → M Bool} {elt : Env → M D} {ρ : Env} {ds : List D} {acc : List PyData} {st : Sto} (h : loopC ok t test elt ρ ds acc st ≠ .bad) : ok st := by
  by_cases z : ok st
  · exact z
  · cases ds with
    | nil => exact absurd (by simp [loopC, z]) h
    | cons d ds => exact absurd (by simp [loopC, z]) h
theorem Post.nb {K : PySem.W.Frag} {mg : Str → Option Value} {α β : Type} {Rel : RelT α β} {R : Rg} {H : Hp} {st : Sto} {r : Res α} {Q : β → Hp → Prop} {W : XK} (h : Post K mg Rel R H st r Q W) : r ≠ .bad := fun e => by rw [e] at h; exact h
section
variable {X : Cx} {W : WX} {elt tg iter : Expr} {ifs : List Expr} {scope : Scope} {own : List (Str × Nat)} {pos : Pos} {src : Env → M Src} {g : TG} {t : Tg} {sl : List Nat} {mt : Env → M Bool} {me : Env → M D}
theorem tLc_of (hg : ∀ (R : Rg) (st : Sto) (H : Hp) (σ : L2.St) (v : V) (d : D) (ρ ρ' : Env) (Q : L2.St → Hp → Prop), EnvR X.K X.mg R st H σ ρ → Dv X.K X.mg R st H v d → t d ρ = some ρ' →
      (∀ σ', EnvR X.K X.mg R st H σ' ρ' → (∀ vs, (∀ i ∈ sl, i ∈ vs) → wipe σ' vs = wipe σ vs) → Q σ' H) → g v σ H Q) (hsl : ∀ i ∈ sl, i ∈ own.map (·.2)) {σ : L2.St} {H : Hp} {Q : VK}
    (h : tM X.K X.mg W (mLc src (own.map (·.2)) t mt me) σ H Q) :
    tLc (tMI X.K X.mg W src) g (tMB X.K X.mg W0 mt) (tM X.K X.mg W0 me) (own.map (·.2)) σ H Q := by
  obtain ⟨R, ρ, st, S, E, h⟩ := h
  refine ⟨R, ρ, st, S, E, ?_⟩
  have hb := Post.bind (Rel := RelI X.K X.mg) (Rel2 := Dv X.K X.mg) h
  refine hb.monoQ fun J H1 ⟨R1, st1, s, x1, S1, wk, h1⟩ => fun D hD => ?_
  have E1 := E.ext x1
  -- Pv: the turns left tell what is wanted
  let Pv : Nat → Hp → Prop := fun i H' => ∃ R' st' acc vs, Ext (R1.hide D) (upd H1 D (.lst vs)) st1 R' H' st' ∧ Sim X.K R' H' st' ∧ H' D = some (.lst vs) ∧ PdA X.K (Own R' st') H' vs acc ∧
    Post X.K X.mg (Dv X.K X.mg) R1 H1 st1 (loopC s.ok t mt me (wipeE ρ (own.map (·.2))) (s.items.drop i) acc st') Q (fun c d H' => W c d σ H')
  refine ⟨fun i m H' => m = s.items.length - i ∧ i ≤ s.items.length ∧ Pv i H', ⟨s.items.length, by simp, Nat.zero_le _, R1.hide D, st1, [], [], .refl, sim_hide S1 hD, upd_same, .nil, h1⟩, ?_⟩
  rintro i m H' ⟨rfl, hi, R', st', acc, vs, xe, S', eD, pa, h'⟩
  have okk := loopC_ok h'.nb
  have eb := ext_back hD xe
  have e3 : R'.p = D :: R1.p := xe.pe
  have Sb : Sim X.K (R1.back R') H' st' := sim_back e3 S'
  have latR : Lat R1 H1 st1 R' H' st' := by
    refine ⟨fun n a h => eb.at_ h, ⟨fun a u z n => eb.stays.keep a u z n, fun a z => ?_⟩⟩
    by_cases h : a = D
    · exact .inr (h ▸ hD)
    · refine eb.stays.own a ?_
      rcases z with z | z
      · exact .inl z
      · rw [e3] at z
        rcases List.mem_cons.mp z with z | z
        · exact absurd z h
        · exact .inr z
  have hDp : D ∈ R'.p := by rw [e3]; exact List.mem_cons_self
  by_cases hlt : i < s.items.length
  · refine .inr ⟨wk.go i R' H' st' hlt latR S' okk, Pv (i + 1), fun H'' z => ⟨s.items.length - (i + 1), by omega, rfl, hlt, z⟩, fun x H2 y => ?_⟩
    obtain ⟨d0, ed0, dr⟩ : ∃ d, s.items[i]? = some d ∧ s.items.drop i = d :: s.items.drop (i + 1) := ⟨s.items[i], by simp [hlt], List.drop_eq_getElem_cons hlt⟩
    obtain ⟨x2, S2, d, ed, D2⟩ := wk.yld i R' H' st' x H2 hlt latR S' okk y
    rw [ed0] at ed
    obtain rfl : d0 = d := Option.some.inj ed
    rw [dr] at h'
    unfold loopC at h'
    have lena : acc.length ≤ 100000 := by
      by_cases q : acc.length ≤ 100000
      · exact q
      · rw [if_neg (fun z => q z.2)] at h'; exact h'.elim
    rw [if_pos ⟨okk, lena⟩] at h'
    have E0 : EnvR X.K X.mg R' st' H' (wipe σ (own.map (·.2))) (wipeE ρ (own.map (·.2))) := by
      refine EnvR.wipe ⟨E1.len, fun j e q => ?_⟩ _
      obtain ⟨v, q1, q2⟩ := E1.at_ j e q
      refine ⟨v, q1, ?_⟩
      cases e with
      | dat e => exact Pd.stays latR.stays q2
      | loc n => obtain ⟨a, h1, h2⟩ := q2; exact ⟨a, latR.at_ n a h1, h2⟩
      | glob x => exact q2
      | fz ds => obtain ⟨a, xs, h1, h2, h3⟩ := q2; exact ⟨a, xs, h1, h2.stays latR.stays, h3.stays latR.stays⟩
      | ty t => exact q2
      | raw t => exact q2
      | err u cls d x => exact ⟨q2.1, q2.2.stays latR.stays⟩
    cases z : t d0 (wipeE ρ (own.map (·.2))) with
    | none => rw [z] at h'; exact h'.elim
    | some ρ1 =>
      rw [z] at h'
      dsimp only at h'
      refine hg R' st' H2 _ x d0 _ ρ1 _ (E0.ext x2) D2 z fun σ1 E1' w1 => ⟨?_, ?_⟩
      · have a1 := w1 (own.map (·.2)) hsl
        rw [a1]
        have ww : ∀ (vs ws : List Nat), (∀ i ∈ vs, i ∈ ws) → wipe (wipe σ ws) vs = wipe σ ws := fun vs => by
          induction vs with
          | nil => intro _ _; rfl
          | cons v vs ih =>
            intro ws hw
            show (wipe (wipe σ ws) vs).set v none = wipe σ ws
            rw [ih ws fun i hi => hw i (List.mem_cons_of_mem _ hi)]
            have hv := hw v List.mem_cons_self
            refine List.ext_getElem? fun j => ?_
            by_cases hj : v = j
            · subst hj
              by_cases hl : v < (wipe σ ws).length
              · rw [List.getElem?_set_self hl]
                cases q : (wipe σ ws)[v]? with
                | none => rw [List.getElem?_eq_none_iff] at q; omega
                | some u =>
                  cases u with
                  | none => rfl
                  | some u => exact absurd hv (wipe_some q).2
              · rw [List.getElem?_eq_none (by simpa using hl), List.getElem?_eq_none (by simpa using hl)]
            · rw [List.getElem?_set_ne hj]
        exact ww _ _ fun _ h => h
      · have eD2 : H2 D = some (.lst vs) := x2.prv D hDp _ eD
        have pa2 : PdA X.K (Own R' st') H2 vs acc := pa.stays x2.stays
        have xe2 := xe.trans S' x2
        refine ⟨R', ρ1, st', S2, E1', ?_⟩
        cases zt : mt ρ1 st' with
        | bad => rw [zt] at h'; exact h'
        | exc _ _ => rw [zt] at h'; exact h'.elim
        | ok b st2 =>
          rw [zt] at h'
          intro b' R3 H3 x3 S3 eb3
          obtain rfl : b' = b := eb3
          have eD3 : H3 D = some (.lst vs) := x3.prv D hDp _ eD2
          have pa3 : PdA X.K (Own R3 st2) H3 vs acc := pa2.stays x3.stays
          have xe3 := xe2.trans S2 x3
          cases b' with
          | false =>
            rw [if_neg Bool.false_ne_true]
            exact ⟨R3, st2, acc, vs, xe3, S3, eD3, pa3, h'⟩
          | true =>
            rw [if_pos rfl]
            refine ⟨R3, ρ1, st2, S3, E1'.ext x3, ?_⟩
            dsimp only at h'
            cases zm : me ρ1 st2 with
            | bad => rw [zm] at h'; exact h'
            | exc _ _ => rw [zm] at h'; exact h'.elim
            | ok y3 st3 =>
              rw [zm] at h'
              cases y3 with
              | dat yd =>
                intro yv R4 H4 x4 S4 D4
                have e4 : R4.p = D :: R1.p := by rw [x4.pe, x3.pe, e3]
                have hD4 : D ∈ R4.p := by rw [e4]; exact List.mem_cons_self
                have hD3 : D ∈ R3.p := by rw [x3.pe]; exact hDp
                have eD4 : H4 D = some (.lst vs) := x4.prv D hD3 _ eD3
                have pa4 : PdA X.K (Own R4 st3) H4 (vs ++ [yv]) (acc ++ [yd]) := (pa3.stays x4.stays).snoc D4
                have xe4 := xe3.trans S3 x4
                refine ⟨vs, eD4, by rw [pa.len, sizeLine_eq]; omega, R4, st3, acc ++ [yd], vs ++ [yv], ?_, sim_prv S4 hD4, upd_same, ?_, h'⟩
                · have q := ext_prv (o' := .lst (vs ++ [yv])) (show D ∈ (R1.hide D).p from List.mem_cons_self) xe4
                  exact q
                · exact pa4.stays ⟨fun b u e n => by rw [upd_ne (show b ≠ D from fun z => n (.inr (z ▸ hD4)))]; exact e, fun b z => .inl z⟩
              | loc _ => exact h'.elim
              | glob _ => exact h'.elim
              | fz _ => exact h'.elim
              | ty _ => exact h'.elim
              | raw _ => exact h'.elim
              | err _ _ _ _ => exact h'.elim
  · have e : i = s.items.length := by omega
    subst e
    refine .inl ⟨wk.stop R' H' st' latR S' okk, ?_⟩
    rw [List.drop_length] at h'
    unfold loopC at h'
    rw [if_pos okk] at h'
    refine h' _ _ H' eb Sb ?_
    refine Pd.lst eD (fun z => ?_) (pa.stays (Stays.weak fun b z => ?_))
    · rcases z with ⟨n, ys, z1, _⟩ | z
      · exact S'.nr D (List.mem_of_getElem? z1) hDp
      · exact S1.freshP hD z
    · rcases z with z | z
      · exact .inl z
      · exact .inr (by rw [e3]; exact List.mem_cons_of_mem _ z)
theorem ev_lc (hc : X.calm = true) (hN : X.N.Nodup) (hi : EVI X W tg iter src) (ok : BlkOk X.N X.env.scope scope own)
    (hg : ∀ (s : Shared) (H : Hp) (C : Addr) (cl : List (Str × Addr)) (fp : List Addr), EVG (X.blk s H scope (compEnvC scope cl C X.env) fp) tg g t sl) (hsl : ∀ i ∈ sl, i ∈ own.map (·.2))
    (ht : ∀ (s : Shared) (H : Hp) (C : Addr) (cl : List (Str × Addr)) (fp : List Addr), EVTs (X.blk s H scope (compEnvC scope cl C X.env) fp) W0 ifs mt)
    (he : ∀ (s : Shared) (H : Hp) (C : Addr) (cl : List (Str × Addr)) (fp : List Addr), EV (X.blk s H scope (compEnvC scope cl C X.env) fp) W0 elt me) (hs : ∀ x, foldedSetIterable iter X.env x = pure x := by intro _; rfl) :
    EV X W (.ListComp elt [⟨tg, iter, ifs, 0⟩] scope pos) (mLc src (own.map (·.2)) t mt me) :=
  ⟨⟨fun pins s σ H Q I h => (pe_lc hc hN hi.pi ok (fun s H C cl fp => (hg s H C cl fp).pg) (fun s H C cl fp => (ht s H C cl fp).pts) (fun s H C cl fp => (he s H C cl fp).pe) hs).run pins s σ H Q I
    (tLc_of (hg s H 0 [] []).ok hsl h)⟩⟩
theorem evs_setLc {i : Nat} {y : Str} {py spos : Pos} (hc : X.calm = true) (hN : X.N.Nodup) (hy : X.N[i]? = some y) (hyl : X.env.scope.names.lookup y = some .local)
    (hsw : swapsWith (.ListComp elt [⟨tg, iter, ifs, 0⟩] scope pos) (some (.Name y py)) spos.line X.env = pure true) (hi : EVI X W tg iter src) (ok : BlkOk X.N X.env.scope scope own)
    (hg : ∀ (s : Shared) (H : Hp) (C : Addr) (cl : List (Str × Addr)) (fp : List Addr), EVG (X.blk s H scope (compEnvC scope cl C X.env) fp) tg g t sl) (hsl : ∀ i ∈ sl, i ∈ own.map (·.2))
    (ht : ∀ (s : Shared) (H : Hp) (C : Addr) (cl : List (Str × Addr)) (fp : List Addr), EVTs (X.blk s H scope (compEnvC scope cl C X.env) fp) W0 ifs mt)
    (he : ∀ (s : Shared) (H : Hp) (C : Addr) (cl : List (Str × Addr)) (fp : List Addr), EV (X.blk s H scope (compEnvC scope cl C X.env) fp) W0 elt me) (hs : ∀ x, foldedSetIterable iter X.env x = pure x := by intro _; rfl) :
    EVS X W (.Assign [.Name y py] (.ListComp elt [⟨tg, iter, ifs, 0⟩] scope pos) spos) (sSet i (mLc src (own.map (·.2)) t mt me)) :=
  ⟨⟨fun pins s σ H Dn I h => (ps_setLc hc hN hy hyl hsw hi.pi ok (fun s H C cl fp => (hg s H C cl fp).pg) (fun s H C cl fp => (ht s H C cl fp).pts) (fun s H C cl fp => (he s H C cl fp).pe) hs).run pins s σ H Dn I
    (tLc_of (W := W) (Q := fun x H1 => gName i x σ H1 Dn.nx) (hg s H 0 [] []).ok hsl (tAsg_of h))⟩⟩
end
end Ev
set_option Elab.async false
set_option linter.all false
set_option maxRecDepth 100000
set_option maxHeartbeats 4000000
/-! Ev8: methods of lists, x op= e, defs and their calls. -/
namespace Ev
open PySem PySem.Spec PyProof.Rows L2
open Classical

/-! ### methods of a list of the store -/
def MtOk (K : PySem.W.Frag) (mg : Str → Option Value) (T : String) (r : V → List V → Hp → VK → Prop) (f : D → List D → M D) : Prop :=
  (∀ (R : Rg) (H : Hp) (st : Sto) (v : V) (d : D) (ds : List D), Sim K R H st → Dv K mg R st H v d → f d ds st ≠ .bad → tyV K T v H) ∧
  ∀ (R : Rg) (H : Hp) (st : Sto) (v : V) (vs : List V) (d : D) (ds : List D) (Q : VK) (W : XK), Sim K R H st → Dv K mg R st H v d → DvA K mg R st H vs ds → Post K mg (Dv K mg) R H st (f d ds st) Q W → r v vs H Q
/-- the receiver must be there ahead of the arguments: a list of the store -/
def isLoc (d : D) : M D := fun st =>
  match d with
  | .loc n => match st[n]? with
    | some (.lst _) => .ok d st
    | _ => .bad
  | _ => .bad
def mMt (f : D → List D → M D) (mo : Env → M D) (ms : Env → M (List D)) : Env → M D := fun ρ => M.bind (mo ρ) fun o => M.bind (isLoc o) fun o => M.bind (ms ρ) fun ds => f o ds
def dAppend (o : D) (ds : List D) : M D := match ds with
  | [.dat y] => onLoc (fun xs => if xs.length ≤ 100000 then some (xs ++ [y], .none) else none) o
  | _ => M.bad
def dExtend (o : D) (ds : List D) : M D := match ds with
  | [d] => fun st => match dataOf d st with
    | some (.list ys) => onLoc (fun xs => if xs.length + ys.length ≤ 100000 then some (xs ++ ys, .none) else none) o st
    | _ => .bad
  | _ => M.bad
def dPopAt (o : D) (ds : List D) : M D := match ds with
  | [.dat (.int i)] => onLoc (fun xs => if xs.length ≤ 100000 then (match ixN xs.length i with
    | some k => (match xs[k]? with
      | some y => some (xs.eraseIdx k, y)
      | none => none)
    | none => none) else none) o
  | _ => M.bad
theorem PdA.erase {K : PySem.W.Frag} {U : Addr → Prop} {H : Hp} : ∀ {ds : List PyData} {vs : List V} (i : Nat), PdA K U H vs ds → PdA K U H (vs.eraseIdx i) (ds.eraseIdx i)
  | _, _, _, .nil => .nil
  | _, _, 0, .cons _ q => q
  | _, _, i + 1, .cons p q => .cons p (PdA.erase i q)
section
variable {K : PySem.W.Frag} {mg : Str → Option Value} {R : Rg} {H : Hp} {st : Sto} {v : V} {d : D} {Q : VK} {W : XK}
theorem okLoc {f : List PyData → Option (List PyData × PyData)} (S : Sim K R H st) (D1 : Dv K mg R st H v d) (h : Post K mg (Dv K mg) R H st (onLoc f d st) Q W) :
    ∃ n a xs ys r vs, d = .loc n ∧ v = .ref a ∧ R.r[n]? = some a ∧ st[n]? = some (Cell.lst xs) ∧ f xs = some (ys, r) ∧ H a = some (.lst vs) ∧ PdA K (Own R st) H vs xs ∧ Post K mg (Dv K mg) R H st (.ok (.dat r) (st.set n (.lst ys))) Q W := by
  unfold onLoc at h
  cases d with
  | loc n =>
    dsimp only at h
    obtain ⟨a, ha, rfl⟩ := D1
    cases z : st[n]? with
    | none => rw [z] at h; exact h.elim
    | some c =>
      rw [z] at h
      cases c with
      | dead => exact h.elim
      | lst xs =>
        dsimp only at h
        cases z2 : f xs with
        | none => rw [z2] at h; exact h.elim
        | some p =>
          obtain ⟨ys, r⟩ := p
          rw [z2] at h
          obtain ⟨vs, e1, e2⟩ := S.at_ n a xs ha z
          exact ⟨n, a, xs, ys, r, vs, rfl, rfl, ha, z, z2, e1, e2, h⟩
  | _ => exact h.elim
theorem ok_append : ∀ (R : Rg) (H : Hp) (st : Sto) (v : V) (vs : List V) (d : D) (ds : List D) (Q : VK) (W : XK), Sim K R H st → Dv K mg R st H v d → DvA K mg R st H vs ds → Post K mg (Dv K mg) R H st (dAppend d ds st) Q W → rAppend v vs H Q := by
  intro R H st v vs d ds Q W S D1 DA h
  unfold dAppend at h
  split at h
  · cases DA with
    | cons b c =>
      cases c
      obtain ⟨n, a, xs, ys, r, ws, rfl, rfl, ha, z, e, e1, e2, h⟩ := okLoc S D1 h
      split at e
      · rename_i hl
        cases e
        obtain ⟨x2, S2⟩ := ext_set S ha z (e2.snoc b)
        exact ⟨a, ws, _, rfl, rfl, e1, by rw [e2.len, sizeLine_eq]; omega, h _ _ _ x2 S2 Pd.non⟩
      · cases e
  · exact h.elim
theorem ok_extend : ∀ (R : Rg) (H : Hp) (st : Sto) (v : V) (vs : List V) (d : D) (ds : List D) (Q : VK) (W : XK), Sim K R H st → Dv K mg R st H v d → DvA K mg R st H vs ds → Post K mg (Dv K mg) R H st (dExtend d ds st) Q W → rExtend v vs H Q := by
  intro R H st v vs d ds Q W S D1 DA h
  unfold dExtend at h
  split at h
  · cases DA with
    | cons b c =>
      cases c
      split at h
      · rename_i ys0 z0
        obtain ⟨b', us, rfl, eb, pb⟩ := b.dataL S z0
        obtain ⟨n, a, xs, ys, r, ws, rfl, rfl, ha, z, e, e1, e2, h⟩ := okLoc S D1 h
        split at e
        · rename_i hl
          cases e
          obtain ⟨x2, S2⟩ := ext_set S ha z (e2.app pb)
          exact ⟨a, b', ws, us, rfl, rfl, e1, eb, small5 (by rw [e2.len, pb.len]; exact hl), h _ _ _ x2 S2 Pd.non⟩
        · cases e
      · exact h.elim
  · exact h.elim
theorem ok_popAt : ∀ (R : Rg) (H : Hp) (st : Sto) (v : V) (vs : List V) (d : D) (ds : List D) (Q : VK) (W : XK), Sim K R H st → Dv K mg R st H v d → DvA K mg R st H vs ds → Post K mg (Dv K mg) R H st (dPopAt d ds st) Q W → rPopAt v vs H Q := by
  intro R H st v vs d ds Q W S D1 DA h
  unfold dPopAt at h
  split at h
  · cases DA with
    | cons b c =>
      cases c
      cases b
      obtain ⟨n, a, xs, ys, r, ws, rfl, rfl, ha, z, e, e1, e2, h⟩ := okLoc S D1 h
      split at e
      · rename_i hl
        split at e
        · rename_i k z1
          split at e
          · rename_i y z2
            cases e
            obtain ⟨g1, g2, g3, g4⟩ := ixN_seq z1
            obtain ⟨u, eu, pu⟩ := e2.at_ z2
            obtain ⟨x2, S2⟩ := ext_set S ha z (e2.erase k)
            exact ⟨a, ws, _, k, u, rfl, rfl, e1, by omega, by omega, by rw [e2.len]; exact g1, eu, h _ _ _ x2 S2 (pu.stays x2.stays)⟩
          · cases e
        · cases e
      · cases e
  · exact h.elim
end
section
variable {X : Cx} {W : WX} {o e : Expr} {es : List Expr} {mo : Env → M D} {ms : Env → M (List D)} {name : Str} {apos cpos : Pos} {bid : String} {r : V → List V → Hp → VK → Prop} {f : D → List D → M D}
theorem ev_mt (pa : PlainAttrs "list") (slot : Slot "list" name bid) (hty : typeOf (.builtin bid) = pure (.type "method_descriptor")) (hm : MtR X bid r)
    (hf : ∀ (R : Rg) (H : Hp) (st : Sto) (v : V) (vs : List V) (d : D) (ds : List D) (Q : VK) (W : XK), Sim X.K R H st → Dv X.K X.mg R st H v d → DvA X.K X.mg R st H vs ds → Post X.K X.mg (Dv X.K X.mg) R H st (f d ds st) Q W → r v vs H Q)
    (ho : EV X W o mo) (ha : EVA X W (e :: es) ms)
    (hbase : attributeBase o name X.env (eval o X.env) = eval o X.env := by rfl)
    (hfew : ((backTo cpos (starEach (e :: es) X.env)).all (fun x => !x.1) && (backToKw cpos (keywordEach [] X.env)).all (fun x => x.1.isSome)
      && decide ((e :: es).length + ([] : List Keyword).length + (if ([] : List Keyword).isEmpty then 0 else 1) < 30)) = true := by rfl)
    (hline : (apos.endLine == cpos.line) = true := by rfl) (hs : starEach (e :: es) X.env = (false, eval e X.env) :: starEach es X.env := by rfl) (hplain : (backTo cpos (starEach es X.env)).any (·.1) = false := by rfl) :
    EV X W (.Call (.Attribute o name apos) (e :: es) [] cpos) (mMt f mo ms) := by
  refine ⟨PE.imp (pe_bm pa slot hty hm ho.pe ha.pa hbase hfew hline hs hplain) fun σ H Q h => ?_⟩
  obtain ⟨R, ρ, st, S, E, h⟩ := h
  refine ⟨R, ρ, st, S, E, (Post.bind (Rel := Dv X.K X.mg) (Rel2 := Dv X.K X.mg) h).monoQ fun v H1 ⟨R1, st1, d, x1, S1, D1, h1⟩ => ?_⟩
  unfold M.bind at h1
  cases d with
  | loc n =>
    unfold isLoc at h1
    dsimp only at h1
    cases z : st1[n]? with
    | none => rw [z] at h1; exact h1.elim
    | some c =>
      rw [z] at h1
      cases c with
      | dead => exact h1.elim
      | lst xs =>
        dsimp only at h1
        obtain ⟨a, ha', rfl⟩ := id D1
        obtain ⟨vs, e1, e2⟩ := S1.at_ n a xs ha' z
        refine ⟨.inl ⟨rfl, vs, .inl (.inl e1)⟩, R1, ρ, st1, S1, E.ext x1, ?_⟩
        have h2 : Post X.K X.mg (Dv X.K X.mg) R1 H1 st1 (M.bind (ms ρ) (fun ds => f (.loc n) ds) st1) Q (fun c d H' => W c d σ H') := h1
        exact (Post.bind (Rel := DvA X.K X.mg) (Rel2 := Dv X.K X.mg) h2).monoQ fun ws H2 ⟨R2, st2, ds, x2, S2, D2, h3⟩ => hf R2 H2 st2 _ ws _ ds Q _ S2 (Dv.ext x2 D1) D2 h3
  | _ => exact h1.elim
/-- x op= e: the operation by its function -/
theorem evs_aug {i : Nat} {x : Str} {op : Operator} {ti : TIp} {f : D → D → M D} {pos pos' : Pos} {me : Env → M D} (hN : X.N.Nodup) (hi : X.N[i]? = some x) (hx : Loc X.env.scope x) (he : EV X W e me) (ho : PIp X op ti)
    (hf : OpOk X.K X.mg ti f) (hf' : X.fn x = true ∨ X.env.scope.names.lookup x = some .local := by first | exact .inl rfl | exact .inr rfl | assumption) :
    EVS X W (.AugAssign (.Name x pos') op e pos) (sBind (vr i) fun y => sBind me fun z => sBind (fun _ => f y z) fun w ρ st => .nx (ρ.set i (some w)) st) := by
  refine ⟨PS.imp (ps_aug hN hi hx he.pe ho hf') fun Dn σ H h => ?_⟩
  obtain ⟨R, ρ, st, S, E, h⟩ := h
  unfold sBind at h
  dsimp only at h
  unfold vr at h
  cases q : ρ[i]? with
  | none => rw [q] at h; exact h.elim
  | some y =>
    rw [q] at h
    cases y with
    | none => exact h.elim
    | some y =>
      dsimp only at h
      obtain ⟨v, h1, h2⟩ := E.at_ i y q
      have h' : PostS X.K X.mg R H st (sBind me (fun z => sBind (fun _ => f y z) fun w ρ st => .nx (ρ.set i (some w)) st) ρ st) Dn W := h
      refine ⟨v, h1, R, ρ, st, S, E, ?_⟩
      refine (PostS.bind (Rel := fun R st H (b : V) d => Dv X.K X.mg R st H v y ∧ Dv X.K X.mg R st H b d) E h') |> fun k => ?_
      revert k
      cases zz : me ρ st with
      | bad => exact fun q => q
      | exc x st' => exact fun q => q
      | ok d2 st2 =>
        intro k w R2 H2 x2 S2 D2
        obtain ⟨R2', st2', d, S2', E2, ⟨D1', D2'⟩, h3⟩ := k w R2 H2 x2 S2 ⟨h2.ext x2, D2⟩
        have h4 := PostS.bind (Rel := Dv X.K X.mg) E2 h3
        exact hf R2' H2 st2' v w y d _ _ S2' D1' D2' (h4.monoQ fun b H3 ⟨R3, st3, d3, S3, E3, D3, h5⟩ => h5 _ R3 H3 .refl S3 (E3.set i D3))
end

/-! ### defs -/
def startE (n : Nat) (ds : List D) : Env := ds.map some ++ List.replicate (n - ds.length) none
/-- what is handed back: a list of the def's own is frozen, the store is as long as before -/
def giveD (n0 : Nat) (d : D) (st : Sto) : Res D :=
  match d with
  | .loc m => if m < n0 then .ok (.loc m) (st.take n0) else match st[m]? with
    | some (.lst xs) => .ok (.dat (.list xs)) (st.take n0)
    | _ => .bad
  | d => .ok d (st.take n0)
/-- the same of a def that makes a list that is to change -/
def giveL (n0 : Nat) (d : D) (st : Sto) : Res D :=
  match d with
  | .loc m => if m < n0 then .bad else match st[m]? with
    | some (.lst xs) => .ok (.loc n0) (st.take n0 ++ [.lst xs])
    | _ => .bad
  | _ => .bad
def runBody (give : Nat → D → Sto → Res D) (n np : Nat) (body : SM) (ds : List D) : M D := fun st =>
  if ds.length = np then match body (startE n ds) st with
    | .nx _ st' => give st.length (.dat .none) st'
    | .rt d st' => give st.length d st'
    | .exc x _ st' => .exc x (st'.take st.length)
    | _ => .bad
  else .bad
abbrev runB := runBody giveD
abbrev runL := runBody giveL
def SpF (K : PySem.W.Frag) (mg : Str → Option Value) (F : List D → M D) : Sp := fun vs H Q E => ∃ R st ds, Sim K R H st ∧ DvA K mg R st H vs ds ∧ Post K mg (Dv K mg) R H st (F ds st) Q E
/-- what stands around: no guards; sys.modules lies below -/
def Gd (A : Around) (base : Heap) : Prop := A.guards = some [] ∧ ∃ o, base.get? sysModules = some o
structure FnG (P : Program) (w : World) (K : PySem.W.Frag) (mg : Str → Option Value) (base : Heap) (k : Nat) (f : Addr) (fd : FuncData) (ps : List Str) (F : List D → M D) : Prop where
  ar : ∀ ds st, ds.length ≠ ps.length → F ds st = .bad
  run : ∀ (A : Around) (outer : List PySem.Env) (s : Shared) (H : Hp) (args : Args) (us : List Value) (vs : List V) (Q : VK) (E : XK), Room k A → Gd A base → Env0 P w K mg base A outer s H → BindsTo s fd args (ps.zip us) → Vals vs us → SpF K mg F vs H Q E →
    codeAny (model P w) A (.call (.ref f) args) (CR (L2.CX P w) outer P w H s Q E) s
theorem FnG.mono {P : Program} {w : World} {K : PySem.W.Frag} {mg : Str → Option Value} {base : Heap} {j k : Nat} {f : Addr} {fd : FuncData} {ps : List Str} {F : List D → M D} (G : FnG P w K mg base j f fd ps F) (h : j ≤ k) : FnG P w K mg base k f fd ps F :=
  ⟨G.ar, fun A outer s H args us vs Q E hr => G.run A outer s H args us vs Q E (hr.mono h)⟩
section
variable {K : PySem.W.Frag} {mg : Str → Option Value} {R R' : Rg} {H H' : Hp} {st st' : Sto}
theorem own_take {a : Addr} (e : Ext R H st R' H' st') (S : Sim K R H st) (h : Own R (st'.take st.length) a) : Own R' st' a := by
  rcases h with ⟨n, xs, h1, h2⟩ | h
  · refine .inl ⟨n, xs, e.at_ h1, ?_⟩
    have hn : n < st.length := by rw [← S.len]; exact (List.getElem?_eq_some_iff.mp h1).1
    rw [List.getElem?_take_of_lt hn] at h2
    exact h2
  · exact .inr (by rw [e.pe]; exact h)
theorem len_take (e : Ext R H st R' H' st') (S : Sim K R H st) (S' : Sim K R' H' st') : (st'.take st.length).length = st.length := by
  obtain ⟨Z, e1, _⟩ := e.pre
  have h1 := S'.len
  rw [e1, List.length_append, S.len] at h1
  rw [List.length_take]
  omega
/-- behind a call: what the def made for itself is forgotten -/
theorem ext_take (e : Ext R H st R' H' st') (S : Sim K R H st) (S' : Sim K R' H' st') : Ext R H st R H' (st'.take st.length) ∧ Sim K R H' (st'.take st.length) := by
  refine ⟨⟨⟨[], by simp, fun _ h => by cases h⟩, rfl, e.prv, ⟨e.stays.keep, fun a z => e.stays.own a (own_take e S z)⟩⟩, ⟨by rw [len_take e S S', S.len], S.nd, S.nr, fun a ha => ?_, fun n a xs h1 h2 => ?_⟩⟩
  · refine S'.trk a ?_
    rcases ha with h | h
    · obtain ⟨Z, e1, _⟩ := e.pre
      exact .inl (by rw [e1]; exact List.mem_append_left _ h)
    · exact .inr (by rw [e.pe]; exact h)
  · have hn : n < st.length := by rw [← S.len]; exact (List.getElem?_eq_some_iff.mp h1).1
    rw [List.getElem?_take_of_lt hn] at h2
    obtain ⟨vs, e1, e2⟩ := S'.at_ n a xs (e.at_ h1) h2
    exact ⟨vs, e1, e2.stays (Stays.weak fun b z => own_take e S z)⟩
def GiveOk (give : Nat → D → Sto → Res D) : Prop :=
  ∀ (K : PySem.W.Frag) (mg : Str → Option Value) (R R' : Rg) (H H' : Hp) (st st' : Sto) (v : V) (d : D) (Q : VK) (W : XK), Sim K R H st → Ext R H st R' H' st' → Sim K R' H' st' → Dv K mg R' st' H' v d → Post K mg (Dv K mg) R H st (give st.length d st') Q W → Q v H'
theorem giveD_ok : GiveOk giveD := by
  intro K mg R R' H H' st st' v d Q W S e S' D1 h
  obtain ⟨x, Sx⟩ := ext_take e S S'
  unfold giveD at h
  cases d with
  | loc m =>
    dsimp only at h
    obtain ⟨a, ha, rfl⟩ := D1
    by_cases hm : m < st.length
    · rw [if_pos hm] at h
      refine h _ _ _ x Sx ⟨a, ?_, rfl⟩
      obtain ⟨Z, e1, _⟩ := e.pre
      rw [e1, List.getElem?_append_left (by rw [S.len]; exact hm)] at ha
      exact ha
    · rw [if_neg hm] at h
      cases z : st'[m]? with
      | none => rw [z] at h; exact h.elim
      | some c =>
        rw [z] at h
        cases c with
        | dead => exact h.elim
        | lst xs =>
          obtain ⟨vs, e1, e2⟩ := S'.at_ m a xs ha z
          refine h _ _ _ x Sx (Pd.lst e1 (fun o => ?_) (e2.stays (Stays.weak fun b z => own_take e S z)))
          rcases o with ⟨n, ys, h1, h2⟩ | o
          · have h1' := e.at_ h1
            obtain ⟨l1, g1⟩ := List.getElem?_eq_some_iff.mp h1'
            obtain ⟨l2, g2⟩ := List.getElem?_eq_some_iff.mp ha
            have en := (List.getElem_inj S'.nd).mp (g1.trans g2.symm)
            have hn : n < st.length := by rw [← S.len]; exact (List.getElem?_eq_some_iff.mp h1).1
            omega
          · exact S'.nr a (List.mem_of_getElem? ha) (by rw [e.pe]; exact o)
  | dat y => exact h _ _ _ x Sx (Pd.stays (Stays.weak fun b z => own_take e S z) D1)
  | glob y => exact h _ _ _ x Sx D1
  | fz ds =>
    obtain ⟨a, xs, h1, h2, h3⟩ := D1
    have st0 : Stays (Own R' st') (Own R (st'.take st.length)) H' H' := Stays.weak fun b z => own_take e S z
    exact h _ _ _ x Sx ⟨a, xs, h1, h2.stays st0, h3.stays st0⟩
  | ty t => exact h _ _ _ x Sx D1
  | raw t => exact h _ _ _ x Sx D1
  | err u cls dd y => exact h _ _ _ x Sx ⟨D1.1, D1.2.stays (Stays.weak fun b z => own_take e S z)⟩
theorem giveL_ok : GiveOk giveL := by
  intro K mg R R' H H' st st' v d Q W S e S' D1 h
  obtain ⟨x, Sx⟩ := ext_take e S S'
  unfold giveL at h
  cases d with
  | loc m =>
    dsimp only at h
    obtain ⟨a, ha, rfl⟩ := D1
    by_cases hm : m < st.length
    · rw [if_pos hm] at h; exact h.elim
    · rw [if_neg hm] at h
      cases z : st'[m]? with
      | none => rw [z] at h; exact h.elim
      | some c =>
        rw [z] at h
        cases c with
        | dead => exact h.elim
        | lst xs =>
          dsimp only at h
          obtain ⟨vs, e1, e2⟩ := S'.at_ m a xs ha z
          have lt := len_take e S S'
          have aR : a ∉ R.r := fun q => by
            obtain ⟨n, hn⟩ := List.mem_iff_getElem?.mp q
            have h1' := e.at_ hn
            obtain ⟨l1, g1⟩ := List.getElem?_eq_some_iff.mp h1'
            obtain ⟨l2, g2⟩ := List.getElem?_eq_some_iff.mp ha
            have en := (List.getElem_inj S'.nd).mp (g1.trans g2.symm)
            have hn2 : n < st.length := by rw [← S.len]; exact (List.getElem?_eq_some_iff.mp hn).1
            omega
          have aP : a ∉ R.p := fun q => S'.nr a (List.mem_of_getElem? ha) (by rw [e.pe]; exact q)
          have own : ∀ b, Own (R.put a) (st'.take st.length ++ [.lst xs]) b → Own R (st'.take st.length) b ∨ b = a := by
            rintro b (⟨n, ys, h1, h2⟩ | o)
            · unfold Rg.put at h1
              dsimp only at h1
              by_cases hn : n < R.r.length
              · rw [List.getElem?_append_left hn] at h1
                rw [List.getElem?_append_left (by rw [lt, ← S.len]; exact hn)] at h2
                exact .inl (.inl ⟨n, ys, h1, h2⟩)
              · right
                rw [List.getElem?_append_right (by omega)] at h1
                have := List.mem_of_getElem? h1
                simpa using this
            · exact .inl (.inr o)
          have own' : ∀ b, Own (R.put a) (st'.take st.length ++ [.lst xs]) b → Own R' st' b := fun b z2 => by
            rcases own b z2 with q | q
            · exact own_take e S q
            · exact .inl ⟨m, xs, by rw [q]; exact ha, z⟩
          have Ha : H a = none := by
            obtain ⟨Z, z1, z2⟩ := e.pre
            refine z2 a ?_
            have q := List.mem_of_getElem? ha
            rw [z1] at q
            rcases List.mem_append.mp q with q | q
            · exact absurd q aR
            · exact q
          refine h (.ref a) (R.put a) H' ⟨⟨[a], rfl, fun b hb => by rw [List.mem_singleton.mp hb]; exact Ha⟩, rfl, e.prv, ⟨e.stays.keep, fun b z2 => ?_⟩⟩ ⟨?_, ?_, ?_, ?_, ?_⟩ ?_
          · exact e.stays.own b (own' b z2)
          · unfold Rg.put; simp only [List.length_append, List.length_singleton]; rw [lt, S.len]
          · exact List.nodup_append.mpr ⟨S.nd, by simp, fun b hb c hc => by rw [List.mem_singleton.mp hc]; exact fun q => aR (q ▸ hb)⟩
          · intro b hb
            rcases List.mem_append.mp hb with q | q
            · exact S.nr b q
            · rw [List.mem_singleton.mp q]; exact aP
          · intro b hb
            rcases hb with q | q
            · rcases List.mem_append.mp q with q | q
              · exact Sx.trk b (.inl q)
              · rw [List.mem_singleton.mp q, e1]; simp
            · exact Sx.trk b (.inr q)
          · intro n b ys h1 h2
            have st0 : Stays (Own R' st') (Own (R.put a) (st'.take st.length ++ [.lst xs])) H' H' := Stays.weak own'
            unfold Rg.put at h1
            dsimp only at h1
            by_cases hn : n < R.r.length
            · rw [List.getElem?_append_left hn] at h1
              rw [List.getElem?_append_left (by rw [lt, ← S.len]; exact hn), List.getElem?_take_of_lt (by rw [← S.len]; exact hn)] at h2
              obtain ⟨ws, w1, w2⟩ := S'.at_ n b ys (e.at_ h1) h2
              exact ⟨ws, w1, w2.stays st0⟩
            · rw [List.getElem?_append_right (by omega)] at h1
              rw [List.getElem?_append_right (by rw [lt, ← S.len]; omega)] at h2
              have q1 : b = a := by
                have := List.mem_of_getElem? h1
                simpa using this
              have q2 : Cell.lst ys = Cell.lst xs := by
                have := List.mem_of_getElem? h2
                simpa using this
              cases q2
              exact ⟨vs, by rw [q1]; exact e1, e2.stays st0⟩
          · refine ⟨a, ?_, rfl⟩
            unfold Rg.put
            dsimp only
            rw [← S.len, List.getElem?_append_right (Nat.le_refl _), Nat.sub_self]
            rfl
  | _ => exact h.elim
end
theorem start_env {K : PySem.W.Frag} {mg : Str → Option Value} {R : Rg} {H : Hp} {st : Sto} {N : List Str} {vs : List V} {ds : List D} (DA : DvA K mg R st H vs ds) : EnvR K mg R st H (L2.start N vs) (startE N.length ds) := by
  have hl := DA.len
  refine ⟨by unfold L2.start startE; simp [hl], fun i d q => ?_⟩
  unfold startE at q
  by_cases hi : i < ds.length
  · rw [List.getElem?_append_left (by simpa using hi), List.getElem?_map] at q
    cases e : ds[i]? with
    | none => rw [e] at q; cases q
    | some x =>
      rw [e] at q
      cases q
      obtain ⟨v, h1, h2⟩ := DA.at_ e
      refine ⟨v, ?_, h2⟩
      unfold L2.start
      rw [List.getElem?_append_left (by simpa [hl] using hi), List.getElem?_map, h1]
      rfl
  · rw [List.getElem?_append_right (by simpa using hi), List.getElem?_replicate] at q
    split at q <;> cases q
/-- THE RULE for a def -/
theorem fnG_of {P : Program} {w : World} {K : PySem.W.Frag} {mg : Str → Option Value} {base : Heap} {x qual : Str} {st : Stmt} {f : Addr} {fd : FuncData} {N ps : List Str} {k : Nat} {body : SM} {give : Nat → D → Sto → Res D} (hgive : GiveOk give)
    (F : Fun K x qual st f fd) (S : FnScope N ps (defScope st))
    (hb : ∀ (cdv : Value) (A : Around) (outer : List PySem.Env) (s : Shared) (H : Hp) (E : XK), Room k (A.deeper (envOfC qual (defScope st) s.heap.objs.size f cdv)) → Gd A base →
      EVSs (cxOf (L2.CX P w) P w K mg base N qual (defScope st) f cdv A outer s H E) (fun c d _ H' => E c d H') (defBody st) body) :
    FnG P w K mg base (k + 1) f fd ps (runBody give N.length ps.length body) := by
  refine ⟨fun ds st h => by unfold runBody; rw [if_neg h], fun A outer s H args us vs Q E hr hgd e0 hbd rv hsp => ?_⟩
  obtain ⟨oc, od, kV, doc, pm, an, cdv, ct, osl, rfl, lk, hcd⟩ := F.ex
  obtain ⟨R, sto, ds, Sm, DA, hp⟩ := hsp
  have hlen : ds.length = ps.length := by
    by_cases q : ds.length = ps.length
    · exact q
    · unfold runBody at hp
      rw [if_neg q] at hp
      exact hp.elim
  have hl : vs.length = ps.length := by rw [DA.len]; exact hlen
  have KX : K.In s.heap := e0.mod.kin.keeps fun b o e => (e0.bs b o e).1
  have lim : s.heap.NoLimit := e0.mod.nolimit.keeps fun b o e => (e0.bs b o e).1
  have kinds : ∀ y ∈ ps.zip us, (defScope st).names.lookup y.1 = some .local ∨ ((defScope st).names.lookup y.1 = some .cell ∧ ((cellsFrom (s.heap.objs.size + 1) (defScope st).names []).lookup y.1).isSome = true) := by
    rintro ⟨n, v⟩ hy
    rcases S.par n (List.of_mem_zip hy).1 with q | q
    · exact .inl q
    · exact .inr ⟨q, PySem.W.cellsFrom_some _ _ _ (.inl q)⟩
  refine codeAny_call_function hr.depth (KX _ _ lk) rfl S.co S.gen rfl (PySem.W.codeRec_of KX hcd) (hbd _ _ _ _ (wpAny_newFunctionEnv_cells S.kind kinds fun env he s1 xc => ?_))
  subst he
  refine ⟨lim.keeps xc.toInCall.keep, codeAny_func ?_⟩
  have I := inv_start (CX := L2.CX P w) (E := E) S hr.hd e0 hl rv xc
  refine wpAny_mono ((hb cdv A outer s H E (hr.deeper _) hgd).ps.run [] s1 (L2.start N vs) H { nx := fun _ H' => Q .non H', rt := Q } I ⟨R, startE N.length ds, sto, Sm, start_env DA, ?_⟩) (fun fl s' hs => ?_) fun e s' hs => hs
  · unfold runBody at hp
    rw [if_pos hlen] at hp
    cases z : body (startE N.length ds) sto with
    | nx ρ' st' =>
      rw [z] at hp
      exact fun σ' R' H' e' s' q => hgive K mg R R' H H' sto st' .non _ Q E Sm e' s' Dv.non hp
    | rt d st' =>
      rw [z] at hp
      exact fun v R' H' e' s' q => hgive K mg R R' H H' sto st' v d Q E Sm e' s' q hp
    | bk ρ' st' => rw [z] at hp; exact hp.elim
    | ct ρ' st' => rw [z] at hp; exact hp.elim
    | exc y ρ' st' =>
      rw [z] at hp
      intro σ' R' H' cls dx e' s' q ex
      obtain ⟨x2, S2⟩ := ext_take e' Sm s'
      exact hp _ _ cls dx x2 S2 (ex.stays (Stays.weak fun b z => own_take e' Sm z))
    | bad => rw [z] at hp; exact hp.elim
  · have fin : ∀ {σ' : L2.St} {H' : Hp} {v : V} {u : Value}, L2.Inv (cxOf (L2.CX P w) P w K mg base N qual (defScope st) f cdv A outer s H E) [] σ' H' s' → RelV v u → Q v H' → CE outer P w H s Q u s' :=
      fun {σ' H' v u} J rv q => ⟨v, H', J.os, J.bare, J.base, J.hok, rv, q⟩
    cases fl with
    | ret u =>
      obtain ⟨v, σ', H', J, rv, q⟩ := hs
      exact fin J rv q
    | next =>
      obtain ⟨σ', H', J, q⟩ := hs
      exact fin (v := V.non) (u := Value.none) J rfl q
    | brk =>
      obtain ⟨_, _, _, q⟩ := hs
      exact q.elim
    | cont =>
      obtain ⟨_, _, _, q⟩ := hs
      exact q.elim

/-! ### calls -/
/-- what stands around a piece of code -/
structure GC (X : Cx) (W : WX) (k : Nat) : Prop where
  room : Room k X.A
  gd : Gd X.A X.base
  tk : Takes X W
theorem runG {X : Cx} {W : WX} {k : Nat} {f : Addr} {fd : FuncData} {ps : List Str} {F : List D → M D} {args : Args} {us : List Value} {vs : List V} {pins : List (Addr × Obj)} {σ : L2.St} {H : Hp} {s : Shared} {Q : VK}
    (G : FnG X.prog X.w X.K X.mg X.base k f fd ps F) (C : GC X W k) (I : L2.Inv X pins σ H s) (hb : BindsTo s fd args (ps.zip us)) (r : Vals vs us) (h : SpF X.K X.mg F vs H Q (fun c d H' => W c d σ H')) :
    codeAny (model X.prog X.w) X.A (.call (.ref f) args) (fun r s' => match r with | .ok (.ret u) => EP X pins σ Q u s' | .ok _ => False | .error e => X.xe e s') s := by
  refine codeAny_mono (G.run X.A X.stack s H args us vs Q _ C.room C.gd I.env0 hb r h) fun r s' hq => ?_
  cases r with
  | error e => exact passAt C.tk σ pins H s e s' I hq
  | ok fl =>
    cases fl with
    | ret u => exact I.after hq
    | next => exact hq.elim
    | brk => exact hq.elim
    | cont => exact hq.elim
section
variable {X : Cx} {W : WX} {k : Nat} {f : Addr} {fd : FuncData} {ps : List Str} {F : List D → M D} {x : Str} {p pos : Pos} {e : Expr} {es : List Expr} {ms : Env → M (List D)}
/-- f(e, ..), every parameter given by its place -/
theorem ev_call (G : FnG X.prog X.w X.K X.mg X.base k f fd ps F) (C : GC X W k) (hg : Gl X x) (hm : X.mg x = some (.ref f)) (hk : PySem.W.keepIn X.K (.ref f) = true) (hb : Binds X.K fd ps []) (ha : EVA X W (e :: es) ms)
    (hdb : (x == ("__debug__" : Str)) = false := by decide) (he : starEach (e :: es) X.env = (false, eval e X.env) :: starEach es X.env := by rfl) (hpl : (backTo pos (starEach es X.env)).any (·.1) = false := by rfl) :
    EV X W (.Call (.Name x p) (e :: es) [] pos) (mC F ms) := by
  refine ⟨⟨fun pins s σ H Q I h => ?_⟩⟩
  refine wpAny_Call_Name_kw (ld_glob I hg hm ?_ hdb)
  obtain ⟨R, ρ, st, S, E, h⟩ := tA_of (β := V) h
  refine PySem.W.callWith_K (h₀ := X.base) I.ok.mod.kin hk (thn (ha.pa.run pos pins s σ H (fun vs H1 => SpF X.K X.mg F vs H1 Q (fun c d H' => W c d σ H')) I
    ⟨R, ρ, st, S, E, h.monoQ fun vs H1 ⟨R1, st1, ds, S1, D1, h2⟩ => ⟨R1, st1, ds, S1, D1, h2⟩⟩) fun us s1 ⟨vs, H1, I1, r, q⟩ => ⟨I1.kIn, ?_⟩) he hpl
  have hl : us.length = ps.length := by
    obtain ⟨R1, st1, ds, S1, D1, h2⟩ := id q
    rw [← r.length, D1.len]
    by_cases z : ds.length = ps.length
    · exact z
    · rw [G.ar ds st1 z] at h2
      exact h2.elim
  have b := hb s1 us I1.kIn (by rw [List.append_nil]; exact hl)
  rw [List.append_nil] at b
  refine wpAny_call (codeAny_mono (runG G C I1 b r q) fun r s' hq => ?_)
  cases r with
  | error e => exact hq
  | ok fl =>
    cases fl with
    | ret u => exact hq
    | next => exact hq.elim
    | brk => exact hq.elim
    | cont => exact hq.elim
end
end Ev
set_option Elab.async false
set_option linter.all false
set_option maxRecDepth 100000
set_option maxHeartbeats 4000000
/-! Ev9: a law's end, by its def's rule. -/
namespace Ev
open PySem PySem.Spec PyProof.Rows L2
open Classical

theorem pdA_ints {K : PySem.W.Frag} {U : Addr → Prop} {H : Hp} : ∀ ns : List Int, PdA K U H (ns.map V.int) (ns.map PyData.int)
  | [] => .nil
  | n :: r => .cons (.int n) (pdA_ints r)
section
variable {P : Program} {w : World} {K : PySem.W.Frag} {mg mb : Str → Option Value} {k : Nat} {fa ad : Addr} {fd : FuncData} {x : Str} {F : List D → M D} {s : Shared} {us : List Value} {ns : List Int}
theorem _root_.PyProof.Rows.Top.sysm {p : Program} {loose : List Str} {mean : ExcName → Option Value} {mg mb : Str → Option Value} {h : Heap} (T : Top p loose mean mg mb h) (hi : importsNone p = true) : ∃ o es ep, h.get? sysModules = some o ∧ o.data = .dict es ep :=
  let ⟨_, ⟨o, es, ep, a, b, _⟩, _⟩ := (T.seer hi).mods; ⟨o, es, ep, a, b⟩
/-- what the judge of a call wants -/
def Told (s : Shared) : Result → Shared → Prop := fun r s' => r = .ok (.ret (.bool true)) ∧ OldK s.heap s'.heap ∧ s'.os = s.os ∧ AllBare s'.gens
/-- over a heap in which nothing but the script may be tracked -/
theorem end_core {G : Hp} (kin : K.In s.heap) (ng : s.heap.Ns mainGlobals mg) (nb : s.heap.Ns builtinsNs mb) (bb : ∀ y : Str, y ≠ "__name__" → mb y = bootBuiltins y) (nl : s.heap.NoLimit) (sy : ∃ o es ep, s.heap.get? sysModules = some o ∧ o.data = .dict es ep) (gn : s.gens = #[])
    (hz : ∀ b, G b ≠ none → b = ad) (only : ∀ b, G b = none ∨ ∃ o xs, G b = some (.frz o (.lst xs))) (noD : ∀ o es ep, s.heap.get? ad = some o → o.data ≠ .dict es ep) (noK : G ad ≠ none → K.lookup ad = none)
    (hk : HOk P w G s.heap) (rm : Room k callerA) (Fn : ∀ bs : Heap, K.In bs → bs.Ns mainGlobals mg → FnG P w K mg bs k fa fd [x] F) (bd : BindsTo s fd ⟨[.ref ad], []⟩ [(x, .ref ad)])
    (hL : LstAt K (fun _ => False) G ad (ns.map V.int)) (hv : ∃ st', F [.fz (ns.map PyData.int)] [] = .ok (.dat (.bool true)) st') :
    codeAny (model P w) callerA (.call (.ref fa) ⟨[.ref ad], []⟩) (Told s) s := by
  have keepN : ∀ {b : Addr} {m : Str → Option Value}, s.heap.Ns b m → (hidT s.heap G).Ns b m := fun {b m} ⟨o, es, ep, e, dd, rr⟩ => by
    refine ⟨o, es, ep, hidT_get e ?_, dd, rr⟩
    cases q : G b with
    | none => rfl
    | some u =>
      obtain rfl := hz b (by rw [q]; exact Option.some_ne_none u)
      exact absurd dd (noD o es ep e)
  have kin2 : K.In (hidT s.heap G) := fun b o e => by
    refine hidT_get (kin b o e) ?_
    cases q : G b with
    | none => rfl
    | some u =>
      obtain rfl := hz b (by rw [q]; exact Option.some_ne_none u)
      rw [noK (by rw [q]; exact Option.some_ne_none u)] at e
      cases e
  obtain ⟨mc, l1, l2⟩ := nl
  have md : Mod K mg (hidT s.heap G) := { kin := kin2, glob := keepN ng, blt := ⟨mb, keepN nb, bb⟩, nolimit := ⟨mc, keepN l1, l2⟩ }
  have sy2 : ∃ o, (hidT s.heap G).get? sysModules = some o := by
    obtain ⟨o, es, ep, e, dd⟩ := sy
    refine ⟨o, hidT_get e ?_⟩
    cases q : G sysModules with
    | none => rfl
    | some u =>
      obtain z := hz _ (by rw [q]; exact Option.some_ne_none u)
      rw [z] at e
      exact absurd dd (noD o es ep e)
  have ev : Env0 P w K mg (hidT s.heap G) callerA [] s G :=
    { frames := rfl, mod := md, bs := fun b o e => of_hidT e, bsz := Nat.le_of_eq (hidT_size _ _), funs := trivial, frf := fun b hb => (List.not_mem_nil hb).elim, hok := hk, bare := .of_eq gn }
  obtain ⟨st', hv⟩ := hv
  have own0 : ∀ b, Own ⟨[], []⟩ [] b → False := fun b z => by
    rcases z with ⟨n, xs, z1, _⟩ | z1
    · cases z1
    · cases z1
  have sm : Sim K ⟨[], []⟩ G [] := { len := rfl, nd := List.nodup_nil, nr := (fun a h => by cases h), trk := (fun a h => by rcases h with h | h <;> cases h), at_ := (fun n a xs h => by cases h) }
  have stz : Stays (fun _ => False) (Own ⟨[], []⟩ []) G G := Stays.weak own0
  have spf : SpF K mg F [.ref ad] G (fun v _ => v = .bl true) (fun _ _ _ => False) := by
    refine ⟨⟨[], []⟩, [], [.fz (ns.map PyData.int)], sm, .cons ⟨ad, _, rfl, hL.stays stz, pdA_ints ns⟩ .nil, ?_⟩
    rw [hv]
    intro v R' H' _ _ q
    cases q
    rfl
  refine codeAny_mono ((Fn _ kin2 (keepN ng)).run callerA [] s G ⟨[.ref ad], []⟩ [.ref ad] [.ref ad] _ _ rm ⟨rfl, sy2⟩ ev bd (.cons rfl .nil) spf) fun r s' hr => ?_
  cases r with
  | error e =>
    obtain ⟨_, _, _, _, _, _, _, _, _, _, _, _, no⟩ := hr
    exact no.elim
  | ok fl =>
    cases fl with
    | ret u =>
      obtain ⟨v, H', os, bare, un, hk', rv, rfl⟩ := hr
      obtain rfl : u = Value.bool true := rv
      refine ⟨rfl, OldK.of_keep fun b o e => ?_, os, bare⟩
      rcases only b with q | ⟨ob, xs, q⟩
      · exact un.keep b o e q List.not_mem_nil List.not_mem_nil
      · obtain ⟨g1, _⟩ := hk b _ q
        obtain ⟨g2, _⟩ := hk' b _ (un.frzs b ob _ q)
        rw [e] at g1
        cases g1
        exact g2
    | next => exact hr.elim
    | brk => exact hr.elim
    | cont => exact hr.elim
/-- the law's call -/
theorem end_call (kin : K.In s.heap) (ng : s.heap.Ns mainGlobals mg) (nb : s.heap.Ns builtinsNs mb) (bb : ∀ y : Str, y ≠ "__name__" → mb y = bootBuiltins y) (nl : s.heap.NoLimit) (sy : ∃ o es ep, s.heap.get? sysModules = some o ∧ o.data = .dict es ep) (gn : s.gens = #[])
    (ho : s.heap.get? ad = some { cls := .type "list", data := .seq us.toArray }) (hi : IntsAre us ns) (hl : ns.length ≤ sizeLine) (rm : Room k callerA)
    (Fn : ∀ bs : Heap, K.In bs → bs.Ns mainGlobals mg → FnG P w K mg bs k fa fd [x] F) (bd : BindsTo s fd ⟨[.ref ad], []⟩ [(x, .ref ad)]) (hv : ∃ st', F [.fz (ns.map PyData.int)] [] = .ok (.dat (.bool true)) st') :
    codeAny (model P w) callerA (.call (.ref fa) ⟨[.ref ad], []⟩) (Told s) s := by
  have vi := vals_ints hi
  have noD : ∀ o es ep, s.heap.get? ad = some o → o.data ≠ .dict es ep := fun o es ep e z => by
    rw [ho] at e
    cases e
    cases (show Data.seq us.toArray _ = Data.dict es ep from z)
  cases q : K.lookup ad with
  | some o =>
    have e := kin ad o q
    rw [ho] at e
    cases e
    refine end_core (G := fun _ => none) kin ng nb bb nl sy gn (fun b z => absurd rfl z) (fun b => .inl rfl) noD (fun z => absurd rfl z) (fun b o z => by cases (show (none : Option HO) = some o from z)) rm Fn bd (.inr ⟨_, us.toArray, _, q, rfl, rfl, rfl, ?_, by simpa using vi⟩) hv
    rw [List.size_toArray, hi.length]
    exact hl
  | none =>
    let Z : HO := .frz { cls := .type "list", data := .seq us.toArray } (.lst (ns.map V.int))
    have z1 : (fun b => if b = ad then some Z else none) ad = some Z := if_pos rfl
    refine end_core (G := fun b => if b = ad then some Z else none) kin ng nb bb nl sy gn (fun b z => ?_) (fun b => ?_) noD (fun _ => q) (fun b o z => ?_) rm Fn bd (.inl ⟨.inr ⟨_, z1⟩, id⟩) hv
    · by_cases c : b = ad
      · exact c
      · exact absurd (if_neg c) z
    · by_cases c : b = ad
      · exact .inr ⟨_, _, if_pos c⟩
      · exact .inl (if_neg c)
    · by_cases c : b = ad
      · have e := (if_pos c).symm.trans z
        cases e
        subst c
        exact ⟨ho, by rw [List.length_map]; exact hl, us, _, vi, ho⟩
      · cases (if_neg c).symm.trans z
end
/-- the goal behind the head -/
theorem end_law {l : PySem.W.OpenLaw} {n k : Nat} {q : Program} {loose : List Str} {XP : (Str → Option Value) → Heap → Prop} {YP : World → Heap → Prop} {d : DefRec} {x : Str} {F : List D → M D}
    (hn : l.most = some n) (hn2 : n ≤ sizeLine) (hdf : d.params.defaults = []) (hi : importsNone q = true) (rm : Room k callerA)
    (Fn : ∀ (w : World) (mg : Str → Option Value) (fa : Addr) (h : Heap), YP w h → h.Ns mainGlobals mg → mg d.name = some (.ref fa) →
      ∃ (K : PySem.W.Frag) (fd : FuncData), K.In h ∧ (∀ (s : Shared) (u : Value), BindsTo s fd ⟨[u], []⟩ [(x, u)]) ∧
        ∀ bs : Heap, K.In bs → bs.Ns mainGlobals mg → FnG l.prog w K mg bs k fa fd [x] F)
    (hv : ∀ ns : List Int, ns.length ≤ n → (∀ i ∈ ns, Builtin.Int.intBits i ≤ 1048576) → ∃ st', F [.fz (ns.map PyData.int)] [] = .ok (.dat (.bool true)) st') :
    PySem.W.WalkO q loose XP YP l.row.toRowW d [] (fun f vs => PySem.call f vs) := by
  refine Att.attach_callB hn hdf fun w s0 s1 mg mb fa o pm cd doc ad us ns G Y _ _ _ hmg hobj hints hlen hbits hgen => ?_
  obtain ⟨K, fd, kin, bd, hF⟩ := Fn w mg fa _ Y G.T.g hmg
  exact end_call kin G.T.g G.T.b G.T.builtins G.T.nolimit (G.T.sysm hi) hgen hobj hints (Nat.le_trans hlen hn2) rm hF (bd _ _) (hv ns hlen hbits)
end Ev
set_option Elab.async false
set_option linter.all false
set_option maxRecDepth 100000
set_option maxHeartbeats 4000000
/-! Ev10: short words for derivations. -/
namespace Ev
open PySem PySem.Spec PyProof.Rows L2
open Classical

section
variable {X : Cx} {W : WX} {pos : Pos}
/-- int, bool, tuple .. as a value -/
theorem ev_tyn {x : Str} {t : Ty} (hg : Gl X x) (hm : X.mg x = none) (hv : bootBuiltins x = some (.type t.name)) (hn : x ≠ "__name__" := by decide) (hd : (x == ("__debug__" : Str)) = false := by decide) : EV X W (.Name x pos) (ct (.ty t)) :=
  ⟨PE.imp (pe_bltn hg hm hv (v := .ty t.name) rfl hn hd) fun _ _ _ h => tC_of (X := X) (d := .ty t) (fun _ _ _ => rfl) h⟩
/-- a def of the module as a value -/
theorem ev_gfun {x : Str} {f : Addr} (hg : Gl X x) (hm : X.mg x = some (.ref f)) (hd : (x == ("__debug__" : Str)) = false := by decide) : EV X W (.Name x pos) (ct (.glob x)) :=
  ⟨PE.imp (pe_glob hg hm (v := .ref f) rfl hd) fun _ _ _ h => tC_of (X := X) (d := .glob x) (fun _ _ _ => ⟨f, hm, rfl⟩) h⟩
end
/-! ### dicts written out, keys constants -/
abbrev RelL (K : PySem.W.Frag) (n : Nat) : RelT (List PyData) (List V) := fun R st H b a => PdA K (Own R st) H b a ∧ a.length = n
structure EVD (X : Cx) (W : WX) (pos : Pos) (keys : List (Option Expr)) (values : List Expr) (ks : List Key) (m : Env → M (List PyData)) : Prop where
  ex : ∃ trs, PPs X pos keys values trs ∧ ∀ (σ : L2.St) (H : Hp) (Q : List V → Hp → Prop) (Q2 : List (V × V) → Hp → Prop) (R : Rg) (ρ : Env) (st : Sto), Sim X.K R H st → EnvR X.K X.mg R st H σ ρ →
    (∀ vs H', vs.length = ks.length → Q vs H' → Q2 ((ks.zip vs).map fun kv => (kV kv.1, kv.2)) H') →
    Post X.K X.mg (RelL X.K ks.length) R H st (m ρ st) Q (fun c d H' => W c d σ H') → tPairs trs σ H Q2
def dNil : Env → M (List PyData) := fun _ => M.pure []
def asDat : D → M PyData
  | .dat y => M.pure y
  | _ => M.bad
def dCons (m : Env → M D) (r : Env → M (List PyData)) : Env → M (List PyData) := fun ρ => M.bind (m ρ) fun x => M.bind (asDat x) fun y => M.bind (r ρ) fun ys => M.pure (y :: ys)
section
variable {X : Cx} {W : WX} {pos : Pos} {keys : List (Option Expr)} {values : List Expr} {k v : Expr} {ks : List Key} {a : Key} {m : Env → M (List PyData)} {mv : Env → M D}
theorem evd_nil : EVD X W pos [] [] [] dNil := by
  refine ⟨[], pps_nil, fun σ H Q Q2 R ρ st S E q h => ?_⟩
  exact q [] H rfl (h.okR S ⟨.nil, rfl⟩)
theorem evd_cons (hk : PE X k (tC (kV a))) (hv : EV X W v mv) (hr : EVD X W pos keys values ks m) : EVD X W pos (some k :: keys) (v :: values) (a :: ks) (dCons mv m) := by
  obtain ⟨trs, p, im⟩ := hr.ex
  refine ⟨(tC (kV a), tM X.K X.mg W mv) :: trs, pps_cons hk hv.pe p, fun σ H Q Q2 R ρ st S E q h => ?_⟩
  have h1 := Post.bind (Rel := Dv X.K X.mg) (Rel2 := RelL X.K (a :: ks).length) h
  refine ⟨R, ρ, st, S, E, h1.monoQ fun x H1 ⟨R1, st1, d, x1, S1, D1, h2⟩ => ?_⟩
  cases d with
  | dat y =>
    have h3 := Post.bind (Rel := RelL X.K ks.length) (Rel2 := RelL X.K (a :: ks).length) (m := m ρ) (f := fun ys => M.pure (y :: ys)) h2
    refine im σ H1 _ _ R1 ρ st1 S1 (E.ext x1) (fun vs H2 l2 ⟨R2, st2, ys, x2, S2, ⟨p2, l3⟩, h5⟩ => ?_) h3
    have D2 : Pd X.K (Own R2 st2) H2 x y := Dv.ext (d := .dat y) x2 D1
    refine q (x :: vs) H2 (by rw [List.length_cons, List.length_cons, l2]) ?_
    exact Post.okR (Rel := RelL X.K (a :: ks).length) S2 ⟨.cons D2 p2, by rw [List.length_cons, List.length_cons, l3]⟩ h5
  | _ => exact h2.elim
theorem merge_new {κ : Type} [DecidableEq κ] : ∀ (more kvs : List (κ × V)), ((kvs ++ more).map (·.1)).Nodup → more.foldl (fun acc kv => putK acc kv.1 kv.2) kvs = kvs ++ more
  | [], kvs, _ => by simp
  | p :: r, kvs, h => by
    have h1 : putK kvs p.1 p.2 = kvs ++ [p] := by
      unfold putK
      rw [if_neg]
      intro z
      rw [List.any_eq_true] at z
      obtain ⟨q, hq, e⟩ := z
      have e' : q.1 = p.1 := by simpa using e
      rw [List.map_append, List.nodup_append] at h
      exact h.2.2 _ (List.mem_map_of_mem hq) p.1 (by simp) e'
    rw [List.foldl_cons, h1, merge_new r (kvs ++ [p]) (by simpa using h)]
    simp
theorem pdK_zip {K : PySem.W.Frag} {U : Addr → Prop} {H : Hp} : ∀ {ks : List Key} {vs : List V} {ds : List PyData}, PdA K U H vs ds → PdK K U H (ks.zip vs) ((ks.map keyD).zip ds)
  | [], _, _, _ => by simp only [List.zip_nil_left, List.map_nil]; exact .nil
  | k :: ks, _, _, .nil => by simp only [List.zip_nil_right]; exact .nil
  | k :: ks, _, _, .cons p q => .cons p (pdK_zip q)
def mDct (ks : List Key) (m : Env → M (List PyData)) : Env → M D := fun ρ => M.bind (m ρ) fun ys => M.pure (.dat (.dict ((ks.map keyD).zip ys)))
theorem ev_dct (h : EVD X W pos keys values ks m) (hd : ks.Nodup) (h15 : keys.length ≤ 15) (hall : keys.all (·.isSome) = true := by rfl) (hl : keys.length = values.length := by rfl) (h0 : keys ≠ [] := by simp) (hkl : ks.length = keys.length := by rfl) :
    EV X W (.Dict keys values pos) (mDct ks m) := by
  obtain ⟨trs, p, im⟩ := h.ex
  refine ⟨PE.imp (pe_disp p hall hl h0 h15) fun σ H Q h => ?_⟩
  obtain ⟨R, ρ, st, S, E, h⟩ := h
  intro ad hp
  have E1 : EnvR X.K X.mg (R.hide ad) st (upd H ad (.dK [])) σ ρ := by
    refine ⟨E.len, fun j e q => ?_⟩
    obtain ⟨v, q1, q2⟩ := E.at_ j e q
    refine ⟨v, q1, ?_⟩
    have ss : Stays (Own R st) (Own (R.hide ad) st) H (upd H ad (.dK [])) := ⟨fun b u e _ => by rw [upd_ne (ne_of_none e hp)]; exact e, fun b z => by
      rcases own_hide.mp z with z | z
      · exact .inl z
      · exact .inr (z ▸ hp)⟩
    cases e with
    | dat e => exact Pd.stays ss q2
    | loc n => exact q2
    | glob x => exact q2
    | fz ds => obtain ⟨a, xs, h1, h2, h3⟩ := q2; exact ⟨a, xs, h1, h2.stays ss, h3.stays ss⟩
    | ty t => exact q2
    | raw t => exact q2
    | err u cls d x => exact ⟨q2.1, q2.2.stays ss⟩
  refine im σ _ (fun vs H2 => ∃ R2 st2 ys, Ext (R.hide ad) (upd H ad (.dK [])) st R2 H2 st2 ∧ Sim X.K R2 H2 st2 ∧ RelL X.K ks.length R2 st2 H2 vs ys ∧
    Post X.K X.mg (Dv X.K X.mg) R H st (.ok (.dat (.dict ((ks.map keyD).zip ys))) st2) Q (fun c d H' => W c d σ H')) _ (R.hide ad) ρ st (sim_hide S hp) E1 (fun vs H2 l2 ⟨R1, st1, ys, x1, S1, ⟨p1, l1⟩, h3⟩ => ?_) ?_
  · have e2 : H2 ad = some (.dK []) := x1.prv ad (List.mem_cons_self) _ upd_same
    refine ⟨e2, ks.zip vs, rfl, by rw [List.length_zip, hkl]; exact Nat.le_trans (Nat.min_le_left _ _) h15, ?_⟩
    have mk : mergeK [] (ks.zip vs) = ks.zip vs := by
      unfold mergeK
      rw [merge_new _ _ (by
        rw [List.nil_append, List.map_fst_zip (by omega)]
        exact hd)]
      rfl
    rw [mk]
    have e3 : R1.p = ad :: R.p := x1.pe
    have inp : ad ∈ R1.p := by rw [e3]; exact List.mem_cons_self
    have xb := ext_back hp (ext_prv (o' := .dK (ks.zip vs)) (show ad ∈ (R.hide ad).p from List.mem_cons_self) x1)
    have S2 := sim_back e3 (sim_prv (o := .dK (ks.zip vs)) S1 inp)
    have weak : ∀ b, Own (R.back R1) st1 b → Own R1 st1 b := fun b z => by
      rcases z with z | z
      · exact .inl z
      · exact .inr (by rw [e3]; exact List.mem_cons_of_mem _ z)
    refine h3 _ _ _ xb S2 (Pd.dct upd_same (fun z => ?_) (PdK.stays ⟨fun b u e n => ?_, fun b z => .inl (weak b z)⟩ (pdK_zip p1)))
    · rcases z with ⟨n, zs, z1, _⟩ | z
      · exact S1.nr ad (List.mem_of_getElem? z1) inp
      · exact S.freshP hp z
    · rw [upd_ne (show b ≠ ad from fun z => n (.inr (z ▸ inp)))]
      exact e
  · have h' : Post X.K X.mg (Dv X.K X.mg) R H st (M.bind (m ρ) (fun ys => M.pure (.dat (.dict ((ks.map keyD).zip ys)))) st) Q (fun c d H' => W c d σ H') := h
    unfold M.bind at h'
    cases z : m ρ st with
    | ok ys st' =>
      rw [z] at h'
      exact fun vs R' H' e' s' q => ⟨R', st', ys, e', s', q, h'⟩
    | exc x st' =>
      rw [z] at h'
      intro R' H' cls dx e' s' q
      have e3 : R'.p = ad :: R.p := e'.pe
      refine h' (R.back R') H' cls dx (ext_back hp e') (sim_back e3 s') (q.stays (Stays.weak fun b z => ?_))
      rcases z with z | z
      · exact .inl z
      · exact .inr (by rw [e3]; exact List.mem_cons_of_mem _ z)
    | bad => rw [z] at h'; exact h'
/-- {} -/
def mDct0 : Env → M D := fun _ => M.pure (.dat (.dict []))
theorem ev_dct0 : EV X W (.Dict [] [] pos) mDct0 := by
  refine ⟨PE.imp pe_dnewK fun σ H Q h => ?_⟩
  obtain ⟨R, ρ, st, S, E, h⟩ := h
  exact fun p hp => h.okN S hp (Pd.dct upd_same (S.notOwn hp) .nil)
end
end Ev
set_option Elab.async false
set_option linter.all false
set_option maxRecDepth 100000
set_option maxHeartbeats 4000000
/-! Ev11: defs by their names. -/
namespace Ev
open PySem PySem.Spec PyProof.Rows L2
open Classical

/-- the def st of the text stands under its name -/
def Df (K : PySem.W.Frag) (mg : Str → Option Value) (x : Str) (st : Stmt) (ps : List Str) : Prop :=
  ∃ (f : Addr) (fd : FuncData), Fun K x x st f fd ∧ mg x = some (.ref f) ∧ Binds K fd ps []
/-- .. and keeps what its function tells -/
def FnN (P : Program) (w : World) (K : PySem.W.Frag) (mg : Str → Option Value) (base : Heap) (k : Nat) (x : Str) (ps : List Str) (F : List D → M D) : Prop :=
  ∃ (f : Addr) (fd : FuncData), FnG P w K mg base k f fd ps F ∧ mg x = some (.ref f) ∧ PySem.W.keepIn K (.ref f) = true ∧ Binds K fd ps [] ∧ ∃ oc od osl, K.lookup f = some ⟨oc, od, .func fd, osl⟩
theorem df_mk {K : PySem.W.Frag} {h : Heap} {mg : Str → Option Value} (X : K.In h) (G : h.Ns mainGlobals mg) {x : Str} {st : Stmt} {ps : List Str} {f : Addr} {oc : Value} {od an : Option Addr} {osl : Array (Option Value)} {kV doc pm cdv ct : Value}
    (a : PySem.W.nsIn K mainGlobals x = some (some (.ref f))) (l : K.lookup f = some ⟨oc, od, .func (PySem.W.fnOf x x (defArgs st) (defBody st) (defScope st) .none kV doc pm an cdv ct), osl⟩) (c : PySem.W.codeIn K cdv x = true) (k : PySem.W.keepIn K (.ref f) = true)
    (hb : ∀ (kV doc pm : Value) (an : Option Addr) (cdv ct : Value) (us : List Value), us.length = ps.length → bindArgs (PySem.W.fnOf x x (defArgs st) (defBody st) (defScope st) .none kV doc pm an cdv ct) ⟨us, []⟩ = pure (ps.zip us)) : Df K mg x st ps := by
  have F := fun_mk l c k
  exact ⟨f, _, F, PySem.W.mg_of X G a, F.binds hb⟩
section
variable {P : Program} {w : World} {K : PySem.W.Frag} {mg : Str → Option Value} {base : Heap} {x : Str} {st : Stmt} {N ps : List Str} {k : Nat} {body : SM}
theorem FnN.mono {j : Nat} {F : List D → M D} (G : FnN P w K mg base j x ps F) (h : j ≤ k) : FnN P w K mg base k x ps F :=
  let ⟨f, fd, a, b⟩ := G
  ⟨f, fd, a.mono h, b⟩
theorem fnN_of {give : Nat → D → Sto → Res D} (hgive : GiveOk give) (D1 : Df K mg x st ps) (S : FnScope N ps (defScope st))
    (hb : ∀ (f : Addr) (cdv : Value) (A : Around) (outer : List PySem.Env) (s : Shared) (H : Hp) (E : XK), GC (cxOf (L2.CX P w) P w K mg base N x (defScope st) f cdv A outer s H E) (fun c d _ H' => E c d H') k →
      EVSs (cxOf (L2.CX P w) P w K mg base N x (defScope st) f cdv A outer s H E) (fun c d _ H' => E c d H') (defBody st) body) :
    FnN P w K mg base (k + 1) x ps (runBody give N.length ps.length body) := by
  obtain ⟨f, fd, F, hm, b⟩ := D1
  refine ⟨f, fd, fnG_of hgive F S (fun cdv A outer s H E hr hg => hb f cdv A outer s H E ⟨hr, hg, ?_⟩), hm, F.kp, b, ?_⟩
  · exact takes_of rfl rfl rfl rfl
  · obtain ⟨oc, od, kV, doc, pm, an, cdv, ct, osl, _, lk, _⟩ := F.ex
    exact ⟨oc, od, osl, lk⟩
end
section
variable {X : Cx} {W : WX} {k j : Nat} {ps : List Str} {F : List D → M D} {x : Str} {p pos : Pos} {e : Expr} {es : List Expr} {ms : Env → M (List D)}
theorem GC.mono (C : GC X W k) (h : j ≤ k) : GC X W j := ⟨C.room.mono h, C.gd, C.tk⟩
theorem GC.u64 (C : GC X W k) : X.A.units + 64 < cLine := by have := C.room.un; omega
theorem GC.u128 (C : GC X W k) : X.A.units + 128 < cLine := by have := C.room.un; omega
theorem GC.blk {s : Shared} {H : Hp} {scope : Scope} {cenv : PySem.Env} {fp : List Addr} (C : GC X W k) : GC (X.blk s H scope cenv fp) W0 k :=
  ⟨C.room, C.gd, fun u s' ⟨_, _, _, _, _, _, _, _, _, _, _, _, _, _, _, _, w⟩ => w.elim⟩
theorem ev_callN (G : FnN X.prog X.w X.K X.mg X.base j x ps F) (C : GC X W k) (h : j ≤ k) (hg : Gl X x) (ha : EVA X W (e :: es) ms)
    (hdb : (x == ("__debug__" : Str)) = false := by decide) (he : starEach (e :: es) X.env = (false, eval e X.env) :: starEach es X.env := by rfl) (hpl : (backTo pos (starEach es X.env)).any (·.1) = false := by rfl) :
    EV X W (.Call (.Name x p) (e :: es) [] pos) (mC F ms) := by
  obtain ⟨f, fd, a, b, c, d, _⟩ := G
  exact ev_call a (C.mono h) hg b c d ha hdb he hpl
end
section
variable {P : Program} {w : World} {K : PySem.W.Frag} {mg : Str → Option Value} {base : Heap} {N : List Str} {qual : Str} {scope : Scope} {f : Addr} {cd : Value} {A : Around} {outer : List PySem.Env} {s : Shared} {H : Hp} {E : XK}
theorem passes_cx : PassesOwn (model P w) (cxOf (L2.CX P w) P w K mg base N qual scope f cd A outer s H E).A (cxOf (L2.CX P w) P w K mg base N qual scope f cd A outer s H E).env (cxOf (L2.CX P w) P w K mg base N qual scope f cd A outer s H E).xe := passes_of rfl
end
/-- the end of a law, by its def's name -/
theorem end_lawN {l : PySem.W.OpenLaw} {n k : Nat} {q : Program} {loose : List Str} {XP : (Str → Option Value) → Heap → Prop} {YP : World → Heap → Prop} {d : DefRec} {x : Str} {F : List D → M D}
    (hn : l.most = some n) (hn2 : n ≤ sizeLine) (hdf : d.params.defaults = []) (hi : importsNone q = true) (rm : Room k callerA)
    (Fn : ∀ (w : World) (mg : Str → Option Value) (h : Heap), YP w h → XP mg h → h.Ns mainGlobals mg → ∃ K : PySem.W.Frag, K.In h ∧ ∀ bs : Heap, FnN l.prog w K mg bs k d.name [x] F)
    (hv : ∀ ns : List Int, ns.length ≤ n → (∀ i ∈ ns, Builtin.Int.intBits i ≤ 1048576) → ∃ st', F [.fz (ns.map PyData.int)] [] = .ok (.dat (.bool true)) st') :
    PySem.W.WalkO q loose XP YP l.row.toRowW d [] (fun f vs => PySem.call f vs) := by
  refine Att.attach_callB hn hdf fun w s0 s1 mg mb fa o pm cd doc ad us ns G Y _ _ _ hmg hobj hints hlen hbits hgen => ?_
  obtain ⟨K, kin, hF⟩ := Fn w mg _ Y G.X G.T.g
  obtain ⟨f, fd, g0, m0, k0, b0, oc, od, osl, l0⟩ := hF s1.heap
  rw [hmg] at m0
  cases m0
  have bd := b0 s1 [.ref ad] kin rfl
  rw [List.append_nil] at bd
  refine end_call kin G.T.g G.T.b G.T.builtins G.T.nolimit (G.T.sysm hi) hgen hobj hints (Nat.le_trans hlen hn2) rm (fun bs _ _ => ?_) bd (hv ns hlen hbits)
  obtain ⟨f2, fd2, g2, m2, k2, b2, oc2, od2, osl2, l2⟩ := hF bs
  rw [hmg] at m2
  cases m2
  rw [l0] at l2
  cases l2
  exact g2
end Ev
set_option Elab.async false
set_option linter.all false
set_option maxRecDepth 100000
set_option maxHeartbeats 4000000
/-! Ev12: the words of a derivation. -/
namespace Ev
open PySem PySem.Spec PyProof.Rows L2
open Classical

section
variable {K : PySem.W.Frag} {mg : Str → Option Value}
theorem ok_sub : OpOk K mg (rI0 fun i j => .int (i - j)) dSub := ok_rI0
theorem ok_lt : OpOk K mg (rI0 fun i j => .bl (decide (i < j))) dLt := ok_rB0
theorem ok_le : OpOk K mg (rI0 fun i j => .bl (decide (i ≤ j))) dLe := ok_rB0
theorem ok_gt : OpOk K mg (rI0 fun i j => .bl (decide (j < i))) dGt := ok_rB0
theorem ok_ge : OpOk K mg (rI0 fun i j => .bl (decide (j ≤ i))) dGe := ok_rB0
theorem ok_mod : OpOk K mg (rI (fun _ j => j ≠ 0) fun i j => .int (i.fmod j)) dMod := ok_rI fun _ _ h => h
theorem ok_fdiv : OpOk K mg (rI (fun _ j => 0 < j ∧ wideI j ∨ j ≠ 0 ∧ j.natAbs < 1073741824) fun i j => .int (i.fdiv j)) dFdiv := ok_rI fun _ _ h => h
theorem ok_pow : OpOk K mg (rI (fun i j => 0 ≤ j ∧ (Builtin.Int.intBits i : Int) * j ≤ 100000) fun i j => .int (i ^ j.toNat)) dPow := ok_rI fun _ _ h => h
end
theorem loose_int {lv : List (Str × PySem.W.WData)} {mg : Str → Option Value} {h : Heap} (L : PySem.W.LooseAre lv mg h) {x : Str} {i : Int} (m : (x, PySem.W.WData.int i) ∈ lv) : ∃ t, mg x = some (.int i t) := by
  obtain ⟨v, e, r⟩ := L.val _ m
  cases r
  exact ⟨_, e⟩
theorem const_int {K : PySem.W.Frag} {h : Heap} {mg : Str → Option Value} (X : K.In h) (G : h.Ns mainGlobals mg) {x : Str} {v : Value} {i : Int} (a : PySem.W.nsIn K mainGlobals x = some (some v)) (r : RelV (.int i) v) : ∃ t, mg x = some (.int i t) := by
  obtain ⟨t, rfl⟩ := r
  exact ⟨t, PySem.W.mg_of X G a⟩
section
variable {X : Cx} {W : WX} {k : Nat} {a b c e : Expr} {ma mb mc me : Env → M D} {ms : Env → M (List D)} {pos p : Pos}
theorem x_add (ha : EV X W a ma) (hb : EV X W b mb) : EV X W (.BinOp a .Add b pos) (m2 dAdd ma mb) := ev_bin op_addAll ok_addAll ha hb
theorem x_sub (ha : EV X W a ma) (hb : EV X W b mb) : EV X W (.BinOp a .Sub b pos) (m2 dSub ma mb) := ev_bin op_sub ok_sub ha hb
theorem x_mul (ha : EV X W a ma) (hb : EV X W b mb) : EV X W (.BinOp a .Mult b pos) (m2 dMul ma mb) := ev_bin op_mulAll ok_mulAll ha hb
theorem x_mod (ha : EV X W a ma) (hb : EV X W b mb) : EV X W (.BinOp a .Mod b pos) (m2 dMod ma mb) := ev_bin op_mod2 ok_mod ha hb
theorem x_fdiv (ha : EV X W a ma) (hb : EV X W b mb) : EV X W (.BinOp a .FloorDiv b pos) (m2 dFdiv ma mb) := ev_bin op_fdiv2 ok_fdiv ha hb
theorem x_pow (ha : EV X W a ma) (hb : EV X W b mb) : EV X W (.BinOp a .Pow b pos) (m2 dPow ma mb) := ev_bin op_pow2 ok_pow ha hb
theorem x_lt (ha : EV X W a ma) (hb : EV X W b mb) : EV X W (.Compare a [.Lt] [b] pos) (m2 dLt ma mb) := ev_cmp op_lt ok_lt (nomark _) ha hb
theorem t_lt (ha : EV X W a ma) (hb : EV X W b mb) : EVT X W (.Compare a [.Lt] [b] pos) (mT (m2 dLt ma mb)) := evt_cmp op_lt ok_lt (nomark _) ha hb
theorem x_le (ha : EV X W a ma) (hb : EV X W b mb) : EV X W (.Compare a [.LtE] [b] pos) (m2 dLe ma mb) := ev_cmp op_le ok_le (nomark _) ha hb
theorem t_le (ha : EV X W a ma) (hb : EV X W b mb) : EVT X W (.Compare a [.LtE] [b] pos) (mT (m2 dLe ma mb)) := evt_cmp op_le ok_le (nomark _) ha hb
theorem x_gt (ha : EV X W a ma) (hb : EV X W b mb) : EV X W (.Compare a [.Gt] [b] pos) (m2 dGt ma mb) := ev_cmp op_gt ok_gt (nomark _) ha hb
theorem t_gt (ha : EV X W a ma) (hb : EV X W b mb) : EVT X W (.Compare a [.Gt] [b] pos) (mT (m2 dGt ma mb)) := evt_cmp op_gt ok_gt (nomark _) ha hb
theorem x_ge (ha : EV X W a ma) (hb : EV X W b mb) : EV X W (.Compare a [.GtE] [b] pos) (m2 dGe ma mb) := ev_cmp op_ge ok_ge (nomark _) ha hb
theorem t_ge (ha : EV X W a ma) (hb : EV X W b mb) : EVT X W (.Compare a [.GtE] [b] pos) (mT (m2 dGe ma mb)) := evt_cmp op_ge ok_ge (nomark _) ha hb
theorem x_eq (C : GC X W k) (ha : EV X W a ma) (hb : EV X W b mb) : EV X W (.Compare a [.Eq] [b] pos) (m2 dEq ma mb) := ev_cmp (op_eqAll C.u64) ok_eqAll (nomark _) ha hb
theorem t_eq (C : GC X W k) (ha : EV X W a ma) (hb : EV X W b mb) : EVT X W (.Compare a [.Eq] [b] pos) (mT (m2 dEq ma mb)) := evt_cmp (op_eqAll C.u64) ok_eqAll (nomark _) ha hb
theorem x_ne (C : GC X W k) (ha : EV X W a ma) (hb : EV X W b mb) : EV X W (.Compare a [.NotEq] [b] pos) (m2 dNe ma mb) := ev_cmp (op_neAll C.u64) ok_neAll (nomark _) ha hb
theorem t_ne (C : GC X W k) (ha : EV X W a ma) (hb : EV X W b mb) : EVT X W (.Compare a [.NotEq] [b] pos) (mT (m2 dNe ma mb)) := evt_cmp (op_neAll C.u64) ok_neAll (nomark _) ha hb
theorem x_neg (ha : EV X W a ma) : EV X W (.UnaryOp .USub a pos) (m1 dNeg ma) := ev_un un_neg ok_neg ha
theorem x_ix (ha : EV X W a ma) (hb : EV X W b mb) (hs : PlainIx b := by exact fun _ _ => rfl) : EV X W (.Subscript a b pos) (m2 dIx ma mb) := ev_ix ix_seq ok_ix hs ha hb
theorem x_lele (ha : EV X W a ma) (hb : EV X W b mb) (hc : EV X W c mc) (hm : lastMarks [.LtE, .LtE] [b, c] = false := by rfl) : EV X W (.Compare a [.LtE, .LtE] [b, c] pos) (mChain dLe dLe ma mb mc) := ev_chain op_le ok_le op_le ok_le hm ha hb hc
theorem t_lele (ha : EV X W a ma) (hb : EV X W b mb) (hc : EV X W c mc) (hm : lastMarks [.LtE, .LtE] [b, c] = false := by rfl) : EVT X W (.Compare a [.LtE, .LtE] [b, c] pos) (mT (mChain dLe dLe ma mb mc)) := evt_chain op_le ok_le op_le ok_le hm ha hb hc
theorem x_lelt (ha : EV X W a ma) (hb : EV X W b mb) (hc : EV X W c mc) (hm : lastMarks [.LtE, .Lt] [b, c] = false := by rfl) : EV X W (.Compare a [.LtE, .Lt] [b, c] pos) (mChain dLe dLt ma mb mc) := ev_chain op_le ok_le op_lt ok_lt hm ha hb hc
theorem t_lelt (ha : EV X W a ma) (hb : EV X W b mb) (hc : EV X W c mc) (hm : lastMarks [.LtE, .Lt] [b, c] = false := by rfl) : EVT X W (.Compare a [.LtE, .Lt] [b, c] pos) (mT (mChain dLe dLt ma mb mc)) := evt_chain op_le ok_le op_lt ok_lt hm ha hb hc
theorem x_ltle (ha : EV X W a ma) (hb : EV X W b mb) (hc : EV X W c mc) (hm : lastMarks [.Lt, .LtE] [b, c] = false := by rfl) : EV X W (.Compare a [.Lt, .LtE] [b, c] pos) (mChain dLt dLe ma mb mc) := ev_chain op_lt ok_lt op_le ok_le hm ha hb hc
theorem t_ltle (ha : EV X W a ma) (hb : EV X W b mb) (hc : EV X W c mc) (hm : lastMarks [.Lt, .LtE] [b, c] = false := by rfl) : EVT X W (.Compare a [.Lt, .LtE] [b, c] pos) (mT (mChain dLt dLe ma mb mc)) := evt_chain op_lt ok_lt op_le ok_le hm ha hb hc
theorem x_ltlt (ha : EV X W a ma) (hb : EV X W b mb) (hc : EV X W c mc) (hm : lastMarks [.Lt, .Lt] [b, c] = false := by rfl) : EV X W (.Compare a [.Lt, .Lt] [b, c] pos) (mChain dLt dLt ma mb mc) := ev_chain op_lt ok_lt op_lt ok_lt hm ha hb hc
theorem t_ltlt (ha : EV X W a ma) (hb : EV X W b mb) (hc : EV X W c mc) (hm : lastMarks [.Lt, .Lt] [b, c] = false := by rfl) : EVT X W (.Compare a [.Lt, .Lt] [b, c] pos) (mT (mChain dLt dLt ma mb mc)) := evt_chain op_lt ok_lt op_lt ok_lt hm ha hb hc
variable {es : List Expr} {x : Str}
theorem n_len (hm : X.mg "len" = none) (ha : EVA X W (e :: es) ms) (hg : Gl X "len" := by exact rfl) (he : starEach (e :: es) X.env = (false, eval e X.env) :: starEach es X.env := by rfl) (hpl : (backTo pos (starEach es X.env)).any (·.1) = false := by rfl) : EV X W (.Call (.Name "len" p) (e :: es) [] pos) (mC (on1 dLen) ms) := ev_callB call_lenAll ok_len hg hm boot_len ha (by decide) (by decide) he hpl
theorem n_isinstance (hm : X.mg "isinstance" = none) (ha : EVA X W (e :: es) ms) (hg : Gl X "isinstance" := by exact rfl) (he : starEach (e :: es) X.env = (false, eval e X.env) :: starEach es X.env := by rfl) (hpl : (backTo pos (starEach es X.env)).any (·.1) = false := by rfl) : EV X W (.Call (.Name "isinstance" p) (e :: es) [] pos) (mC (on2 dIsi) ms) := ev_callB call_isi ok_isi hg hm boot_isinstance ha (by decide) (by decide) he hpl
theorem n_all (hc : X.calm = true) (hm : X.mg "all" = none) (ha : EVA X W (e :: es) ms) (hg : Gl X "all" := by exact rfl) (he : starEach (e :: es) X.env = (false, eval e X.env) :: starEach es X.env := by rfl) (hpl : (backTo pos (starEach es X.env)).any (·.1) = false := by rfl) : EV X W (.Call (.Name "all" p) (e :: es) [] pos) (mC (on1 dAll) ms) := ev_callB (cr_all hc) ok_all hg hm boot_all ha (by decide) (by decide) he hpl
theorem n_any (hc : X.calm = true) (hm : X.mg "any" = none) (ha : EVA X W (e :: es) ms) (hg : Gl X "any" := by exact rfl) (he : starEach (e :: es) X.env = (false, eval e X.env) :: starEach es X.env := by rfl) (hpl : (backTo pos (starEach es X.env)).any (·.1) = false := by rfl) : EV X W (.Call (.Name "any" p) (e :: es) [] pos) (mC (on1 dAny) ms) := ev_callB (cr_any hc) ok_any hg hm boot_any ha (by decide) (by decide) he hpl
theorem n_abs (hm : X.mg "abs" = none) (ha : EVA X W (e :: es) ms) (hg : Gl X "abs" := by exact rfl) (he : starEach (e :: es) X.env = (false, eval e X.env) :: starEach es X.env := by rfl) (hpl : (backTo pos (starEach es X.env)).any (·.1) = false := by rfl) : EV X W (.Call (.Name "abs" p) (e :: es) [] pos) (mC (on1 dAbs) ms) := ev_callB call_abs ok_abs hg hm boot_abs ha (by decide) (by decide) he hpl
theorem n_max (hc : X.calm = true) (hm : X.mg "max" = none) (ha : EVA X W (e :: es) ms) (hg : Gl X "max" := by exact rfl) (he : starEach (e :: es) X.env = (false, eval e X.env) :: starEach es X.env := by rfl) (hpl : (backTo pos (starEach es X.env)).any (·.1) = false := by rfl) : EV X W (.Call (.Name "max" p) (e :: es) [] pos) (mC (on2 dMax2) ms) := ev_callB (call_max2 hc) ok_max2 hg hm boot_max ha (by decide) (by decide) he hpl
theorem n_min (hc : X.calm = true) (hm : X.mg "min" = none) (ha : EVA X W (e :: es) ms) (hg : Gl X "min" := by exact rfl) (he : starEach (e :: es) X.env = (false, eval e X.env) :: starEach es X.env := by rfl) (hpl : (backTo pos (starEach es X.env)).any (·.1) = false := by rfl) : EV X W (.Call (.Name "min" p) (e :: es) [] pos) (mC (on2 dMin2) ms) := ev_callB (call_min2 hc) ok_min2 hg hm boot_min ha (by decide) (by decide) he hpl
theorem n_sum (hc : X.calm = true) (hm : X.mg "sum" = none) (ha : EVA X W (e :: es) ms) (hg : Gl X "sum" := by exact rfl) (he : starEach (e :: es) X.env = (false, eval e X.env) :: starEach es X.env := by rfl) (hpl : (backTo pos (starEach es X.env)).any (·.1) = false := by rfl) : EV X W (.Call (.Name "sum" p) (e :: es) [] pos) (mC (on1 dSum) ms) := ev_callB (cr_sum hc) ok_sum hg hm boot_sum ha (by decide) (by decide) he hpl
theorem n_repr (C : GC X W k) (hm : X.mg "repr" = none) (ha : EVA X W (e :: es) ms) (hg : Gl X "repr" := by exact rfl) (he : starEach (e :: es) X.env = (false, eval e X.env) :: starEach es X.env := by rfl) (hpl : (backTo pos (starEach es X.env)).any (·.1) = false := by rfl) : EV X W (.Call (.Name "repr" p) (e :: es) [] pos) (mC (on1 dRepr) ms) := ev_callB (call_repr C.gd.1 C.gd.2 C.u128) ok_repr hg hm boot_repr ha (by decide) (by decide) he hpl
theorem n_int (hm : X.mg "int" = none) (ha : EVA X W (e :: es) ms) (hg : Gl X "int" := by exact rfl) (he : starEach (e :: es) X.env = (false, eval e X.env) :: starEach es X.env := by rfl) (hpl : (backTo pos (starEach es X.env)).any (·.1) = false := by rfl) : EV X W (.Call (.Name "int" p) (e :: es) [] pos) (mC (on1 dInt) ms) := ev_callTy call_int1 ok_int hg hm boot_int ha (by decide) (by decide) he hpl
theorem n_tuple (hm : X.mg "tuple" = none) (ha : EVA X W (e :: es) ms) (hg : Gl X "tuple" := by exact rfl) (he : starEach (e :: es) X.env = (false, eval e X.env) :: starEach es X.env := by rfl) (hpl : (backTo pos (starEach es X.env)).any (·.1) = false := by rfl) : EV X W (.Call (.Name "tuple" p) (e :: es) [] pos) (mC (on1 tupOf) ms) := ev_callTy call_tuple_of ok_tupOf hg hm boot_tuple ha (by decide) (by decide) he hpl
theorem n_list (hm : X.mg "list" = none) (ha : EVA X W (e :: es) ms) (hg : Gl X "list" := by exact rfl) (he : starEach (e :: es) X.env = (false, eval e X.env) :: starEach es X.env := by rfl) (hpl : (backTo pos (starEach es X.env)).any (·.1) = false := by rfl) : EV X W (.Call (.Name "list" p) (e :: es) [] pos) (mC (on1 lstOf) ms) := ev_callTy call_list_of ok_lstOf hg hm boot_list ha (by decide) (by decide) he hpl
theorem n_loc (hm : X.mg "list" = none) (ha : EVA X W (e :: es) ms) (hg : Gl X "list" := by exact rfl) (he : starEach (e :: es) X.env = (false, eval e X.env) :: starEach es X.env := by rfl) (hpl : (backTo pos (starEach es X.env)).any (·.1) = false := by rfl) : EV X W (.Call (.Name "list" p) (e :: es) [] pos) (mC (on1 locOf) ms) := ev_callTy call_list_of ok_locOf hg hm boot_list ha (by decide) (by decide) he hpl
end
end Ev
set_option Elab.async false
set_option linter.all false
set_option maxRecDepth 100000
set_option maxHeartbeats 4000000
/-! Ev13: raise, try. -/
namespace Ev
open PySem PySem.Spec PyProof.Rows L2
open Classical

/-- an own class of errors without an __init__ of its own -/
def ExN (K : PySem.W.Frag) (mg : Str → Option Value) (x : Str) : Prop :=
  ∃ (C : Addr) (bmB : List Value) (B newId initId : String), ExcBaseFacts B newId initId bmB ∧ PySem.W.excIn K C bmB newId = true ∧ mg x = some (.ref C) ∧ PySem.W.keepIn K (.ref C) = true ∧
    PySem.W.subIn K (.ref C) (.type "BaseException") = some true ∧ PySem.W.typeIn K (.ref C) = some (.type "type")
def sRaise (x : Str) : SM := fun ρ st => .exc ⟨x, []⟩ ρ st
section
variable {X : Cx} {W : WX} {k : Nat} {pos pos' p p2 : Pos}
theorem evs_raise {x m : Str} {j : Nat} (hc : X.calm = true) (C : GC X W k) (N : ExN X.K X.mg x) (hg : Gl X x) (hdb : (x == ("__debug__" : Str)) = false := by decide) :
    EVS X W (.Raise (some (.Call (.Name x p) [.Constant (.str m) j p2] [] pos)) none pos') (sRaise x) := by
  obtain ⟨c, bmB, B, n1, n2, F, q, gC, kC, b1, b2⟩ := N
  refine ⟨PS.imp (ps_raise hc C.tk (pmk_own F q gC kC (raises_own b1 b2) hg hdb)) fun D σ H h => ?_⟩
  obtain ⟨R, ρ, st, S, E, h⟩ := h
  exact h σ R H (.ref c) none .refl S E ⟨gC, .inl ⟨rfl, rfl⟩⟩
/-! ### try: .. except C as e: .. -/
def unI (i : Nat) : SRes → SRes
  | .nx ρ st => .nx (ρ.set i none) st
  | .rt d st => .rt d st
  | .bk ρ st => .bk (ρ.set i none) st
  | .ct ρ st => .ct (ρ.set i none) st
  | _ => .bad
/-- the suite told by where the error lies, its class, its dict: all that comes of it is the same wherever it lies -/
noncomputable def sTryAs (body : SM) (hit : Str → Option Bool) (i : Nat) (suite : Addr → Value → Option Addr → SM) : SM := fun ρ st =>
  match body ρ st with
  | .exc x ρ' st' => match hit x.cls with
    | some true => if h : ∃ r, ∀ a cls d, (x.flds = [] → d = none) → unI i (suite a cls d (ρ'.set i (some (.err (.ref a) cls d x))) st') = r then h.choose else .bad
    | some false => .exc x ρ' st'
    | none => .bad
  | r => r
theorem tryAs_exc {body : SM} {hit : Str → Option Bool} {i : Nat} {suite : Addr → Value → Option Addr → SM} {ρ ρ' : Env} {st st' : Sto} {x : Exc} {r : SRes} (h1 : body ρ st = .exc x ρ' st') (h2 : hit x.cls = some true)
    (h3 : ∀ a cls d, (x.flds = [] → d = none) → unI i (suite a cls d (ρ'.set i (some (.err (.ref a) cls d x))) st') = r) : sTryAs body hit i suite ρ st = r := by
  have h : ∃ r, ∀ a cls d, (x.flds = [] → d = none) → unI i (suite a cls d (ρ'.set i (some (.err (.ref a) cls d x))) st') = r := ⟨r, h3⟩
  unfold sTryAs
  rw [h1]
  dsimp only
  rw [h2]
  dsimp only
  rw [dif_pos h]
  exact (h.choose_spec 0 .none none fun _ => rfl).symm.trans (h3 0 .none none fun _ => rfl)
theorem tryAs_nx {body : SM} {hit : Str → Option Bool} {i : Nat} {suite : Addr → Value → Option Addr → SM} {ρ ρ' : Env} {st st' : Sto} (h1 : body ρ st = .nx ρ' st') : sTryAs body hit i suite ρ st = .nx ρ' st' := by
  unfold sTryAs
  rw [h1]
theorem tryAs_rt {body : SM} {hit : Str → Option Bool} {i : Nat} {suite : Addr → Value → Option Addr → SM} {ρ : Env} {st st' : Sto} {d : D} (h1 : body ρ st = .rt d st') : sTryAs body hit i suite ρ st = .rt d st' := by
  unfold sTryAs
  rw [h1]
theorem tryAs_pass {body : SM} {hit : Str → Option Bool} {i : Nat} {suite : Addr → Value → Option Addr → SM} {ρ ρ' : Env} {st st' : Sto} {x : Exc} (h1 : body ρ st = .exc x ρ' st') (h2 : hit x.cls = some false) : sTryAs body hit i suite ρ st = .exc x ρ' st' := by
  unfold sTryAs
  rw [h1]
  dsimp only
  rw [h2]
theorem PostS.unI {K : PySem.W.Frag} {mg : Str → Option Value} {R : Rg} {H : Hp} {st : Sto} {r : SRes} {i : Nat} {D : Ends} {W : WX} (h : PostS K mg R H st (unI i r) D W) :
    PostS K mg R H st r { nx := fun σ' H' => D.nx (σ'.set i none) H', rt := D.rt, bk := fun σ' H' => D.bk (σ'.set i none) H', ct := fun σ' H' => D.ct (σ'.set i none) H' } W0 := by
  cases r with
  | nx ρ st' => exact fun σ' R' H' e s q => h _ R' H' e s (q.unset i)
  | rt d st' => exact h
  | bk ρ st' => exact fun σ' R' H' e s q => h _ R' H' e s (q.unset i)
  | ct ρ st' => exact fun σ' R' H' e s q => h _ R' H' e s (q.unset i)
  | exc x ρ st' => exact h.elim
  | bad => exact h.elim
/-- which errors a clause's class catches -/
def Hits (K : PySem.W.Frag) (mg : Str → Option Value) (c : Value) (hit : Str → Option Bool) : Prop := ∀ x b cls, hit x = some b → mg x = some cls → PySem.W.exmOne K cls c = some b
theorem evs_tryAs {x n : Str} {c : Value} {i : Nat} {body suite : List Stmt} {b0 : Stmt} {np : Pos} {mb : SM} {hit : Str → Option Bool} {sm : Addr → Value → Option Addr → SM} (hs : X.stack = X.env :: X.outer) (hf : X.env.frame = some X.env.locals)
    (hN : X.N.Nodup) (hi : X.N[i]? = some n) (hln : X.env.kindOf n = some .local) (hc : Names X x c) (C : GC X W k) (hh : Hits X.K X.mg c hit)
    (hb : ∀ (W' : WX) (pn : List (Addr × Obj)) (xe : Value → Shared → Prop), GC (X.tr pn xe) W' k → PassesOwn (model X.prog X.w) X.A X.env xe → EVSs (X.tr pn xe) W' body mb)
    (hsu : ∀ (a : Addr) (oe : Obj) (cls : Value) (d : Option Addr) (pn : List (Addr × Obj)), Zc cls d oe → (∃ vs, oe.data = .fields vs) → EVSs (X.suite a ((a, oe) :: pn)) W0 (b0 :: suite) (sm a cls d)) :
    EVS X W (.Try body [.ExceptHandler (some (.Name x np)) (some n) (b0 :: suite) pos'] [] [] pos) (sTryAs mb hit i sm) := by
  refine ⟨PS.imp (ps_try_as (tb := fun W' => tS X.K X.mg W' mb) (ts := fun a cls d => tS X.K X.mg W0 (sm a cls d)) (Wout := W) hs hf hN hi hln hc C.tk
    (fun W' pn xe tk po => (hb W' pn xe ⟨C.room, C.gd, tk⟩ po).ps) (fun a oe cls d pn hz hv => (hsu a oe cls d pn hz hv).ps)) fun D σ H h => ?_⟩
  obtain ⟨R, ρ, st, S, E, h⟩ := h
  refine ⟨R, ρ, st, S, E, ?_⟩
  unfold sTryAs at h
  cases z : mb ρ st with
  | nx ρ' st' => rw [z] at h; exact h
  | rt d st' => rw [z] at h; exact h
  | bk ρ' st' => rw [z] at h; exact h
  | ct ρ' st' => rw [z] at h; exact h
  | bad => rw [z] at h; exact h
  | exc y ρ' st' =>
    rw [z] at h
    dsimp only at h
    intro σ' R' H' cls dx e' s' q ex
    cases hy : hit y.cls with
    | none => rw [hy] at h; exact h.elim
    | some b =>
      rw [hy] at h
      refine ⟨b, hh _ _ _ hy ex.1, fun hb1 a na => ?_, fun hb0 => ?_⟩
      · subst hb1
        dsimp only at h
        by_cases hr : ∃ r, ∀ a cls d, (y.flds = [] → d = none) → unI i (sm a cls d (ρ'.set i (some (.err (.ref a) cls d y))) st') = r
        · rw [dif_pos hr] at h
          have e := hr.choose_spec a cls dx fun z => by
            rcases ex.2 with ⟨_, q⟩ | ⟨_, _, nf, _⟩
            · exact q
            · exact absurd z nf
          rw [← e] at h
          exact ⟨R', _, st', s', q.set i (show Dv X.K X.mg R' st' H' (.ref a) (.err (.ref a) cls dx y) from ⟨rfl, ex⟩), PostS.unI (PostS.shift s' e' h)⟩
        · rw [dif_neg hr] at h
          exact h.elim
      · subst hb0
        exact h σ' R' H' cls dx e' s' q ex
/-! ### the caught error: isinstance, its fields -/
/-- a class as a value -/
def clsD (mg : Str → Option Value) : D → Value → Prop
  | .glob y, u => mg y = some u
  | .raw (.ty T), u => u = .type T
  | _, _ => False
noncomputable def dIsE (a : Addr) (cls : Value) (d : Option Addr) (isa : Str → D → Option Bool) : List D → M D
  | [.err v cls' d' x, c] => fun st => if v = .ref a ∧ cls' = cls ∧ d' = d ∧ d = none then match isa x.cls c with | some b => .ok (.dat (.bool b)) st | none => .bad else .bad
  | _ => M.bad
/-- what is known of the classes: isinstance(error of x, c) -/
def Isa (K : PySem.W.Frag) (mg : Str → Option Value) (isa : Str → D → Option Bool) : Prop :=
  ∀ x c b, isa x c = some b → ∃ (D0 : Addr) (cv : Value), mg x = some (.ref D0) ∧ ExcC K D0 ∧ PySem.W.kitOne K (.ref D0) cv = some b ∧ clsD mg c cv
theorem ev_isE {a : Addr} {oe : Obj} {cls : Value} {d : Option Addr} {pn : List (Addr × Obj)} {isa : Str → D → Option Bool} {e : Expr} {es : List Expr} {ms : Env → M (List D)} (hz : Zc cls d oe) (hf : ∃ vs, oe.data = .fields vs) (hi : Isa X.K X.mg isa) (hm : X.mg "isinstance" = none)
    (ha : EVA (X.suite a ((a, oe) :: pn)) W (e :: es) ms) (hg : Gl (X.suite a ((a, oe) :: pn)) "isinstance" := by exact rfl)
    (he : starEach (e :: es) X.env = (false, eval e X.env) :: starEach es X.env := by rfl) (hpl : (backTo pos (starEach es X.env)).any (·.1) = false := by rfl) :
    EV (X.suite a ((a, oe) :: pn)) W (.Call (.Name "isinstance" p) (e :: es) [] pos) (mC (dIsE a cls d isa) ms) := by
  have hcall : CallR (X.suite a ((a, oe) :: pn)) (.builtin "isinstance") (fun xs H Q => ∃ D0 : Addr, cls = .ref D0 ∧ ExcC X.K D0 ∧ d = none ∧ rIsE X.K D0 a xs H Q) := fun pins s σ H xs us Q I r ⟨D0, e1, EC, e2, h⟩ => by
    subst e1 e2
    exact call_isE EC hz hf pins s σ H xs us Q I r h
  refine ev_callB hcall (f := dIsE a cls d isa) (fun R H st vs ds Q W' S hD h => ?_) hg hm boot_isinstance ha (by decide) (by decide) he hpl
  unfold dIsE at h
  split at h
  · rename_i v cls' d' x c
    cases hD with
    | cons h1 hD =>
      cases hD with
      | cons h2 hD =>
        cases hD
        obtain ⟨rfl, ex⟩ := h1
        split at h
        · rename_i hc
          obtain ⟨rfl, rfl, e3, e4⟩ := hc
          cases hb : isa x.cls c with
          | none => rw [hb] at h; exact h.elim
          | some b =>
            rw [hb] at h
            obtain ⟨D1, cv, m1, EC, k1, cd⟩ := hi _ _ _ hb
            have q : X.mg x.cls = some cls' := ex.1
            have e5 : cls' = .ref D1 := by
              rw [m1] at q
              exact (Option.some.inj q).symm
            refine ⟨D1, e5, EC, e4, _, cv, b, rfl, fun u r => ?_, k1, h.okR S (Dv.bl b)⟩
            cases c with
            | glob y =>
              obtain ⟨a2, g2, e6⟩ := h2
              have g1 : X.mg y = some cv := cd
              have g2' : X.mg y = some (.ref a2) := g2
              rw [g1] at g2'
              cases g2'
              rw [e6] at r
              exact r
            | raw t =>
              have e6 : _ = t := h2
              rw [e6] at r
              cases t with
              | ty T =>
                have e2 : cv = .type T := cd
                rw [e2]
                exact r
              | _ => exact cd.elim
            | _ => exact cd.elim
        · exact h.elim
  · exact h.elim
end
end Ev
set_option Elab.async false
set_option linter.all false
set_option maxRecDepth 100000
set_option maxHeartbeats 4000000
/-! Ev14: targets, defs that call themselves, methods as statements. -/
namespace Ev
open PySem PySem.Spec PyProof.Rows L2
open Classical

/-! ### target = value -/
def sAsg (t : Tg) (m : Env → M D) : SM := sBind m fun d ρ st => match t d ρ with | some ρ' => .nx ρ' st | none => .bad
section
variable {X : Cx} {W : WX} {k : Nat} {pos : Pos} {e : Expr} {me : Env → M D}
theorem evs_asg {tg : Expr} {g : TG} {t : Tg} {sl : List Nat} (hg : EVG X tg g t sl) (he : EV X W e me) (hs : swapsWithSole [tg] e pos.line X.env = pure false := by rfl) (hw : swappedStores [tg] e X.env = pure none := by rfl)
    (h1 : (assignEach [tg] X.env).map (·.2) = [assign tg X.env] := by rfl) : EVS X W (.Assign [tg] e pos) (sAsg t me) := by
  refine ⟨PS.imp (ps_asg he.pe hg.pg hs hw h1) fun D σ H h => ?_⟩
  obtain ⟨R, ρ, st, S, E, h⟩ := h
  refine ⟨R, ρ, st, S, E, (PostS.bind (Rel := Dv X.K X.mg) E h).monoQ fun v H1 ⟨R1, st1, d, S1, E1, D1, h1⟩ => ?_⟩
  cases z : t d ρ with
  | none => rw [z] at h1; exact h1.elim
  | some ρ' =>
    rw [z] at h1
    exact hg.ok R1 st1 H1 σ v d ρ ρ' _ E1 D1 z fun σ' E' _ => h1 σ' R1 H1 .refl S1 E'
/-- a, b = x, y with plain names -/
def sPar (i j : Nat) (ms : Env → M (List D)) : SM := sBind ms fun ds ρ st => match ds with
  | [x, y] => .nx ((ρ.set i (some x)).set j (some y)) st
  | _ => .bad
theorem evs_par {i j : Nat} {x y : Str} {a b : Expr} {ms : Env → M (List D)} {px py pt : Pos} {kt k2 pt2} (hc : X.calm = true) (hN : X.N.Nodup) (hi : X.N[i]? = some x) (hj : X.N[j]? = some y) (hij : i ≠ j)
    (hx : X.env.scope.names.lookup x = some .local) (hy : X.env.scope.names.lookup y = some .local) (ha : EVA X W [a, b] ms)
    (hw : swappedStores [.Tuple [.Name x px, .Name y py] kt pt] (.Tuple [a, b] k2 pt2) X.env = pure (some [x, y]) := by rfl)
    (hs : swapsWithSole [.Tuple [.Name x px, .Name y py] kt pt] (.Tuple [a, b] k2 pt2) pos.line X.env = pure false := by rfl) :
    EVS X W (.Assign [.Tuple [.Name x px, .Name y py] kt pt] (.Tuple [a, b] k2 pt2) pos) (sPar i j ms) := by
  refine ⟨PS.imp (ps_par hc hN hi hj hij hx hy ha.pa hw hs) fun D σ H h => ?_⟩
  obtain ⟨R, ρ, st, S, E, h⟩ := h
  refine ⟨R, ρ, st, S, E, (PostS.bind (Rel := DvA X.K X.mg) E h).monoQ fun vs H1 ⟨R1, st1, ds, S1, E1, D1, h1⟩ => ?_⟩
  cases D1 with
  | nil => exact h1.elim
  | cons p q =>
    cases q with
    | nil => exact h1.elim
    | cons p2 q =>
      cases q with
      | nil => exact ⟨_, _, rfl, h1 _ R1 H1 .refl S1 ((E1.set i p).set j p2)⟩
      | cons _ _ => exact h1.elim
end
/-! ### a def that calls itself: so many times at most -/
noncomputable def recB (give : Nat → D → Sto → Res D) (n np : Nat) (body : (List D → M D) → SM) : Nat → List D → M D
  | 0 => fun _ => M.bad
  | k + 1 => runBody give n np (body (recB give n np body k))
theorem fnN_rec {P : Program} {w : World} {K : PySem.W.Frag} {mg : Str → Option Value} {base : Heap} {x : Str} {st : Stmt} {N ps : List Str} {j : Nat} {body : (List D → M D) → SM} {give : Nat → D → Sto → Res D} (hgive : GiveOk give) (D1 : Df K mg x st ps) (S : FnScope N ps (defScope st))
    (hb : ∀ (k : Nat) (F : List D → M D), FnN P w K mg base (j + k) x ps F → ∀ (f : Addr) (cdv : Value) (A : Around) (outer : List PySem.Env) (s : Shared) (H : Hp) (E : XK), GC (cxOf (L2.CX P w) P w K mg base N x (defScope st) f cdv A outer s H E) (fun c d _ H' => E c d H') (j + k) →
      EVSs (cxOf (L2.CX P w) P w K mg base N x (defScope st) f cdv A outer s H E) (fun c d _ H' => E c d H') (defBody st) (body F)) :
    ∀ k : Nat, FnN P w K mg base (j + k) x ps (recB give N.length ps.length body k)
  | 0 => by
    obtain ⟨f, fd, F, hm, b⟩ := D1
    refine ⟨f, fd, ⟨fun ds st _ => rfl, fun A outer s H args us vs Q E _ _ _ _ _ hsp => ?_⟩, hm, F.kp, b, ?_⟩
    · obtain ⟨R, sto, ds, _, _, hp⟩ := hsp
      exact hp.elim
    · obtain ⟨oc, od, kV, doc, pm, an, cdv, ct, osl, _, lk, _⟩ := F.ex
      exact ⟨oc, od, osl, lk⟩
  | k + 1 => fnN_of hgive D1 S fun f cdv A outer s H E C => hb k _ (fnN_rec hgive D1 S hb k) f cdv A outer s H E C
/-! ### in, not in -/
def inD (b : Bool) : PyData → PyData → M D
  | d, .list ds => if SeqAt.shaped d = true ∧ SeqAt.shaped (.list ds) = true then retB (b != ds.any fun z => PyData.eqv z d) else M.bad
  | d, .tuple ds => if SeqAt.shaped d = true ∧ SeqAt.shaped (.tuple ds) = true then retB (b != ds.any fun z => PyData.eqv z d) else M.bad
  | _, _ => M.bad
def dIn : D → D → M D := asData (inD false)
def dNin : D → D → M D := asData (inD true)
def rInA (K : PySem.W.Frag) (b : Bool) : R2 := fun x y H Q => ∃ d c ds, (c = .list ds ∨ c = .tuple ds) ∧ Dp K H x d ∧ Dp K H y c ∧ SeqAt.shaped d = true ∧ SeqAt.shaped c = true ∧ Q (.bl (b != ds.any fun z => PyData.eqv z d)) H
theorem room_in {A : Around} {d : PyData} {n : Nat} (sd : SeqAt.shaped d = true) (hu : A.units + 128 < cLine) : A.units + 1 + min n d.depth < cLine := by
  have h1 := SeqAt.depth_of_shaped sd
  have h2 : min n d.depth ≤ d.depth := Nat.min_le_right _ _
  omega
theorem op_inA {X : Cx} (hu : X.A.units + 128 < cLine) : OpR X (compareOp .In) (rInA X.K false) := by
  intro pins s σ H x y v u Q I rx ry h
  obtain ⟨d, c, ds, hc, hd, he, sd, se, q⟩ := h
  obtain ⟨as, r1⟩ := Dp.reads I d x v hd rx
  obtain ⟨bs, r2⟩ := Dp.reads I c y u he ry
  rw [Bool.false_bne] at q
  rcases hc with rfl | rfl
  · exact SeqAt.in_list_reads r2 r1 (SeqAt.canLay_of_shaped se) (SeqAt.canLay_of_shaped sd) (room_in sd hu) ⟨.bl _, H, I, rfl, q⟩
  · exact SeqAt.in_tuple_reads r2 r1 (SeqAt.canLay_of_shaped se) (SeqAt.canLay_of_shaped sd) (room_in sd hu) ⟨.bl _, H, I, rfl, q⟩
theorem op_ninA {X : Cx} (hu : X.A.units + 128 < cLine) : OpR X (compareOp .NotIn) (rInA X.K true) := by
  intro pins s σ H x y v u Q I rx ry h
  obtain ⟨d, c, ds, hc, hd, he, sd, se, q⟩ := h
  obtain ⟨as, r1⟩ := Dp.reads I d x v hd rx
  obtain ⟨bs, r2⟩ := Dp.reads I c y u he ry
  rw [Bool.true_bne] at q
  rcases hc with rfl | rfl
  · exact SeqAt.notIn_list_reads r2 r1 (SeqAt.canLay_of_shaped se) (SeqAt.canLay_of_shaped sd) (room_in sd hu) ⟨.bl _, H, I, rfl, q⟩
  · exact SeqAt.notIn_tuple_reads r2 r1 (SeqAt.canLay_of_shaped se) (SeqAt.canLay_of_shaped sd) (room_in sd hu) ⟨.bl _, H, I, rfl, q⟩
theorem ok_inA {K : PySem.W.Frag} {mg : Str → Option Value} (b : Bool) : OpOk K mg (rInA K b) (asData (inD b)) := by
  intro R H st v w d e Q W S h1 h2 h
  obtain ⟨x, y, e1, e2, h⟩ := okA h
  unfold inD at h
  split at h
  · split at h
    · rename_i z
      exact ⟨x, _, _, .inl rfl, (h1.data S e1).dp (SeqAt.canLay_of_shaped z.1), (h2.data S e2).dp (SeqAt.canLay_of_shaped z.2), z.1, z.2, h.okR S (Dv.bl _)⟩
    · exact h.elim
  · split at h
    · rename_i z
      exact ⟨x, _, _, .inr rfl, (h1.data S e1).dp (SeqAt.canLay_of_shaped z.1), (h2.data S e2).dp (SeqAt.canLay_of_shaped z.2), z.1, z.2, h.okR S (Dv.bl _)⟩
    · exact h.elim
  · exact h.elim
section
variable {X : Cx} {W : WX} {k : Nat} {pos : Pos} {a b : Expr} {ma mb : Env → M D}
theorem x_in (C : GC X W k) (ha : EV X W a ma) (hb : EV X W b mb) (hm : behindInMarks .In b = false := by rfl) : EV X W (.Compare a [.In] [b] pos) (m2 dIn ma mb) := ev_cmp (op_inA C.u128) (ok_inA false) hm ha hb
theorem x_nin (C : GC X W k) (ha : EV X W a ma) (hb : EV X W b mb) (hm : behindInMarks .NotIn b = false := by rfl) : EV X W (.Compare a [.NotIn] [b] pos) (m2 dNin ma mb) := ev_cmp (op_ninA C.u128) (ok_inA true) hm ha hb
theorem t_in (C : GC X W k) (ha : EV X W a ma) (hb : EV X W b mb) (hm : behindInMarks .In b = false := by rfl) : EVT X W (.Compare a [.In] [b] pos) (mT (m2 dIn ma mb)) := evt_cmp (op_inA C.u128) (ok_inA false) hm ha hb
theorem t_nin (C : GC X W k) (ha : EV X W a ma) (hb : EV X W b mb) (hm : behindInMarks .NotIn b = false := by rfl) : EVT X W (.Compare a [.NotIn] [b] pos) (mT (m2 dNin ma mb)) := evt_cmp (op_ninA C.u128) (ok_inA true) hm ha hb
theorem x_isN (ha : EV X W a ma) (hb : EV X W b mb) : EV X W (.Compare a [.Is] [b] pos) (m2 isN ma mb) := ev_cmp op_isA ok_isN (nomark _) ha hb
theorem t_isN (ha : EV X W a ma) (hb : EV X W b mb) : EVT X W (.Compare a [.Is] [b] pos) (mT (m2 isN ma mb)) := evt_cmp op_isA ok_isN (nomark _) ha hb
theorem x_isNotN (ha : EV X W a ma) (hb : EV X W b mb) : EV X W (.Compare a [.IsNot] [b] pos) (m2 isNotN ma mb) := ev_cmp op_notA ok_isNotN (nomark _) ha hb
theorem t_isNotN (ha : EV X W a ma) (hb : EV X W b mb) : EVT X W (.Compare a [.IsNot] [b] pos) (mT (m2 isNotN ma mb)) := evt_cmp op_notA ok_isNotN (nomark _) ha hb
/-- a tuple that stands at the module's top -/
def KTup (K : PySem.W.Frag) (mg : Str → Option Value) (x : Str) (ds : List PyData) : Prop := ∃ a, mg x = some (.ref a) ∧ ∀ U H, Pd K U H (.ref a) (.tuple ds)
theorem ev_gtup {x : Str} {ds : List PyData} (hg : Gl X x) (T : KTup X.K X.mg x ds) (hd : (x == ("__debug__" : Str)) = false := by decide) : EV X W (.Name x pos) (ct (.dat (.tuple ds))) := by
  obtain ⟨a, hm, p⟩ := T
  exact ⟨PE.imp (pe_glob hg hm (v := .ref a) rfl hd) fun _ _ _ h => tC_of (X := X) (d := .dat (.tuple ds)) (fun R st H => p _ _) h⟩
end
section
variable {X : Cx} {W : WX} {o e : Expr} {es : List Expr} {mo : Env → M D} {ms : Env → M (List D)} {apos cpos : Pos}
theorem m_append (ho : EV X W o mo) (ha : EVA X W (e :: es) ms)
    (hbase : attributeBase o "append" X.env (eval o X.env) = eval o X.env := by rfl)
    (hfew : ((backTo cpos (starEach (e :: es) X.env)).all (fun x => !x.1) && (backToKw cpos (keywordEach [] X.env)).all (fun x => x.1.isSome)
      && decide ((e :: es).length + ([] : List Keyword).length + (if ([] : List Keyword).isEmpty then 0 else 1) < 30)) = true := by rfl)
    (hline : (apos.endLine == cpos.line) = true := by rfl) (hs : starEach (e :: es) X.env = (false, eval e X.env) :: starEach es X.env := by rfl) (hplain : (backTo cpos (starEach es X.env)).any (·.1) = false := by rfl) :
    EV X W (.Call (.Attribute o "append" apos) (e :: es) [] cpos) (mMt dAppend mo ms) := ev_mt PySem.F.plainAttrs_list PySem.F.slot_list_append PySem.F.type_list_append mt_append ok_append ho ha hbase hfew hline hs hplain
theorem m_extend (ho : EV X W o mo) (ha : EVA X W (e :: es) ms)
    (hbase : attributeBase o "extend" X.env (eval o X.env) = eval o X.env := by rfl)
    (hfew : ((backTo cpos (starEach (e :: es) X.env)).all (fun x => !x.1) && (backToKw cpos (keywordEach [] X.env)).all (fun x => x.1.isSome)
      && decide ((e :: es).length + ([] : List Keyword).length + (if ([] : List Keyword).isEmpty then 0 else 1) < 30)) = true := by rfl)
    (hline : (apos.endLine == cpos.line) = true := by rfl) (hs : starEach (e :: es) X.env = (false, eval e X.env) :: starEach es X.env := by rfl) (hplain : (backTo cpos (starEach es X.env)).any (·.1) = false := by rfl) :
    EV X W (.Call (.Attribute o "extend" apos) (e :: es) [] cpos) (mMt dExtend mo ms) := ev_mt PySem.F.plainAttrs_list PySem.F.slot_list_extend PySem.F.type_list_extend mt_extend ok_extend ho ha hbase hfew hline hs hplain
end
/-! ### bool(x) -/
def dBool : D → M D
  | .dat (.int i) => retB (i != 0)
  | .dat (.bool b) => retB b
  | _ => M.bad
theorem ok_bool {K : PySem.W.Frag} {mg : Str → Option Value} : CallOk K mg (fun xs H Q => (∃ i, xs = [.int i] ∧ Q (.bl (i != 0)) H) ∨ ∃ k, xs = [.bl k] ∧ Q (.bl k) H) (on1 dBool) := by
  intro R H st vs ds Q W S hd h
  obtain ⟨v, d, rfl, rfl, h1, h⟩ := ok1 hd h
  unfold dBool at h
  split at h
  · cases h1
    exact .inl ⟨_, rfl, h.okR S (Dv.bl _)⟩
  · cases h1
    exact .inr ⟨_, rfl, h.okR S (Dv.bl _)⟩
  · exact h.elim
section
variable {X : Cx} {W : WX} {e : Expr} {es : List Expr} {ms : Env → M (List D)} {pos p : Pos}
theorem n_bool (hm : X.mg "bool" = none) (ha : EVA X W (e :: es) ms) (hg : Gl X "bool" := by exact rfl) (he : starEach (e :: es) X.env = (false, eval e X.env) :: starEach es X.env := by rfl) (hpl : (backTo pos (starEach es X.env)).any (·.1) = false := by rfl) :
    EV X W (.Call (.Name "bool" p) (e :: es) [] pos) (mC (on1 dBool) ms) := ev_callTy call_bool1 ok_bool hg hm boot_bool ha (by decide) (by decide) he hpl
end
end Ev
set_option Elab.async false
set_option linter.all false
set_option maxRecDepth 100000
set_option maxHeartbeats 4000000
/-! Ev15: defs with parameters by name, with defaults. -/
namespace Ev
open PySem PySem.Spec PyProof.Rows L2
open Classical

/-- the def st stands under its name (nothing said of how its arguments bind) -/
def DfV (K : PySem.W.Frag) (mg : Str → Option Value) (x : Str) (st : Stmt) : Prop := ∃ (f : Addr) (fd : FuncData), Fun K x x st f fd ∧ mg x = some (.ref f)
def FnV (P : Program) (w : World) (K : PySem.W.Frag) (mg : Str → Option Value) (base : Heap) (k : Nat) (x : Str) (ps : List Str) (F : List D → M D) : Prop :=
  ∃ (f : Addr) (fd : FuncData), FnG P w K mg base k f fd ps F ∧ mg x = some (.ref f) ∧ PySem.W.keepIn K (.ref f) = true ∧ ∃ oc od osl, K.lookup f = some ⟨oc, od, .func fd, osl⟩
/-- n values by their places, ks by their names: how they bind -/
def Bn (K : PySem.W.Frag) (mg : Str → Option Value) (x : Str) (ps : List Str) (n : Nat) (ks : List Str) (gV : List V → List V → List V) : Prop :=
  ∀ (f : Addr) (fd : FuncData) (oc : Value) (od : Option Addr) (osl : Array (Option Value)), mg x = some (.ref f) → K.lookup f = some ⟨oc, od, .func fd, osl⟩ → ∃ g, KBn K fd ps n ks g gV
/-- the same of what the values stand for -/
def BnD (n m : Nat) (gV : List V → List V → List V) (gD : List D → List D → List D) : Prop :=
  ∀ (K : PySem.W.Frag) (mg : Str → Option Value) (R : Rg) (st : Sto) (H : Hp) (vs zs : List V) (ds es : List D), vs.length = n → zs.length = m → DvA K mg R st H vs ds → DvA K mg R st H zs es → DvA K mg R st H (gV vs zs) (gD ds es)
section
variable {P : Program} {w : World} {K : PySem.W.Frag} {mg : Str → Option Value} {base : Heap} {x : Str} {st : Stmt} {N ps : List Str} {k : Nat} {body : SM}
theorem fnV_of {give : Nat → D → Sto → Res D} (hgive : GiveOk give) (D1 : DfV K mg x st) (S : FnScope N ps (defScope st))
    (hb : ∀ (f : Addr) (cdv : Value) (A : Around) (outer : List PySem.Env) (s : Shared) (H : Hp) (E : XK), GC (cxOf (L2.CX P w) P w K mg base N x (defScope st) f cdv A outer s H E) (fun c d _ H' => E c d H') k →
      EVSs (cxOf (L2.CX P w) P w K mg base N x (defScope st) f cdv A outer s H E) (fun c d _ H' => E c d H') (defBody st) body) :
    FnV P w K mg base (k + 1) x ps (runBody give N.length ps.length body) := by
  obtain ⟨f, fd, F, hm⟩ := D1
  refine ⟨f, fd, fnG_of hgive F S (fun cdv A outer s H E hr hg => hb f cdv A outer s H E ⟨hr, hg, ?_⟩), hm, F.kp, ?_⟩
  · exact takes_of rfl rfl rfl rfl
  · obtain ⟨oc, od, kV, doc, pm, an, cdv, ct, osl, _, lk, _⟩ := F.ex
    exact ⟨oc, od, osl, lk⟩
theorem FnN.v {F : List D → M D} (G : FnN P w K mg base k x ps F) : FnV P w K mg base k x ps F :=
  let ⟨f, fd, a, b, c, _, e⟩ := G
  ⟨f, fd, a, b, c, e⟩
end
def mK (F : List D → M D) (gD : List D → List D → List D) (ms mk : Env → M (List D)) : Env → M D := fun ρ => M.bind (ms ρ) fun ds => M.bind (mk ρ) fun es => F (gD ds es)
structure EVK (X : Cx) (W : WX) (kws : List Keyword) (m : Env → M (List D)) : Prop where
  pk : PK X kws (tMA X.K X.mg W m)
section
variable {X : Cx} {W : WX} {k j n : Nat} {ps ks : List Str} {F : List D → M D} {x : Str} {p pos : Pos} {e : Expr} {es : List Expr} {kws : List Keyword} {ms mk : Env → M (List D)} {gV : List V → List V → List V} {gD : List D → List D → List D}
/-- f(e, .., k = v, ..) -/
theorem ev_callK (G : FnV X.prog X.w X.K X.mg X.base j x ps F) (B : Bn X.K X.mg x ps n ks gV) (BD : BnD n ks.length gV gD) (C : GC X W k) (h : j ≤ k) (hg : Gl X x) (hna : ∀ ρ st ds st', ms ρ st = .ok ds st' → ds.length = n) (hnk : ∀ ρ st ds st', mk ρ st = .ok ds st' → ds.length = ks.length)
    (ha : EVA X W (e :: es) ms) (hkw : EVK X W kws mk) (hall : (backToKw pos (keywordEach kws X.env)).all (·.1.isSome) = true := by rfl) (hks : (backToKw pos (keywordEach kws X.env)).filterMap (·.1) = ks := by rfl)
    (hdb : (x == ("__debug__" : Str)) = false := by decide) (he : starEach (e :: es) X.env = (false, eval e X.env) :: starEach es X.env := by rfl)
    (hpl : ((backTo pos (starEach (e :: es) X.env)).any (·.1) || (backToKw pos (keywordEach kws X.env)).any (·.1.isNone)) = false := by rfl) :
    EV X W (.Call (.Name x p) (e :: es) kws pos) (mK F gD ms mk) := by
  obtain ⟨f, fd, a, hm, hk, oc, od, osl, lk⟩ := G
  obtain ⟨g, hb⟩ := B f fd oc od osl hm lk
  refine ⟨⟨fun pins s σ H Q I h0 => ?_⟩⟩
  refine wpAny_Call_Name_kw (ld_glob I hg hm ?_ hdb)
  obtain ⟨R, ρ, st, S, E, h0⟩ := h0
  have h1 := Post.bind (Rel := DvA X.K X.mg) (Rel2 := Dv X.K X.mg) h0
  -- the values by their places, then those by their names
  refine PySem.W.callWith_KW (h₀ := X.base) I.ok.mod.kin hk hall (thn (ha.pa.run pos pins s σ H (fun vs H1 => tMA X.K X.mg W mk σ H1 fun zs H2 => vs.length = n ∧ zs.length = ks.length ∧ SpF X.K X.mg F (gV vs zs) H2 Q (fun c d H' => W c d σ H')) I ⟨R, ρ, st, S, E, ?_⟩) fun us s1 ⟨vs, H1, I1, r, q⟩ => ?_) hpl he
  · cases z : ms ρ st with
    | bad => rw [z] at h1; exact h1
    | exc y st' => rw [z] at h1; exact h1
    | ok ds st1 =>
      have ld := hna _ _ _ _ z
      rw [z] at h1
      intro vs R1 H1 x1 S1 D1
      obtain ⟨R1', st1', ds', x1', S1', D1', h2⟩ := h1 vs R1 H1 x1 S1 D1
      have h3 := Post.bind (Rel := DvA X.K X.mg) (Rel2 := Dv X.K X.mg) h2
      refine ⟨R1', ρ, st1', S1', E.ext x1', ?_⟩
      cases z2 : mk ρ st1' with
      | bad => rw [z2] at h3; exact h3
      | exc y st' => rw [z2] at h3; exact h3
      | ok es2 st2 =>
        have lk2 := hnk _ _ _ _ z2
        rw [z2] at h3
        intro zs R2 H2 x2 S2 D2
        obtain ⟨R2', st2', es', x2', S2', D2', h4⟩ := h3 zs R2 H2 x2 S2 D2
        have lv : vs.length = n := by rw [D1.len]; exact ld
        have lz : zs.length = ks.length := by rw [D2.len]; exact lk2
        exact ⟨lv, lz, R2', st2', _, S2', BD _ _ _ _ _ _ _ _ _ lv lz (D1'.ext x2') D2', h4⟩
  · refine thn (hkw.pk.run pos pins s1 σ H1 _ I1 q) fun ws s2 ⟨zs, H2, I2, rz, l1, l2, q2⟩ => ⟨I2.kIn, ?_⟩
    rw [hks]
    have r2 := hb.rel r rz
    refine wpAny_call (codeAny_mono (runG a (C.mono h) I2 (hb.to s2 us ws I2.kIn (r.length.symm.trans l1) (rz.length.symm.trans l2)) r2 q2) fun r s' hq => ?_)
    cases r with
    | error e => exact hq
    | ok fl =>
      cases fl with
      | ret u => exact hq
      | next => exact hq.elim
      | brk => exact hq.elim
      | cont => exact hq.elim
end
/-- how many values a list of arguments gives -/
def AL (ms : Env → M (List D)) (n : Nat) : Prop := ∀ ρ st ds st', ms ρ st = .ok ds st' → ds.length = n
theorem al_nil : AL aNil 0 := fun ρ st ds st' h => by
  cases h
  rfl
theorem al_cons {m : Env → M D} {r : Env → M (List D)} {n : Nat} (h : AL r n) : AL (aCons m r) (n + 1) := fun ρ st ds st' e => by
  unfold aCons M.bind at e
  cases z : m ρ st with
  | bad => rw [z] at e; cases e
  | exc x s1 => rw [z] at e; cases e
  | ok d s1 =>
    rw [z] at e
    dsimp only at e
    cases z2 : r ρ s1 with
    | bad => rw [z2] at e; cases e
    | exc x s2 => rw [z2] at e; cases e
    | ok es s2 =>
      rw [z2] at e
      cases e
      rw [List.length_cons, h _ _ _ _ z2]
section
variable {X : Cx} {W : WX} {nm : Option Str} {kpos : Pos} {e : Expr} {kws : List Keyword} {me : Env → M D} {ms : Env → M (List D)}
theorem PK.imp {t u : TA} (h : PK X kws t) (q : ∀ σ H Q, u σ H Q → t σ H Q) : PK X kws u := ⟨fun pos pins s σ H Q I z => h.run pos pins s σ H Q I (q σ H Q z)⟩
theorem ek_nil : EVK X W [] aNil := by
  refine ⟨PK.imp pk_nil fun σ H Q h => ?_⟩
  obtain ⟨R, ρ, st, S, E, h⟩ := h
  exact h.okR S .nil
theorem ek_cons (ha : EV X W e me) (hr : EVK X W kws ms) : EVK X W (⟨nm, e, kpos⟩ :: kws) (aCons me ms) := by
  refine ⟨PK.imp (pk_cons ha.pe hr.pk) fun σ H Q h => ?_⟩
  obtain ⟨R, ρ, st, S, E, h⟩ := h
  refine ⟨R, ρ, st, S, E, (Post.bind (Rel := Dv X.K X.mg) (Rel2 := DvA X.K X.mg) h).monoQ fun v1 H1 ⟨R1, st1, d1, x1, S1, D1, h2⟩ => ?_⟩
  refine ⟨R1, ρ, st1, S1, E.ext x1, (Post.bind (Rel := DvA X.K X.mg) (Rel2 := DvA X.K X.mg) h2).monoQ fun vs H2 ⟨R2, st2, ds, x2, S2, D2, h4⟩ => ?_⟩
  exact h4.okR S2 (.cons (D1.ext x2) D2)
end
end Ev
set_option Elab.async false
set_option linter.all false
set_option maxRecDepth 100000
set_option maxHeartbeats 4000000
/-! Ev16: short words for try. -/
namespace Ev
open PySem PySem.Spec PyProof.Rows L2
open Classical
/-- the class x of the module catches just what hit tells -/
def Catch (K : PySem.W.Frag) (mg : Str → Option Value) (x : Str) (hit : Str → Option Bool) : Prop := ∃ c, mg x = some c ∧ Hits K mg c hit
section
variable {X : Cx} {W : WX} {k : Nat} {pos pos' p : Pos}
theorem evs_try1 {x n : Str} {i : Nat} {body suite : List Stmt} {b0 : Stmt} {np : Pos} {mb : SM} {hit : Str → Option Bool} {sm : Addr → Value → Option Addr → SM} (hs : X.stack = X.env :: X.outer) (hf : X.env.frame = some X.env.locals)
    (hN : X.N.Nodup) (hi : X.N[i]? = some n) (hln : X.env.kindOf n = some .local) (T : Catch X.K X.mg x hit) (hg : Gl X x) (C : GC X W k)
    (hb : ∀ (W' : WX) (pn : List (Addr × Obj)) (xe : Value → Shared → Prop), GC (X.tr pn xe) W' k → PassesOwn (model X.prog X.w) X.A X.env xe → EVSs (X.tr pn xe) W' body mb)
    (hsu : ∀ (a : Addr) (oe : Obj) (cls : Value) (d : Option Addr) (pn : List (Addr × Obj)), Zc cls d oe → (∃ vs, oe.data = .fields vs) → EVSs (X.suite a ((a, oe) :: pn)) W0 (b0 :: suite) (sm a cls d)) (hdb : (x == ("__debug__" : Str)) = false := by decide) :
    EVS X W (.Try body [.ExceptHandler (some (.Name x np)) (some n) (b0 :: suite) pos'] [] [] pos) (sTryAs mb hit i sm) := by
  obtain ⟨c, hm, hh⟩ := T
  exact evs_tryAs hs hf hN hi hln ⟨hg, hdb, .inl hm⟩ C hh hb hsu
/-- a class of Python's own, as a value -/
theorem ev_rawty {x : Str} {T : String} (hg : Gl X x) (hm : X.mg x = none) (hv : bootBuiltins x = some (.type T)) (hn : x ≠ "__name__" := by decide) (hd : (x == ("__debug__" : Str)) = false := by decide) : EV X W (.Name x pos) (ct (.raw (.ty T))) :=
  ⟨PE.imp (pe_bltn hg hm hv (v := .ty T) rfl hn hd) fun _ _ _ h => tC_of (X := X) (d := .raw (.ty T)) (fun _ _ _ => rfl) h⟩
/-- a class of the module, as a value -/
theorem ev_gcls {x : Str} (hg : Gl X x) (hm : ∃ f : Addr, X.mg x = some (.ref f)) (hd : (x == ("__debug__" : Str)) = false := by decide) : EV X W (.Name x pos) (ct (.glob x)) := by
  obtain ⟨f, hf⟩ := hm
  exact ev_gfun hg hf hd
end
@[simp] theorem dIsE_ap (a : Addr) (cls : Value) (isa : Str → D → Option Bool) (x : Exc) (c : D) (b : Bool) (st : Sto) (h : isa x.cls c = some b) : dIsE a cls none isa [.err (.ref a) cls none x, c] st = .ok (.dat (.bool b)) st := by
  show (if V.ref a = V.ref a ∧ cls = cls ∧ (none : Option Addr) = none ∧ (none : Option Addr) = none then _ else _) = _
  rw [if_pos ⟨rfl, rfl, rfl, rfl⟩, h]
theorem DvA.app {K : PySem.W.Frag} {mg : Str → Option Value} {R : Rg} {H : Hp} {st : Sto} : ∀ {vs : List V} {ds : List D} {ws : List V} {es : List D}, DvA K mg R st H vs ds → DvA K mg R st H ws es → DvA K mg R st H (vs ++ ws) (ds ++ es)
  | _, _, _, _, .nil, q => q
  | _, _, _, _, .cons p r, q => .cons p (DvA.app r q)
end Ev
set_option Elab.async false
set_option linter.all false
set_option maxRecDepth 100000
set_option maxHeartbeats 4000000
/-! Ev17: what the top has written: classes, tuples, defaults. -/
namespace Ev
open PySem PySem.Spec PyProof.Rows L2
open Classical
section
variable {K : PySem.W.Frag} {mg : Str → Option Value} {h : Heap}
def flatV : PyData → V
  | .int i => .int i
  | .str x => .str x
  | .bool b => .bl b
  | _ => .non
def flat : PyData → Bool
  | .int _ | .str _ | .bool _ | .none => true
  | _ => false
theorem flat_pd {U : Addr → Prop} {H : Hp} : ∀ {d : PyData}, flat d = true → Pd K U H (flatV d) d
  | .none, _ => .non
  | .bool b, _ => .bl b
  | .int i, _ => .int i
  | .str x, _ => .str x
theorem flat_pdA {U : Addr → Prop} {H : Hp} : ∀ {ds : List PyData}, ds.all flat = true → PdA K U H (ds.map flatV) ds
  | [], _ => .nil
  | d :: r, e => by
    rw [List.all_cons, Bool.and_eq_true] at e
    exact .cons (flat_pd e.1) (flat_pdA e.2)
theorem ktup_mk (X : K.In h) (G : h.Ns mainGlobals mg) {x : Str} {ds : List PyData} {ad : Addr} {dd : Option Addr} {its : Array Value} {n : Nat} {sl : Array (Option Value)} (a : PySem.W.nsIn K mainGlobals x = some (some (.ref ad)))
    (l : K.lookup ad = some ⟨.type "tuple", dd, .seq its n, sl⟩) (v : Vals (ds.map flatV) its.toList) (hz : its.size ≤ sizeLine) (hf : ds.all flat = true) : KTup K mg x ds :=
  ⟨ad, PySem.W.mg_of X G a, fun U H => .tup (.inr ⟨_, its, n, l, rfl, rfl, hz, v⟩) (flat_pdA hf)⟩
theorem hits_nil {c : Value} : Hits K mg c (fun _ => none) := fun x b cls e _ => by cases e
theorem hits_cons {c : Value} {hit : Str → Option Bool} {y : Str} {b : Bool} {A : Addr} (m : mg y = some (.ref A)) (e : PySem.W.exmOne K (.ref A) c = some b) (r : Hits K mg c hit) : Hits K mg c (fun x => if x = y then some b else hit x) := fun x b' cls hx hm => by
  by_cases q : x = y
  · subst q
    have hx' : (if x = x then some b else hit x) = some b' := hx
    rw [if_pos rfl] at hx'
    cases hx'
    rw [m] at hm
    cases hm
    exact e
  · have hx' : (if x = y then some b else hit x) = some b' := hx
    rw [if_neg q] at hx'
    exact r x b' cls hx' hm
theorem exn_mk (X : K.In h) (G : h.Ns mainGlobals mg) {x : Str} {C : Addr} {bmB : List Value} {B newId initId : String} (F : ExcBaseFacts B newId initId bmB) (a : PySem.W.nsIn K mainGlobals x = some (some (.ref C))) (q : PySem.W.excIn K C bmB newId = true)
    (k : PySem.W.keepIn K (.ref C) = true) (b : PySem.W.subIn K (.ref C) (.type "BaseException") = some true) (t : PySem.W.typeIn K (.ref C) = some (.type "type")) : ExN K mg x := ⟨C, bmB, B, newId, initId, F, q, PySem.W.mg_of X G a, k, b, t⟩
theorem cls_mk (X : K.In h) (G : h.Ns mainGlobals mg) {x : Str} {C : Addr} (a : PySem.W.nsIn K mainGlobals x = some (some (.ref C))) : ∃ f : Addr, mg x = some (.ref f) := ⟨C, PySem.W.mg_of X G a⟩
def IsaAt (K : PySem.W.Frag) (mg : Str → Option Value) (x : Str) (c : D) (b : Bool) : Prop := ∃ (D0 : Addr) (cv : Value), mg x = some (.ref D0) ∧ ExcC K D0 ∧ PySem.W.kitOne K (.ref D0) cv = some b ∧ clsD mg c cv
theorem kit_ref {D0 C : Addr} {b : Bool} (h1 : PySem.W.isClsIn K C = true) (h2 : PySem.W.typeIn K (.ref C) = some (.type "type")) (h3 : PySem.W.subIn K (.ref D0) (.ref C) = some b) (h4 : D0 = C → b = true) : PySem.W.kitOne K (.ref D0) (.ref C) = some b := by
  unfold PySem.W.kitOne
  by_cases e : D0 = C
  · subst e
    rw [if_pos (beq_self_eq_true _), h4 rfl]
  · rw [if_neg (fun z => e (Value.ref.inj (beq_iff_eq.mp z)))]
    have h1' : (PySem.W.clsIn K C).isSome = true := h1
    show (if ((PySem.W.clsIn K C).isSome && PySem.W.typeIn K (.ref C) == some (.type "type")) = true then PySem.W.subIn K (.ref D0) (.ref C) else none) = some b
    rw [h1', h2, if_pos (by rfl)]
    exact h3
theorem kit_type {D0 : Addr} {T : String} {b : Bool} (h1 : PySem.W.kitMeta T = true) (h3 : PySem.W.subIn K (.ref D0) (.type T) = some b) : PySem.W.kitOne K (.ref D0) (.type T) = some b := by
  unfold PySem.W.kitOne
  rw [if_neg (fun z => by cases beq_iff_eq.mp z)]
  show (if PySem.W.kitMeta T = true then PySem.W.subIn K (.ref D0) (.type T) else none) = some b
  rw [if_pos h1]
  exact h3
theorem isa_own (X : K.In h) (G : h.Ns mainGlobals mg) {x y : Str} {b : Bool} {C D0 : Addr} (a : PySem.W.nsIn K mainGlobals x = some (some (.ref D0))) (E : ExcC K D0) (a2 : PySem.W.nsIn K mainGlobals y = some (some (.ref C))) (k : PySem.W.kitOne K (.ref D0) (.ref C) = some b) : IsaAt K mg x (.glob y) b :=
  ⟨D0, .ref C, PySem.W.mg_of X G a, E, k, PySem.W.mg_of X G a2⟩
theorem isa_ty (X : K.In h) (G : h.Ns mainGlobals mg) {x : Str} {T : String} {b : Bool} {D0 : Addr} (a : PySem.W.nsIn K mainGlobals x = some (some (.ref D0))) (E : ExcC K D0) (k : PySem.W.kitOne K (.ref D0) (.type T) = some b) : IsaAt K mg x (.raw (.ty T)) b :=
  ⟨D0, .type T, PySem.W.mg_of X G a, E, k, rfl⟩
/-- a def with one parameter by its name alone, left out -/
theorem bn0 (X : K.In h) (G : h.Ns mainGlobals mg) {x kn : Str} {ps : List Str} {n : Nat} {v : V} {f Dk : Addr} {u : Value} {oc : Value} {od : Option Addr} {sl : Array (Option Value)} {fd : FuncData} (a : PySem.W.nsIn K mainGlobals x = some (some (.ref f))) (l : K.lookup f = some ⟨oc, od, .func fd, sl⟩)
    (d : PySem.W.nsIn K Dk kn = some (some u)) (r : RelV v u) (hb : ∀ us : List Value, us.length = n → KwChain Dk [(kn, u)] (bindArgs fd ⟨us, []⟩) (ps.zip (us ++ [u]))) : Bn K mg x ps n [] (fun vs _ => vs ++ [v]) := by
  intro f2 fd2 oc2 od2 sl2 hm hl
  rw [PySem.W.mg_of X G a] at hm
  cases hm
  rw [l] at hl
  cases hl
  refine ⟨fun us _ => us ++ [u], ⟨fun s us ws Xs hu hw => ?_, fun {vs us zs ws} r1 _ => r1.append (.cons r .nil)⟩⟩
  exact BindsTo.of_looks fun M => KwChain.looks Xs (fun q hq => by rw [List.mem_singleton.mp hq]; exact d) (hb us hu)
/-- .. given -/
theorem bn1 (X : K.In h) (G : h.Ns mainGlobals mg) {x kn : Str} {ps : List Str} {n : Nat} {f : Addr} {oc : Value} {od : Option Addr} {sl : Array (Option Value)} {fd : FuncData} (a : PySem.W.nsIn K mainGlobals x = some (some (.ref f))) (l : K.lookup f = some ⟨oc, od, .func fd, sl⟩)
    (hb : ∀ (us : List Value) (w : Value), us.length = n → bindArgs fd ⟨us, [(kn, w)]⟩ = pure (ps.zip (us ++ [w]))) : Bn K mg x ps n [kn] (fun vs zs => vs ++ zs) := by
  intro f2 fd2 oc2 od2 sl2 hm hl
  rw [PySem.W.mg_of X G a] at hm
  cases hm
  rw [l] at hl
  cases hl
  refine ⟨fun us ws => us ++ ws, ⟨fun s us ws Xs hu hw => ?_, fun {vs us zs ws} r1 r2 => r1.append r2⟩⟩
  match ws, hw with
  | [w], _ => exact .of_eq (hb us w hu)
theorem bn0f (X : K.In h) (G : h.Ns mainGlobals mg) {x kn : Str} {st : Stmt} {ps : List Str} {n : Nat} {v : V} {f Dk : Addr} {u : Value} {oc : Value} {od an : Option Addr} {sl : Array (Option Value)} {doc pm cd ct : Value} (a : PySem.W.nsIn K mainGlobals x = some (some (.ref f)))
    (l : K.lookup f = some ⟨oc, od, .func (PySem.W.fnOf x x (defArgs st) (defBody st) (defScope st) .none (.ref Dk) doc pm an cd ct), sl⟩) (d : PySem.W.nsIn K Dk kn = some (some u)) (r : RelV v u)
    (hb : ∀ (Dk : Addr) (doc pm : Value) (an : Option Addr) (cd ct u : Value) (us : List Value), us.length = n → KwChain Dk [(kn, u)] (bindArgs (PySem.W.fnOf x x (defArgs st) (defBody st) (defScope st) .none (.ref Dk) doc pm an cd ct) ⟨us, []⟩) (ps.zip (us ++ [u]))) :
    Bn K mg x ps n [] (fun vs _ => vs ++ [v]) := bn0 X G a l d r fun us hu => hb Dk doc pm an cd ct u us hu
theorem bn1f (X : K.In h) (G : h.Ns mainGlobals mg) {x kn : Str} {st : Stmt} {ps : List Str} {n : Nat} {f : Addr} {oc : Value} {od an : Option Addr} {sl : Array (Option Value)} {kV doc pm cd ct : Value} (a : PySem.W.nsIn K mainGlobals x = some (some (.ref f)))
    (l : K.lookup f = some ⟨oc, od, .func (PySem.W.fnOf x x (defArgs st) (defBody st) (defScope st) .none kV doc pm an cd ct), sl⟩)
    (hb : ∀ (kV doc pm : Value) (an : Option Addr) (cd ct : Value) (us : List Value) (w : Value), us.length = n → bindArgs (PySem.W.fnOf x x (defArgs st) (defBody st) (defScope st) .none kV doc pm an cd ct) ⟨us, [(kn, w)]⟩ = pure (ps.zip (us ++ [w]))) :
    Bn K mg x ps n [kn] (fun vs zs => vs ++ zs) := bn1 X G a l fun us w hu => hb kV doc pm an cd ct us w hu
theorem dfv_mk (X : K.In h) (G : h.Ns mainGlobals mg) {x : Str} {st : Stmt} {f : Addr} {oc : Value} {od an : Option Addr} {osl : Array (Option Value)} {kV doc pm cdv ct : Value}
    (a : PySem.W.nsIn K mainGlobals x = some (some (.ref f))) (l : K.lookup f = some ⟨oc, od, .func (PySem.W.fnOf x x (defArgs st) (defBody st) (defScope st) .none kV doc pm an cdv ct), osl⟩) (c : PySem.W.codeIn K cdv x = true) (k : PySem.W.keepIn K (.ref f) = true) : DfV K mg x st := by
  have F := fun_mk l c k
  exact ⟨f, _, F, PySem.W.mg_of X G a⟩
end
end Ev
set_option Elab.async false
set_option linter.all false
set_option maxRecDepth 100000
set_option maxHeartbeats 4000000
/-! Pu: reckoning with the functions. -/
namespace Ev
open PySem PySem.Spec PyProof.Rows L2
open Classical
theorem boolsOf_map (g : PyData → Bool) : ∀ xs : List PyData, boolsOf (xs.map fun x => .bool (g x)) = some (xs.map g)
  | [] => rfl
  | x :: r => by
    rw [List.map_cons]
    unfold boolsOf
    rw [boolsOf_map g r]
    rfl
theorem intsOf_map : ∀ xs : List Int, intsOf (xs.map PyData.int) = some xs
  | [] => rfl
  | x :: r => by
    rw [List.map_cons]
    unfold intsOf
    rw [intsOf_map r]
    rfl
section
variable {α β : Type} (ρ : Env) (st : Sto)
@[simp] theorem pure_ap (a : α) : M.pure a st = .ok a st := rfl
@[simp] theorem bad_ap : (M.bad : M α) st = .bad := rfl
/-- what follows a result -/
def Res.then (r : Res α) (f : α → M β) : Res β :=
  match r with
  | .ok a st' => f a st'
  | .exc x st' => .exc x st'
  | .bad => .bad
@[simp] theorem then_ok (a : α) (f : α → M β) : (Res.ok a st).then f = f a st := rfl
@[simp] theorem then_bad (f : α → M β) : (Res.bad : Res α).then f = .bad := rfl
@[simp] theorem then_exc (x : Exc) (f : α → M β) : (Res.exc x st : Res α).then f = .exc x st := rfl
@[simp] theorem bind_ap (m : M α) (f : α → M β) : M.bind m f st = (m st).then f := rfl
@[simp] theorem m2_ap (f : D → D → M D) (a b : Env → M D) : m2 f a b ρ st = (a ρ st).then fun x => M.bind (b ρ) fun y => f x y := rfl
@[simp] theorem m1_ap (f : D → M D) (a : Env → M D) : m1 f a ρ st = (a ρ st).then f := rfl
@[simp] theorem mC_ap (f : List D → M D) (a : Env → M (List D)) : mC f a ρ st = (a ρ st).then f := rfl
@[simp] theorem ct_ap (d : D) : ct d ρ st = .ok d st := rfl
@[simp] theorem aNil_ap : aNil ρ st = .ok [] st := rfl
@[simp] theorem aCons_ap (m : Env → M D) (r : Env → M (List D)) : aCons m r ρ st = (m ρ st).then fun x => M.bind (r ρ) fun xs => M.pure (x :: xs) := rfl
@[simp] theorem asB_ap (b : Bool) : asB (.dat (.bool b)) st = .ok b st := rfl
@[simp] theorem mT_ap (a : Env → M D) : mT a ρ st = (a ρ st).then asB := rfl
@[simp] theorem mNot_ap (a : Env → M Bool) : mNot a ρ st = (a ρ st).then fun b => M.pure !b := rfl
@[simp] theorem mAnd_ap (m n : Env → M Bool) : mAnd m n ρ st = (m ρ st).then fun b => if b = true then n ρ else M.pure false := rfl
@[simp] theorem mOr_ap (m n : Env → M Bool) : mOr m n ρ st = (m ρ st).then fun b => if b = true then M.pure true else n ρ := rfl
@[simp] theorem mAndV_ap (m n : Env → M D) : mAndV m n ρ st = (m ρ st).then fun x => M.bind (asB x) fun b => if b = true then n ρ else M.pure (.dat (.bool false)) := rfl
@[simp] theorem mOrV_ap (m n : Env → M D) : mOrV m n ρ st = (m ρ st).then fun x => M.bind (asB x) fun b => if b = true then M.pure (.dat (.bool true)) else n ρ := rfl
@[simp] theorem mNotV_ap (m : Env → M D) : mNotV m ρ st = (m ρ st).then fun x => M.bind (asB x) fun b => M.pure (.dat (.bool !b)) := rfl
@[simp] theorem mIf_ap (t : Env → M Bool) (m n : Env → M D) : mIf t m n ρ st = (t ρ st).then fun k => if k = true then m ρ else n ρ := rfl
@[simp] theorem mChain_ap (f g : D → D → M D) (ma mb mc : Env → M D) : mChain f g ma mb mc ρ st = (ma ρ st).then fun x => M.bind (mb ρ) fun y => M.bind (f x y) fun z => M.bind (asB z) fun k => if k = true then M.bind (mc ρ) fun w => g y w else M.pure (.dat (.bool false)) := rfl
@[simp] theorem on1_ap (f : D → M D) (d : D) : on1 f [d] st = f d st := rfl
@[simp] theorem on2_ap (f : D → D → M D) (d e : D) : on2 f [d, e] st = f d e st := rfl
@[simp] theorem retI_ap (i : Int) : retI i st = .ok (.dat (.int i)) st := rfl
@[simp] theorem retB_ap (i : Bool) : retB i st = .ok (.dat (.bool i)) st := rfl
@[simp] theorem guardM_ap (c : Prop) [Decidable c] (m : M D) : guardM c m st = if c then m st else .bad := by unfold guardM; split <;> rfl
@[simp] theorem notM_ap (m : M D) : notM m st = (m st).then fun x => M.bind (asB x) fun b => retB (!b) := rfl
/-- what follows, of statements -/
def Res.thenS (r : Res α) (ρ : Env) (f : α → SM) : SRes :=
  match r with
  | .ok a st' => f a ρ st'
  | .exc x st' => .exc x ρ st'
  | .bad => .bad
@[simp] theorem thenS_ok (a : α) (f : α → SM) : (Res.ok a st).thenS ρ f = f a ρ st := rfl
@[simp] theorem thenS_bad (f : α → SM) : (Res.bad : Res α).thenS ρ f = .bad := rfl
@[simp] theorem thenS_exc (x : Exc) (f : α → SM) : (Res.exc x st : Res α).thenS ρ f = .exc x ρ st := rfl
@[simp] theorem sBind_ap (m : Env → M α) (f : α → SM) : sBind m f ρ st = (m ρ st).thenS ρ f := rfl
def SRes.then (r : SRes) (n : SM) : SRes :=
  match r with
  | .nx ρ' st' => n ρ' st'
  | r => r
@[simp] theorem sthen_nx (n : SM) : (SRes.nx ρ st).then n = n ρ st := rfl
@[simp] theorem sthen_rt (n : SM) (d : D) : (SRes.rt d st).then n = .rt d st := rfl
@[simp] theorem sthen_bk (n : SM) : (SRes.bk ρ st).then n = .bk ρ st := rfl
@[simp] theorem sthen_ct (n : SM) : (SRes.ct ρ st).then n = .ct ρ st := rfl
@[simp] theorem sthen_exc (n : SM) (x : Exc) : (SRes.exc x ρ st).then n = .exc x ρ st := rfl
@[simp] theorem sthen_bad (n : SM) : SRes.bad.then n = .bad := rfl
@[simp] theorem sSeq_ap (m n : SM) : sSeq m n ρ st = (m ρ st).then n := by
  unfold sSeq SRes.then
  cases m ρ st <;> rfl
@[simp] theorem sNil_ap : sNil ρ st = .nx ρ st := rfl
@[simp] theorem sRet_ap (m : Env → M D) : sRet m ρ st = (m ρ st).thenS ρ fun d _ st => .rt d st := rfl
@[simp] theorem sRetN_ap : sRetN ρ st = .rt (.dat .none) st := rfl
@[simp] theorem sIf_ap (c : Env → M Bool) (m n : SM) : sIf c m n ρ st = (c ρ st).thenS ρ fun b => if b = true then m else n := rfl
@[simp] theorem sDrop_ap (m : Env → M D) : sDrop m ρ st = (m ρ st).thenS ρ fun _ ρ st => .nx ρ st := rfl
@[simp] theorem sSet_ap (i : Nat) (m : Env → M D) : sSet i m ρ st = (m ρ st).thenS ρ fun d ρ st => .nx (ρ.set i (some d)) st := rfl
@[simp] theorem sPass_ap : sPass ρ st = .nx ρ st := rfl
@[simp] theorem sBrk_ap : sBrk ρ st = .bk ρ st := rfl
@[simp] theorem sCnt_ap : sCnt ρ st = .ct ρ st := rfl
@[simp] theorem mSeq_ap (m : Env → M D) : mSeq m ρ st = (m ρ st).then srcOf := rfl
@[simp] theorem mYes_ap : mYes ρ st = .ok true st := rfl
@[simp] theorem mNoPart_ap : mNoPart ρ st = .ok none st := rfl
@[simp] theorem mPart_ap (m : Env → M D) : mPart m ρ st = (m ρ st).then asPart := rfl
@[simp] theorem asPart_ap (i : Int) : asPart (.dat (.int i)) st = .ok (some i) st := rfl
@[simp] theorem mSl_ap (m : Env → M D) (l u : Env → M (Option Int)) : mSl m l u ρ st = (m ρ st).then fun x => M.bind (l ρ) fun i => M.bind (u ρ) fun j => dSl x i j := rfl
@[simp] theorem mLc_ap (src : Env → M Src) (own : List Nat) (t : Tg) (test : Env → M Bool) (elt : Env → M D) : mLc src own t test elt ρ st = (src ρ st).then fun s => fun st => loopC s.ok t test elt (wipeE ρ own) s.items [] st := rfl
@[simp] theorem sFor_ap (src : Env → M Src) (t : Tg) (b : SM) : sFor src t b ρ st = (src ρ st).thenS ρ fun s => loopS s.ok t b s.items := rfl
@[simp] theorem mRng1_ap (m : Env → M (List D)) : mRng1 m ρ st = (m ρ st).then rng1 := rfl
@[simp] theorem mRng2_ap (m : Env → M (List D)) : mRng2 m ρ st = (m ρ st).then rng2 := rfl
@[simp] theorem dNil_ap : dNil ρ st = .ok [] st := rfl
@[simp] theorem dCons_ap (m : Env → M D) (r : Env → M (List PyData)) : dCons m r ρ st = (m ρ st).then fun x => M.bind (asDat x) fun y => M.bind (r ρ) fun ys => M.pure (y :: ys) := rfl
@[simp] theorem asDat_ap (y : PyData) : asDat (.dat y) st = .ok y st := rfl
@[simp] theorem mDct_ap (ks : List Key) (m : Env → M (List PyData)) : mDct ks m ρ st = (m ρ st).then fun ys => M.pure (.dat (.dict ((ks.map keyD).zip ys))) := rfl
@[simp] theorem mDct0_ap : mDct0 ρ st = .ok (.dat (.dict [])) st := rfl
/-- the end of a def -/
def SRes.fin (give : Nat → D → Sto → Res D) (n : Nat) (r : SRes) : Res D :=
  match r with
  | .nx _ st' => give n (.dat .none) st'
  | .rt d st' => give n d st'
  | .exc x _ st' => .exc x (st'.take n)
  | _ => .bad
@[simp] theorem fin_nx (give : Nat → D → Sto → Res D) (n : Nat) : (SRes.nx ρ st).fin give n = give n (.dat .none) st := rfl
@[simp] theorem fin_rt (give : Nat → D → Sto → Res D) (n : Nat) (d : D) : (SRes.rt d st).fin give n = give n d st := rfl
@[simp] theorem fin_exc (give : Nat → D → Sto → Res D) (n : Nat) (x : Exc) : (SRes.exc x ρ st).fin give n = .exc x (st.take n) := rfl
@[simp] theorem fin_bad (give : Nat → D → Sto → Res D) (n : Nat) : SRes.bad.fin give n = .bad := rfl
theorem run_ap (give : Nat → D → Sto → Res D) (n : Nat) (b : SM) (ds : List D) : runBody give n ds.length b ds st = (b (startE n ds) st).fin give st.length := by
  unfold runBody SRes.fin
  rw [if_pos rfl] <;> (cases b (startE n ds) st <;> rfl)
@[simp] theorem run1 (give : Nat → D → Sto → Res D) (n : Nat) (b : SM) (d1 : D) : runBody give n 1 b [d1] st = (b (startE n [d1]) st).fin give st.length := run_ap st give n b [d1]
@[simp] theorem run2 (give : Nat → D → Sto → Res D) (n : Nat) (b : SM) (d1 d2 : D) : runBody give n 2 b [d1, d2] st = (b (startE n [d1, d2]) st).fin give st.length := run_ap st give n b [d1, d2]
@[simp] theorem run3 (give : Nat → D → Sto → Res D) (n : Nat) (b : SM) (d1 d2 d3 : D) : runBody give n 3 b [d1, d2, d3] st = (b (startE n [d1, d2, d3]) st).fin give st.length := run_ap st give n b [d1, d2, d3]
@[simp] theorem run4 (give : Nat → D → Sto → Res D) (n : Nat) (b : SM) (d1 d2 d3 d4 : D) : runBody give n 4 b [d1, d2, d3, d4] st = (b (startE n [d1, d2, d3, d4]) st).fin give st.length := run_ap st give n b [d1, d2, d3, d4]
@[simp] theorem run5 (give : Nat → D → Sto → Res D) (n : Nat) (b : SM) (d1 d2 d3 d4 d5 : D) : runBody give n 5 b [d1, d2, d3, d4, d5] st = (b (startE n [d1, d2, d3, d4, d5]) st).fin give st.length := run_ap st give n b [d1, d2, d3, d4, d5]
end
@[simp] theorem startE_ap (n : Nat) (ds : List D) : startE n ds = ds.map some ++ List.replicate (n - ds.length) none := rfl
@[simp] theorem tgName_ap (i : Nat) (d : D) (ρ : Env) : tgName i d ρ = some (ρ.set i (some d)) := rfl
/-! operations on data -/
section
variable (st : Sto) (i j : Int)
@[simp] theorem dSub_ap : dSub (.dat (.int i)) (.dat (.int j)) st = .ok (.dat (.int (i - j))) st := rfl
@[simp] theorem dLt_ap : dLt (.dat (.int i)) (.dat (.int j)) st = .ok (.dat (.bool (decide (i < j)))) st := rfl
@[simp] theorem dLe_ap : dLe (.dat (.int i)) (.dat (.int j)) st = .ok (.dat (.bool (decide (i ≤ j)))) st := rfl
@[simp] theorem dGt_ap : dGt (.dat (.int i)) (.dat (.int j)) st = .ok (.dat (.bool (decide (j < i)))) st := rfl
@[simp] theorem dGe_ap : dGe (.dat (.int i)) (.dat (.int j)) st = .ok (.dat (.bool (decide (j ≤ i)))) st := rfl
theorem guard_ok {c : Prop} [Decidable c] {m : M D} {st : Sto} (h : c) : guardM c m st = m st := by
  unfold guardM
  rw [if_pos h]
theorem dMod_ap (h : j ≠ 0) : dMod (.dat (.int i)) (.dat (.int j)) st = .ok (.dat (.int (i.fmod j))) st := guard_ok (m := retI (i.fmod j)) h
theorem dFdiv_ap (h : 0 < j ∧ wideI j ∨ j ≠ 0 ∧ j.natAbs < 1073741824) : dFdiv (.dat (.int i)) (.dat (.int j)) st = .ok (.dat (.int (i.fdiv j))) st := guard_ok (m := retI (i.fdiv j)) h
theorem dPow_ap (h : 0 ≤ j ∧ (Builtin.Int.intBits i : Int) * j ≤ 100000) : dPow (.dat (.int i)) (.dat (.int j)) st = .ok (.dat (.int (i ^ j.toNat))) st := guard_ok (m := retI (i ^ j.toNat)) h
theorem dMul_ap (h : wideI i ∧ wideI j) : dMul (.dat (.int i)) (.dat (.int j)) st = .ok (.dat (.int (i * j))) st := guard_ok (m := retI (i * j)) h
@[simp] theorem dAdd_ap : dAdd (.dat (.int i)) (.dat (.int j)) st = .ok (.dat (.int (i + j))) st := rfl
@[simp] theorem dNeg_ap : dNeg (.dat (.int i)) st = .ok (.dat (.int (-i))) st := rfl
@[simp] theorem dAbs_ap : dAbs (.dat (.int i)) st = .ok (.dat (.int (iAbs i))) st := rfl
@[simp] theorem dMax_ap : dMax2 (.dat (.int i)) (.dat (.int j)) st = .ok (.dat (.int (iMax i j))) st := rfl
@[simp] theorem dMin_ap : dMin2 (.dat (.int i)) (.dat (.int j)) st = .ok (.dat (.int (iMin i j))) st := rfl
@[simp] theorem dInt_ap : dInt (.dat (.int i)) st = .ok (.dat (.int i)) st := rfl
@[simp] theorem dIntB_ap (b : Bool) : dInt (.dat (.bool b)) st = .ok (.dat (.int (if b then 1 else 0))) st := rfl
@[simp] theorem dIsi_ap (x : PyData) (t : Ty) : dIsi (.dat x) (.ty t) st = .ok (.dat (.bool (isi (tyOf x) t))) st := rfl
@[simp] theorem dLen_list (xs : List PyData) : dLen (.dat (.list xs)) st = .ok (.dat (.int xs.length)) st := rfl
@[simp] theorem dLen_tuple (xs : List PyData) : dLen (.dat (.tuple xs)) st = .ok (.dat (.int xs.length)) st := rfl
@[simp] theorem dLen_fz (xs : List PyData) : dLen (.fz xs) st = .ok (.dat (.int xs.length)) st := rfl
theorem dAdd_list {xs ys : List PyData} (h : xs.length + ys.length ≤ 100000) : dAdd (.dat (.list xs)) (.dat (.list ys)) st = .ok (.dat (.list (xs ++ ys))) st := by
  show ifLen _ _ st = _
  unfold ifLen
  rw [if_pos h]
  rfl
@[simp] theorem tupOf_list (xs : List PyData) : tupOf (.dat (.list xs)) st = .ok (.dat (.tuple xs)) st := rfl
@[simp] theorem tupOf_tuple (xs : List PyData) : tupOf (.dat (.tuple xs)) st = .ok (.dat (.tuple xs)) st := rfl
@[simp] theorem lstOf_list (xs : List PyData) : lstOf (.dat (.list xs)) st = .ok (.dat (.list xs)) st := rfl
@[simp] theorem lstOf_tuple (xs : List PyData) : lstOf (.dat (.tuple xs)) st = .ok (.dat (.list xs)) st := rfl
@[simp] theorem dSl_list (xs : List PyData) (lo hi : Option Int) : dSl (.dat (.list xs)) lo hi st = .ok (.dat (.list (cutD xs lo hi))) st := rfl
@[simp] theorem dSl_tuple (xs : List PyData) (lo hi : Option Int) : dSl (.dat (.tuple xs)) lo hi st = .ok (.dat (.tuple (cutD xs lo hi))) st := rfl
@[simp] theorem src_list (xs : List PyData) : srcOf (.dat (.list xs)) st = .ok (.data xs) st := rfl
@[simp] theorem src_tuple (xs : List PyData) : srcOf (.dat (.tuple xs)) st = .ok (.data xs) st := rfl
@[simp] theorem src_fz (xs : List PyData) : srcOf (.fz xs) st = .ok (.data xs) st := rfl
@[simp] theorem datas_nil : datas [] = some [] := rfl
@[simp] theorem datas_cons (x : PyData) (r : List D) : datas (.dat x :: r) = (datas r).map (x :: ·) := rfl
theorem mkTup_ap {ds : List D} {xs : List PyData} (h : datas ds = some xs) (hl : xs.length ≤ 100000) : mkTup ds st = .ok (.dat (.tuple xs)) st := by
  unfold mkTup
  rw [h]
  exact if_pos hl
theorem mkLst_ap {ds : List D} {xs : List PyData} (h : datas ds = some xs) (hl : xs.length ≤ 100000) : mkLst ds st = .ok (.dat (.list xs)) st := by
  unfold mkLst
  rw [h]
  exact if_pos hl
theorem mkLoc_ap {ds : List D} {xs : List PyData} (h : datas ds = some xs) (hl : xs.length ≤ 100000) : mkLoc ds st = .ok (.loc st.length) (st ++ [.lst xs]) := by
  unfold mkLoc
  rw [h]
  exact if_pos hl
theorem repr_ap {x : PyData} (h : reprOk x = true) : dRepr (.dat x) st = .ok (.dat (.str x.shown)) st := if_pos h
@[simp] theorem dEq_str (x y : Str) : dEq (.dat (.str x)) (.dat (.str y)) st = .ok (.dat (.bool (decide (x = y)))) st := rfl
@[simp] theorem dEq_bool (x y : Bool) : dEq (.dat (.bool x)) (.dat (.bool y)) st = .ok (.dat (.bool (x == y))) st := by cases x <;> cases y <;> rfl
@[simp] theorem dataOf_dat (x : PyData) : dataOf (.dat x) st = some x := rfl
@[simp] theorem dataOf_fz (x : List PyData) : dataOf (.fz x) st = none := rfl
@[simp] theorem dataOf_ty (x : Ty) : dataOf (.ty x) st = none := rfl
theorem all_ap (g : PyData → Bool) (xs : List PyData) : dAll (.dat (.list (xs.map fun x => .bool (g x)))) st = .ok (.dat (.bool (xs.all g))) st := by
  show onBools _ _ st = _
  unfold onBools
  rw [boolsOf_map]
  simp
theorem any_ap (g : PyData → Bool) (xs : List PyData) : dAny (.dat (.list (xs.map fun x => .bool (g x)))) st = .ok (.dat (.bool (xs.any g))) st := by
  show onBools _ _ st = _
  unfold onBools
  rw [boolsOf_map]
  simp
end
@[simp] theorem giveD_dat (n : Nat) (x : PyData) (st : Sto) : giveD n (.dat x) st = .ok (.dat x) (st.take n) := rfl
@[simp] theorem vr_zero (d : D) (ρ : Env) (st : Sto) : vr 0 (some d :: ρ) st = .ok d st := rfl
@[simp] theorem vr_succ (i : Nat) (d : Option D) (ρ : Env) (st : Sto) : vr (i + 1) (d :: ρ) st = vr i ρ st := by simp [vr]
@[simp] theorem ite_st {α : Type} (c : Prop) [Decidable c] (a b : M α) (st : Sto) : (if c then a else b) st = if c then a st else b st := by split <;> rfl
@[simp] theorem ite_sm (c : Prop) [Decidable c] (a b : SM) (ρ : Env) (st : Sto) : (if c then a else b) ρ st = if c then a ρ st else b ρ st := by split <;> rfl
@[simp] theorem ite_em {α : Type} (c : Prop) [Decidable c] (a b : Env → M α) (ρ : Env) : (if c then a else b) ρ = if c then a ρ else b ρ := by split <;> rfl
/-! ### loops -/
theorem loopC_ind {ok : Sto → Prop} {t : Tg} {test : Env → M Bool} {elt : Env → M D} {ρ : Env} (P : List D → List PyData → Sto → Prop) (Q : Res D → Prop)
    (h0 : ∀ acc st, P [] acc st → ok st ∧ Q (.ok (.dat (.list acc)) st))
    (h1 : ∀ d ds acc st, P (d :: ds) acc st → ok st ∧ acc.length ≤ 100000 ∧ ∃ ρ1 b st1, t d ρ = some ρ1 ∧ test ρ1 st = .ok b st1 ∧ (b = false → P ds acc st1) ∧ (b = true → ∃ y st2, elt ρ1 st1 = .ok (.dat y) st2 ∧ P ds (acc ++ [y]) st2)) :
    ∀ ds acc st, P ds acc st → Q (loopC ok t test elt ρ ds acc st)
  | [], acc, st, h => by
    obtain ⟨a, b⟩ := h0 acc st h
    unfold loopC
    rw [if_pos a]
    exact b
  | d :: ds, acc, st, h => by
    obtain ⟨a, l, ρ1, b, st1, e1, e2, f, g⟩ := h1 d ds acc st h
    unfold loopC
    rw [if_pos ⟨a, l⟩, e1]
    dsimp only
    rw [e2]
    cases b with
    | false => exact loopC_ind P Q h0 h1 ds acc st1 (f rfl)
    | true =>
      obtain ⟨y, st2, e3, p⟩ := g rfl
      dsimp only
      rw [e3]
      exact loopC_ind P Q h0 h1 ds (acc ++ [y]) st2 p
/-- nothing changes: the items by a function, those that a test lets by -/
theorem loopC_fm {ok : Sto → Prop} {t : Tg} {test : Env → M Bool} {elt : Env → M D} {ρ : Env} {st : Sto} (g : D → Bool) (f : D → PyData) (hok : ok st) (ds : List D) (acc : List PyData) (hl : acc.length + ds.length ≤ 100001)
    (h : ∀ d ∈ ds, ∃ ρ1, t d ρ = some ρ1 ∧ test ρ1 st = .ok (g d) st ∧ (g d = true → elt ρ1 st = .ok (.dat (f d)) st)) :
    loopC ok t test elt ρ ds acc st = .ok (.dat (.list (acc ++ (ds.filter g).map f))) st := by
  refine loopC_ind (fun ds' acc' st' => st' = st ∧ acc'.length + ds'.length ≤ 100001 ∧ (∀ d ∈ ds', d ∈ ds) ∧ acc' ++ (ds'.filter g).map f = acc ++ (ds.filter g).map f) (fun r => r = _) (fun acc' st' ⟨e, _, _, p⟩ => ?_) (fun d ds' acc' st' ⟨e, l, m, p⟩ => ?_) ds acc st ⟨rfl, hl, fun _ h => h, rfl⟩
  · subst e
    refine ⟨hok, ?_⟩
    rw [← p]
    simp
  · subst e
    obtain ⟨ρ1, e1, e2, e3⟩ := h d (m d (List.mem_cons_self))
    rw [List.length_cons] at l
    refine ⟨hok, by omega, ρ1, g d, st', e1, e2, fun z => ⟨rfl, by omega, fun x hx => m x (List.mem_cons_of_mem _ hx), ?_⟩, fun z => ⟨f d, st', e3 z, rfl, by simp; omega, fun x hx => m x (List.mem_cons_of_mem _ hx), ?_⟩⟩
    · rw [← p, List.filter_cons, if_neg (by rw [z]; exact Bool.false_ne_true)]
    · rw [← p, List.filter_cons, if_pos z, List.map_cons, List.append_assoc]
      rfl
theorem loopC_map {ok : Sto → Prop} {t : Tg} {elt : Env → M D} {ρ : Env} {st : Sto} (f : D → PyData) (hok : ok st) (ds : List D) (hl : ds.length ≤ 100001)
    (h : ∀ d ∈ ds, ∃ ρ1, t d ρ = some ρ1 ∧ elt ρ1 st = .ok (.dat (f d)) st) : loopC ok t mYes elt ρ ds [] st = .ok (.dat (.list (ds.map f))) st := by
  rw [loopC_fm (test := mYes) (fun _ => true) f hok ds [] (by simpa using hl) fun d hd => let ⟨ρ1, a, b⟩ := h d hd; ⟨ρ1, a, rfl, fun _ => b⟩]
  rw [List.nil_append, List.filter_eq_self.mpr (fun _ _ => rfl)]
theorem loopS_ind {ok : Sto → Prop} {t : Tg} {body : SM} (P : List D → Env → Sto → Prop) (Q : SRes → Prop) (h0 : ∀ ρ st, P [] ρ st → ok st ∧ Q (.nx ρ st))
    (h1 : ∀ d ds ρ st, P (d :: ds) ρ st → ok st ∧ ∃ ρ1, t d ρ = some ρ1 ∧ ((∃ ρ2 st2, (body ρ1 st = .nx ρ2 st2 ∨ body ρ1 st = .ct ρ2 st2) ∧ P ds ρ2 st2) ∨ (∃ ρ2 st2, body ρ1 st = .bk ρ2 st2 ∧ Q (.nx ρ2 st2)) ∨ (∃ d2 st2, body ρ1 st = .rt d2 st2 ∧ Q (.rt d2 st2)) ∨ ∃ x ρ2 st2, body ρ1 st = .exc x ρ2 st2 ∧ Q (.exc x ρ2 st2))) :
    ∀ ds ρ st, P ds ρ st → Q (loopS ok t body ds ρ st)
  | [], ρ, st, h => by
    obtain ⟨a, b⟩ := h0 ρ st h
    unfold loopS
    rw [if_pos a]
    exact b
  | d :: ds, ρ, st, h => by
    obtain ⟨a, ρ1, e1, e⟩ := h1 d ds ρ st h
    unfold loopS
    rw [if_pos a, e1]
    dsimp only
    rcases e with ⟨ρ2, st2, e | e, p⟩ | ⟨ρ2, st2, e, p⟩ | ⟨d2, st2, e, p⟩ | ⟨x, ρ2, st2, e, p⟩
    · rw [e]; exact loopS_ind P Q h0 h1 ds ρ2 st2 p
    · rw [e]; exact loopS_ind P Q h0 h1 ds ρ2 st2 p
    · rw [e]; exact p
    · rw [e]; exact p
    · rw [e]; exact p
end Ev
set_option Elab.async false
set_option linter.all false
set_option maxRecDepth 100000
set_option maxHeartbeats 4000000
/-! Pu2: how long a shown thing is at most; lists as data. -/
namespace Ev
open PySem PySem.Spec PyProof.Rows L2 PyProof
open Classical
mutual
def cost : PyData → Nat
  | .none => 4
  | .bool _ => 5
  | .int _ => 1922
  | .str x => (reprText x).length
  | .list xs => 2 + costA xs
  | .tuple xs => 4 + costA xs
  | .dict kvs => 2 + costK kvs
def costA : List PyData → Nat
  | [] => 0
  | x :: r => (cost x + 2) + costA r
def costK : List (PyData × PyData) → Nat
  | [] => 0
  | (k, v) :: r => (cost k + 2 + cost v + 2) + costK r
end
theorem textFrom_up : ∀ (ts : List Str) (k : Nat) (acc : Str), (textFrom k acc ts).length ≤ acc.length + piled ts
  | [], k, acc => by show acc.length ≤ acc.length + 0; omega
  | t :: r, k, acc => by
    have h := textFrom_up r (k + 1) (acc ++ (if k > 0 then ", " else "" : String) ++ t)
    have e : (acc ++ (if k > 0 then ", " else "" : String) ++ t).length = acc.length + (if k > 0 then 2 else 0) + t.length := by
      rw [strLen_append, strLen_append]
      congr 2
      split <;> rfl
    have e2 : (if k > 0 then 2 else 0 : Nat) ≤ 2 := by split <;> decide
    show (textFrom (k + 1) _ r).length ≤ _
    rw [piled_cons]
    omega
theorem join_up (ts : List Str) : (Str.join ", " ts).length ≤ piled ts := by
  cases ts with
  | nil => exact Nat.zero_le _
  | cons t r => have := join_length_add (t :: r) (by simp); omega
mutual
theorem shown_le : ∀ d : PyData, d.showable = true → d.shown.length ≤ cost d
  | .none, _ => by decide
  | .bool b, _ => by cases b <;> decide
  | .int i, h => by
    have h' : i.natAbs.log2 < 1920 := by simpa [PyData.showable] using h
    have := int_text_length_le (a := i) (k := 1920) (by decide) h'
    have e : (PyData.int i).shown.length = (toString i).length := by
      show (Str.ofString (toString i)).length = _
      exact PySem.ofString_length _
    rw [e]
    show _ ≤ 1922
    omega
  | .str x, _ => Nat.le_refl _
  | .list xs, h => by
    have q := shownA_le xs (by simpa [PyData.showable] using h)
    show (listText (PyData.shownAll xs)).length ≤ 2 + costA xs
    unfold listText
    rw [strLen_append]
    have := textFrom_up (PyData.shownAll xs) 0 "["
    have e1 : (("[" : String) : Str).length = 1 := rfl
    have e2 : (("]" : String) : Str).length = 1 := rfl
    omega
  | .tuple xs, h => by
    have q := shownA_le xs (by simpa [PyData.showable] using h)
    show (tupleText (PyData.shownAll xs)).length ≤ 4 + costA xs
    unfold tupleText
    rw [strLen_append, strLen_append]
    have := join_up (PyData.shownAll xs)
    have e1 : (("(" : String) : Str).length = 1 := rfl
    have e3 : (((if (PyData.shownAll xs).length == 1 then ",)" else ")" : String) : Str)).length ≤ 2 := by split <;> decide
    omega
  | .dict kvs, h => by
    have q := shownK_le kvs (by simpa [PyData.showable] using h)
    show (dictText (PyData.shownKv kvs)).length ≤ 2 + costK kvs
    unfold dictText
    rw [strLen_append, strLen_append]
    have := join_up (PyData.shownKv kvs)
    have e1 : (("{" : String) : Str).length = 1 := rfl
    have e2 : (("}" : String) : Str).length = 1 := rfl
    omega
theorem shownA_le : ∀ xs : List PyData, PyData.showableAll xs = true → piled (PyData.shownAll xs) ≤ costA xs
  | [], _ => Nat.zero_le _
  | x :: r, h => by
    simp only [PyData.showableAll, Bool.and_eq_true] at h
    have a := shown_le x h.1
    have b := shownA_le r h.2
    show piled (x.shown :: PyData.shownAll r) ≤ (cost x + 2) + costA r
    rw [piled_cons]
    omega
theorem shownK_le : ∀ xs : List (PyData × PyData), PyData.showableKv xs = true → piled (PyData.shownKv xs) ≤ costK xs
  | [], _ => Nat.zero_le _
  | (k, v) :: r, h => by
    simp only [PyData.showableKv, Bool.and_eq_true] at h
    have a := shown_le k h.1.1
    have a2 := shown_le v h.1.2
    have b := shownK_le r h.2
    show piled ((k.shown ++ ": " ++ v.shown) :: PyData.shownKv r) ≤ (cost k + 2 + cost v + 2) + costK r
    rw [piled_cons, strLen_append, strLen_append]
    have e1 : ((": " : String) : Str).length = 2 := rfl
    omega
end
/-- small: to be shown, so deep, so long; without dicts or without lists -/
structure Sm (dp c : Nat) (nd nl : Bool) (d : PyData) : Prop where
  sh : d.showable = true
  dp : d.depth ≤ dp
  co : cost d ≤ c
  nd : nd = true → d.hasDict = false
  nl : nl = true → noList d = true
theorem Sm.repr {dp c : Nat} {nd nl : Bool} {d : PyData} (h : Sm dp c nd nl d) (h1 : dp ≤ 64) (h2 : c ≤ 16000000) (h3 : nd = true ∨ nl = true) : reprOk d = true := by
  unfold reprOk
  rw [Bool.and_eq_true, Bool.and_eq_true]
  exact ⟨⟨h.sh, decide_eq_true (Nat.le_trans h.dp h1)⟩, decide_eq_true (Nat.le_trans (shown_le d h.sh) (Nat.le_trans h.co h2))⟩
theorem reprOk_of {d : PyData} {dp c : Nat} (sh : d.showable = true) (h1 : d.depth ≤ dp) (h2 : cost d ≤ c) (h3 : dp ≤ 64) (h4 : c ≤ 16000000) : reprOk d = true := by
  unfold reprOk
  rw [Bool.and_eq_true, Bool.and_eq_true]
  exact ⟨⟨sh, decide_eq_true (Nat.le_trans h1 h3)⟩, decide_eq_true (Nat.le_trans (shown_le d sh) (Nat.le_trans h2 h4))⟩
theorem Sm.mono {dp c dp' c' : Nat} {nd nl nd' nl' : Bool} {d : PyData} (h : Sm dp c nd nl d) (h1 : dp ≤ dp') (h2 : c ≤ c') (h3 : nd' = true → nd = true) (h4 : nl' = true → nl = true) : Sm dp' c' nd' nl' d :=
  ⟨h.sh, Nat.le_trans h.dp h1, Nat.le_trans h.co h2, fun z => h.nd (h3 z), fun z => h.nl (h4 z)⟩
theorem smA {dp c : Nat} {nd nl : Bool} : ∀ {xs : List PyData}, (∀ x ∈ xs, Sm dp c nd nl x) → PyData.showableAll xs = true ∧ PyData.depthAll xs ≤ dp ∧ costA xs ≤ (c + 2) * xs.length ∧ (nd = true → PyData.hasDictAll xs = false) ∧ (nl = true → noListA xs = true)
  | [], _ => ⟨rfl, Nat.zero_le _, Nat.zero_le _, fun _ => rfl, fun _ => rfl⟩
  | x :: r, h => by
    have a := h x List.mem_cons_self
    obtain ⟨b1, b2, b3, b4, b5⟩ := smA (xs := r) fun y hy => h y (List.mem_cons_of_mem _ hy)
    refine ⟨?_, ?_, ?_, fun z => ?_, fun z => ?_⟩
    · show (x.showable && PyData.showableAll r) = true
      rw [a.sh, b1] <;> rfl
    · show max x.depth (PyData.depthAll r) ≤ dp
      exact Nat.max_le.mpr ⟨a.dp, b2⟩
    · show (cost x + 2) + costA r ≤ (c + 2) * (r.length + 1)
      have := a.co
      rw [Nat.mul_add, Nat.mul_one]
      omega
    · show (x.hasDict || PyData.hasDictAll r) = false
      rw [a.nd z, b4 z] <;> rfl
    · show (noList x && noListA r) = true
      rw [a.nl z, b5 z] <;> rfl
theorem Sm.tuple {dp c n : Nat} {nd nl : Bool} {xs : List PyData} (h : ∀ x ∈ xs, Sm dp c nd nl x) (hn : xs.length ≤ n) : Sm (dp + 1) (4 + (c + 2) * n) nd nl (.tuple xs) := by
  obtain ⟨b1, b2, b3, b4, b5⟩ := smA h
  have := Nat.mul_le_mul_left (c + 2) hn
  exact ⟨b1, by show _ + 1 ≤ _; omega, by show 4 + _ ≤ _; omega, b4, b5⟩
theorem Sm.list {dp c n : Nat} {nd nl : Bool} {xs : List PyData} (h : ∀ x ∈ xs, Sm dp c nd nl x) (hn : xs.length ≤ n) : Sm (dp + 1) (4 + (c + 2) * n) nd false (.list xs) := by
  obtain ⟨b1, b2, b3, b4, b5⟩ := smA h
  have := Nat.mul_le_mul_left (c + 2) hn
  exact ⟨b1, by show _ + 1 ≤ _; omega, by show 2 + _ ≤ _; omega, b4, fun z => by cases z⟩
theorem Sm.int {i : Int} (h : i.natAbs.log2 < 1920) : Sm 0 1922 true true (.int i) := ⟨by simpa [PyData.showable] using h, Nat.le_refl _, Nat.le_refl _, fun _ => rfl, fun _ => rfl⟩
theorem log_small {i : Int} {k : Nat} (hk : k ≤ 1920) (h0 : 0 < k) (h : i.natAbs < 2 ^ k) : i.natAbs.log2 < 1920 :=
  Nat.lt_of_lt_of_le (PySem.Flt.log2_lt_of h0 h) hk
/-! ### == of a list and [] -/
theorem eqD_list (xs ys : List PyData) : eqD (.list xs) (.list ys) = if SeqAt.shaped (.list xs) = true ∧ SeqAt.shaped (.list ys) = true then retB (PyData.eqv (.list xs) (.list ys)) else if lenDiff (.list xs) (.list ys) = true then retB false else M.bad := rfl
theorem dEq_nil (ys : List PyData) (st : Sto) : dEq (.dat (.list ys)) (.dat (.list [])) st = .ok (.dat (.bool ys.isEmpty)) st := by
  show eqD (.list ys) (.list []) st = _
  rw [eqD_list]
  cases ys with
  | nil => rw [if_pos ⟨by decide, by decide⟩] <;> rfl
  | cons y r =>
    by_cases h : SeqAt.shaped (.list (y :: r)) = true ∧ SeqAt.shaped (.list []) = true
    · rw [if_pos h] <;> rfl
    · rw [if_neg h, if_pos (by rfl)] <;> rfl
/-- lists of what may lie in a text of data: by its own == -/
theorem eq_shaped {xs ys : List PyData} (h1 : SeqAt.shaped (.list xs) = true) (h2 : SeqAt.shaped (.list ys) = true) (st : Sto) : dEq (.dat (.list xs)) (.dat (.list ys)) st = .ok (.dat (.bool (PyData.eqvAll xs ys))) st := by
  show eqD (.list xs) (.list ys) st = _
  rw [eqD_list, if_pos ⟨h1, h2⟩]
  rfl
theorem ne_shaped {xs ys : List PyData} (h1 : SeqAt.shaped (.list xs) = true) (h2 : SeqAt.shaped (.list ys) = true) (st : Sto) : dNe (.dat (.list xs)) (.dat (.list ys)) st = .ok (.dat (.bool (!PyData.eqvAll xs ys))) st := by
  show notM (eqD (.list xs) (.list ys)) st = _
  rw [eqD_list, if_pos ⟨h1, h2⟩]
  rfl
theorem dEq_int (i j : Int) (st : Sto) : dEq (.dat (.int i)) (.dat (.int j)) st = .ok (.dat (.bool (i == j))) st := by
  have e : eqD (.int i) (.int j) = if SeqAt.shaped (.int i) = true ∧ SeqAt.shaped (.int j) = true then retB (PyData.eqv (.int i) (.int j)) else if lenDiff (.int i) (.int j) = true then retB false else M.bad := rfl
  show eqD (.int i) (.int j) st = _
  rw [e, if_pos ⟨by rfl, by rfl⟩]
  rfl
theorem ix_list {xs : List PyData} {i : Int} {d : PyData} (h : atI xs i = some d) (st : Sto) : dIx (.dat (.list xs)) (.dat (.int i)) st = .ok (.dat d) st := by
  show (match atI xs i with | some d => Res.ok (D.dat d) st | none => .bad) = _
  rw [h]
theorem ix_tuple {xs : List PyData} {i : Int} {d : PyData} (h : atI xs i = some d) (st : Sto) : dIx (.dat (.tuple xs)) (.dat (.int i)) st = .ok (.dat d) st := by
  show (match atI xs i with | some d => Res.ok (D.dat d) st | none => .bad) = _
  rw [h]
theorem ix_fz {xs : List PyData} {i : Int} {d : PyData} (h : atI xs i = some d) (st : Sto) : dIx (.fz xs) (.dat (.int i)) st = .ok (.dat d) st := by
  show (match atI xs i with | some d => Res.ok (D.dat d) st | none => .bad) = _
  rw [h]
theorem ix_loc {n : Nat} {xs : List PyData} {i : Int} {d : PyData} {st : Sto} (e : st[n]? = some (.lst xs)) (h : atI xs i = some d) : dIx (.loc n) (.dat (.int i)) st = .ok (.dat d) st := by
  show (match dataOf (.loc n) st with | some x => ixD i x st | none => .bad) = _
  unfold dataOf
  dsimp only
  rw [e]
  show (match atI xs i with | some d => Res.ok (D.dat d) st | none => .bad) = _
  rw [h]
/-- xs[i] = y, xs a list of the store -/
theorem setix_ap {mo mi me : Env → M D} {ρ : Env} {st : Sto} {n j : Nat} {k : Int} {xs : List PyData} {y : PyData} {st1 st2 st3 : Sto} (h1 : me ρ st = .ok (.dat y) st1) (h2 : mo ρ st1 = .ok (.loc n) st2) (h3 : mi ρ st2 = .ok (.dat (.int k)) st3) (e : st3[n]? = some (.lst xs)) (hj : ixN xs.length k = some j) :
    sSetIx mo mi me ρ st = .nx ρ (st3.set n (.lst (xs.set j y))) := by
  unfold sSetIx
  rw [sBind_ap, h1, thenS_ok, sBind_ap, h2, thenS_ok, sBind_ap, h3, thenS_ok, sBind_ap]
  have q : (onLoc (setAt k y) (.loc n) : M D) st3 = .ok (.dat .none) (st3.set n (.lst (xs.set j y))) := by
    unfold onLoc
    dsimp only
    rw [e]
    dsimp only
    unfold setAt
    rw [hj]
    rfl
  dsimp only
  rw [q]
  rfl
theorem mul_list {xs : List PyData} {k : Int} (h : k ≤ 1000 ∧ -1000 ≤ k ∧ xs.length ≤ 100) (st : Sto) : dMul (.dat (.list xs)) (.dat (.int k)) st = .ok (.dat (.list (repD k.toNat xs))) st := by
  show guardM (k ≤ 1000 ∧ -1000 ≤ k ∧ xs.length ≤ 100) (M.pure (.dat (.list (repD k.toNat xs)))) st = _
  rw [guard_ok h]
  rfl
theorem mul_tuple {xs : List PyData} {k : Int} (h : -1000 ≤ k ∧ k ≤ 1000 ∧ xs.length ≤ 100) (st : Sto) : dMul (.dat (.tuple xs)) (.dat (.int k)) st = .ok (.dat (.tuple (repD k.toNat xs))) st := by
  show guardM (-1000 ≤ k ∧ k ≤ 1000 ∧ xs.length ≤ 100) (M.pure (.dat (.tuple (repD k.toNat xs)))) st = _
  rw [guard_ok h]
  rfl
theorem loopS_nx {ok : Sto → Prop} {t : Tg} {body : SM} {d : D} {ds : List D} {ρ ρ1 ρ2 : Env} {st st2 : Sto} (h : ok st) (e1 : t d ρ = some ρ1) (e2 : body ρ1 st = .nx ρ2 st2) : loopS ok t body (d :: ds) ρ st = loopS ok t body ds ρ2 st2 := by
  rw [loopS]
  rw [if_pos h, e1]
  dsimp only
  rw [e2]
end Ev
set_option Elab.async false
set_option linter.all false
set_option maxRecDepth 100000
set_option maxHeartbeats 4000000
set_option exponentiation.threshold 5000
/-! Sack: the drawn numbers of the laws. -/
namespace Ev
open PySem PySem.Spec PyProof.Rows L2 PyProof
open Classical
theorem wide_of {i : Int} (k : Nat) (hk : k ≤ 4000) (h : i.natAbs < 2 ^ k) : wideI i := by
  unfold wideI
  exact Nat.lt_of_lt_of_le h (Nat.pow_le_pow_right (by decide) hk)
theorem wide64 {i : Int} (h1 : -18446744073709551616 < i) (h2 : i < 18446744073709551616) : wideI i := wide_of 64 (by decide) (by omega)
theorem bits10 : Builtin.Int.intBits 10 = 4 := by decide
def sackB : SM :=
    (sSeq (sSet 2 (m2 dAdd (m2 dMul (ct (.dat (.int 3))) (vr 1)) (ct (.dat (.int 1)))))
    (sSeq (sIf (mT (m2 dLt (vr 1) (mC (on1 dLen) (aCons (vr 0) aNil)))) (sSet 2 (m2 dIx (vr 0) (vr 1))) sNil)
    (sSeq (sSet 3 (m2 dMod (mC (on1 dAbs) (aCons (vr 2) aNil)) (m2 dPow (m2 dPow (ct (.dat (.int 10))) (ct (.dat (.int 60)))) (ct (.dat (.int 12))))))
    (sRet (mC mkLoc (aCons (mC (on2 dMax2) (aCons (ct (.dat (.int 0))) (aCons (m2 dSub (vr 3) (m2 dPow (ct (.dat (.int 10))) (ct (.dat (.int 16))))) aNil))) (aCons (m2 dMod (m2 dAdd (m2 dAdd (m2 dAdd (m2 dMul (vr 3) (ct (.dat (.int 6700417)))) (m2 dMul (ct (.dat (.int 524287))) (vr 1))) (m2 dMul (ct (.dat (.int 2))) (mC (on1 dInt) (aCons (m2 dLt (vr 2) (ct (.dat (.int 0)))) aNil)))) (ct (.dat (.int 11)))) (ct (.dat (.int 2147483647)))) (aCons (ct (.dat (.int 0))) aNil))))))))
def drawB : SM :=
    (sSeq (sIf (mT (m2 dGt (m2 dIx (vr 0) (ct (.dat (.int 0)))) (ct (.dat (.int 0))))) (sSeq (sSet 2 (m2 dMod (m2 dIx (vr 0) (ct (.dat (.int 0)))) (vr 1)))
    (sSeq (sSetIx (vr 0) (ct (.dat (.int 0))) (m2 dFdiv (m2 dIx (vr 0) (ct (.dat (.int 0)))) (vr 1)))
    (sRet (vr 2)))) sNil)
    (sSeq (sSetIx (vr 0) (ct (.dat (.int 2))) (m2 dAdd (m2 dIx (vr 0) (ct (.dat (.int 2)))) (ct (.dat (.int 1)))))
    (sSeq (sSet 3 (m2 dMod (m2 dAdd (m2 dIx (vr 0) (ct (.dat (.int 1)))) (m2 dMul (ct (.dat (.int 1299709))) (m2 dIx (vr 0) (ct (.dat (.int 2)))))) (ct (.dat (.int 2147483629)))))
    (sSeq (sSet 4 (m2 dAdd (m2 dMul (m2 dMod (m2 dMul (vr 3) (vr 3)) (ct (.dat (.int 2147483587)))) (vr 3)) (m2 dMul (ct (.dat (.int 7919))) (m2 dIx (vr 0) (ct (.dat (.int 2)))))))
    (sSeq (sSet 5 (m2 dMod (m2 dAdd (vr 4) (m2 dMod (m2 dIx (vr 0) (ct (.dat (.int 1)))) (ct (.dat (.int 65521))))) (ct (.dat (.int 2147483563)))))
    (sSeq (sSet 2 (m2 dAdd (m2 dFdiv (m2 dMod (m2 dMul (vr 5) (vr 5)) (ct (.dat (.int 2147483549)))) (ct (.dat (.int 32)))) (m2 dMul (m2 dMul (ct (.dat (.int 2147483563))) (vr 3)) (mC (on1 dInt) (aCons (m2 dGt (vr 1) (m2 dPow (ct (.dat (.int 10))) (ct (.dat (.int 6))))) aNil)))))
    (sRet (m2 dMod (vr 2) (vr 1)))))))))
abbrev topS : Int := 10 ^ 720
/-- a sack in the n-th cell of the store, drawn from m times without its first number at most -/
def SackAt (st : Sto) (n m : Nat) : Prop := ∃ a b c : Int, st[n]? = some (.lst [.int a, .int b, .int c]) ∧ 0 ≤ a ∧ a < topS ∧ 0 ≤ b ∧ b < 2147483648 ∧ 0 ≤ c ∧ c ≤ m
theorem SackAt.mono {st : Sto} {n m m' : Nat} (h : SackAt st n m) (hm : m ≤ m') : SackAt st n m' := by
  obtain ⟨a, b, c, h1, h2, h3, h4, h5, h6, h7⟩ := h
  exact ⟨a, b, c, h1, h2, h3, h4, h5, h6, by omega⟩
/-- the n-th cell alone is another one -/
def SameBut (n : Nat) (st st' : Sto) : Prop := ∃ c, st' = st.set n c
theorem SameBut.len {n : Nat} {st st' : Sto} (h : SameBut n st st') : st'.length = st.length := by
  obtain ⟨c, rfl⟩ := h
  simp
theorem SameBut.trans {n : Nat} {st st' st2 : Sto} (h : SameBut n st st') (h2 : SameBut n st' st2) : SameBut n st st2 := by
  obtain ⟨c, rfl⟩ := h
  obtain ⟨d, rfl⟩ := h2
  exact ⟨d, by rw [List.set_set]⟩
theorem SameBut.refl {n : Nat} {st : Sto} (h : n < st.length) : SameBut n st st := ⟨st[n], by simp⟩
theorem at3 (a b c : PyData) : atI [a, b, c] 0 = some a ∧ atI [a, b, c] 1 = some b ∧ atI [a, b, c] 2 = some c := ⟨rfl, rfl, rfl⟩
theorem fmod_bounds (i : Int) {j : Int} (h : 0 < j) : 0 ≤ i.fmod j ∧ i.fmod j < j := by
  rw [Int.fmod_eq_emod_of_nonneg _ (Int.le_of_lt h)]
  exact ⟨Int.emod_nonneg _ (by omega), Int.emod_lt_of_pos _ h⟩
theorem ten6 (st : Sto) : dPow (.dat (.int 10)) (.dat (.int 6)) st = .ok (.dat (.int 1000000)) st := by
  rw [dPow_ap _ _ _ (by rw [bits10]; decide)] <;> rfl
theorem draw_ok {st : Sto} {n m : Nat} (S : SackAt st n m) {many : Int} (h0 : 0 < many) (h1 : many < 18446744073709551616) (hm : m ≤ 1000000) :
    ∃ r st', runB 6 2 drawB [.loc n, .dat (.int many)] st = .ok (.dat (.int r)) st' ∧ 0 ≤ r ∧ r < many ∧ SameBut n st st' ∧ SackAt st' n (m + 1) := by
  obtain ⟨a, b, c, e, a0, a1, b0, b1, c0, c1⟩ := S
  have ln : n < st.length := (List.getElem?_eq_some_iff.mp e).1
  obtain ⟨i0, i1, i2⟩ := at3 (.int a) (.int b) (.int c)
  by_cases ha : 0 < a
  · have mo := fmod_bounds a h0
    have q := setix_ap (mo := vr 0) (mi := ct (.dat (.int 0))) (me := m2 dFdiv (m2 dIx (vr 0) (ct (.dat (.int 0)))) (vr 1)) (ρ := [some (.loc n), some (.dat (.int many)), some (.dat (.int (a.fmod many))), none, none, none]) (st := st) (k := 0) (j := 0) (n := n) (xs := [.int a, .int b, .int c]) (y := .int (a.fdiv many)) (st1 := st) (st2 := st) (st3 := st)
      (by simp [ix_loc e i0, dFdiv_ap st a many (.inl ⟨h0, wide64 (by omega) h1⟩)]) (by simp) (by simp) e (by rfl)
    refine ⟨a.fmod many, st.set n (.lst [.int (a.fdiv many), .int b, .int c]), ?_, mo.1, mo.2, ⟨_, rfl⟩, a.fdiv many, b, c, by rw [List.getElem?_set_self ln], ?_, ?_, b0, b1, c0, by omega⟩
    · simp [drawB, ix_loc e i0, ha, dMod_ap st a many (by omega), q, List.take_of_length_le]
    · rw [Int.fdiv_eq_ediv_of_nonneg _ (Int.le_of_lt h0)]
      exact Int.ediv_nonneg a0 (Int.le_of_lt h0)
    · rw [Int.fdiv_eq_ediv_of_nonneg _ (Int.le_of_lt h0)]
      exact Int.lt_of_le_of_lt (Int.ediv_le_self _ a0) a1
  · have e1 : (st.set n (.lst [.int a, .int b, .int (c + 1)]))[n]? = some (Cell.lst [.int a, .int b, .int (c + 1)]) := by rw [List.getElem?_set_self ln]
    obtain ⟨j0, j1, j2⟩ := at3 (.int a) (.int b) (.int (c + 1))
    have q := setix_ap (mo := vr 0) (mi := ct (.dat (.int 2))) (me := m2 dAdd (m2 dIx (vr 0) (ct (.dat (.int 2)))) (ct (.dat (.int 1)))) (ρ := [some (.loc n), some (.dat (.int many)), none, none, none, none]) (st := st) (k := 2) (j := 2) (n := n) (xs := [.int a, .int b, .int c]) (y := .int (c + 1)) (st1 := st) (st2 := st) (st3 := st)
      (by simp [ix_loc e i2]) (by simp) (by simp) e (by rfl)
    have q' : sSetIx (vr 0) (ct (.dat (.int 2))) (m2 dAdd (m2 dIx (vr 0) (ct (.dat (.int 2)))) (ct (.dat (.int 1)))) [some (.loc n), some (.dat (.int many)), none, none, none, none] st = .nx [some (.loc n), some (.dat (.int many)), none, none, none, none] (st.set n (.lst [.int a, .int b, .int (c + 1)])) := q
    generalize hs : st.set n (.lst [.int a, .int b, .int (c + 1)]) = st1 at e1 q'
    obtain ⟨one, ho⟩ : ∃ x, x = (b + 1299709 * (c + 1)).fmod 2147483629 := ⟨_, rfl⟩
    have bo := fmod_bounds (b + 1299709 * (c + 1)) (j := 2147483629) (by decide)
    rw [← ho] at bo
    obtain ⟨sq, hq⟩ : ∃ x, x = (one * one).fmod 2147483587 := ⟨_, rfl⟩
    have bq := fmod_bounds (one * one) (j := 2147483587) (by decide)
    rw [← hq] at bq
    obtain ⟨two, ht⟩ : ∃ x, x = (sq * one + 7919 * (c + 1) + b.fmod 65521).fmod 2147483563 := ⟨_, rfl⟩
    have bt := fmod_bounds (sq * one + 7919 * (c + 1) + b.fmod 65521) (j := 2147483563) (by decide)
    rw [← ht] at bt
    have w1 : wideI one := wide64 (by omega) (by omega)
    have w2 : wideI sq := wide64 (by omega) (by omega)
    have w3 : wideI two := wide64 (by omega) (by omega)
    have wc : wideI (c + 1) := wide64 (by omega) (by omega)
    have wk : ∀ k : Int, -1000000000000 < k → k < 1000000000000 → wideI k := fun k h1 h2 => wide64 (by omega) (by omega)
    have d1 := dMul_ap st1 1299709 (c + 1) ⟨wk _ (by decide) (by decide), wc⟩
    have d2 := dMul_ap st1 one one ⟨w1, w1⟩
    have d3 := dMul_ap st1 sq one ⟨w2, w1⟩
    have d4 := dMul_ap st1 7919 (c + 1) ⟨wk _ (by decide) (by decide), wc⟩
    have d5 := dMul_ap st1 two two ⟨w3, w3⟩
    have d6 := dMul_ap st1 2147483563 one ⟨wk _ (by decide) (by decide), w1⟩
    have d7 : ∀ k : Bool, dMul (.dat (.int (2147483563 * one))) (.dat (.int (if k then 1 else 0))) st1 = .ok (.dat (.int (2147483563 * one * (if k then 1 else 0)))) st1 := fun k => dMul_ap st1 _ _ ⟨wide64 (by omega) (by omega), by cases k <;> exact wk _ (by decide) (by decide)⟩
    have f1 := dMod_ap st1 (b + 1299709 * (c + 1)) 2147483629 (by decide)
    have f2 := dMod_ap st1 (one * one) 2147483587 (by decide)
    have f3 := dMod_ap st1 b 65521 (by decide)
    have f4 := dMod_ap st1 (sq * one + 7919 * (c + 1) + b.fmod 65521) 2147483563 (by decide)
    have f5 := dMod_ap st1 (two * two) 2147483549 (by decide)
    have f6 := dFdiv_ap st1 ((two * two).fmod 2147483549) 32 (.inr ⟨by decide, by decide⟩)
    rw [← ho] at f1
    rw [← hq] at f2
    rw [← ht] at f4
    obtain ⟨fo, hf⟩ : ∃ x, x = ((two * two).fmod 2147483549).fdiv 32 + 2147483563 * one * (if decide (1000000 < many) = true then 1 else 0) := ⟨_, rfl⟩
    have f7 := dMod_ap st1 fo many (by omega)
    have bf := fmod_bounds fo h0
    have x0 := ix_loc e i0
    have y1 := ix_loc e1 j1
    have y2 := ix_loc e1 j2
    have d7' := d7 (decide (1000000 < many))
    refine ⟨fo.fmod many, st1, ?_, bf.1, bf.2, ⟨_, hs.symm⟩, a, b, c + 1, e1, a0, a1, b0, b1, by omega, by omega⟩
    have l1 : st1.length = st.length := by rw [← hs]; simp
    have fin : giveD st.length (.dat (.int (fo.fmod many))) st1 = .ok (.dat (.int (fo.fmod many))) st1 := by
      show Res.ok _ (st1.take st.length) = _
      rw [← l1, List.take_length]
    simp only [drawB, run2, startE_ap, List.map_cons, List.map_nil, List.length_cons, List.length_nil, List.replicate, List.cons_append, List.nil_append, sSeq_ap, sIf_ap, mT_ap, m2_ap, vr_zero, vr_succ, ct_ap, then_ok, bind_ap, x0, dGt_ap, asB_ap, decide_eq_false ha, thenS_ok, ite_sm, Bool.false_eq_true, if_false, sNil_ap, sthen_nx, q']
    have p6 := ten6 st1
    simp only [sSeq_ap, sSet_ap, m2_ap, mC_ap, aCons_ap, aNil_ap, on1_ap, pure_ap, vr_zero, vr_succ, ct_ap, then_ok, bind_ap, thenS_ok, sthen_nx, y1, y2, d1, d2, d3, d4, d5, d6, f1, f2, f3, f4, f5, f6, dAdd_ap, dGt_ap, dIntB_ap, p6, d7', ← hf, f7, List.set_cons_succ, List.set_cons_zero, sRet_ap, fin_rt, fin]
theorem atI_nat {α : Type} {xs : List α} {k : Nat} {x : α} (h : xs[k]? = some x) : atI xs (k : Int) = some x := by
  have hk := (List.getElem?_eq_some_iff.mp h).1
  unfold atI ixN
  simp [hk]
  exact (List.getElem?_eq_some_iff.mp h).2
theorem top_pow : ((10 : Int) ^ 60) ^ 12 = topS := by decide +kernel
theorem p60 (st : Sto) : dPow (.dat (.int 10)) (.dat (.int 60)) st = .ok (.dat (.int (10 ^ 60))) st := by
  rw [dPow_ap _ _ _ (by rw [bits10]; decide)] <;> rfl
theorem bits60 : Builtin.Int.intBits (10 ^ 60) = 200 := by decide +kernel
theorem p12 (st : Sto) : dPow (.dat (.int (10 ^ 60))) (.dat (.int 12)) st = .ok (.dat (.int topS)) st := by
  rw [dPow_ap _ _ _ (by rw [bits60]; decide), ← top_pow] <;> rfl
theorem p16 (st : Sto) : dPow (.dat (.int 10)) (.dat (.int 16)) st = .ok (.dat (.int 10000000000000000)) st := by
  rw [dPow_ap _ _ _ (by rw [bits10]; decide)] <;> rfl
theorem wide_top {i : Int} (h0 : 0 ≤ i) (h : i < topS) : wideI i := by
  refine wide_of 2400 (by decide) ?_
  have : (topS : Int) ≤ ((2 ^ 2400 : Nat) : Int) := by decide +kernel
  omega
theorem giveL_new (st : Sto) (xs : List PyData) : giveL st.length (.loc st.length) (st ++ [.lst xs]) = .ok (.loc st.length) (st ++ [.lst xs]) := by
  unfold giveL
  dsimp only
  rw [if_neg (Nat.lt_irrefl _), List.getElem?_append_right (Nat.le_refl _), Nat.sub_self]
  simp
/-- the sack that a script's number makes -/
theorem sack_ok (ns : List Int) {k : Nat} (hk : k < 1000) (st : Sto) :
    ∃ xs, runL 4 2 sackB [.fz (ns.map PyData.int), .dat (.int k)] st = .ok (.loc st.length) (st ++ [.lst xs]) ∧ SackAt (st ++ [.lst xs]) st.length 0 := by
  have main : ∀ cell : Int, ∃ xs, ((sSeq (sSet 3 (m2 dMod (mC (on1 dAbs) (aCons (vr 2) aNil)) (m2 dPow (m2 dPow (ct (.dat (.int 10))) (ct (.dat (.int 60)))) (ct (.dat (.int 12))))))
      (sRet (mC mkLoc (aCons (mC (on2 dMax2) (aCons (ct (.dat (.int 0))) (aCons (m2 dSub (vr 3) (m2 dPow (ct (.dat (.int 10))) (ct (.dat (.int 16))))) aNil))) (aCons (m2 dMod (m2 dAdd (m2 dAdd (m2 dAdd (m2 dMul (vr 3) (ct (.dat (.int 6700417)))) (m2 dMul (ct (.dat (.int 524287))) (vr 1))) (m2 dMul (ct (.dat (.int 2))) (mC (on1 dInt) (aCons (m2 dLt (vr 2) (ct (.dat (.int 0)))) aNil)))) (ct (.dat (.int 11)))) (ct (.dat (.int 2147483647)))) (aCons (ct (.dat (.int 0))) aNil))))))
      [some (.fz (ns.map PyData.int)), some (.dat (.int k)), some (.dat (.int cell)), none] st).fin giveL st.length = .ok (.loc st.length) (st ++ [.lst xs]) ∧ SackAt (st ++ [.lst xs]) st.length 0 := fun cell => by
    obtain ⟨g, hg⟩ : ∃ x, x = (iAbs cell).fmod topS := ⟨_, rfl⟩
    have bg := fmod_bounds (iAbs cell) (j := topS) (by decide +kernel)
    rw [← hg] at bg
    have f1 := dMod_ap st (iAbs cell) topS (by decide +kernel)
    rw [← hg] at f1
    have wk : ∀ k : Int, -1000000000000 < k → k < 1000000000000 → wideI k := fun k h1 h2 => wide64 (by omega) (by omega)
    have d1 := dMul_ap st g 6700417 ⟨wide_top bg.1 bg.2, wk _ (by decide) (by decide)⟩
    have d2 := dMul_ap st 524287 k ⟨wk _ (by decide) (by decide), wk _ (by omega) (by omega)⟩
    have d3 := dMul_ap st 2 (if decide (cell < 0) = true then 1 else 0) ⟨wk _ (by decide) (by decide), by split <;> exact wk _ (by decide) (by decide)⟩
    obtain ⟨s, hs⟩ : ∃ x, x = (g * 6700417 + 524287 * k + 2 * (if decide (cell < 0) = true then 1 else 0) + 11).fmod 2147483647 := ⟨_, rfl⟩
    have bs := fmod_bounds (g * 6700417 + 524287 * k + 2 * (if decide (cell < 0) = true then 1 else 0) + 11) (j := 2147483647) (by decide)
    rw [← hs] at bs
    have f2 := dMod_ap st (g * 6700417 + 524287 * k + 2 * (if decide (cell < 0) = true then 1 else 0) + 11) 2147483647 (by decide)
    rw [← hs] at f2
    have a1 := p60 st
    have a2 := p12 st
    have a3 := p16 st
    have mk : mkLoc [.dat (.int (iMax 0 (g - 10000000000000000))), .dat (.int s), .dat (.int 0)] st = .ok (.loc st.length) (st ++ [.lst [.int (iMax 0 (g - 10000000000000000)), .int s, .int 0]]) := mkLoc_ap st (by rfl) (by simp)
    refine ⟨[.int (iMax 0 (g - 10000000000000000)), .int s, .int 0], ?_, _, _, _, by rw [List.getElem?_append_right (Nat.le_refl _), Nat.sub_self]; rfl, ?_, ?_, bs.1, by omega, Int.le_refl _, by decide⟩
    · simp only [sSeq_ap, sSet_ap, m2_ap, mC_ap, aCons_ap, aNil_ap, on1_ap, on2_ap, pure_ap, vr_zero, vr_succ, ct_ap, then_ok, bind_ap, thenS_ok, sthen_nx, a1, a2, a3, f1, f2, d1, d2, d3, dAdd_ap, dSub_ap, dAbs_ap, dMax_ap, dLt_ap, dIntB_ap, List.set_cons_succ, List.set_cons_zero, sRet_ap, fin_rt, mk, giveL_new]
    · unfold iMax; split <;> omega
    · unfold iMax
      have : (0 : Int) < topS := by decide +kernel
      split <;> omega
  have wk : ∀ k : Int, -1000000000000 < k → k < 1000000000000 → wideI k := fun k h1 h2 => wide64 (by omega) (by omega)
  have d0 := dMul_ap st 3 k ⟨wk _ (by decide) (by decide), wk _ (by omega) (by omega)⟩
  by_cases h : k < ns.length
  · obtain ⟨xs, e, S⟩ := main ns[k]
    refine ⟨xs, ?_, S⟩
    rw [← e]
    have i1 : dIx (.fz (ns.map PyData.int)) (.dat (.int k)) st = .ok (.dat (.int ns[k])) st := ix_fz (atI_nat (by rw [List.getElem?_map, List.getElem?_eq_getElem h]; rfl)) st
    have hlt : decide ((k : Int) < ((ns.map PyData.int).length : Int)) = true := by simp; exact h
    simp only [sackB, run2, startE_ap, List.map_cons, List.map_nil, List.length_cons, List.length_nil, List.replicate, List.cons_append, List.nil_append, sSeq_ap, sSet_ap, sIf_ap, mT_ap, m2_ap, mC_ap, aCons_ap, aNil_ap, on1_ap, pure_ap, vr_zero, vr_succ, ct_ap, then_ok, bind_ap, thenS_ok, sthen_nx, d0, dAdd_ap, dLen_fz, dLt_ap, asB_ap, hlt, ite_sm, if_true, i1, List.set_cons_succ, List.set_cons_zero]
  · obtain ⟨xs, e, S⟩ := main (3 * k + 1)
    refine ⟨xs, ?_, S⟩
    rw [← e]
    have hlt : decide ((k : Int) < ((ns.map PyData.int).length : Int)) = false := by simp; omega
    simp only [sackB, run2, startE_ap, List.map_cons, List.map_nil, List.length_cons, List.length_nil, List.replicate, List.cons_append, List.nil_append, sSeq_ap, sSet_ap, sIf_ap, mT_ap, m2_ap, mC_ap, aCons_ap, aNil_ap, on1_ap, pure_ap, vr_zero, vr_succ, ct_ap, then_ok, bind_ap, thenS_ok, sthen_nx, d0, dAdd_ap, dLen_fz, dLt_ap, asB_ap, hlt, ite_sm, Bool.false_eq_true, if_false, sNil_ap, List.set_cons_succ, List.set_cons_zero]
end Ev
namespace Ev
open PySem PySem.Spec PyProof.Rows L2 PyProof
open Classical
theorem giveD_same {n : Nat} {st : Sto} (h : st.length = n) (x : PyData) : giveD n (.dat x) st = .ok (.dat x) st := by
  show Res.ok _ (st.take n) = _
  rw [← h, List.take_length]
theorem atI_mem {α : Type} {xs : List α} {r : Int} (h0 : 0 ≤ r) (h1 : r < xs.length) : ∃ x, x ∈ xs ∧ atI xs r = some x := by
  obtain ⟨k, rfl⟩ := Int.eq_ofNat_of_zero_le h0
  have hk : k < xs.length := by omega
  exact ⟨xs[k], List.getElem_mem hk, atI_nat (List.getElem?_eq_getElem hk)⟩
theorem bits2 : Builtin.Int.intBits 2 = 2 := by decide
theorem pow10 (k : Nat) (st : Sto) (h : k ≤ 20000 := by decide) : dPow (.dat (.int 10)) (.dat (.int k)) st = .ok (.dat (.int (10 ^ k))) st := by
  rw [dPow_ap _ _ _ (by rw [bits10]; omega)] <;> rfl
theorem pow2 (k : Nat) (st : Sto) (h : k ≤ 20000 := by decide) : dPow (.dat (.int 2)) (.dat (.int k)) st = .ok (.dat (.int (2 ^ k))) st := by
  rw [dPow_ap _ _ _ (by rw [bits2]; omega)] <;> rfl
/-- what a draw leaves -/
structure Dn (n m : Nat) (st st' : Sto) : Prop where
  but : SameBut n st st'
  sack : SackAt st' n m
theorem Dn.len {n m : Nat} {st st' : Sto} (h : Dn n m st st') : st'.length = st.length := h.but.len
theorem Dn.trans {n m m' : Nat} {st st' st2 : Sto} (h : Dn n m st st') (h2 : Dn n m' st' st2) : Dn n m' st st2 := ⟨h.but.trans h2.but, h2.sack⟩
theorem Dn.mono {n m m' : Nat} {st st' : Sto} (h : Dn n m st st') (hm : m ≤ m') : Dn n m' st st' := ⟨h.but, h.sack.mono hm⟩
theorem draw_dn {st : Sto} {n m : Nat} (S : SackAt st n m) {many : Int} (h0 : 0 < many) (h1 : many < 18446744073709551616) (hm : m ≤ 1000000) :
    ∃ r st', runB 6 2 drawB [.loc n, .dat (.int many)] st = .ok (.dat (.int r)) st' ∧ 0 ≤ r ∧ r < many ∧ Dn n (m + 1) st st' := by
  obtain ⟨r, st', e, a, b, c, d⟩ := draw_ok S h0 h1 hm
  exact ⟨r, st', e, a, b, c, d⟩
end Ev
set_option Elab.async false
set_option linter.all false
set_option maxRecDepth 100000
set_option maxHeartbeats 4000000
/-! Ev18: raise C(e), C an own class over an error of Python's, whose __init__ calls the base's by name and keeps e. -/
namespace Ev
open PySem PySem.Spec PyProof.Rows L2
/-- what the written part says of such a class -/
structure OxG (K : PySem.W.Frag) (C : Addr) (bmB : List Value) (newId : String) : Prop where
  em : PySem.W.excInitIn K C bmB newId = true
  ov : PySem.W.excOver K C bmB = true
  hd : PySem.W.hasDictIn K C = true
  st : PySem.W.findIn K (.ref C) "__setattr__" = some (some (.builtin "object.__setattr__"))
  be : PySem.W.subIn K (.ref C) (.type "BaseException") = some true
  ty : PySem.W.typeIn K (.ref C) = some (.type "type")
  kp : PySem.W.keepIn K (.ref C) = true
section
variable {X : Cx} {pins : List (Addr × Obj)} {σ : L2.St} {H : Hp} {s : Shared} {a C : Addr} {f : Str} {y : V} {u : Value} {bmB : List Value} {B newId initId : String} {E : Value → Shared → Prop} {A : Around}
theorem oxg_store {Q : Unit → Shared → Prop} (SF : StoreFacts B bmB "object.__setattr__" "object") (T : OxG X.K C bmB newId) (I : L2.Inv X pins σ H s) (ea : H a = some (exo a C none)) (ht : PySem.W.takerIn X.K C f = some none) (ry : RelV y u)
    (nx : ∀ dd s', H dd = none → dd ≠ a → L2.Inv X pins σ (upd (upd H dd (exd dd [(f, y)])) a (exo a C (some dd))) s' → Q () s') : wpAny (model X.prog X.w) A (setAttr (.ref a) f u) Q E s := by
  obtain ⟨t1, he⟩ := exo_at I.hok ea
  obtain ⟨cd, hc, hh⟩ := PySem.W.any_some T.hd
  obtain ⟨hp, gs, dr, tk0, os⟩ := s
  refine PySem.W.set_plain (ox := PySem.W.excObj C t1 none .none) (od := none) I.kIn ⟨he, rfl, rfl, trivial⟩ T.st ?_
  refine PySem.W.osa_openX (ox := PySem.W.excObj C t1 none .none) (od := none) SF I.kIn ⟨he, rfl, rfl, trivial⟩ T.ov ht fun b => ?_
  refine wpAny_bind (wpAny_pure (wpAny_bind (PySem.W.instanceDict_exc he (PySem.W.looks_clsIn I.kIn hc) hh ?_)))
  show wpAny _ _ (Builtin.ObjectAttr.storeInDict hp.objs.size (.str f _) f u) _ _ _
  have hxs : a ≠ hp.objs.size := Nat.ne_of_lt (Heap.lt_size he)
  refine PySem.HandSPX.store_in_new ⟨_, #[], _, (Heap.get?_update_ne _ _ _ _ hxs.symm).trans (Heap.get?_push_at rfl rfl), rfl, (fun e z => absurd z (by simp)), fun _ => rfl⟩ fun h2 tk2 hn2 sb => ?_
  have fr : H hp.objs.size = none := I.hok.fresh (Nat.le_refl _)
  have kp : ∀ z w, z ≠ a → hp.get? z = some w → h2.get? z = some w := fun z w nz ez =>
    (sb.2 z (Nat.ne_of_lt (Heap.lt_size ez))).trans ((Heap.get?_update_ne _ _ _ _ nz).trans (Heap.get?_push_of_some _ ez))
  have at2 : h2.get? a = some (PySem.W.excObj C t1 (some hp.objs.size) .none) := (sb.2 a hxs).trans (Heap.get?_update_self _ (Heap.get?_push_of_some _ he) rfl)
  have nsz : ∀ {z : Addr} {w : Obj}, hp.get? z = some w → z ≠ hp.objs.size := fun ez => Nat.ne_of_lt (Heap.lt_size ez)
  have nA : ∀ {z : Addr}, H z = none → z ≠ a := fun n1 e1 => by rw [e1, ea] at n1; cases n1
  have un : Un X.fs [] H (upd (upd H hp.objs.size (exd hp.objs.size [(f, y)])) a (exo a C (some hp.objs.size))) hp h2 :=
    { keep := (fun z w e1 n1 _ _ => kp z w (nA n1) e1), slot := (fun z w e1 n1 _ _ => ⟨w.slots, kp z w (nA n1) e1⟩),
      free := (fun z w e1 n1 _ => by rw [upd_ne (nA n1), upd_ne (nsz e1), n1]),
      there := (fun z w e1 _ => if hz : z = a then ⟨_, hz ▸ at2⟩ else ⟨w, kp z w hz e1⟩),
      tups := (fun z l e1 => by rw [upd_ne (at_ne ea e1 exo_tup), upd_ne (ne_of_none e1 fr), e1]),
      frzs := (fun z w v e1 => by rw [upd_ne (at_ne ea e1 exo_frz), upd_ne (ne_of_none e1 fr), e1]),
      tbls := (fun z l e1 => ⟨#[], by rw [upd_ne (at_ne ea e1 exo_tbl), upd_ne (ne_of_none e1 fr), e1]; simp⟩) }
  refine nx hp.objs.size _ fr hxs.symm (I.un (t' := tk2) un fun z w e1 => ?_)
  by_cases hz : z = a
  · rw [hz, upd_same] at e1
    cases e1
    rw [hz]
    exact exo_ok at2
  · rw [upd_ne hz] at e1
    by_cases hw : z = hp.objs.size
    · rw [hw, upd_same] at e1
      cases e1
      rw [hw]
      exact exd_ok hn2 (relO_put (fs := []) ry fun _ => True.intro)
    · rw [upd_ne hw] at e1
      refine (I.hok z w e1).stay (fun c v hc ez => kp c v ?_ ez) (fun c hc => by rw [upd_ne (at_ne ea hc exo_own), upd_ne (ne_of_none hc fr), hc]) fun c l hc => by rw [upd_ne (at_ne ea hc exo_tup), upd_ne (ne_of_none hc fr), hc]
      rcases hc with hc | hc
      · rw [hc]; exact hz
      · exact at_ne ea hc exo_own
theorem oxg_init {us : List Value} {Q : Value → Shared → Prop} (F : ExcBaseFacts B newId initId bmB) (T : OxG X.K C bmB newId) (I : L2.Inv X pins σ H s) (ea : H a = some (exo a C none)) (hl : us.length ≤ sizeLine) (nx : ∀ s', L2.Inv X pins σ H s' → Q .none s') :
    wpAny (model X.prog X.w) A (call (.builtin initId) (.ref a :: us)) Q E s := by
  obtain ⟨_, _, _, _, bm, _, _, _, _, _, _, _, _, _, _, _, hC, hT⟩ := PySem.W.excInit_of I.kIn T.em
  obtain ⟨t1, he⟩ := exo_at I.hok ea
  obtain ⟨hp, gs, dr, tk0, os⟩ := s
  refine wpAny_call (PySem.HandSPX.init_base F hT hC he hl fun h2 t2 kp at2 => ?_)
  have J := I.write (t' := tk0) (x := a) (e := a) (o := exo a C none) (by rw [ea]; exact True.intro) (.inl rfl) kp ⟨_, at2⟩ (exo_ok at2)
  have same : upd H a (exo a C none) = H := funext fun z => by
    by_cases hz : z = a
    · rw [hz, upd_same, ea]
    · exact upd_ne hz
  exact nx _ (same ▸ J)
end
/-- what a base's facts are, by its name in the text -/
structure BsG (K : PySem.W.Frag) (mg : Str → Option Value) (bx : Str) (B newId initId : String) (bmB : List Value) : Prop where
  eb : ExcBaseFacts B newId initId bmB
  sf : StoreFacts B bmB "object.__setattr__" "object"
  no : mg bx = none
  bt : bootBuiltins bx = some (.type B)
  nm : bx ≠ "__name__"
  db : (bx == ("__debug__" : Str)) = false
  ty : typeOf (.type B) = pure (.type "type")
  sb : Manifest.isStub B = false
  hi : PySem.W.handedIn (.builtin initId) = true
  it : PySem.W.findCls K (.type B) (.type "type") "__init__" = some (.val (.builtin initId))
section
variable {X : Cx} {e o : Expr} {es : List Expr} {ta : TA} {to te : TE} {f bx : Str} {B newId initId : String} {bmB : List Value} {p p' p1 p2 pos : Pos}
def tBI (K : PySem.W.Frag) (bmB : List Value) (newId : String) (ta : TA) : TE := fun σ H Q => ta σ H fun vs H1 => ∃ (a C : Addr) (ws : List V), vs = .ref a :: ws ∧ ws.length ≤ 1000 ∧ OxG K C bmB newId ∧ H1 a = some (exo a C none) ∧ Q .non H1
theorem pe_base_init {pl : Sem Bool} (G : BsG X.K X.mg bx B newId initId bmB) (hg : Gl X bx) (ha : PA X (e :: es) ta)
    (hc : eval (.Call (.Attribute (.Name bx p1) "__init__" p2) (e :: es) [] pos) X.env = (do
      let w ← eval (.Name bx p1) X.env
      standAt p2.atName
      let (g, gs) ← holding [w] (getMethod w "__init__" pl)
      callWith pos g gs (backTo pos (starEach (e :: es) X.env)) (backToKw pos (keywordEach [] X.env))) := by rfl)
    (hs : starEach (e :: es) X.env = (false, eval e X.env) :: starEach es X.env := by rfl) (hpl : (backTo pos (starEach es X.env)).any (·.1) = false := by rfl) :
    PE X (.Call (.Attribute (.Name bx p1) "__init__" p2) (e :: es) [] pos) (tBI X.K bmB newId ta) := by
  refine ⟨fun pins s σ H Q I h => PySem.W.methodCall_KW (ld_blt I hg G.no G.bt ?_ G.nm G.db) hc⟩
  obtain ⟨m, fr⟩ := I.fr
  refine PySem.W.method_type fr I.ok.mod.kin G.ty G.sb G.it G.hi ?_
  refine PyProof.Rows.callWith_method1 (thn (ha.run pos pins _ σ H _ (I.tok _) h) fun us s1 ⟨vs, H1, I1, r1, a, C, ws, ev, hl, T, ea, q⟩ => ?_) hs hpl
  subst ev
  match us, r1 with
  | _ :: ur, .cons ra rw' =>
    cases (show _ = Value.ref a from ra)
    exact oxg_init G.eb T I1 ea (by rw [← Paired.length rw', sizeLine_eq]; omega) fun s' J => ⟨.non, H1, J, rfl, q⟩
def tSO (K : PySem.W.Frag) (bmB : List Value) (newId : String) (f : Str) (to te : TE) : TS := fun D σ H => te σ H fun y H1 => to σ H1 fun x H2 => ∃ a C : Addr, x = .ref a ∧ OxG K C bmB newId ∧ PySem.W.takerIn K C f = some none ∧ H2 a = some (exo a C none) ∧
  ∀ dd, H2 dd = none → dd ≠ a → D.nx σ (upd (upd H2 dd (exd dd [(f, y)])) a (exo a C (some dd)))
theorem ps_so (SF : StoreFacts B bmB "object.__setattr__" "object") (ho : PE X o to) (he : PE X e te) (hs : swapsWith e (some (.Attribute o f p')) pos.line X.env = pure false := by rfl) : PS X (.Assign [.Attribute o f p'] e pos) (tSO X.K bmB newId f to te) := by
  refine ⟨fun pins s σ H D I h => plainObj_wpAny_Assign_Attribute (thn (he.run pins s σ H _ I h) fun v s1 ⟨y, H1, I1, r1, q1⟩ => thn (ho.run pins s1 σ H1 _ I1 q1) fun w s2 ⟨x, H2, I2, r2, a, C, ex, T, ht, ea, q⟩ => ?_) hs⟩
  subst ex
  cases (show w = Value.ref a from r2)
  exact oxg_store SF T I2 ea ht r1 fun dd s' n1 n2 J => ⟨σ, _, J, q dd n1 n2⟩
end
/-- what such an __init__ keeps -/
def spI (K : PySem.W.Frag) (bmB : List Value) (newId : String) (f : Str) : Sp := fun vs H Q _ => ∃ (a C : Addr) (y : V), vs = [.ref a, y] ∧ OxG K C bmB newId ∧ PySem.W.takerIn K C f = some none ∧ H a = some (exo a C none) ∧
  ∀ dd, H dd = none → dd ≠ a → Q .non (upd (upd H dd (exd dd [(f, y)])) a (exo a C (some dd)))
/-- the base's __init__, called by name, as the text's reading opens it -/
def InitCall (st : Stmt) (sx bx m : Str) (j : Nat) (p1 p2 p3 p4 p5 : Pos) : Prop := ∀ (qual : Str) (n : Nat) (fI : Addr) (cdv : Value), ∃ pl : Sem Bool,
  eval (.Call (.Attribute (.Name bx p1) "__init__" p2) [.Name sx p3, .Constant (.str m) j p4] [] p5) (envOfC qual (defScope st) n fI cdv) = (do
    let w ← eval (.Name bx p1) (envOfC qual (defScope st) n fI cdv)
    standAt p2.atName
    let (g, gs) ← holding [w] (getMethod w "__init__" pl)
    callWith p5 g gs (backTo p5 (starEach [.Name sx p3, .Constant (.str m) j p4] (envOfC qual (defScope st) n fI cdv))) (backToKw p5 (keywordEach [] (envOfC qual (defScope st) n fI cdv))))
theorem init_ok {P : Program} {w : World} {K : PySem.W.Frag} {mg : Str → Option Value} {base : Heap} {qual : Str} {st : Stmt} {fI : Addr} {fd : FuncData} {k : Nat} {sx px f bx m : Str} {j : Nat} {p1 p2 p3 p4 p5 p6 p7 p8 p9 p10 : Pos} {B newId initId : String} {bmB : List Value}
    (F : Fun K "__init__" qual st fI fd) (S : FnScope [sx, px] [sx, px] (defScope st)) (G : BsG K mg bx B newId initId bmB)
    (hb : defBody st = [.Expr (.Call (.Attribute (.Name bx p1) "__init__" p2) [.Name sx p3, .Constant (.str m) j p4] [] p5) p6, .Assign [.Attribute (.Name sx p7) f p8] (.Name px p9) p10])
    (hg : ∀ (n : Nat) (g : Addr) (c : Value) (q : Str), (envOfC q (defScope st) n g c).kindOf bx = some .globalImplicit) (hc : InitCall st sx bx m j p1 p2 p3 p4 p5) (v0 : Vis (defScope st) sx) (v1 : Vis (defScope st) px)
    (d1 : (sx == ("__debug__" : Str)) = false) (d2 : (sx == ("__classdict__" : Str)) = false) (d3 : (px == ("__debug__" : Str)) = false) (d4 : (px == ("__classdict__" : Str)) = false) :
    FnOk P w K mg base C8.CX0 (k + 1) fI fd [sx, px] (spI K bmB newId f) := by
  obtain ⟨oc, od, kV, doc, pm, an, cdv, ct, osl, rfl, lk, hcd⟩ := F.ex
  refine L2.fn_of lk hcd S (fun vs H Q E h => by obtain ⟨_, _, _, e, _⟩ := h; rw [e]; rfl) fun A outer s H vs Q E hr hsp => ?_
  rw [hb]
  have X0 : Gl (cxOf C8.CX0 P w K mg base [sx, px] qual (defScope st) fI cdv A outer s H E).nox bx := hg _ _ _ _
  obtain ⟨pl, hpl⟩ := hc qual s.heap.objs.size fI cdv
  refine ⟨_, (pss_cons (ps_expr (pe_base_init (X := (cxOf C8.CX0 P w K mg base [sx, px] qual (defScope st) fI cdv A outer s H E).nox) G X0 (pa_cons (pe_var (i := 0) rfl v0 d1 d2) (pa_cons pe_str pa_nil)) hpl)) (pss_one (ps_so (newId := newId) G.sf (pe_var (i := 0) rfl v0 d1 d2) (pe_var (i := 1) rfl v1 d3 d4)))).nox, ?_⟩
  obtain ⟨a, C, y, rfl, T, ht, ea, q⟩ := hsp
  exact ⟨.ref a, rfl, a, C, [.str m], rfl, by simp, T, ea, y, rfl, .ref a, rfl, a, C, rfl, T, ht, ea, q⟩
end Ev
set_option Elab.async false
set_option linter.all false
set_option maxRecDepth 100000
set_option maxHeartbeats 400000
/-! Ev19: C(e), raised. -/
namespace Ev
open PySem PySem.Spec PyProof.Rows L2
/-- C(e) -/
def tMkG (C : Addr) (f : Str) (te : TE) : L2.St → Hp → XK → Prop := fun σ H Q => te σ H fun y H1 => ∀ d, H1 d = none → Q (.ref C) (some d) (upd H1 d (.xd [(f, y)]))
theorem mk_core {X : Cx} {f : Str} {C fI : Addr} {fd : FuncData} {ps : List Str} {bmB : List Value} {B newId initId : String} {pins : List (Addr × Obj)} {σ : L2.St} {H1 : Hp} {s1 : Shared} {Q : XK} {y : V} {u : Value} (F : ExcBaseFacts B newId initId bmB) (T : OxG X.K C bmB newId) (ht : PySem.W.takerIn X.K C f = some none)
    (iC : PySem.W.findIn X.K (.ref C) "__init__" = some (some (.ref fI))) (tI : PySem.W.typeIn X.K (.ref fI) = some (.type "function")) (F1 : FnOk X.prog X.w X.K X.mg X.base C8.CX0 1 fI fd ps (spI X.K bmB newId f)) (hl : ps.length = 2) (hr : Room 2 X.A) (hb : Binds X.K fd ps [])
    (I1 : L2.Inv X pins σ H1 s1) (ry : RelV y u) (q2 : ∀ d, H1 d = none → Q (.ref C) (some d) (upd H1 d (.xd [(f, y)]))) : wpAny (model X.prog X.w) X.A (call (.ref C) [u]) (MkP X pins σ Q) X.xe s1 := by
  show wpAny _ _ (call (.ref C) [u]) _ _ _
  obtain ⟨_, _, _, _, bm, _, _, _, _, _, _, _, _, _, _, _, hC, hT⟩ := PySem.W.excInit_of I1.kIn T.em
  obtain ⟨hp, gs, dr, tk, os⟩ := s1
  have sz1 : hp.objs.size ≤ hp.objs.size + 1 := Nat.le_succ _
  have hn : H1 (hp.objs.size + 1) = none := I1.hok.fresh sz1
  have kp : ∀ z w, hp.get? z = some w → ((hp.push (PySem.W.kdv_tup [u])).push (PySem.HandSPX.excO C hp.objs.size)).get? z = some w := fun z w ez => Heap.get?_push_of_some _ (Heap.get?_push_of_some _ ez)
  have I2 := I1.laid (t' := tk) (a := hp.objs.size + 1) (o := exo (hp.objs.size + 1) C none) (h' := (hp.push (PySem.W.kdv_tup [u])).push (PySem.HandSPX.excO C hp.objs.size)) kp sz1 (exo_ok (t1 := hp.objs.size) (d := none) (by heap_get))
  have sp : spI X.K bmB newId f [.ref (hp.objs.size + 1), y] (upd H1 (hp.objs.size + 1) (exo (hp.objs.size + 1) C none)) (fun v H2 => v = .non ∧ ∃ d, H1 d = none ∧ H2 = upd (upd (upd H1 (hp.objs.size + 1) (exo (hp.objs.size + 1) C none)) d (exd d [(f, y)])) (hp.objs.size + 1) (exo (hp.objs.size + 1) C (some d)) ∧ d ≠ hp.objs.size + 1) (fun _ _ _ => False) :=
    ⟨_, C, y, rfl, T, ht, upd_same, fun d hd ne => ⟨rfl, d, by rw [upd_ne ne] at hd; exact hd, rfl, ne⟩⟩
  have bd := hb ⟨(hp.push (PySem.W.kdv_tup [u])).push (PySem.HandSPX.excO C hp.objs.size), gs, dr, tk, os⟩ [Value.ref (hp.objs.size + 1), u] I2.kIn (by rw [hl]; rfl)
  refine wpAny_call (PySem.HandSPX.call_own F hT hC (PySem.W.looks_findIn I1.kIn iC) (fun self => PySem.W.bind_fn I1.kIn self tI) (by rw [sizeLine_eq]; simp) (codeAny_mono (F1.run _ X.stack _ _ ⟨[Value.ref (hp.objs.size + 1), u], []⟩ [Value.ref (hp.objs.size + 1), u] [V.ref (hp.objs.size + 1), y] _ _ (hr.make C [u] []) (I2.env0.make C [u] []) bd (.cons rfl (.cons ry .nil)) sp) fun r s' hq => ?_))
  cases r with
  | error _ => exact hq.elim
  | ok fl =>
    cases fl with
    | next => exact hq.elim
    | brk => exact hq.elim
    | cont => exact hq.elim
    | ret w =>
      obtain ⟨v, H2, os2, bare, un, hok, rv, ev, d, hd, eH, ne⟩ := hq
      subst ev
      subst eH
      obtain ⟨h2, g2, d2, t2, os'⟩ := s'
      refine ⟨rv, mk_end (raises_own T.be T.ty) I1 sz1 kp un hok os2 bare upd_same (by rw [upd_ne ne, upd_same]) hd ?_⟩
      have eq : upd (del (upd (upd (upd H1 (hp.objs.size + 1) (exo (hp.objs.size + 1) C none)) d (exd d [(f, y)])) (hp.objs.size + 1) (exo (hp.objs.size + 1) C (some d))) (hp.objs.size + 1)) d (.xd [(f, y)]) = upd H1 d (.xd [(f, y)]) := funext fun z => by
        by_cases hz : z = d
        · rw [hz, upd_same, upd_same]
        · rw [upd_ne hz, upd_ne hz]
          by_cases hw : z = hp.objs.size + 1
          · rw [hw, del_same, hn]
          · rw [del_ne hw, upd_ne hw, upd_ne hz, upd_ne hw]
      rw [eq]
      exact q2 d hd
theorem pmk_oxg {X : Cx} {e : Expr} {te : TE} {x f : Str} {C fI : Addr} {fd : FuncData} {ps : List Str} {bmB : List Value} {B newId initId : String} {p pos : Pos} (F : ExcBaseFacts B newId initId bmB) (T : OxG X.K C bmB newId) (ht : PySem.W.takerIn X.K C f = some none)
    (iC : PySem.W.findIn X.K (.ref C) "__init__" = some (some (.ref fI))) (tI : PySem.W.typeIn X.K (.ref fI) = some (.type "function")) (F1 : FnOk X.prog X.w X.K X.mg X.base C8.CX0 1 fI fd ps (spI X.K bmB newId f)) (hl : ps.length = 2) (hr : Room 2 X.A) (hb : Binds X.K fd ps [])
    (hg : Gl X x) (gC : X.mg x = some (.ref C)) (he : PE X e te) (hdb : (x == ("__debug__" : Str)) = false := by decide) (hs : starEach [e] X.env = (false, eval e X.env) :: starEach [] X.env := by rfl) (hpl : (backTo pos (starEach [] X.env)).any (·.1) = false := by rfl) :
    PMk X (.Call (.Name x p) [e] [] pos) (tMkG C f te) := by
  intro pins s σ H Q I h
  refine wpAny_Call_Name_kw (ld_glob I hg gC ?_ hdb)
  refine PySem.W.callWith_K (h₀ := X.base) I.ok.mod.kin T.kp (thn ((pa_cons he pa_nil hs).run pos pins s σ H (fun vs H1 => match vs with | [y] => ∀ d, H1 d = none → Q (.ref C) (some d) (upd H1 d (.xd [(f, y)])) | _ => False) I h) fun us s1 ⟨vs, H1, I1, r1, q1⟩ => ⟨I1.kIn, ?_⟩) hs hpl
  obtain ⟨y, rfl⟩ : ∃ y, vs = [y] := by
    cases vs with
    | nil => exact q1.elim
    | cons y r =>
      cases r with
      | nil => exact ⟨y, rfl⟩
      | cons _ _ => exact q1.elim
  have q2 : ∀ d, H1 d = none → Q (.ref C) (some d) (upd H1 d (.xd [(f, y)])) := q1
  obtain ⟨u, rfl, ry⟩ := vals1 r1
  exact mk_core F T ht iC tI F1 hl hr hb I1 ry q2
end Ev
set_option Elab.async false
set_option linter.all false
set_option maxRecDepth 100000
set_option maxHeartbeats 1000000
/-! Ev20: raise C(e) as a function; the fields of a caught error. -/
namespace Ev
open PySem PySem.Spec PyProof.Rows L2
open Classical
/-- an __init__ that calls the base's by name and keeps its word -/
structure IniS (st : Stmt) (sx px f bx : Str) : Prop where
  sc : FnScope [sx, px] [sx, px] (defScope st)
  bd : ∃ (m : Str) (j : Nat) (p1 p2 p3 p4 p5 p6 p7 p8 p9 p10 : Pos), defBody st = [.Expr (.Call (.Attribute (.Name bx p1) "__init__" p2) [.Name sx p3, .Constant (.str m) j p4] [] p5) p6, .Assign [.Attribute (.Name sx p7) f p8] (.Name px p9) p10] ∧ InitCall st sx bx m j p1 p2 p3 p4 p5
  gl : ∀ (n : Nat) (g : Addr) (c : Value) (q : Str), (envOfC q (defScope st) n g c).kindOf bx = some .globalImplicit
  v0 : Vis (defScope st) sx
  v1 : Vis (defScope st) px
  d1 : (sx == ("__debug__" : Str)) = false
  d2 : (sx == ("__classdict__" : Str)) = false
  d3 : (px == ("__debug__" : Str)) = false
  d4 : (px == ("__classdict__" : Str)) = false
def ExI (K : PySem.W.Frag) (mg : Str → Option Value) (x f : Str) : Prop :=
  ∃ (C fI : Addr) (fd : FuncData) (bmB : List Value) (B newId initId : String) (st : Stmt) (qual sx px bx : Str), mg x = some (.ref C) ∧ OxG K C bmB newId ∧ PySem.W.takerIn K C f = some none ∧ PySem.W.findIn K (.ref C) "__init__" = some (some (.ref fI)) ∧
    PySem.W.typeIn K (.ref fI) = some (.type "function") ∧ Fun K "__init__" qual st fI fd ∧ Binds K fd [sx, px] [] ∧ BsG K mg bx B newId initId bmB ∧ IniS st sx px f bx
noncomputable def sRaiseF (x f : Str) (me : Env → M D) : SM := sBind me fun d ρ st => match d with | .dat y => .exc ⟨x, [(f, y)]⟩ ρ st | _ => .bad
section
variable {X : Cx} {W : WX} {k : Nat} {pos pos' p p2 : Pos} {e : Expr} {me : Env → M D}
theorem evs_raiseF {x f : Str} (hc : X.calm = true) (C : GC X W k) (hk : 2 ≤ k) (N : ExI X.K X.mg x f) (hg : Gl X x) (he : EV X W e me) (hdb : (x == ("__debug__" : Str)) = false := by decide) (hs : starEach [e] X.env = (false, eval e X.env) :: starEach [] X.env := by rfl) (hpl : (backTo pos (starEach [] X.env)).any (·.1) = false := by rfl) :
    EVS X W (.Raise (some (.Call (.Name x p) [e] [] pos)) none pos') (sRaiseF x f me) := by
  obtain ⟨c, fI, fd, bmB, B, n1, n2, st, qual, sx, px, bx, gC, T, ht, iC, tI, F, bd, G, IS⟩ := N
  obtain ⟨m, j, p1, p2, p3, p4, p5, p6, p7, p8, p9, p10, hb, hcl⟩ := IS.bd
  have F1 := init_ok (P := X.prog) (w := X.w) (base := X.base) (k := 0) F IS.sc G hb IS.gl hcl IS.v0 IS.v1 IS.d1 IS.d2 IS.d3 IS.d4
  refine ⟨PS.imp (ps_raise hc C.tk (pmk_oxg G.eb T ht iC tI F1 rfl (C.room.mono hk) bd hg gC he.pe hdb hs hpl)) fun D σ H h => ?_⟩
  obtain ⟨R, ρ, st0, S, E, h⟩ := h
  refine ⟨R, ρ, st0, S, E, (PostS.bind (Rel := Dv X.K X.mg) E h).monoQ fun v H1 ⟨R1, st1, d, S1, E1, D1, h1⟩ => fun dd hd => ?_⟩
  cases d with
  | dat y =>
    exact h1 σ R1 (upd H1 dd (.xd [(f, v)])) (.ref c) (some dd) (.new hd) (S1.new hd) (E1.ext (.new hd)) ⟨gC, .inr ⟨dd, [(f, v)], by simp, rfl, S1.notOwn hd, upd_same, fun g z hz => by
      have hz' : (match g == f with | true => some y | false => none) = some z := hz
      cases q : g == f with
      | false => rw [q] at hz'; cases hz'
      | true =>
        rw [q] at hz'
        cases hz'
        refine ⟨v, ?_, Pd.stays (Ext.new hd).stays D1⟩
        show (match g == f with | true => some v | false => none) = some v
        rw [q]⟩⟩
  | _ => exact h1.elim
/-! ### e.f in a suite -/
def FldC (K : PySem.W.Frag) (mg : Str → Option Value) (cn f : Str) : Prop := ∃ C : Addr, mg cn = some (.ref C) ∧ XfC K C ∧ PySem.W.findIn K (.ref C) f = some none
noncomputable def dFld (a : Addr) (cls : Value) (d : Option Addr) (cn f : Str) : D → M D
  | .err v cls' d' x => fun st => if v = .ref a ∧ cls' = cls ∧ d' = d ∧ x.cls = cn then match x.flds.lookup f with | some y => .ok (.dat y) st | none => .bad else .bad
  | _ => M.bad
theorem ev_fld {a : Addr} {oe : Obj} {cls : Value} {d : Option Addr} {pn : List (Addr × Obj)} {cn f : Str} (hz : Zc cls d oe) (hf : ∃ vs, oe.data = .fields vs) (F : FldC X.K X.mg cn f) (he : EV (X.suite a ((a, oe) :: pn)) W e me)
    (hb : attributeBase e f X.env (eval e X.env) = eval e X.env := by rfl) : EV (X.suite a ((a, oe) :: pn)) W (.Attribute e f pos) (m1 (dFld a cls d cn f) me) := by
  obtain ⟨C, gC, T, hno⟩ := F
  refine ⟨PE.imp (pe_xf T hno hz hf he.pe hb) fun σ H Q h => ?_⟩
  obtain ⟨R, ρ, st, S, E, h⟩ := h
  refine ⟨R, ρ, st, S, E, (Post.bind (Rel := Dv X.K X.mg) (Rel2 := Dv X.K X.mg) h).monoQ fun v H1 ⟨R1, st1, dv, x1, S1, D1, h1⟩ => ?_⟩
  cases dv with
  | err u c' d' x =>
    unfold dFld at h1
    dsimp only at h1
    split at h1
    · rename_i hh
      obtain ⟨rfl, rfl, rfl, hx⟩ := hh
      obtain ⟨rfl, ex1, ex2⟩ := D1
      rw [hx] at ex1
      have gC' : X.mg cn = some (.ref C) := gC
      have ex1' : X.mg cn = some c' := ex1
      rw [gC'] at ex1'
      cases hl : x.flds.lookup f with
      | none => rw [hl] at h1; exact h1.elim
      | some y =>
        rw [hl] at h1
        rcases ex2 with ⟨z, _⟩ | ⟨dd, fs, _, hd, no, at_, all⟩
        · rw [z] at hl; cases hl
        · obtain ⟨w, hw, pd⟩ := all f y hl
          exact ⟨rfl, (Option.some.inj ex1').symm, dd, fs, w, hd, at_, hw, h1.okR S1 pd⟩
    · exact h1.elim
  | _ => exact h1.elim
end
@[simp] theorem sRaiseF_ap (x f : Str) (me : Env → M D) (ρ : Env) (st : Sto) : sRaiseF x f me ρ st = (me ρ st).thenS ρ fun d ρ st => match d with | .dat y => .exc ⟨x, [(f, y)]⟩ ρ st | _ => .bad := rfl
theorem dFld_ap (a : Addr) (cls : Value) (d : Option Addr) (cn f : Str) (y : PyData) (st : Sto) : dFld a cls d cn f (.err (.ref a) cls d ⟨cn, [(f, y)]⟩) st = .ok (.dat y) st := by
  unfold dFld
  dsimp only
  rw [if_pos ⟨rfl, rfl, rfl, rfl⟩]
  have : List.lookup f [(f, y)] = some y := by simp [List.lookup]
  rw [this]
end Ev
set_option Elab.async false
set_option linter.all false
set_option maxRecDepth 100000
set_option maxHeartbeats 1000000
/-! Ev21: isinstance of a caught error, with fields or without; of one class or of several. -/
namespace Ev
open PySem PySem.Spec PyProof.Rows L2
open Classical
def rIsG (K : PySem.W.Frag) (D0 a : Addr) (d : Option Addr) : List V → Hp → VK → Prop := fun xs H Q => (d = none ∨ ∃ dd fs, d = some dd ∧ H dd = some (.xd fs)) ∧
  ((∃ (c : V) (cv : Value) (b : Bool), xs = [.ref a, c] ∧ (∀ u, RelV c u → u = cv) ∧ PySem.W.kitOne K (.ref D0) cv = some b ∧ Q (.bl b) H) ∨
    ∃ (p : Addr) (cs : List V) (cvs : List Value) (b : Bool), xs = [.ref a, .ref p] ∧ H p = some (.tup cs) ∧ (∀ us, Vals cs us → us = cvs) ∧ PySem.W.kitAny K (.ref D0) cvs = some b ∧ Q (.bl b) H)
theorem call_isG {X : Cx} {a D0 : Addr} {oe : Obj} {d : Option Addr} {pn : List (Addr × Obj)} (C : ExcC X.K D0) (hz : Zc (.ref D0) d oe) (hf : ∃ vs, oe.data = .fields vs) : CallR (X.suite a ((a, oe) :: pn)) (.builtin "isinstance") (rIsG X.K D0 a d) := by
  intro pins s σ H xs us Q I r ⟨hd, h⟩
  obtain ⟨at_, _⟩ := I.pin (a, oe) (List.mem_append_left _ List.mem_cons_self)
  obtain ⟨fv, hv⟩ := hf
  obtain ⟨od, J⟩ : ∃ od, PySem.W.InstAt s.heap a oe D0 od := by
    have nc : PySem.W.notCls oe = true := by unfold PySem.W.notCls; rw [hv] <;> rfl
    rcases hd with e | ⟨dd, fs, e, hh⟩
    · exact ⟨none, at_, hz.1, nc, by rw [hz.2, e]; exact trivial⟩
    · obtain ⟨o, ho⟩ := objOk_get (I.hok dd _ hh)
      exact ⟨some o, at_, hz.1, nc, by rw [hz.2, e]; exact ho⟩
  obtain ⟨cd, hc, _⟩ := PySem.W.any_some C.hd
  have Z := PySem.W.kitx_exc (x := a) (od := od) (ox := oe) (by rw [hc]; rfl) C.hg C.hk C.hs C.ha C.hn C.ht C.hm
  rcases h with ⟨c, cv, b, rfl, hcv, e, q⟩ | ⟨p, cs, cvs, b, rfl, hp, hcv, e, q⟩
  · obtain ⟨ua, ub, rfl, ra, rb⟩ := vals2 r
    cases ra
    rw [hcv _ rb]
    exact PySem.W.kia_one Z I.kIn J e (fun z => nomatch z) fun tk => ⟨.bl b, H, I.kept (t' := tk) fun _ _ z => z, rfl, q⟩
  · obtain ⟨ua, ub, rfl, ra, rb⟩ := vals2 r
    cases ra
    cases rb
    obtain ⟨its, rv, ⟨o, ho, hcl, n, hdt⟩, _⟩ := I.tuple (.inl (.inl hp))
    have ei := hcv _ rv
    obtain ⟨oc, od2, oda, osl⟩ := o
    dsimp only at hcl hdt
    subst hcl hdt
    exact PySem.W.kia_tup (its := its) Z I.kIn J (by simpa using ho) (by rw [ei]; exact e) (fun z => nomatch z) fun tk => ⟨.bl b, H, I.kept (t' := tk) fun _ _ z => z, rfl, q⟩
noncomputable def dIsG (a : Addr) (cls : Value) (d : Option Addr) (isa : Str → D → Option Bool) : List D → M D
  | [.err v cls' d' x, c] => fun st => if v = .ref a ∧ cls' = cls ∧ d' = d then match isa x.cls c with | some b => .ok (.dat (.bool b)) st | none => .bad else .bad
  | _ => M.bad
def isaAny (isa : Str → D → Option Bool) (x : Str) : List D → Option Bool
  | [] => some false
  | c :: r => match isa x c, isaAny isa x r with
    | some b, some b' => some (b || b')
    | _, _ => none
noncomputable def dIsT (a : Addr) (cls : Value) (d : Option Addr) (isa : Str → D → Option Bool) (e : D) (cs : List D) : M D :=
  match e with
  | .err v cls' d' x => fun st => if v = .ref a ∧ cls' = cls ∧ d' = d ∧ cs.length ≤ 1000 then match isaAny isa x.cls cs with | some b => (match isa x.cls (cs.headD (.dat .none)) with | some _ => .ok (.dat (.bool b)) st | none => .bad) | none => .bad else .bad
  | _ => M.bad
theorem clsD_of {K : PySem.W.Frag} {mg : Str → Option Value} {R : Rg} {st : Sto} {H : Hp} {v : V} {c : D} {cv : Value} (h : Dv K mg R st H v c) (cd : clsD mg c cv) : ∀ u, RelV v u → u = cv := fun u r => by
  cases c with
  | glob y =>
    obtain ⟨a2, g2, e6⟩ := h
    have g1 : mg y = some cv := cd
    have g2' : mg y = some (.ref a2) := g2
    rw [g1] at g2'
    cases g2'
    rw [e6] at r
    exact r
  | raw t =>
    have e6 : v = t := h
    rw [e6] at r
    cases t with
    | ty T =>
      have e2 : cv = .type T := cd
      rw [e2]
      exact r
    | _ => exact cd.elim
  | _ => exact cd.elim
theorem isaAny_kit {K : PySem.W.Frag} {mg : Str → Option Value} {isa : Str → D → Option Bool} (hi : Isa K mg isa) {x : Str} {D0 : Addr} (hx : mg x = some (.ref D0)) {R : Rg} {st : Sto} {H : Hp} : ∀ {cs : List D} {vs : List V} {b : Bool}, DvA K mg R st H vs cs → isaAny isa x cs = some b →
    ∃ cvs, (∀ us, Vals vs us → us = cvs) ∧ PySem.W.kitAny K (.ref D0) cvs = some b
  | [], _, b, .nil, e => ⟨[], fun us r => by cases r; rfl, by have e' : some false = some b := e; cases e'; rfl⟩
  | c :: r, _, b, .cons h q, e => by
    unfold isaAny at e
    split at e
    · rename_i b1 b2 e1 e2
      cases e
      obtain ⟨D1, cv, m1, EC, k1, cd⟩ := hi _ _ _ e1
      have eD : D0 = D1 := by rw [hx] at m1; cases m1; rfl
      subst eD
      obtain ⟨cvs, hu, hk⟩ := isaAny_kit hi hx q e2
      refine ⟨cv :: cvs, fun us r => ?_, ?_⟩
      · cases r with
        | cons r1 r2 => rw [clsD_of h cd _ r1, hu _ r2]
      · unfold PySem.W.kitAny
        rw [k1]
        cases b1 with
        | true => rfl
        | false => exact hk
    · cases e
section
variable {X : Cx} {W : WX} {p pos : Pos}
theorem exc_dict {K : PySem.W.Frag} {mg : Str → Option Value} {U : Addr → Prop} {H : Hp} {x : Exc} {cls : Value} {dx : Option Addr} (h : ExcR K mg U H x cls dx) : dx = none ∨ ∃ dd fs, dx = some dd ∧ H dd = some (.xd fs) := by
  rcases h.2 with ⟨_, e⟩ | ⟨d, fs, _, e, _, q, _⟩
  · exact .inl e
  · exact .inr ⟨d, fs, e, q⟩
theorem ev_isG {a : Addr} {oe : Obj} {cls : Value} {d : Option Addr} {pn : List (Addr × Obj)} {isa : Str → D → Option Bool} {e : Expr} {es : List Expr} {ms : Env → M (List D)} (hz : Zc cls d oe) (hf : ∃ vs, oe.data = .fields vs) (hi : Isa X.K X.mg isa) (hm : X.mg "isinstance" = none)
    (ha : EVA (X.suite a ((a, oe) :: pn)) W (e :: es) ms) (hg : Gl (X.suite a ((a, oe) :: pn)) "isinstance" := by exact rfl)
    (he : starEach (e :: es) X.env = (false, eval e X.env) :: starEach es X.env := by rfl) (hpl : (backTo pos (starEach es X.env)).any (·.1) = false := by rfl) :
    EV (X.suite a ((a, oe) :: pn)) W (.Call (.Name "isinstance" p) (e :: es) [] pos) (mC (dIsG a cls d isa) ms) := by
  have hcall : CallR (X.suite a ((a, oe) :: pn)) (.builtin "isinstance") (fun xs H Q => ∃ D0 : Addr, cls = .ref D0 ∧ ExcC X.K D0 ∧ rIsG X.K D0 a d xs H Q) := fun pins s σ H xs us Q I r ⟨D0, e1, EC, h⟩ => by
    subst e1
    exact call_isG EC hz hf pins s σ H xs us Q I r h
  refine ev_callB hcall (f := dIsG a cls d isa) (fun R H st vs ds Q W' S hD h => ?_) hg hm boot_isinstance ha (by decide) (by decide) he hpl
  unfold dIsG at h
  split at h
  · rename_i v cls' d' x c
    cases hD with
    | cons h1 hD =>
      cases hD with
      | cons h2 hD =>
        cases hD
        obtain ⟨rfl, ex⟩ := h1
        split at h
        · rename_i hc
          obtain ⟨rfl, rfl, rfl⟩ := hc
          cases hb : isa x.cls c with
          | none => rw [hb] at h; exact h.elim
          | some b =>
            rw [hb] at h
            obtain ⟨D1, cv, m1, EC, k1, cd⟩ := hi _ _ _ hb
            have q : X.mg x.cls = some cls' := ex.1
            have e5 : cls' = .ref D1 := by
              rw [m1] at q
              exact (Option.some.inj q).symm
            exact ⟨D1, e5, EC, exc_dict ex, .inl ⟨_, cv, b, rfl, clsD_of h2 cd, k1, h.okR S (Dv.bl b)⟩⟩
        · exact h.elim
  · exact h.elim
theorem ev_isT {a : Addr} {oe : Obj} {cls : Value} {d : Option Addr} {pn : List (Addr × Obj)} {isa : Str → D → Option Bool} {e : Expr} {cs : List Expr} {me : Env → M D} {mcs : Env → M (List D)} {kd tp} (hz : Zc cls d oe) (hf : ∃ vs, oe.data = .fields vs) (hi : Isa X.K X.mg isa) (hm : X.mg "isinstance" = none)
    (ha : EV (X.suite a ((a, oe) :: pn)) W e me) (hcs : EVA (X.suite a ((a, oe) :: pn)) W cs mcs) (hg : Gl (X.suite a ((a, oe) :: pn)) "isinstance" := by exact rfl)
    (he : starEach [e, .Tuple cs kd tp] X.env = (false, eval e X.env) :: starEach [.Tuple cs kd tp] X.env := by rfl) (he2 : starEach [.Tuple cs kd tp] X.env = (false, eval (.Tuple cs kd tp) X.env) :: starEach [] X.env := by rfl) (hpl : (backTo pos (starEach [.Tuple cs kd tp] X.env)).any (·.1) = false := by rfl) :
    EV (X.suite a ((a, oe) :: pn)) W (.Call (.Name "isinstance" p) [e, .Tuple cs kd tp] [] pos) (fun ρ => M.bind (me ρ) fun x => M.bind (mcs ρ) fun ds => dIsT a cls d isa x ds) := by
  have hcall : CallR (X.suite a ((a, oe) :: pn)) (.builtin "isinstance") (fun xs H Q => ∃ D0 : Addr, cls = .ref D0 ∧ ExcC X.K D0 ∧ rIsG X.K D0 a d xs H Q) := fun pins s σ H xs us Q I r ⟨D0, e1, EC, h⟩ => by
    subst e1
    exact call_isG EC hz hf pins s σ H xs us Q I r h
  refine ⟨PE.imp (pe_callB hcall hg hm boot_isinstance (pa_cons ha.pe (pa_cons (pe_tup hcs.pa) pa_nil he2) he) (by decide) (by decide) he hpl) fun σ H Q h => ?_⟩
  obtain ⟨R, ρ, st, S, E, h⟩ := h
  refine ⟨R, ρ, st, S, E, (Post.bind (Rel := Dv X.K X.mg) (Rel2 := Dv X.K X.mg) h).monoQ fun v H1 ⟨R1, st1, x, x1, S1, D1, h1⟩ => ?_⟩
  refine ⟨R1, ρ, st1, S1, E.ext x1, (Post.bind (Rel := DvA X.K X.mg) (Rel2 := Dv X.K X.mg) h1).monoQ fun vs H2 ⟨R2, st2, ds, x2, S2, D2, h2⟩ => ?_⟩
  cases x with
  | err u cls' d' y =>
    unfold dIsT at h2
    dsimp only at h2
    split at h2
    · rename_i hc
      obtain ⟨rfl, rfl, rfl, hl⟩ := hc
      obtain ⟨rfl, ex⟩ := D1
      cases hb : isaAny isa y.cls ds with
      | none => rw [hb] at h2; exact h2.elim
      | some b =>
        rw [hb] at h2
        dsimp only at h2
        cases hb0 : isa y.cls (ds.headD (.dat .none)) with
        | none => rw [hb0] at h2; exact h2.elim
        | some b0 =>
          rw [hb0] at h2
          obtain ⟨D0, cv, m1, EC, _, _⟩ := hi _ _ _ hb0
          have q : X.mg y.cls = some cls' := ex.1
          have e5 : cls' = .ref D0 := by
            rw [m1] at q
            exact (Option.some.inj q).symm
          obtain ⟨cvs, hu, hk⟩ := isaAny_kit hi m1 D2 hb
          exact ⟨by rw [D2.len, sizeLine_eq]; omega, fun p hp => ⟨D0, e5, EC, exc_dict ((ex.stays x2.stays).stays (Ext.new hp).stays), .inr ⟨p, vs, cvs, b, rfl, upd_same, hu, hk, h2.okN S2 hp (Dv.bl b)⟩⟩⟩
    · exact h2.elim
  | _ => exact h2.elim
end
theorem dIsG_ap (a : Addr) (cls : Value) (d : Option Addr) (isa : Str → D → Option Bool) (x : Exc) (c : D) (b : Bool) (st : Sto) (h : isa x.cls c = some b) : dIsG a cls d isa [.err (.ref a) cls d x, c] st = .ok (.dat (.bool b)) st := by
  show (if V.ref a = V.ref a ∧ cls = cls ∧ d = d then _ else _) = _
  rw [if_pos ⟨rfl, rfl, rfl⟩, h]
theorem dIsT_ap (a : Addr) (cls : Value) (d : Option Addr) (isa : Str → D → Option Bool) (x : Exc) (c : D) (r : List D) (b b0 : Bool) (st : Sto) (h : isaAny isa x.cls (c :: r) = some b) (h0 : isa x.cls c = some b0) (hl : r.length ≤ 999) : dIsT a cls d isa (.err (.ref a) cls d x) (c :: r) st = .ok (.dat (.bool b)) st := by
  unfold dIsT
  dsimp only
  rw [if_pos ⟨rfl, rfl, rfl, by rw [List.length_cons]; omega⟩, h]
  dsimp only [List.headD]
  rw [h0]
end Ev
set_option Elab.async false
set_option linter.all false
set_option maxRecDepth 100000
set_option maxHeartbeats 1000000
/-! Ev22: what the top has written of such classes. -/
namespace Ev
open PySem PySem.Spec PyProof.Rows L2
section
variable {K : PySem.W.Frag} {mg : Str → Option Value} {h : Heap}
theorem bsg_ArithmeticError (no : mg "ArithmeticError" = none) (it : PySem.W.findCls K (.type "ArithmeticError") (.type "type") "__init__" = some (.val (.builtin "ArithmeticError.__init__"))) : BsG K mg "ArithmeticError" "ArithmeticError" "ArithmeticError.__new__" "ArithmeticError.__init__" [.type "ArithmeticError", .type "Exception", .type "BaseException", .type "object"] :=
  ⟨PySem.F.excBase_ArithmeticError, PySem.F.store_ArithmeticError, no, PyProof.Rows.Boot.«ArithmeticError», by decide, by decide, by kernel_rfl, by decide +kernel, by decide +kernel, it⟩
theorem bsg_IndexError (no : mg "IndexError" = none) (it : PySem.W.findCls K (.type "IndexError") (.type "type") "__init__" = some (.val (.builtin "IndexError.__init__"))) : BsG K mg "IndexError" "IndexError" "IndexError.__new__" "IndexError.__init__" [.type "IndexError", .type "LookupError", .type "Exception", .type "BaseException", .type "object"] :=
  ⟨PySem.F.excBase_IndexError, PySem.F.store_IndexError, no, PyProof.Rows.Boot.«IndexError», by decide, by decide, by kernel_rfl, by decide +kernel, by decide +kernel, it⟩
theorem exi_mk (X : K.In h) (G : h.Ns mainGlobals mg) {x f : Str} {C fI : Addr} {bmB : List Value} {B newId initId : String} {st : Stmt} {qual sx px bx : Str} {oc : Value} {od an : Option Addr} {osl : Array (Option Value)} {kV doc pm cdv ct : Value}
    (a : PySem.W.nsIn K mainGlobals x = some (some (.ref C))) (o1 : PySem.W.excInitIn K C bmB newId = true) (o2 : PySem.W.excOver K C bmB = true) (o3 : PySem.W.hasDictIn K C = true) (o4 : PySem.W.findIn K (.ref C) "__setattr__" = some (some (.builtin "object.__setattr__")))
    (o5 : PySem.W.subIn K (.ref C) (.type "BaseException") = some true) (o6 : PySem.W.typeIn K (.ref C) = some (.type "type")) (o7 : PySem.W.keepIn K (.ref C) = true) (tk : PySem.W.takerIn K C f = some none) (fi : PySem.W.findIn K (.ref C) "__init__" = some (some (.ref fI)))
    (ti : PySem.W.typeIn K (.ref fI) = some (.type "function")) (l : K.lookup fI = some ⟨oc, od, .func (PySem.W.fnOf "__init__" qual (defArgs st) (defBody st) (defScope st) .none kV doc pm an cdv ct), osl⟩) (c : PySem.W.codeIn K cdv qual = true) (kf : PySem.W.keepIn K (.ref fI) = true)
    (hb : ∀ (kV doc pm : Value) (an : Option Addr) (cdv ct : Value) (us : List Value), us.length = [sx, px].length → bindArgs (PySem.W.fnOf "__init__" qual (defArgs st) (defBody st) (defScope st) .none kV doc pm an cdv ct) ⟨us, []⟩ = pure ([sx, px].zip us))
    (BG : BsG K mg bx B newId initId bmB) (IS : IniS st sx px f bx) : ExI K mg x f := by
  have F := fun_mk l c kf
  exact ⟨C, fI, _, bmB, B, newId, initId, st, qual, sx, px, bx, PySem.W.mg_of X G a, ⟨o1, o2, o3, o4, o5, o6, o7⟩, tk, fi, ti, F, F.binds hb, BG, IS⟩
theorem fldc_mk (X : K.In h) (G : h.Ns mainGlobals mg) {x f : Str} {C : Addr} (a : PySem.W.nsIn K mainGlobals x = some (some (.ref C))) (x1 : PySem.W.findIn K (.ref C) "__getattribute__" = some (some (.builtin "BaseException.__getattribute__")))
    (x2 : PySem.W.findIn K (.ref C) "__getattr__" = some none) (x3 : PySem.W.subIn K (.ref C) (.type "BaseException") = some true) (x4 : PySem.W.hasDictIn K C = true) (x5 : PySem.W.findIn K (.ref C) f = some none) : FldC K mg x f :=
  ⟨C, PySem.W.mg_of X G a, ⟨x1, x2, x3, x4⟩, x5⟩
end
noncomputable def mIsT (a : Addr) (cls : Value) (d : Option Addr) (isa : Str → D → Option Bool) (me : Env → M D) (mcs : Env → M (List D)) : Env → M D := fun ρ => M.bind (me ρ) fun x => M.bind (mcs ρ) fun ds => dIsT a cls d isa x ds
@[simp] theorem mIsT_ap (a : Addr) (cls : Value) (d : Option Addr) (isa : Str → D → Option Bool) (me : Env → M D) (mcs : Env → M (List D)) (ρ : Env) (st : Sto) : mIsT a cls d isa me mcs ρ st = (me ρ st).then fun x => M.bind (mcs ρ) fun ds => dIsT a cls d isa x ds := rfl
theorem fnV_rec {P : Program} {w : World} {K : PySem.W.Frag} {mg : Str → Option Value} {base : Heap} {x : Str} {st : Stmt} {N ps : List Str} {j : Nat} {body : (List D → M D) → SM} {give : Nat → D → Sto → Res D} (hgive : GiveOk give) (D1 : DfV K mg x st) (S : FnScope N ps (defScope st))
    (hb : ∀ (k : Nat) (F : List D → M D), FnV P w K mg base (j + k) x ps F → ∀ (f : Addr) (cdv : Value) (A : Around) (outer : List PySem.Env) (s : Shared) (H : Hp) (E : XK), GC (cxOf (L2.CX P w) P w K mg base N x (defScope st) f cdv A outer s H E) (fun c d _ H' => E c d H') (j + k) →
      EVSs (cxOf (L2.CX P w) P w K mg base N x (defScope st) f cdv A outer s H E) (fun c d _ H' => E c d H') (defBody st) (body F)) :
    ∀ k : Nat, FnV P w K mg base (j + k) x ps (recB give N.length ps.length body k)
  | 0 => by
    obtain ⟨f, fd, F, hm⟩ := D1
    refine ⟨f, fd, ⟨fun ds st _ => rfl, fun A outer s H args us vs Q E _ _ _ _ _ hsp => ?_⟩, hm, F.kp, ?_⟩
    · obtain ⟨R, sto, ds, _, _, hp⟩ := hsp
      exact hp.elim
    · obtain ⟨oc, od, kV, doc, pm, an, cdv, ct, osl, _, lk, _⟩ := F.ex
      exact ⟨oc, od, osl, lk⟩
  | k + 1 => fnV_of hgive D1 S fun f cdv A outer s H E C => hb k _ (fnV_rec hgive D1 S hb k) f cdv A outer s H E C
end Ev
set_option Elab.async false
set_option linter.all false
set_option maxRecDepth 100000
set_option maxHeartbeats 4000000
/-! Ev23: xs.pop(i); list(range(n)) and [x] * n that change; enumerate of a list, of a tuple. -/
namespace Ev
open PySem PySem.Spec PyProof.Rows L2
open Classical

section
variable {X : Cx} {W : WX} {o e : Expr} {es : List Expr} {mo : Env → M D} {ms : Env → M (List D)} {apos cpos : Pos}
theorem m_pop (ho : EV X W o mo) (ha : EVA X W (e :: es) ms)
    (hbase : attributeBase o "pop" X.env (eval o X.env) = eval o X.env := by rfl)
    (hfew : ((backTo cpos (starEach (e :: es) X.env)).all (fun x => !x.1) && (backToKw cpos (keywordEach [] X.env)).all (fun x => x.1.isSome)
      && decide ((e :: es).length + ([] : List Keyword).length + (if ([] : List Keyword).isEmpty then 0 else 1) < 30)) = true := by rfl)
    (hline : (apos.endLine == cpos.line) = true := by rfl) (hs : starEach (e :: es) X.env = (false, eval e X.env) :: starEach es X.env := by rfl) (hplain : (backTo cpos (starEach es X.env)).any (·.1) = false := by rfl) :
    EV X W (.Call (.Attribute o "pop" apos) (e :: es) [] cpos) (mMt dPopAt mo ms) := ev_mt PySem.F.plainAttrs_list PySem.F.slot_list_pop PySem.F.type_list_pop mt_popAt ok_popAt ho ha hbase hfew hline hs hplain
end

/-! ### list(range(n)) that changes -/
def rgD (n : Int) : List PyData := (List.range n.toNat).map fun i : Nat => PyData.int (i : Int)
def locRg (d : D) : M D := fun st =>
  match d with
  | .dat (.int n) => if -16777216 ≤ n ∧ n ≤ 16777216 then .ok (.loc st.length) (st ++ [.lst (rgD n)]) else .bad
  | _ => .bad
theorem pda_ints {K : PySem.W.Frag} {U : Addr → Prop} {H : Hp} (f : Nat → Int) : ∀ l : List Nat, PdA K U H (l.map fun i => V.int (f i)) (l.map fun i => PyData.int (f i))
  | [] => .nil
  | _ :: r => .cons (.int _) (pda_ints f r)
section
variable {X : Cx} {W : WX} {e : Expr} {m : Env → M D} {p p' pos pos' : Pos}
theorem n_locRg (hc : X.calm = true) (hm : X.mg "list" = none) (hr : X.mg "range" = none) (h : EV X W e m) (hg : Gl X "list" := by exact rfl) (hg' : Gl X "range" := by exact rfl)
    (na : starEach [e] X.env = (false, eval e X.env) :: starEach [] X.env := by rfl)
    (nb : starEach [.Call (.Name "range" p') [e] [] pos'] X.env = (false, eval (.Call (.Name "range" p') [e] [] pos') X.env) :: starEach [] X.env := by rfl) :
    EV X W (.Call (.Name "list" p) [.Call (.Name "range" p') [e] [] pos'] [] pos) (m1 locRg m) := by
  refine ⟨PE.imp (pe_listRg hc hg hm (prg_1 hg' hr h.pe na) nb) fun σ H Q hh => ?_⟩
  obtain ⟨R, ρ, st, S, E, hh⟩ := hh
  refine ⟨R, ρ, st, S, E, (Post.bind (Rel := Dv X.K X.mg) (Rel2 := Dv X.K X.mg) hh).monoQ fun v H1 ⟨R1, st1, d, x1, S1, D1, h1⟩ => ?_⟩
  unfold locRg at h1
  split at h1
  · rename_i n
    cases D1
    split at h1
    · rename_i z
      refine ⟨n, rfl, ⟨by decide, by decide, by omega, by omega, ?_⟩, fun q hq => ?_⟩
      · omega
      · have e1 : rgV 0 n = (List.range n.toNat).map fun i : Nat => V.int ((i : Nat) : Int) := by
          unfold rgV
          rw [Int.sub_zero]
          simp only [Int.zero_add]
        rw [e1]
        have pa : PdA X.K (Own R1 st1) H1 ((List.range n.toNat).map fun i : Nat => V.int ((i : Nat) : Int)) (rgD n) := pda_ints (fun i => (i : Int)) _
        obtain ⟨x2, S2⟩ := ext_loc S1 hq pa
        exact h1 _ _ _ x2 S2 ⟨q, put_at S1, rfl⟩
    · exact h1.elim
  · exact h1.elim
end

/-! ### [x, ..] * n that changes -/
def dMulLoc (d e : D) : M D := fun st =>
  match dataOf d st, dataOf e st with
  | some (.list xs), some (.int k) => if k ≤ 1000 ∧ -1000 ≤ k ∧ xs.length ≤ 100 then .ok (.loc st.length) (st ++ [.lst (repD k.toNat xs)]) else .bad
  | _, _ => .bad
theorem ok_mulLoc {K : PySem.W.Frag} {mg : Str → Option Value} : OpOk K mg rRep dMulLoc := by
  intro R H st v w d e Q W S h1 h2 h
  unfold dMulLoc at h
  split at h
  · rename_i e1 e2
    obtain ⟨a, vs, rfl, ha, pa⟩ := h1.dataL S e1
    have b := h2.dataI e2
    subst b
    split at h
    · rename_i z
      obtain ⟨z1, z2, z3⟩ := z
      refine ⟨a, _, vs, rfl, rfl, ha, by omega, by omega, ?_, fun p hp => ?_⟩
      · rw [pa.len, sizeLine_eq]
        exact Nat.le_trans (Nat.mul_le_mul z3 (show _ ≤ 1000 by omega)) (by decide)
      · obtain ⟨x2, S2⟩ := ext_loc S hp (pa.rep _)
        exact h _ _ _ x2 S2 ⟨p, put_at S, rfl⟩
    · exact h.elim
  · exact h.elim
theorem x_mulLoc {X : Cx} {W : WX} {a b : Expr} {ma mb : Env → M D} {pos : Pos} (ha : EV X W a ma) (hb : EV X W b mb) : EV X W (.BinOp a .Mult b pos) (m2 dMulLoc ma mb) := ev_bin op_rep ok_mulLoc ha hb

/-! ### enumerate -/
def enFrom : Nat → List PyData → List D
  | _, [] => []
  | k, x :: r => .dat (.tuple [.int (k : Int), x]) :: enFrom (k + 1) r
theorem enFrom_len : ∀ (k : Nat) (xs : List PyData), (enFrom k xs).length = xs.length
  | _, [] => rfl
  | k, _ :: r => by show (enFrom (k + 1) r).length + 1 = r.length + 1; rw [enFrom_len (k + 1) r]
theorem enFrom_at : ∀ (xs : List PyData) (k i : Nat), (enFrom k xs)[i]? = (xs[i]?).map fun x => D.dat (.tuple [.int ((k + i : Nat) : Int), x])
  | [], _, _ => rfl
  | x :: r, k, 0 => rfl
  | x :: r, k, i + 1 => by
    show (enFrom (k + 1) r)[i]? = (r[i]?).map _
    rw [enFrom_at r (k + 1) i, show k + 1 + i = k + (i + 1) by omega]
def enumOf (d : D) : M Src := fun st =>
  match d with
  | .loc n => match st[n]? with
    | some (.lst xs) => .ok ⟨enFrom 0 xs, fun st' => st'[n]? = some (.lst xs)⟩ st
    | _ => .bad
  | .dat (.list xs) => .ok ⟨enFrom 0 xs, fun _ => True⟩ st
  | .dat (.tuple xs) => .ok ⟨enFrom 0 xs, fun _ => True⟩ st
  | _ => .bad
def mEnum (m : Env → M D) : Env → M Src := fun ρ => M.bind (m ρ) enumOf
/-- the tuple at a, each item in a new pair -/
def IteT (K : PySem.W.Frag) (a : Addr) : It :=
  ⟨fun i H => ∃ (xs : List V) (x : V), SqT K H a xs ∧ xs[i]? = some x, fun i H v H' => ∃ T x, v = .ref T ∧ H T = none ∧ H' = upd H T (.tup [.int (i : Nat), x]) ∧ ∀ xs, SqT K H a xs → xs[i]? = some x, fun i H => ∃ xs : List V, SqT K H a xs ∧ xs.length ≤ i⟩
theorem turn_enumT {P : Program} {w : World} {K : PySem.W.Frag} {elts : List Expr} {kk : Nat} {tpos : Pos} (a e it : Addr) :
    Turn P w K (.Tuple elts kk tpos) (IteT K a) [e, it] e (fun i h => (∃ old, IsEnum h e it ((i : Nat) : Int) old) ∧ h.IsTupleIter it a i ∧ e ≠ it) where
  mem := by simp
  obj := fun i h st b hb => by
    obtain ⟨⟨old, he⟩, ⟨o, ho, hc, hd⟩, _⟩ := st
    have e' : b = e ∨ b = it := by simpa using hb
    rcases e' with z | z
    · rw [z]; exact ⟨_, he, fun v q => nomatch q⟩
    · rw [z]; exact ⟨o, ho, fun v q => by rw [hd] at q; cases q⟩
  keep := fun i h h' st k => let ⟨⟨old, he⟩, hi, hne⟩ := st; ⟨⟨old, k e (by simp) _ he⟩, hi.at fun o q => k it (by simp) o q, hne⟩
  item := by
    intro X hP hw hK hc i pins s σ H E I hf st hg
    subst hP hw hK
    obtain ⟨⟨old, he⟩, hit, hne⟩ := st
    obtain ⟨xs, x, hq, hx⟩ := hg
    obtain ⟨its, rv, p, hz⟩ := I.tuple hq
    obtain ⟨u, hu, ru⟩ := rv.get hx
    have hel : e < s.heap.objs.size := Heap.lt_size he
    have hil : it < s.heap.objs.size := by obtain ⟨_, q, _⟩ := hit; exact Heap.lt_size q
    have pt : s.heap.IsTuple a its.toArray := p
    obtain ⟨ot, hot, hct, _⟩ := id pt
    have nit : a ≠ it := fun z => by
      obtain ⟨o, ho, hc', _⟩ := hit
      rw [← z, hot] at ho
      cases ho
      rw [hct] at hc'
      injection hc' with q
      exact absurd q (by decide)
    have nea : e ≠ a := fun z => by
      have h1 := he
      rw [z] at h1
      have h2 := hot.symm.trans h1
      cases h2
      injection hct with q
      exact absurd q (by decide)
    have hlt : i < its.toArray.size := by
      have := List.getElem?_eq_some_iff.mp hu
      obtain ⟨q, _⟩ := this
      simpa using q
    refine wpAny_pyNext_enum_itemD (Draws.tuple (A := X.A.in1) (I.ok.hd hc) it a nit its.toArray) he ⟨hit, pt⟩ hlt hne (by simp [hne, nea]) fun x' h' tk hpx ho hst hT hsz hk => ?_
    obtain ⟨hit', _⟩ := hst
    have hxu : x' = u := by
      have : its[i]? = some x' := by simpa using hpx
      rw [hu] at this
      cases this
      rfl
    subst hxu
    refine ⟨_, rfl, wpAny_letOwnedTupleGo_enum (s := { s with heap := h', toks := tk + 1 }) ho fun h'' he' sb => ?_⟩
    have hT2 : h''.get? s.heap.objs.size = some { cls := .type "tuple", data := .seq #[.int i tk, x'] } := (sb.2 _ (Nat.ne_of_gt hel)).trans hT
    have new : ObjOk X.prog X.w (upd H s.heap.objs.size (.tup [.int (i : Nat), x])) h'' s.heap.objs.size (.tup [.int (i : Nat), x]) :=
      ⟨by show 2 ≤ sizeLine; decide, [.int i tk, x'], .cons ⟨_, rfl⟩ (.cons ru .nil), ⟨_, hT2, rfl, _, rfl⟩⟩
    have I1 : Inv X pins σ (upd H s.heap.objs.size (.tup [.int (i : Nat), x])) { s with heap := h'', toks := tk + 1 } :=
      I.turnedNew (ch := [e, it]) (fun b ob hb q => (sb.2 b (fun z => hb (by simp [z]))).trans (hk b ob (fun z => hb (by simp [z])) (fun z => hb (by simp [z])) q)) hf (Nat.le_refl _) new
    refine ⟨.ref s.heap.objs.size, _, I1, rfl, ⟨_, x, rfl, I.hok.fresh (Nat.le_refl _), rfl, fun ys hy => by rw [I.tuple_inj hy hq]; exact hx⟩, ⟨⟨x', ?_⟩, hit'.at fun o q => (sb.2 it (Ne.symm hne)).trans q, hne⟩, fun b hb => ?_⟩
    · have e1 : ((i + 1 : Nat) : Int) = (i : Int) + 1 := by omega
      rw [e1]; exact he'
    · have hb' : b < s.heap.objs.size := by
        have e' : b = e ∨ b = it := by simpa using hb
        rcases e' with z | z
        · rw [z]; exact hel
        · rw [z]; exact hil
      rw [upd_ne (Nat.ne_of_lt hb')]
      exact (hf b hb).1
  done := by
    intro X hP hw hK hc i pins s σ H E I hf st hg
    subst hP hw hK
    obtain ⟨⟨old, he⟩, hit, hne⟩ := st
    obtain ⟨xs, hq, hx⟩ := hg
    obtain ⟨its, rv, p, hz⟩ := I.tuple hq
    obtain ⟨f0, f1, f2, f3, f4, f5⟩ := hf it (by simp)
    have hl := rv.length
    have pt : s.heap.IsTuple a its.toArray := p
    obtain ⟨ot, hot, hct, _⟩ := id pt
    have nit : a ≠ it := fun z => by
      obtain ⟨o, ho, hc', _⟩ := hit
      rw [← z, hot] at ho
      cases ho
      rw [hct] at hc'
      injection hc' with q
      exact absurd q (by decide)
    have hT : s.TypeIs (.ref e) "enumerate" := ⟨_, he, rfl⟩
    unfold pyNext
    refine wpAny_bind (wpAny_attempt (wpAny_callSpecial?_slot (name := Str.ofString "__next__") hT PySem.F.slot_enumerate_next
      (wpAny_call_entry PySem.F.slot_enumerate_next hT PySem.F.entry_enumerate_next ?_ (PySem.F.args_enumerate_next_1 _))))
    show wpAny _ _ (field (.ref e) 2 >>= _) _ _ _
    refine wpAny_bind (wpAny_field he rfl (x := .ref it) rfl ?_)
    refine wpAny_bind (wpAny_nextOf_tuple_end (show X.A.in1.handled = none from I.ok.hd hc) hit pt (by simp; omega) fun h' ex eb hx' => ?_)
    obtain ⟨o, ho, hc'⟩ := hx'
    refine wpAny_bind (wpAny_isInstance (T := "StopIteration") (b := true) ⟨o, ho, hc'⟩ isSubtype_stop ?_)
    exact wpAny_pure ⟨rfl, I.turned (t' := s.toks) (fun b o hb q => eb b o hb q) f0 f1 f3 f4 f5⟩
  self := fun A i s Q E st h => let ⟨⟨_, he⟩, _⟩ := st; wpAny_pyIter_enum he h

theorem meets_enum1 {v : Value} {o : Obj} {H : Heap → Prop} (B : Begins v o H) :
    Meets (Builtin.«enumerate.__new__» ⟨[.type "enumerate", v], []⟩) (fun _ R s => H s.heap ∧
      R (.ok (.ret (.ref (s.heap.push o).objs.size))) { s with heap := (s.heap.push o).push { cls := .type "enumerate", data := .fields #[.none, .bool false, .ref s.heap.objs.size, rawInt 0, .none, .none] } }) :=
  .of_wp fun prog w A R s h => by
    obtain ⟨hp, g, d, tk, os⟩ := s; obtain ⟨h1, h⟩ := h
    have hsub := sub_enumerate
    have q1 : ∀ {A' : Around} {E : Value → Shared → Prop} {Q : Value → Shared → Prop}, Q (.ref hp.objs.size) ⟨hp.push o, g, d, tk, os⟩ → wpAny (model prog w) A' (pyIter v) Q E ⟨hp, g, d, tk, os⟩ :=
      fun q => B.iter prog w _ _ ⟨hp, g, d, tk, os⟩ _ h1 q
    wp_walk using q1
    refine wpAny_stack_any fun st => wpAny_pure ?_
    split
    · rename_i c _ _ _ _ _
      cases (c == Value.type "enumerate")
      · wp_walk using q1
        exact ⟨_, rfl, h⟩
      · wp_walk using q1
        exact ⟨_, rfl, h⟩
    · wp_walk using q1
      exact ⟨_, rfl, h⟩
theorem enum1_begins {prog : Program} {w : World} {A : Around} {E : Value → Shared → Prop} {s : Shared} {v : Value} {o : Obj} {H : Heap → Prop} {Q : Value → Shared → Prop} (B : Begins v o H) (h1 : H s.heap)
    (h : ∀ h', IsEnum h' (s.heap.objs.size + 1) s.heap.objs.size 0 .none → h'.get? s.heap.objs.size = some o → h'.objs.size = s.heap.objs.size + 2 →
      (∀ b o, s.heap.get? b = some o → h'.get? b = some o) → Q (.ref (s.heap.objs.size + 1)) { s with heap := h' }) :
    wpAny (model prog w) A (call (.type "enumerate") [v]) Q E s := by
  refine callType_new PySem.F.called_enumerate (by decide) (PySem.F.typeCall_enumerate_1 _) (PySem.F.newCall_enumerate_1 _) (fun obj => PySem.F.args_object_init_2 obj _) PySem.F.entry_enumerate_new
    (meets_enum1 B) ⟨h1, ?_⟩
  have hz : (s.heap.push o).objs.size = s.heap.objs.size + 1 := Heap.size_push ..
  show _ ∧ _
  rw [hz]
  have he : IsEnum ((s.heap.push o).push { cls := .type "enumerate", data := .fields #[.none, .bool false, .ref s.heap.objs.size, rawInt 0, .none, .none] }) (s.heap.objs.size + 1) s.heap.objs.size 0 .none := by
    have := Heap.get?_push_size (s.heap.push o) (o := { cls := .type "enumerate", data := .fields #[.none, .bool false, .ref s.heap.objs.size, rawInt 0, .none, .none] }) rfl
    rw [hz] at this; exact this
  refine ⟨⟨_, he, rfl⟩, h _ he (Heap.get?_push_of_some _ (Heap.get?_push_size _ B.free)) (by rw [Heap.size_push, hz]) fun b o x => Heap.get?_push_of_some _ (Heap.get?_push_of_some _ x)⟩
section
variable {K : PySem.W.Frag} {mg : Str → Option Value} {R : Rg} {H : Hp} {st : Sto} {a : Addr} {xs : List PyData}
theorem en_yld {R' : Rg} {H' H2 : Hp} {st' : Sto} {x : V} {i : Nat} {vs : List V} (hi : i < xs.length) (S : Sim K R' H' st') (pa : PdA K (Own R' st') H' vs xs) (T : Addr) (u : V) (ex : x = .ref T) (hT : H' T = none) (e2 : H2 = upd H' T (.tup [.int (i : Nat), u])) (hu : vs[i]? = some u) :
    Ext R' H' st' R' H2 st' ∧ Sim K R' H2 st' ∧ ∃ d, (enFrom 0 xs)[i]? = some d ∧ Dv K mg R' st' H2 x d := by
  subst ex e2
  obtain ⟨v, e1, e3⟩ := pa.at_ (i := i) (d := xs[i]) (by simp [hi])
  rw [e1] at hu
  cases hu
  refine ⟨.new hT, S.new hT, .dat (.tuple [.int (i : Nat), xs[i]]), ?_, newTup S hT (.cons (.int _) (.cons e3 .nil))⟩
  rw [enFrom_at, Nat.zero_add]
  simp [hi]
theorem wk_enL {s : Src} (hs : s.items = enFrom 0 xs) (q : ∀ R' H' st', Lat R H st R' H' st' → Sim K R' H' st' → s.ok st' → ∃ vs, SqL K H' a vs ∧ PdA K (Own R' st') H' vs xs) : Wk K mg R st H (Ite K a) s := by
  have hl : s.items.length = xs.length := by rw [hs, enFrom_len]
  refine ⟨fun i R' H' st' hi E S o => ?_, fun R' H' st' E S o => ?_, fun i R' H' st' x H2 hi E S o y => ?_⟩
  · obtain ⟨vs, h1, h2⟩ := q R' H' st' E S o
    have hv : i < vs.length := by rw [h2.len]; omega
    exact ⟨vs, vs[i], h1, by simp [hv]⟩
  · obtain ⟨vs, h1, h2⟩ := q R' H' st' E S o
    exact ⟨vs, h1, by rw [h2.len, hl]; exact Nat.le_refl _⟩
  · obtain ⟨vs, h1, h2⟩ := q R' H' st' E S o
    obtain ⟨T, u, ex, hT, e2, y⟩ := y
    rw [hs]
    exact en_yld (by omega) S h2 T u ex hT e2 (y vs h1)
theorem wk_enT {s : Src} (hs : s.items = enFrom 0 xs) (q : ∀ R' H' st', Lat R H st R' H' st' → Sim K R' H' st' → s.ok st' → ∃ vs, SqT K H' a vs ∧ PdA K (Own R' st') H' vs xs) : Wk K mg R st H (IteT K a) s := by
  have hl : s.items.length = xs.length := by rw [hs, enFrom_len]
  refine ⟨fun i R' H' st' hi E S o => ?_, fun R' H' st' E S o => ?_, fun i R' H' st' x H2 hi E S o y => ?_⟩
  · obtain ⟨vs, h1, h2⟩ := q R' H' st' E S o
    have hv : i < vs.length := by rw [h2.len]; omega
    exact ⟨vs, vs[i], h1, by simp [hv]⟩
  · obtain ⟨vs, h1, h2⟩ := q R' H' st' E S o
    exact ⟨vs, h1, by rw [h2.len, hl]; exact Nat.le_refl _⟩
  · obtain ⟨vs, h1, h2⟩ := q R' H' st' E S o
    obtain ⟨T, u, ex, hT, e2, y⟩ := y
    rw [hs]
    exact en_yld (by omega) S h2 T u ex hT e2 (y vs h1)
theorem enumOf_wk {v : V} {d : D} {Q : It → Hp → Prop} {W : XK} (S : Sim K R H st) (D1 : Dv K mg R st H v d) (h : Post K mg (RelI K mg) R H st (enumOf d st) Q W) :
    ∃ a, v = .ref a ∧ ((∃ ws, SqL K H a ws) ∧ Q (Ite K a) H ∨ (∃ ws, SqT K H a ws) ∧ Q (IteT K a) H) := by
  unfold enumOf at h
  split at h
  · rename_i n
    obtain ⟨a, ha, rfl⟩ := D1
    split at h
    · rename_i xs z
      obtain ⟨ws, e1, e2⟩ := S.at_ n a xs ha z
      exact ⟨a, rfl, .inl ⟨⟨ws, .inl (.inl e1)⟩, h.okR S (wk_enL rfl fun R' H' st' E S' o => by
        obtain ⟨ws', e3, e4⟩ := S'.at_ n a xs (E.at_ n a ha) o
        exact ⟨ws', .inl (.inl e3), e4⟩)⟩⟩
    · exact h.elim
  · have D2 : Pd K (Own R st) H v (.list _) := D1
    cases D2 with
    | lst h1 h2 h3 => exact ⟨_, rfl, .inl ⟨⟨_, .inl (.inl h1)⟩, h.okR S (wk_enL rfl fun R' H' st' E _ _ => ⟨_, .inl (.inl (E.stays.keep _ _ h1 h2)), h3.stays E.stays⟩)⟩⟩
  · have D2 : Pd K (Own R st) H v (.tuple _) := D1
    cases D2 with
    | tup h1 h3 => exact ⟨_, rfl, .inr ⟨⟨_, h1.seq⟩, h.okR S (wk_enT rfl fun R' H' st' E _ _ => ⟨_, (h1.stays E.stays).seq, h3.stays E.stays⟩)⟩⟩
  · exact h.elim
end
section
variable {X : Cx} {W : WX} {l : Expr} {m : Env → M D} {p pos tpos : Pos} {elts : List Expr} {kk : Nat}
theorem evi_enum (hm : X.mg "enumerate" = none) (hl : EV X W l m) (hg : Gl X "enumerate" := by exact rfl) (hs : starEach [l] X.env = (false, eval l X.env) :: starEach [] X.env := by rfl) :
    EVI X W (.Tuple elts kk tpos) (.Call (.Name "enumerate" p) [l] [] pos) (mEnum m) := by
  refine ⟨⟨fun pins s σ H Rr I hh => ?_⟩⟩
  obtain ⟨R, ρ, st, S, E, hh⟩ := hh
  refine Call_ (ld_blt I hg hm boot_enumerate (PyProof.Rows.callWith_type1 (args_cons (thn (hl.pe.run pins s σ H (fun v H1 => ∃ a, v = .ref a ∧ ((∃ ws, SqL X.K H1 a ws) ∧ Rr (Ite X.K a) H1 ∨ (∃ ws, SqT X.K H1 a ws) ∧ Rr (IteT X.K a) H1)) I
    ⟨R, ρ, st, S, E, (Post.bind (Rel := Dv X.K X.mg) (Rel2 := RelI X.K X.mg) hh).monoQ fun v H1 ⟨R1, st1, d, x1, S1, D1, h1⟩ => enumOf_wk S1 D1 h1⟩) fun v s1 ⟨x, H1, I1, r1, a, ex, q⟩ => args_nil ?_) hs) hs))
  subst ex
  cases r1
  have fin : ∀ (h' : Heap), (∀ b o, s1.heap.get? b = some o → h'.get? b = some o) → Inv X pins σ H1 { s1 with heap := h' } := fun h' hk => I1.kept (t' := s1.toks) hk
  have mem : ∀ b, b ∈ [s1.heap.objs.size + 1, s1.heap.objs.size] → s1.heap.objs.size ≤ b := fun b hb => by
    have e' : b = s1.heap.objs.size + 1 ∨ b = s1.heap.objs.size := by simpa using hb
    rcases e' with z | z
    · rw [z]; exact Nat.le_add_right _ _
    · rw [z]; exact Nat.le_refl _
  rcases q with ⟨⟨ws, hq⟩, q⟩ | ⟨⟨ws, hq⟩, q⟩
  · obtain ⟨its, rv, p', hz⟩ := I1.list hq
    refine call_enumerate_list p'.isList fun h' he hit hsz hk => wpAny_pyIter_enum he ?_
    exact ⟨s1.heap.objs.size + 1, [s1.heap.objs.size + 1, s1.heap.objs.size], _, _, H1, rfl, fin h' hk, turn_enum a (s1.heap.objs.size + 1) s1.heap.objs.size, ⟨⟨.none, he⟩, hit, Nat.succ_ne_self _⟩, fun b hb => I1.fpOk (mem b hb) (I1.hok.fresh (mem b hb)), q⟩
  · obtain ⟨its, rv, p', hz⟩ := I1.tuple hq
    refine enum1_begins (begins_tuple a its.toArray) (show s1.heap.IsTuple a its.toArray from p') fun h' he hit hsz hk => wpAny_pyIter_enum he ?_
    exact ⟨s1.heap.objs.size + 1, [s1.heap.objs.size + 1, s1.heap.objs.size], _, _, H1, rfl, fin h' hk, turn_enumT a (s1.heap.objs.size + 1) s1.heap.objs.size, ⟨⟨.none, he⟩, ⟨_, hit, rfl, rfl⟩, Nat.succ_ne_self _⟩, fun b hb => I1.fpOk (mem b hb) (I1.hok.fresh (mem b hb)), q⟩
end
end Ev
set_option Elab.async false
set_option linter.all false
set_option maxRecDepth 100000
set_option maxHeartbeats 4000000
/-! Pu3: more words for reckoning: == of truths, tuples put together, appends, loops over a range. -/
namespace Ev
open PySem PySem.Spec PyProof.Rows L2
open Classical
theorem dAdd_tuple {xs ys : List PyData} (h : xs.length + ys.length ≤ 100000) (st : Sto) : dAdd (.dat (.tuple xs)) (.dat (.tuple ys)) st = .ok (.dat (.tuple (xs ++ ys))) st := by
  show ifLen _ _ st = _
  unfold ifLen
  rw [if_pos h] <;> rfl
theorem dNe_bool (a b : Bool) (st : Sto) : dNe (.dat (.bool a)) (.dat (.bool b)) st = .ok (.dat (.bool (a != b))) st := by
  cases a <;> cases b <;> rfl
theorem dNe_str (x y : Str) (st : Sto) : dNe (.dat (.str x)) (.dat (.str y)) st = .ok (.dat (.bool (!decide (x = y)))) st := rfl
theorem dNe_int' (i j : Int) (st : Sto) : dNe (.dat (.int i)) (.dat (.int j)) st = .ok (.dat (.bool (!(i == j)))) st := by
  show notM (eqD (.int i) (.int j)) st = _
  have e : eqD (.int i) (.int j) st = .ok (.dat (.bool (i == j))) st := dEq_int i j st
  rw [notM_ap, e] <;> rfl
theorem append_ap {mo : Env → M D} {ms : Env → M (List D)} {ρ : Env} {st st1 st2 : Sto} {n : Nat} {xs zs : List PyData} {y : PyData} (h1 : mo ρ st = .ok (.loc n) st1) (h2 : st1[n]? = some (.lst zs)) (h3 : ms ρ st1 = .ok [.dat y] st2) (e : st2[n]? = some (.lst xs)) (hl : xs.length ≤ 100000) :
    mMt dAppend mo ms ρ st = .ok (.dat .none) (st2.set n (.lst (xs ++ [y]))) := by
  unfold mMt
  rw [bind_ap, h1, then_ok, bind_ap]
  have q : isLoc (.loc n) st1 = .ok (.loc n) st1 := by
    unfold isLoc
    dsimp only
    rw [h2]
  rw [q, then_ok, bind_ap, h3, then_ok]
  show onLoc _ (.loc n) st2 = _
  unfold onLoc
  dsimp only
  rw [e]
  dsimp only
  rw [if_pos hl]
theorem sPar_ap {i j : Nat} {ms : Env → M (List D)} {ρ : Env} {st st1 : Sto} {x y : D} (h : ms ρ st = .ok [x, y] st1) : sPar i j ms ρ st = .nx ((ρ.set i (some x)).set j (some y)) st1 := by
  unfold sPar
  rw [sBind_ap, h] <;> rfl
@[simp] theorem mK_ap (F : List D → M D) (g : List D → List D → List D) (ms mk : Env → M (List D)) (ρ : Env) (st : Sto) : mK F g ms mk ρ st = (ms ρ st).then fun ds => M.bind (mk ρ) fun es => F (g ds es) := rfl
theorem rng_ap {k : Int} (h0 : 0 ≤ k) (h1 : k < 1000) (st : Sto) : rng1 [.dat (.int k)] st = .ok (rangeD 0 k.toNat) st := by
  show (if -(2 ^ 62) ≤ k ∧ k < 2 ^ 62 then M.pure (rangeD 0 k.toNat) else M.bad) st = _
  rw [if_pos ⟨by omega, by omega⟩]
  rfl
theorem rng_items (k : Nat) : (rangeD 0 k).items = (List.range k).map (fun i : Nat => D.dat (.int (0 + (i : Int)))) := id rfl
theorem rng_ok (k : Nat) : (rangeD 0 k).ok = fun _ => True := id rfl
theorem data_items (xs : List PyData) : (Src.data xs).items = xs.map D.dat := id rfl
theorem data_ok (xs : List PyData) : (Src.data xs).ok = fun _ => True := id rfl
theorem loopS_end {t : Tg} {body : SM} {ρ : Env} {st : Sto} : loopS (fun _ => True) t body [] ρ st = .nx ρ st := by
  rw [loopS, if_pos trivial]
/-- a loop whose turns change the slots from 1 on in any way, the store in any way -/
theorem loop_any {t : Tg} {body : SM} {x : Option D} {N : Nat} (ds : List D) (h : ∀ d ∈ ds, ∀ (ρ : Env) (st : Sto), ρ.length = N → ∃ ρ1, t d (x :: ρ) = some ρ1 ∧ ∃ ρ2 st2, body ρ1 st = .nx (x :: ρ2) st2 ∧ ρ2.length = N) :
    ∀ (ρ : Env) (st : Sto), ρ.length = N → ∃ ρ2 st2, loopS (fun _ => True) t body ds (x :: ρ) st = .nx (x :: ρ2) st2 ∧ ρ2.length = N := by
  induction ds with
  | nil => intro ρ st hl; exact ⟨ρ, st, loopS_end, hl⟩
  | cons d r ih =>
    intro ρ st hl
    obtain ⟨ρ1, e1, ρ2, st2, e2, l2⟩ := h d List.mem_cons_self ρ st hl
    obtain ⟨ρ3, st3, e3, l3⟩ := ih (fun y hy => h y (List.mem_cons_of_mem _ hy)) ρ2 st2 l2
    exact ⟨ρ3, st3, by rw [loopS_nx trivial e1 e2, e3], l3⟩
/-- slots, one by one -/
theorem env1 {ρ : Env} {n : Nat} (h : ρ.length = n + 1) : ∃ a r, ρ = a :: r ∧ r.length = n := by
  cases ρ with
  | nil => cases h
  | cons a r => exact ⟨a, r, rfl, by simpa using h⟩
theorem env0 {ρ : Env} (h : ρ.length = 0) : ρ = [] := List.length_eq_zero_iff.mp h
theorem loopC_list {α : Type} {t : Tg} {elt : Env → M D} {ρ : Env} {st : Sto} (enc : α → D) (val : α → PyData) : ∀ (es : List α) (acc : List PyData), acc.length + es.length ≤ 100001 → (∀ a ∈ es, ∃ ρ1, t (enc a) ρ = some ρ1 ∧ elt ρ1 st = .ok (.dat (val a)) st) →
    loopC (fun _ => True) t mYes elt ρ (es.map enc) acc st = .ok (.dat (.list (acc ++ es.map val))) st
  | [], acc, _, _ => by
    rw [List.map_nil, loopC, if_pos trivial, List.map_nil, List.append_nil]
  | a :: r, acc, hl, h => by
    obtain ⟨ρ1, e1, e2⟩ := h a List.mem_cons_self
    rw [List.length_cons] at hl
    rw [List.map_cons, loopC, if_pos ⟨trivial, by omega⟩, e1]
    show (match elt ρ1 st with | .ok (.dat y) st2 => loopC (fun _ => True) t mYes elt ρ (r.map enc) (acc ++ [y]) st2 | _ => .bad) = _
    rw [e2]
    show loopC (fun _ => True) t mYes elt ρ (r.map enc) (acc ++ [val a]) st = _
    rw [loopC_list enc val r (acc ++ [val a]) (by rw [List.length_append, List.length_singleton]; omega) fun b hb => h b (List.mem_cons_of_mem _ hb), List.map_cons, List.append_assoc]
    rfl
/-- a comprehension whose element changes the store -/
theorem loopC_st {t : Tg} {elt : Env → M D} {ρ : Env} (P : Nat → Sto → Prop) (Q : PyData → Prop) : ∀ (ds : List D) (k : Nat) (acc : List PyData) (st : Sto), acc.length + ds.length ≤ 100001 → P k st →
    (∀ d ∈ ds, ∃ ρ1, t d ρ = some ρ1 ∧ ∀ j st, P j st → j < k + ds.length → ∃ y st', elt ρ1 st = .ok (.dat y) st' ∧ Q y ∧ P (j + 1) st') →
    ∃ ys st', loopC (fun _ => True) t mYes elt ρ ds acc st = .ok (.dat (.list (acc ++ ys))) st' ∧ ys.length = ds.length ∧ (∀ y ∈ ys, Q y) ∧ P (k + ds.length) st'
  | [], k, acc, st, _, hp, _ => ⟨[], st, by rw [loopC, if_pos trivial, List.append_nil], rfl, (fun y h => by cases h), hp⟩
  | d :: r, k, acc, st, hl, hp, h => by
    obtain ⟨ρ1, e1, f⟩ := h d List.mem_cons_self
    rw [List.length_cons] at hl
    obtain ⟨y, st1, e2, qy, p1⟩ := f k st hp (by rw [List.length_cons]; omega)
    obtain ⟨ys, st2, e3, l3, q3, p3⟩ := loopC_st P Q r (k + 1) (acc ++ [y]) st1 (by rw [List.length_append, List.length_singleton]; omega) p1 fun b hb => by
      obtain ⟨ρ2, a, b⟩ := h b (List.mem_cons_of_mem _ hb)
      exact ⟨ρ2, a, fun j st hj hl => b j st hj (by rw [List.length_cons]; omega)⟩
    refine ⟨y :: ys, st2, ?_, by rw [List.length_cons, l3, List.length_cons], fun z hz => ?_, by rw [List.length_cons, show k + (r.length + 1) = k + 1 + r.length by omega]; exact p3⟩
    · rw [loopC, if_pos ⟨trivial, by omega⟩, e1]
      show (match elt ρ1 st with | .ok (.dat y) st2 => loopC (fun _ => True) t mYes elt ρ r (acc ++ [y]) st2 | _ => .bad) = _
      rw [e2]
      show loopC (fun _ => True) t mYes elt ρ r (acc ++ [y]) st1 = _
      rw [e3, List.append_assoc]
      rfl
    · rcases List.mem_cons.mp hz with h | h
      · rw [h]; exact qy
      · exact q3 z h
theorem mkTup_go (ds : List D) (st : Sto) : mkTup ds st = match datas ds with
  | some xs => if xs.length ≤ 100000 then .ok (.dat (.tuple xs)) st else .bad
  | none => .bad := rfl
theorem mkLst_go (ds : List D) (st : Sto) : mkLst ds st = match datas ds with
  | some xs => if xs.length ≤ 100000 then .ok (.dat (.list xs)) st else .bad
  | none => .bad := rfl
theorem Dn.rf {n m : Nat} {st : Sto} (S : SackAt st n m) : Dn n m st st := by
  obtain ⟨a, b, c, e, _⟩ := id S
  exact ⟨SameBut.refl (List.getElem?_eq_some_iff.mp e).1, S⟩
/-- numbers, told as such -/
theorem ints_of {P : Int → Prop} : ∀ {ys : List PyData}, (∀ y ∈ ys, ∃ v : Int, y = .int v ∧ P v) → ∃ r : List Int, ys = r.map PyData.int ∧ (∀ i ∈ r, P i) ∧ r.length = ys.length
  | [], _ => ⟨[], rfl, (fun i h => by cases h), rfl⟩
  | y :: ys, h => by
    obtain ⟨v, rfl, pv⟩ := h y List.mem_cons_self
    obtain ⟨r, rfl, pr, hl⟩ := ints_of (ys := ys) fun z hz => h z (List.mem_cons_of_mem _ hz)
    refine ⟨v :: r, rfl, fun i hi => ?_, by simp⟩
    rcases List.mem_cons.mp hi with z | z
    · rw [z]; exact pv
    · exact pr i z
theorem Sm.pair {d1 d2 c1 c2 : Nat} {x y : PyData} {a b a' b' : Bool} (h : Sm d1 c1 a b x) (k : Sm d2 c2 a' b' y) : Sm (max d1 d2 + 1) (8 + c1 + c2) false false (.tuple [x, y]) := by
  refine ⟨?_, ?_, ?_, (fun z => by cases z), fun z => by cases z⟩
  · show (x.showable && (y.showable && true)) = true
    rw [h.sh, k.sh] <;> rfl
  · show max x.depth (max y.depth 0) + 1 ≤ _
    have := h.dp; have := k.dp; omega
  · show 4 + ((cost x + 2) + ((cost y + 2) + 0)) ≤ _
    have := h.co; have := k.co; omega
theorem Sm.ok {d c : Nat} {x : PyData} {a b : Bool} (h : Sm d c a b x) (h1 : d ≤ 64) (h2 : c ≤ 16000000) : reprOk x = true := reprOk_of h.sh h.dp h.co h1 h2
end Ev
set_option Elab.async false
set_option linter.all false
set_option maxRecDepth 100000
set_option maxHeartbeats 4000000
/-! printed by gen.py: the functions of the defs, and that the text keeps them. -/
namespace K04
open PySem PySem.Spec PyProof.Rows L2 Ev
open Classical
def top (i : Nat) : Stmt := PySem.Challenge.pw_rowhaul_k04_whole_one_in_the_place_of_an.main.body.getD i (.Pass ⟨0, 0, 0, 0⟩)
def hit_Falls (x : Str) : Option Bool :=
  if x = "Falls" then some true else
  if x = "NoNumber" then some false else
  if x = "RowsError" then some false else
  none
structure Bt (K : PySem.W.Frag) (mg : Str → Option Value) : Prop where
  b_abs : mg "abs" = none
  b_bool : mg "bool" = none
  b_enumerate : mg "enumerate" = none
  b_int : mg "int" = none
  b_isinstance : mg "isinstance" = none
  b_len : mg "len" = none
  b_list : mg "list" = none
  b_max : mg "max" = none
  b_min : mg "min" = none
  b_range : mg "range" = none
  b_tuple : mg "tuple" = none
  c_LEAST_WORD : ∃ t, mg "LEAST_WORD" = some (.int (-1000000000) t)
  c_MOST_OPS : ∃ t, mg "MOST_OPS" = some (.int 4 t)
  c_MOST_WORD : ∃ t, mg "MOST_WORD" = some (.int 1000000000 t)
  c__MOST_COLUMNS : ∃ t, mg "_MOST_COLUMNS" = some (.int 9 t)
  t__OPS : KTup K mg "_OPS" [.str "plus", .str "minus", .str "times", .str "over", .str "rest", .str "less", .str "same"]
  x_NoNumber : ExN K mg "NoNumber"
  h_Falls : Catch K mg "Falls" hit_Falls
  i_Falls : ExI K mg "Falls" "word"
  f_Falls_word : FldC K mg "Falls" "word"
  k1_is_expr : Bn K mg "is_expr" ["thing", "width", "carried"] 2 ["carried"] (fun vs zs => vs ++ zs)
  k0_worth : Bn K mg "worth" ["expr", "record", "was"] 2 [] (fun vs _ => vs ++ [.int 0])
  k1_worth : Bn K mg "worth" ["expr", "record", "was"] 2 ["was"] (fun vs zs => vs ++ zs)

abbrev s_init_Falls : Stmt := (C8.clsBody (top 3)).getD 0 (.Pass ⟨0, 0, 0, 0⟩)
theorem ini_Falls : IniS s_init_Falls "self" "word" "word" "ArithmeticError" :=
  ⟨⟨rfl, rfl, rfl, by decide +kernel, rfl, by decide +kernel, by decide +kernel⟩, ⟨_, _, _, _, _, _, _, _, _, _, _, _, rfl, fun _ _ _ _ => ⟨_, rfl⟩⟩, fun _ _ _ _ => rfl, Or.inl rfl, Or.inl rfl, rfl, rfl, rfl, rfl⟩


/-! is_whole -/
abbrev s_is_whole : Stmt := top 5
abbrev N_is_whole : List Str := ["thing"]
noncomputable def b_is_whole : SM :=
    (sRet (mAndV (mC (on2 dIsi) (aCons (vr 0) (aCons (ct (.ty .int)) aNil))) (mNotV (mC (on2 dIsi) (aCons (vr 0) (aCons (ct (.ty .bool)) aNil))))))
noncomputable def F_is_whole : List D → M D := runB 1 1 b_is_whole
theorem sc_is_whole : FnScope N_is_whole ["thing"] (defScope s_is_whole) := ⟨rfl, rfl, rfl, by decide +kernel, rfl, by decide +kernel, by decide +kernel⟩
theorem g_is_whole {P : Program} {w : World} {K : PySem.W.Frag} {mg : Str → Option Value} {base : Heap} (B : Bt K mg) (d : Df K mg "is_whole" s_is_whole ["thing"]) :
    FnN P w K mg base 1 "is_whole" ["thing"] F_is_whole := by
  refine fnN_of (N := N_is_whole) (body := b_is_whole) giveD_ok d sc_is_whole fun f cdv A outer s H E C => ?_
  exact (evs_one (evs_ret (ev_and (n_isinstance B.b_isinstance (ea_cons (ev_vr 0) (ea_cons (ev_tyn (t := .int) (by rfl) B.b_int boot_int) ea_nil))) (ev_one (ev_not (n_isinstance B.b_isinstance (ea_cons (ev_vr 0) (ea_cons (ev_tyn (t := .bool) (by rfl) B.b_bool boot_bool) ea_nil))))))))


/-! is_from -/
abbrev s_is_from : Stmt := top 6
abbrev N_is_from : List Str := ["thing", "low", "high"]
noncomputable def b_is_from : SM :=
    (sRet (mAndV (mC F_is_whole (aCons (vr 0) aNil)) (mChain dLe dLe (vr 1) (vr 0) (vr 2))))
noncomputable def F_is_from : List D → M D := runB 3 3 b_is_from
theorem sc_is_from : FnScope N_is_from ["thing", "low", "high"] (defScope s_is_from) := ⟨rfl, rfl, rfl, by decide +kernel, rfl, by decide +kernel, by decide +kernel⟩
theorem g_is_from {P : Program} {w : World} {K : PySem.W.Frag} {mg : Str → Option Value} {base : Heap} (B : Bt K mg) (d : Df K mg "is_from" s_is_from ["thing", "low", "high"]) (G_is_whole : FnN P w K mg base 1 "is_whole" ["thing"] F_is_whole) :
    FnN P w K mg base 2 "is_from" ["thing", "low", "high"] F_is_from := by
  refine fnN_of (N := N_is_from) (body := b_is_from) giveD_ok d sc_is_from fun f cdv A outer s H E C => ?_
  exact (evs_one (evs_ret (ev_and (ev_callN G_is_whole C (by decide) (by rfl) (ea_cons (ev_vr 0) ea_nil)) (ev_one (x_lele (ev_vr 1) (ev_vr 0) (ev_vr 2))))))


/-! check_from -/
abbrev s_check_from : Stmt := top 7
abbrev N_check_from : List Str := ["thing", "low", "high"]
noncomputable def b_check_from : SM :=
    (sIf (mNot (mT (mC F_is_from (aCons (vr 0) (aCons (vr 1) (aCons (vr 2) aNil)))))) (sRaise "NoNumber") sNil)
noncomputable def F_check_from : List D → M D := runB 3 3 b_check_from
theorem sc_check_from : FnScope N_check_from ["thing", "low", "high"] (defScope s_check_from) := ⟨rfl, rfl, rfl, by decide +kernel, rfl, by decide +kernel, by decide +kernel⟩
theorem g_check_from {P : Program} {w : World} {K : PySem.W.Frag} {mg : Str → Option Value} {base : Heap} (B : Bt K mg) (d : Df K mg "check_from" s_check_from ["thing", "low", "high"]) (G_is_from : FnN P w K mg base 2 "is_from" ["thing", "low", "high"] F_is_from) :
    FnN P w K mg base 3 "check_from" ["thing", "low", "high"] F_check_from := by
  refine fnN_of (N := N_check_from) (body := b_check_from) giveD_ok d sc_check_from fun f cdv A outer s H E C => ?_
  exact (evs_one (evs_if (evt_not (evt_tru (ev_callN G_is_from C (by decide) (by rfl) (ea_cons (ev_vr 0) (ea_cons (ev_vr 1) (ea_cons (ev_vr 2) ea_nil)))))) (evs_one (evs_raise rfl C B.x_NoNumber (by rfl))) evs_nil))


/-! is_word -/
abbrev s_is_word : Stmt := top 14
abbrev N_is_word : List Str := ["thing"]
noncomputable def b_is_word : SM :=
    (sRet (mC F_is_from (aCons (vr 0) (aCons (ct (.dat (.int (-1000000000)))) (aCons (ct (.dat (.int 1000000000))) aNil)))))
noncomputable def F_is_word : List D → M D := runB 1 1 b_is_word
theorem sc_is_word : FnScope N_is_word ["thing"] (defScope s_is_word) := ⟨rfl, rfl, rfl, by decide +kernel, rfl, by decide +kernel, by decide +kernel⟩
theorem g_is_word {P : Program} {w : World} {K : PySem.W.Frag} {mg : Str → Option Value} {base : Heap} (B : Bt K mg) (d : Df K mg "is_word" s_is_word ["thing"]) (G_is_from : FnN P w K mg base 2 "is_from" ["thing", "low", "high"] F_is_from) :
    FnN P w K mg base 3 "is_word" ["thing"] F_is_word := by
  refine fnN_of (N := N_is_word) (body := b_is_word) giveD_ok d sc_is_word fun f cdv A outer s H E C => ?_
  exact (evs_one (evs_ret (ev_callN G_is_from C (by decide) (by rfl) (ea_cons (ev_vr 0) (ea_cons (ev_gint (by rfl) B.c_LEAST_WORD.choose_spec ⟨_, rfl⟩) (ea_cons (ev_gint (by rfl) B.c_MOST_WORD.choose_spec ⟨_, rfl⟩) ea_nil))))))


/-! _is_expr -/
abbrev s__is_expr : Stmt := top 16
abbrev N__is_expr : List Str := ["thing", "width", "carried", "ops"]
noncomputable def b__is_expr (F__self : List D → M D) : SM :=
    (sSeq (sIf (mNot (mT (mC (on2 dIsi) (aCons (vr 0) (aCons (ct (.ty .tuple)) aNil))))) (sRet (mC F_is_word (aCons (vr 0) aNil))) sNil)
    (sSeq (sIf (mT (m2 dEq (mC (on1 dLen) (aCons (vr 0) aNil)) (ct (.dat (.int 1))))) (sRet (mAndV (mC (on1 dBool) (aCons (vr 2) aNil)) (m2 dEq (m2 dIx (vr 0) (ct (.dat (.int 0)))) (ct (.dat (.str "was")))))) sNil)
    (sSeq (sIf (mT (m2 dEq (mC (on1 dLen) (aCons (vr 0) aNil)) (ct (.dat (.int 2))))) (sRet (mAndV (m2 dEq (m2 dIx (vr 0) (ct (.dat (.int 0)))) (ct (.dat (.str "at")))) (mC F_is_from (aCons (m2 dIx (vr 0) (ct (.dat (.int 1)))) (aCons (ct (.dat (.int 0))) (aCons (m2 dSub (vr 1) (ct (.dat (.int 1)))) aNil)))))) sNil)
    (sSeq (sIf (mOr (mT (m2 dNe (mC (on1 dLen) (aCons (vr 0) aNil)) (ct (.dat (.int 3))))) (mOr (mT (m2 dNin (m2 dIx (vr 0) (ct (.dat (.int 0)))) (ct (.dat (.tuple [.str "plus", .str "minus", .str "times", .str "over", .str "rest", .str "less", .str "same"]))))) (mT (m2 dEq (vr 3) (ct (.dat (.int 0))))))) (sRet (ct (.dat (.bool false)))) sNil)
    (sRet (mAndV (mC F__self (aCons (m2 dIx (vr 0) (ct (.dat (.int 1)))) (aCons (vr 1) (aCons (vr 2) (aCons (m2 dSub (vr 3) (ct (.dat (.int 1)))) aNil))))) (mC F__self (aCons (m2 dIx (vr 0) (ct (.dat (.int 2)))) (aCons (vr 1) (aCons (vr 2) (aCons (m2 dSub (vr 3) (ct (.dat (.int 1)))) aNil)))))))))))
noncomputable def F__is_expr : List D → M D := recB giveD 4 4 b__is_expr 24
theorem sc__is_expr : FnScope N__is_expr ["thing", "width", "carried", "ops"] (defScope s__is_expr) := ⟨rfl, rfl, rfl, by decide +kernel, rfl, by decide +kernel, by decide +kernel⟩
theorem g__is_expr {P : Program} {w : World} {K : PySem.W.Frag} {mg : Str → Option Value} {base : Heap} (B : Bt K mg) (d : Df K mg "_is_expr" s__is_expr ["thing", "width", "carried", "ops"]) (G_is_word : FnN P w K mg base 3 "is_word" ["thing"] F_is_word) (G_is_from : FnN P w K mg base 2 "is_from" ["thing", "low", "high"] F_is_from) :
    FnN P w K mg base 27 "_is_expr" ["thing", "width", "carried", "ops"] F__is_expr := by
  refine fnN_rec (j := 3) (N := N__is_expr) (body := b__is_expr) giveD_ok d sc__is_expr (fun k F__self G__self f cdv A outer s H E C => ?_) 24
  exact (evs_cons (evs_if (evt_not (evt_tru (n_isinstance B.b_isinstance (ea_cons (ev_vr 0) (ea_cons (ev_tyn (t := .tuple) (by rfl) B.b_tuple boot_tuple) ea_nil))))) (evs_one (evs_ret (ev_callN G_is_word C (by omega) (by rfl) (ea_cons (ev_vr 0) ea_nil)))) evs_nil)
    (evs_cons (evs_if (t_eq C (n_len B.b_len (ea_cons (ev_vr 0) ea_nil)) ev_int) (evs_one (evs_ret (ev_and (n_bool B.b_bool (ea_cons (ev_vr 2) ea_nil)) (ev_one (x_eq C (x_ix (ev_vr 0) ev_int) ev_str))))) evs_nil)
    (evs_cons (evs_if (t_eq C (n_len B.b_len (ea_cons (ev_vr 0) ea_nil)) ev_int) (evs_one (evs_ret (ev_and (x_eq C (x_ix (ev_vr 0) ev_int) ev_str) (ev_one (ev_callN G_is_from C (by omega) (by rfl) (ea_cons (x_ix (ev_vr 0) ev_int) (ea_cons ev_int (ea_cons (x_sub (ev_vr 1) ev_int) ea_nil)))))))) evs_nil)
    (evs_cons (evs_if (evt_w (evw_or (t_ne C (n_len B.b_len (ea_cons (ev_vr 0) ea_nil)) ev_int) (evw_or (t_nin C (x_ix (ev_vr 0) ev_int) (ev_gtup (by rfl) B.t__OPS)) (evw_or1 (t_eq C (ev_vr 3) ev_int))))) (evs_one (evs_ret ev_bl)) evs_nil)
    (evs_one (evs_ret (ev_and (ev_callN G__self C (Nat.le_refl _) (by rfl) (ea_cons (x_ix (ev_vr 0) ev_int) (ea_cons (ev_vr 1) (ea_cons (ev_vr 2) (ea_cons (x_sub (ev_vr 3) ev_int) ea_nil))))) (ev_one (ev_callN G__self C (Nat.le_refl _) (by rfl) (ea_cons (x_ix (ev_vr 0) ev_int) (ea_cons (ev_vr 1) (ea_cons (ev_vr 2) (ea_cons (x_sub (ev_vr 3) ev_int) ea_nil)))))))))))))


/-! is_expr -/
abbrev s_is_expr : Stmt := top 15
abbrev N_is_expr : List Str := ["thing", "width", "carried"]
noncomputable def b_is_expr : SM :=
    (sSeq (sDrop (mC F_check_from (aCons (vr 1) (aCons (ct (.dat (.int 0))) (aCons (ct (.dat (.int 9))) aNil)))))
    (sRet (mC F__is_expr (aCons (vr 0) (aCons (vr 1) (aCons (vr 2) (aCons (ct (.dat (.int 4))) aNil)))))))
noncomputable def F_is_expr : List D → M D := runB 3 3 b_is_expr
theorem sc_is_expr : FnScope N_is_expr ["thing", "width", "carried"] (defScope s_is_expr) := ⟨rfl, rfl, rfl, by decide +kernel, rfl, by decide +kernel, by decide +kernel⟩
theorem g_is_expr {P : Program} {w : World} {K : PySem.W.Frag} {mg : Str → Option Value} {base : Heap} (B : Bt K mg) (d : DfV K mg "is_expr" s_is_expr) (G_check_from : FnN P w K mg base 3 "check_from" ["thing", "low", "high"] F_check_from) (G__is_expr : FnN P w K mg base 27 "_is_expr" ["thing", "width", "carried", "ops"] F__is_expr) :
    FnV P w K mg base 28 "is_expr" ["thing", "width", "carried"] F_is_expr := by
  refine fnV_of (N := N_is_expr) (body := b_is_expr) giveD_ok d sc_is_expr fun f cdv A outer s H E C => ?_
  exact (evs_cons (evs_expr (ev_callN G_check_from C (by decide) (by rfl) (ea_cons (ev_vr 1) (ea_cons ev_int (ea_cons (ev_gint (by rfl) B.c__MOST_COLUMNS.choose_spec ⟨_, rfl⟩) ea_nil)))))
    (evs_one (evs_ret (ev_callN G__is_expr C (by decide) (by rfl) (ea_cons (ev_vr 0) (ea_cons (ev_vr 1) (ea_cons (ev_vr 2) (ea_cons (ev_gint (by rfl) B.c_MOST_OPS.choose_spec ⟨_, rfl⟩) ea_nil))))))))


/-! op_worth -/
abbrev s_op_worth : Stmt := top 19
abbrev N_op_worth : List Str := ["op", "one", "other"]
noncomputable def b_op_worth : SM :=
    (sSeq (sIf (mT (m2 dEq (vr 0) (ct (.dat (.str "plus"))))) (sRet (m2 dAdd (vr 1) (vr 2))) sNil)
    (sSeq (sIf (mT (m2 dEq (vr 0) (ct (.dat (.str "minus"))))) (sRet (m2 dSub (vr 1) (vr 2))) sNil)
    (sSeq (sIf (mT (m2 dEq (vr 0) (ct (.dat (.str "times"))))) (sRet (m2 dMul (vr 1) (vr 2))) sNil)
    (sSeq (sIf (mT (m2 dEq (vr 0) (ct (.dat (.str "over"))))) (sRet (m2 dFdiv (vr 1) (vr 2))) sNil)
    (sSeq (sIf (mT (m2 dEq (vr 0) (ct (.dat (.str "rest"))))) (sRet (m2 dSub (vr 1) (m2 dMul (vr 2) (m2 dFdiv (vr 1) (vr 2))))) sNil)
    (sSeq (sIf (mT (m2 dEq (vr 0) (ct (.dat (.str "less"))))) (sRet (mIf (mT (m2 dLt (vr 1) (vr 2))) (ct (.dat (.int 1))) (ct (.dat (.int 0))))) sNil)
    (sRet (mIf (mT (m2 dEq (vr 1) (vr 2))) (ct (.dat (.int 1))) (ct (.dat (.int 0)))))))))))
noncomputable def F_op_worth : List D → M D := runB 3 3 b_op_worth
theorem sc_op_worth : FnScope N_op_worth ["op", "one", "other"] (defScope s_op_worth) := ⟨rfl, rfl, rfl, by decide +kernel, rfl, by decide +kernel, by decide +kernel⟩
theorem g_op_worth {P : Program} {w : World} {K : PySem.W.Frag} {mg : Str → Option Value} {base : Heap} (B : Bt K mg) (d : Df K mg "op_worth" s_op_worth ["op", "one", "other"]) :
    FnN P w K mg base 1 "op_worth" ["op", "one", "other"] F_op_worth := by
  refine fnN_of (N := N_op_worth) (body := b_op_worth) giveD_ok d sc_op_worth fun f cdv A outer s H E C => ?_
  exact (evs_cons (evs_if (t_eq C (ev_vr 0) ev_str) (evs_one (evs_ret (x_add (ev_vr 1) (ev_vr 2)))) evs_nil)
    (evs_cons (evs_if (t_eq C (ev_vr 0) ev_str) (evs_one (evs_ret (x_sub (ev_vr 1) (ev_vr 2)))) evs_nil)
    (evs_cons (evs_if (t_eq C (ev_vr 0) ev_str) (evs_one (evs_ret (x_mul (ev_vr 1) (ev_vr 2)))) evs_nil)
    (evs_cons (evs_if (t_eq C (ev_vr 0) ev_str) (evs_one (evs_ret (x_fdiv (ev_vr 1) (ev_vr 2)))) evs_nil)
    (evs_cons (evs_if (t_eq C (ev_vr 0) ev_str) (evs_one (evs_ret (x_sub (ev_vr 1) (x_mul (ev_vr 2) (x_fdiv (ev_vr 1) (ev_vr 2)))))) evs_nil)
    (evs_cons (evs_if (t_eq C (ev_vr 0) ev_str) (evs_one (evs_ret (ev_if (t_lt (ev_vr 1) (ev_vr 2)) ev_int ev_int))) evs_nil)
    (evs_one (evs_ret (ev_if (t_eq C (ev_vr 1) (ev_vr 2)) ev_int ev_int)))))))))


/-! _checked_op -/
abbrev s__checked_op : Stmt := top 18
abbrev N__checked_op : List Str := ["op", "one", "other", "come_to"]
noncomputable def b__checked_op : SM :=
    (sSeq (sIf (mAnd (mT (m2 dIn (vr 0) (mC mkTup (aCons (ct (.dat (.str "over"))) (aCons (ct (.dat (.str "rest"))) aNil))))) (mT (m2 dEq (vr 2) (ct (.dat (.int 0)))))) (sRaiseF "Falls" "word" (ct (.dat (.str "nought")))) sNil)
    (sSeq (sSet 3 (mC F_op_worth (aCons (vr 0) (aCons (vr 1) (aCons (vr 2) aNil)))))
    (sSeq (sIf (mNot (mT (mC F_is_word (aCons (vr 3) aNil)))) (sRaiseF "Falls" "word" (ct (.dat (.str "great")))) sNil)
    (sRet (vr 3)))))
noncomputable def F__checked_op : List D → M D := runB 4 3 b__checked_op
theorem sc__checked_op : FnScope N__checked_op ["op", "one", "other"] (defScope s__checked_op) := ⟨rfl, rfl, rfl, by decide +kernel, rfl, by decide +kernel, by decide +kernel⟩
theorem g__checked_op {P : Program} {w : World} {K : PySem.W.Frag} {mg : Str → Option Value} {base : Heap} (B : Bt K mg) (d : Df K mg "_checked_op" s__checked_op ["op", "one", "other"]) (G_op_worth : FnN P w K mg base 1 "op_worth" ["op", "one", "other"] F_op_worth) (G_is_word : FnN P w K mg base 3 "is_word" ["thing"] F_is_word) :
    FnN P w K mg base 4 "_checked_op" ["op", "one", "other"] F__checked_op := by
  refine fnN_of (N := N__checked_op) (body := b__checked_op) giveD_ok d sc__checked_op fun f cdv A outer s H E C => ?_
  exact (evs_cons (evs_if (evt_w (evw_and (t_in C (ev_vr 0) (ev_tup (ea_cons ev_str (ea_cons ev_str ea_nil)))) (evw_and1 (t_eq C (ev_vr 2) ev_int)))) (evs_one (evs_raiseF rfl C (by decide) B.i_Falls (by rfl) ev_str)) evs_nil)
    (evs_cons (evs_set (i := 3) sc__checked_op.nd rfl (Or.inl rfl) (ev_callN G_op_worth C (by decide) (by rfl) (ea_cons (ev_vr 0) (ea_cons (ev_vr 1) (ea_cons (ev_vr 2) ea_nil)))))
    (evs_cons (evs_if (evt_not (evt_tru (ev_callN G_is_word C (by decide) (by rfl) (ea_cons (ev_vr 3) ea_nil)))) (evs_one (evs_raiseF rfl C (by decide) B.i_Falls (by rfl) ev_str)) evs_nil)
    (evs_one (evs_ret (ev_vr 3))))))


/-! worth -/
abbrev s_worth : Stmt := top 17
abbrev N_worth : List Str := ["expr", "record", "was", "one", "other"]
noncomputable def b_worth (F__self : List D → M D) : SM :=
    (sSeq (sIf (mT (mC (on2 dIsi) (aCons (vr 0) (aCons (ct (.ty .int)) aNil)))) (sRet (vr 0)) sNil)
    (sSeq (sIf (mT (m2 dEq (m2 dIx (vr 0) (ct (.dat (.int 0)))) (ct (.dat (.str "at"))))) (sRet (m2 dIx (vr 1) (m2 dIx (vr 0) (ct (.dat (.int 1)))))) sNil)
    (sSeq (sIf (mT (m2 dEq (m2 dIx (vr 0) (ct (.dat (.int 0)))) (ct (.dat (.str "was"))))) (sRet (vr 2)) sNil)
    (sSeq (sSet 3 (mK F__self (fun ds es => ds ++ es) (aCons (m2 dIx (vr 0) (ct (.dat (.int 1)))) (aCons (vr 1) aNil)) (aCons (vr 2) aNil)))
    (sSeq (sSet 4 (mK F__self (fun ds es => ds ++ es) (aCons (m2 dIx (vr 0) (ct (.dat (.int 2)))) (aCons (vr 1) aNil)) (aCons (vr 2) aNil)))
    (sRet (mC F__checked_op (aCons (m2 dIx (vr 0) (ct (.dat (.int 0)))) (aCons (vr 3) (aCons (vr 4) aNil))))))))))
noncomputable def F_worth : List D → M D := recB giveD 5 3 b_worth 24
theorem sc_worth : FnScope N_worth ["expr", "record", "was"] (defScope s_worth) := ⟨rfl, rfl, rfl, by decide +kernel, rfl, by decide +kernel, by decide +kernel⟩
theorem g_worth {P : Program} {w : World} {K : PySem.W.Frag} {mg : Str → Option Value} {base : Heap} (B : Bt K mg) (d : DfV K mg "worth" s_worth) (G__checked_op : FnN P w K mg base 4 "_checked_op" ["op", "one", "other"] F__checked_op) :
    FnV P w K mg base 28 "worth" ["expr", "record", "was"] F_worth := by
  refine fnV_rec (j := 4) (N := N_worth) (body := b_worth) giveD_ok d sc_worth (fun k F__self G__self f cdv A outer s H E C => ?_) 24
  exact (evs_cons (evs_if (evt_tru (n_isinstance B.b_isinstance (ea_cons (ev_vr 0) (ea_cons (ev_tyn (t := .int) (by rfl) B.b_int boot_int) ea_nil)))) (evs_one (evs_ret (ev_vr 0))) evs_nil)
    (evs_cons (evs_if (t_eq C (x_ix (ev_vr 0) ev_int) ev_str) (evs_one (evs_ret (x_ix (ev_vr 1) (x_ix (ev_vr 0) ev_int)))) evs_nil)
    (evs_cons (evs_if (t_eq C (x_ix (ev_vr 0) ev_int) ev_str) (evs_one (evs_ret (ev_vr 2))) evs_nil)
    (evs_cons (evs_set (i := 3) sc_worth.nd rfl (Or.inl rfl) (ev_callK G__self B.k1_worth (fun _ _ _ _ _ _ _ _ _ _ _ h1 h2 => h1.app h2) C (Nat.le_refl _) (by rfl) (al_cons (al_cons al_nil)) (al_cons al_nil) (ea_cons (x_ix (ev_vr 0) ev_int) (ea_cons (ev_vr 1) ea_nil)) (ek_cons (ev_vr 2) ek_nil)))
    (evs_cons (evs_set (i := 4) sc_worth.nd rfl (Or.inl rfl) (ev_callK G__self B.k1_worth (fun _ _ _ _ _ _ _ _ _ _ _ h1 h2 => h1.app h2) C (Nat.le_refl _) (by rfl) (al_cons (al_cons al_nil)) (al_cons al_nil) (ea_cons (x_ix (ev_vr 0) ev_int) (ea_cons (ev_vr 1) ea_nil)) (ek_cons (ev_vr 2) ek_nil)))
    (evs_one (evs_ret (ev_callN G__checked_op C (by omega) (by rfl) (ea_cons (x_ix (ev_vr 0) ev_int) (ea_cons (ev_vr 3) (ea_cons (ev_vr 4) ea_nil)))))))))))


/-! _law_sack -/
abbrev s__law_sack : Stmt := top 21
abbrev N__law_sack : List Str := ["script", "at", "cell", "great"]
noncomputable def b__law_sack : SM :=
    (sSeq (sSet 2 (m2 dAdd (m2 dMul (ct (.dat (.int 3))) (vr 1)) (ct (.dat (.int 1)))))
    (sSeq (sIf (mT (m2 dLt (vr 1) (mC (on1 dLen) (aCons (vr 0) aNil)))) (sSet 2 (m2 dIx (vr 0) (vr 1))) sNil)
    (sSeq (sSet 3 (m2 dMod (mC (on1 dAbs) (aCons (vr 2) aNil)) (m2 dPow (m2 dPow (ct (.dat (.int 10))) (ct (.dat (.int 60)))) (ct (.dat (.int 12))))))
    (sRet (mC mkLoc (aCons (mC (on2 dMax2) (aCons (ct (.dat (.int 0))) (aCons (m2 dSub (vr 3) (m2 dPow (ct (.dat (.int 10))) (ct (.dat (.int 16))))) aNil))) (aCons (m2 dMod (m2 dAdd (m2 dAdd (m2 dAdd (m2 dMul (vr 3) (ct (.dat (.int 6700417)))) (m2 dMul (ct (.dat (.int 524287))) (vr 1))) (m2 dMul (ct (.dat (.int 2))) (mC (on1 dInt) (aCons (m2 dLt (vr 2) (ct (.dat (.int 0)))) aNil)))) (ct (.dat (.int 11)))) (ct (.dat (.int 2147483647)))) (aCons (ct (.dat (.int 0))) aNil))))))))
noncomputable def F__law_sack : List D → M D := runL 4 2 b__law_sack
theorem sc__law_sack : FnScope N__law_sack ["script", "at"] (defScope s__law_sack) := ⟨rfl, rfl, rfl, by decide +kernel, rfl, by decide +kernel, by decide +kernel⟩
theorem g__law_sack {P : Program} {w : World} {K : PySem.W.Frag} {mg : Str → Option Value} {base : Heap} (B : Bt K mg) (d : Df K mg "_law_sack" s__law_sack ["script", "at"]) :
    FnN P w K mg base 1 "_law_sack" ["script", "at"] F__law_sack := by
  refine fnN_of (N := N__law_sack) (body := b__law_sack) giveL_ok d sc__law_sack fun f cdv A outer s H E C => ?_
  exact (evs_cons (evs_set (i := 2) sc__law_sack.nd rfl (Or.inl rfl) (x_add (x_mul ev_int (ev_vr 1)) ev_int))
    (evs_cons (evs_if (t_lt (ev_vr 1) (n_len B.b_len (ea_cons (ev_vr 0) ea_nil))) (evs_one (evs_set (i := 2) sc__law_sack.nd rfl (Or.inl rfl) (x_ix (ev_vr 0) (ev_vr 1)))) evs_nil)
    (evs_cons (evs_set (i := 3) sc__law_sack.nd rfl (Or.inl rfl) (x_mod (n_abs B.b_abs (ea_cons (ev_vr 2) ea_nil)) (x_pow (x_pow ev_int ev_int) ev_int)))
    (evs_one (evs_ret (ev_loc (ea_cons (n_max rfl B.b_max (ea_cons ev_int (ea_cons (x_sub (ev_vr 3) (x_pow ev_int ev_int)) ea_nil))) (ea_cons (x_mod (x_add (x_add (x_add (x_mul (ev_vr 3) ev_int) (x_mul ev_int (ev_vr 1))) (x_mul ev_int (n_int B.b_int (ea_cons (x_lt (ev_vr 2) ev_int) ea_nil)))) ev_int) ev_int) (ea_cons ev_int ea_nil)))))))))


/-! _law_draw -/
abbrev s__law_draw : Stmt := top 22
abbrev N__law_draw : List Str := ["sack", "many", "found", "one", "stir", "two"]
noncomputable def b__law_draw : SM :=
    (sSeq (sIf (mT (m2 dGt (m2 dIx (vr 0) (ct (.dat (.int 0)))) (ct (.dat (.int 0))))) (sSeq (sSet 2 (m2 dMod (m2 dIx (vr 0) (ct (.dat (.int 0)))) (vr 1)))
    (sSeq (sSetIx (vr 0) (ct (.dat (.int 0))) (m2 dFdiv (m2 dIx (vr 0) (ct (.dat (.int 0)))) (vr 1)))
    (sRet (vr 2)))) sNil)
    (sSeq (sSetIx (vr 0) (ct (.dat (.int 2))) (m2 dAdd (m2 dIx (vr 0) (ct (.dat (.int 2)))) (ct (.dat (.int 1)))))
    (sSeq (sSet 3 (m2 dMod (m2 dAdd (m2 dIx (vr 0) (ct (.dat (.int 1)))) (m2 dMul (ct (.dat (.int 1299709))) (m2 dIx (vr 0) (ct (.dat (.int 2)))))) (ct (.dat (.int 2147483629)))))
    (sSeq (sSet 4 (m2 dAdd (m2 dMul (m2 dMod (m2 dMul (vr 3) (vr 3)) (ct (.dat (.int 2147483587)))) (vr 3)) (m2 dMul (ct (.dat (.int 7919))) (m2 dIx (vr 0) (ct (.dat (.int 2)))))))
    (sSeq (sSet 5 (m2 dMod (m2 dAdd (vr 4) (m2 dMod (m2 dIx (vr 0) (ct (.dat (.int 1)))) (ct (.dat (.int 65521))))) (ct (.dat (.int 2147483563)))))
    (sSeq (sSet 2 (m2 dAdd (m2 dFdiv (m2 dMod (m2 dMul (vr 5) (vr 5)) (ct (.dat (.int 2147483549)))) (ct (.dat (.int 32)))) (m2 dMul (m2 dMul (ct (.dat (.int 2147483563))) (vr 3)) (mC (on1 dInt) (aCons (m2 dGt (vr 1) (m2 dPow (ct (.dat (.int 10))) (ct (.dat (.int 6))))) aNil)))))
    (sRet (m2 dMod (vr 2) (vr 1)))))))))
noncomputable def F__law_draw : List D → M D := runB 6 2 b__law_draw
theorem sc__law_draw : FnScope N__law_draw ["sack", "many"] (defScope s__law_draw) := ⟨rfl, rfl, rfl, by decide +kernel, rfl, by decide +kernel, by decide +kernel⟩
theorem g__law_draw {P : Program} {w : World} {K : PySem.W.Frag} {mg : Str → Option Value} {base : Heap} (B : Bt K mg) (d : Df K mg "_law_draw" s__law_draw ["sack", "many"]) :
    FnN P w K mg base 1 "_law_draw" ["sack", "many"] F__law_draw := by
  refine fnN_of (N := N__law_draw) (body := b__law_draw) giveD_ok d sc__law_draw fun f cdv A outer s H E C => ?_
  exact (evs_cons (evs_if (t_gt (x_ix (ev_vr 0) ev_int) ev_int) (evs_cons (evs_set (i := 2) sc__law_draw.nd rfl (Or.inl rfl) (x_mod (x_ix (ev_vr 0) ev_int) (ev_vr 1)))
    (evs_cons (evs_setix (ev_vr 0) ev_int (x_fdiv (x_ix (ev_vr 0) ev_int) (ev_vr 1)))
    (evs_one (evs_ret (ev_vr 2))))) evs_nil)
    (evs_cons (evs_setix (ev_vr 0) ev_int (x_add (x_ix (ev_vr 0) ev_int) ev_int))
    (evs_cons (evs_set (i := 3) sc__law_draw.nd rfl (Or.inl rfl) (x_mod (x_add (x_ix (ev_vr 0) ev_int) (x_mul ev_int (x_ix (ev_vr 0) ev_int))) ev_int))
    (evs_cons (evs_set (i := 4) sc__law_draw.nd rfl (Or.inl rfl) (x_add (x_mul (x_mod (x_mul (ev_vr 3) (ev_vr 3)) ev_int) (ev_vr 3)) (x_mul ev_int (x_ix (ev_vr 0) ev_int))))
    (evs_cons (evs_set (i := 5) sc__law_draw.nd rfl (Or.inl rfl) (x_mod (x_add (ev_vr 4) (x_mod (x_ix (ev_vr 0) ev_int) ev_int)) ev_int))
    (evs_cons (evs_set (i := 2) sc__law_draw.nd rfl (Or.inl rfl) (x_add (x_fdiv (x_mod (x_mul (ev_vr 5) (ev_vr 5)) ev_int) ev_int) (x_mul (x_mul ev_int (ev_vr 3)) (n_int B.b_int (ea_cons (x_gt (ev_vr 1) (x_pow ev_int ev_int)) ea_nil)))))
    (evs_one (evs_ret (x_mod (ev_vr 2) (ev_vr 1))))))))))


/-! _law_leaf -/
abbrev s__law_leaf : Stmt := top 23
abbrev N__law_leaf : List Str := ["sack", "wide", "led", "way"]
noncomputable def b__law_leaf : SM :=
    (sSeq (sSet 3 (mC F__law_draw (aCons (vr 0) (aCons (ct (.dat (.int 8))) aNil))))
    (sSeq (sIf (mAnd (mT (vr 2)) (mT (m2 dLt (vr 3) (ct (.dat (.int 3)))))) (sRet (mC mkTup (aCons (ct (.dat (.str "was"))) aNil))) sNil)
    (sSeq (sIf (mAnd (mT (m2 dGt (vr 1) (ct (.dat (.int 0))))) (mT (m2 dLt (vr 3) (ct (.dat (.int 6)))))) (sRet (mC mkTup (aCons (ct (.dat (.str "at"))) (aCons (mC F__law_draw (aCons (vr 0) (aCons (vr 1) aNil))) aNil)))) sNil)
    (sRet (m2 dIx (mC mkLst (aCons (ct (.dat (.int 0))) (aCons (ct (.dat (.int 1))) (aCons (ct (.dat (.int 2))) (aCons (m1 dNeg (ct (.dat (.int 1)))) (aCons (ct (.dat (.int 3))) (aCons (m2 dSub (mC F__law_draw (aCons (vr 0) (aCons (ct (.dat (.int 21))) aNil))) (ct (.dat (.int 10)))) (aCons (m2 dPow (ct (.dat (.int 10))) (ct (.dat (.int 9)))) (aCons (m1 dNeg (m2 dPow (ct (.dat (.int 10))) (ct (.dat (.int 9))))) aNil))))))))) (mC F__law_draw (aCons (vr 0) (aCons (ct (.dat (.int 8))) aNil))))))))
noncomputable def F__law_leaf : List D → M D := runB 4 3 b__law_leaf
theorem sc__law_leaf : FnScope N__law_leaf ["sack", "wide", "led"] (defScope s__law_leaf) := ⟨rfl, rfl, rfl, by decide +kernel, rfl, by decide +kernel, by decide +kernel⟩
theorem g__law_leaf {P : Program} {w : World} {K : PySem.W.Frag} {mg : Str → Option Value} {base : Heap} (B : Bt K mg) (d : Df K mg "_law_leaf" s__law_leaf ["sack", "wide", "led"]) (G__law_draw : FnN P w K mg base 1 "_law_draw" ["sack", "many"] F__law_draw) :
    FnN P w K mg base 2 "_law_leaf" ["sack", "wide", "led"] F__law_leaf := by
  refine fnN_of (N := N__law_leaf) (body := b__law_leaf) giveD_ok d sc__law_leaf fun f cdv A outer s H E C => ?_
  exact (evs_cons (evs_set (i := 3) sc__law_leaf.nd rfl (Or.inl rfl) (ev_callN G__law_draw C (by decide) (by rfl) (ea_cons (ev_vr 0) (ea_cons ev_int ea_nil))))
    (evs_cons (evs_if (evt_w (evw_and (evt_tru (ev_vr 2)) (evw_and1 (t_lt (ev_vr 3) ev_int)))) (evs_one (evs_ret (ev_tup (ea_cons ev_str ea_nil)))) evs_nil)
    (evs_cons (evs_if (evt_w (evw_and (t_gt (ev_vr 1) ev_int) (evw_and1 (t_lt (ev_vr 3) ev_int)))) (evs_one (evs_ret (ev_tup (ea_cons ev_str (ea_cons (ev_callN G__law_draw C (by decide) (by rfl) (ea_cons (ev_vr 0) (ea_cons (ev_vr 1) ea_nil))) ea_nil))))) evs_nil)
    (evs_one (evs_ret (x_ix (ev_lst (ea_cons ev_int (ea_cons ev_int (ea_cons ev_int (ea_cons (x_neg ev_int) (ea_cons ev_int (ea_cons (x_sub (ev_callN G__law_draw C (by decide) (by rfl) (ea_cons (ev_vr 0) (ea_cons ev_int ea_nil))) ev_int) (ea_cons (x_pow ev_int ev_int) (ea_cons (x_neg (x_pow ev_int ev_int)) ea_nil))))))))) (ev_callN G__law_draw C (by decide) (by rfl) (ea_cons (ev_vr 0) (ea_cons ev_int ea_nil)))))))))


/-! _law_expr -/
abbrev s__law_expr : Stmt := top 24
abbrev N__law_expr : List Str := ["sack", "wide", "deep", "led", "op", "one"]
noncomputable def b__law_expr (F__self : List D → M D) : SM :=
    (sSeq (sIf (mOr (mT (m2 dLt (vr 2) (ct (.dat (.int 1))))) (mT (m2 dEq (mC F__law_draw (aCons (vr 0) (aCons (ct (.dat (.int 3))) aNil))) (ct (.dat (.int 0)))))) (sRet (mC F__law_leaf (aCons (vr 0) (aCons (vr 1) (aCons (vr 3) aNil))))) sNil)
    (sSeq (sSet 4 (m2 dIx (mC mkLst (aCons (ct (.dat (.str "plus"))) (aCons (ct (.dat (.str "minus"))) (aCons (ct (.dat (.str "times"))) (aCons (ct (.dat (.str "over"))) (aCons (ct (.dat (.str "rest"))) (aCons (ct (.dat (.str "less"))) (aCons (ct (.dat (.str "same"))) (aCons (ct (.dat (.str "plus"))) (aCons (ct (.dat (.str "less"))) (aCons (ct (.dat (.str "rest"))) aNil))))))))))) (mC F__law_draw (aCons (vr 0) (aCons (ct (.dat (.int 10))) aNil)))))
    (sSeq (sSet 5 (mC F__self (aCons (vr 0) (aCons (vr 1) (aCons (m2 dSub (vr 2) (ct (.dat (.int 1)))) (aCons (vr 3) aNil))))))
    (sSeq (sIf (mAnd (mT (m2 dIn (vr 4) (mC mkTup (aCons (ct (.dat (.str "over"))) (aCons (ct (.dat (.str "rest"))) aNil))))) (mT (m2 dGt (mC F__law_draw (aCons (vr 0) (aCons (ct (.dat (.int 5))) aNil))) (ct (.dat (.int 0)))))) (sRet (mC mkTup (aCons (vr 4) (aCons (vr 5) (aCons (m2 dIx (mC mkLst (aCons (ct (.dat (.int 1))) (aCons (ct (.dat (.int 2))) (aCons (ct (.dat (.int 3))) (aCons (m1 dNeg (ct (.dat (.int 2)))) (aCons (ct (.dat (.int 7))) aNil)))))) (mC F__law_draw (aCons (vr 0) (aCons (ct (.dat (.int 5))) aNil)))) aNil))))) sNil)
    (sRet (mC mkTup (aCons (vr 4) (aCons (vr 5) (aCons (mC F__self (aCons (vr 0) (aCons (vr 1) (aCons (m2 dSub (vr 2) (ct (.dat (.int 1)))) (aCons (vr 3) aNil))))) aNil)))))))))
noncomputable def F__law_expr : List D → M D := recB giveD 6 4 b__law_expr 24
theorem sc__law_expr : FnScope N__law_expr ["sack", "wide", "deep", "led"] (defScope s__law_expr) := ⟨rfl, rfl, rfl, by decide +kernel, rfl, by decide +kernel, by decide +kernel⟩
theorem g__law_expr {P : Program} {w : World} {K : PySem.W.Frag} {mg : Str → Option Value} {base : Heap} (B : Bt K mg) (d : Df K mg "_law_expr" s__law_expr ["sack", "wide", "deep", "led"]) (G__law_draw : FnN P w K mg base 1 "_law_draw" ["sack", "many"] F__law_draw) (G__law_leaf : FnN P w K mg base 2 "_law_leaf" ["sack", "wide", "led"] F__law_leaf) :
    FnN P w K mg base 26 "_law_expr" ["sack", "wide", "deep", "led"] F__law_expr := by
  refine fnN_rec (j := 2) (N := N__law_expr) (body := b__law_expr) giveD_ok d sc__law_expr (fun k F__self G__self f cdv A outer s H E C => ?_) 24
  exact (evs_cons (evs_if (evt_w (evw_or (t_lt (ev_vr 2) ev_int) (evw_or1 (t_eq C (ev_callN G__law_draw C (by omega) (by rfl) (ea_cons (ev_vr 0) (ea_cons ev_int ea_nil))) ev_int)))) (evs_one (evs_ret (ev_callN G__law_leaf C (by omega) (by rfl) (ea_cons (ev_vr 0) (ea_cons (ev_vr 1) (ea_cons (ev_vr 3) ea_nil)))))) evs_nil)
    (evs_cons (evs_set (i := 4) sc__law_expr.nd rfl (Or.inl rfl) (x_ix (ev_lst (ea_cons ev_str (ea_cons ev_str (ea_cons ev_str (ea_cons ev_str (ea_cons ev_str (ea_cons ev_str (ea_cons ev_str (ea_cons ev_str (ea_cons ev_str (ea_cons ev_str ea_nil))))))))))) (ev_callN G__law_draw C (by omega) (by rfl) (ea_cons (ev_vr 0) (ea_cons ev_int ea_nil)))))
    (evs_cons (evs_set (i := 5) sc__law_expr.nd rfl (Or.inl rfl) (ev_callN G__self C (Nat.le_refl _) (by rfl) (ea_cons (ev_vr 0) (ea_cons (ev_vr 1) (ea_cons (x_sub (ev_vr 2) ev_int) (ea_cons (ev_vr 3) ea_nil))))))
    (evs_cons (evs_if (evt_w (evw_and (t_in C (ev_vr 4) (ev_tup (ea_cons ev_str (ea_cons ev_str ea_nil)))) (evw_and1 (t_gt (ev_callN G__law_draw C (by omega) (by rfl) (ea_cons (ev_vr 0) (ea_cons ev_int ea_nil))) ev_int)))) (evs_one (evs_ret (ev_tup (ea_cons (ev_vr 4) (ea_cons (ev_vr 5) (ea_cons (x_ix (ev_lst (ea_cons ev_int (ea_cons ev_int (ea_cons ev_int (ea_cons (x_neg ev_int) (ea_cons ev_int ea_nil)))))) (ev_callN G__law_draw C (by omega) (by rfl) (ea_cons (ev_vr 0) (ea_cons ev_int ea_nil)))) ea_nil)))))) evs_nil)
    (evs_one (evs_ret (ev_tup (ea_cons (ev_vr 4) (ea_cons (ev_vr 5) (ea_cons (ev_callN G__self C (Nat.le_refl _) (by rfl) (ea_cons (ev_vr 0) (ea_cons (ev_vr 1) (ea_cons (x_sub (ev_vr 2) ev_int) (ea_cons (ev_vr 3) ea_nil))))) ea_nil))))))))))


/-! _law_word -/
abbrev s__law_word : Stmt := top 25
abbrev N__law_word : List Str := ["sack", "way"]
noncomputable def b__law_word : SM :=
    (sSeq (sSet 1 (mC F__law_draw (aCons (vr 0) (aCons (ct (.dat (.int 5))) aNil))))
    (sSeq (sIf (mT (m2 dLt (vr 1) (ct (.dat (.int 3))))) (sRet (m2 dSub (mC F__law_draw (aCons (vr 0) (aCons (ct (.dat (.int 9))) aNil))) (ct (.dat (.int 4))))) sNil)
    (sSeq (sIf (mT (m2 dEq (vr 1) (ct (.dat (.int 3))))) (sRet (m2 dIx (mC mkLst (aCons (m2 dPow (ct (.dat (.int 10))) (ct (.dat (.int 9)))) (aCons (m1 dNeg (m2 dPow (ct (.dat (.int 10))) (ct (.dat (.int 9))))) (aCons (ct (.dat (.int 40000))) (aCons (m1 dNeg (ct (.dat (.int 40000)))) aNil))))) (mC F__law_draw (aCons (vr 0) (aCons (ct (.dat (.int 4))) aNil))))) sNil)
    (sRet (m2 dSub (mC F__law_draw (aCons (vr 0) (aCons (m2 dAdd (m2 dMul (ct (.dat (.int 2))) (m2 dPow (ct (.dat (.int 10))) (ct (.dat (.int 9))))) (ct (.dat (.int 1)))) aNil))) (m2 dPow (ct (.dat (.int 10))) (ct (.dat (.int 9)))))))))
noncomputable def F__law_word : List D → M D := runB 2 1 b__law_word
theorem sc__law_word : FnScope N__law_word ["sack"] (defScope s__law_word) := ⟨rfl, rfl, rfl, by decide +kernel, rfl, by decide +kernel, by decide +kernel⟩
theorem g__law_word {P : Program} {w : World} {K : PySem.W.Frag} {mg : Str → Option Value} {base : Heap} (B : Bt K mg) (d : Df K mg "_law_word" s__law_word ["sack"]) (G__law_draw : FnN P w K mg base 1 "_law_draw" ["sack", "many"] F__law_draw) :
    FnN P w K mg base 2 "_law_word" ["sack"] F__law_word := by
  refine fnN_of (N := N__law_word) (body := b__law_word) giveD_ok d sc__law_word fun f cdv A outer s H E C => ?_
  exact (evs_cons (evs_set (i := 1) sc__law_word.nd rfl (Or.inl rfl) (ev_callN G__law_draw C (by decide) (by rfl) (ea_cons (ev_vr 0) (ea_cons ev_int ea_nil))))
    (evs_cons (evs_if (t_lt (ev_vr 1) ev_int) (evs_one (evs_ret (x_sub (ev_callN G__law_draw C (by decide) (by rfl) (ea_cons (ev_vr 0) (ea_cons ev_int ea_nil))) ev_int))) evs_nil)
    (evs_cons (evs_if (t_eq C (ev_vr 1) ev_int) (evs_one (evs_ret (x_ix (ev_lst (ea_cons (x_pow ev_int ev_int) (ea_cons (x_neg (x_pow ev_int ev_int)) (ea_cons ev_int (ea_cons (x_neg ev_int) ea_nil))))) (ev_callN G__law_draw C (by decide) (by rfl) (ea_cons (ev_vr 0) (ea_cons ev_int ea_nil)))))) evs_nil)
    (evs_one (evs_ret (x_sub (ev_callN G__law_draw C (by decide) (by rfl) (ea_cons (ev_vr 0) (ea_cons (x_add (x_mul ev_int (x_pow ev_int ev_int)) ev_int) ea_nil))) (x_pow ev_int ev_int)))))))


/-! _law_met -/
abbrev s__law_met : Stmt := top 26
abbrev N__law_met : List Str := ["expr", "record", "elder", "e"]
noncomputable def b__law_met : SM :=
    (sTryAs (sRet (mC mkTup (aCons (ct (.dat (.int 0))) (aCons (mK F_worth (fun ds es => ds ++ es) (aCons (vr 0) (aCons (vr 1) aNil)) (aCons (vr 2) aNil)) aNil)))) hit_Falls 3 (fun a cls d => (sRet (mC mkTup (aCons (ct (.dat (.int 1))) (aCons (m1 (dFld a cls d "Falls" "word") (vr 3)) aNil))))))
noncomputable def F__law_met : List D → M D := runB 4 3 b__law_met
theorem sc__law_met : FnScope N__law_met ["expr", "record", "elder"] (defScope s__law_met) := ⟨rfl, rfl, rfl, by decide +kernel, rfl, by decide +kernel, by decide +kernel⟩
theorem g__law_met {P : Program} {w : World} {K : PySem.W.Frag} {mg : Str → Option Value} {base : Heap} (B : Bt K mg) (d : Df K mg "_law_met" s__law_met ["expr", "record", "elder"]) (G_worth : FnV P w K mg base 28 "worth" ["expr", "record", "was"] F_worth) :
    FnN P w K mg base 29 "_law_met" ["expr", "record", "elder"] F__law_met := by
  refine fnN_of (N := N__law_met) (body := b__law_met) giveD_ok d sc__law_met fun f cdv A outer s H E C => ?_
  exact (evs_one (evs_try1 (i := 3) rfl rfl sc__law_met.nd rfl rfl B.h_Falls (by rfl) C (fun W' pn xe C' po => (evs_one (evs_ret (ev_tup (ea_cons ev_int (ea_cons (ev_callK G_worth B.k1_worth (fun _ _ _ _ _ _ _ _ _ _ _ h1 h2 => h1.app h2) C' (by decide) (by rfl) (al_cons (al_cons al_nil)) (al_cons al_nil) (ea_cons (ev_vr 0) (ea_cons (ev_vr 1) ea_nil)) (ek_cons (ev_vr 2) ek_nil)) ea_nil)))))) (fun a oe cls d pn hz hv => (evs_one (evs_ret (ev_tup (ea_cons ev_int (ea_cons (ev_fld hz hv B.f_Falls_word (ev_vr 3)) ea_nil))))))))


/-! _law_has -/
abbrev s__law_has : Stmt := top 27
abbrev N__law_has : List Str := ["expr", "leaf"]
noncomputable def b__law_has (F__self : List D → M D) : SM :=
    (sSeq (sIf (mT (m2 dEq (vr 0) (vr 1))) (sRet (ct (.dat (.bool true)))) sNil)
    (sSeq (sIf (mAnd (mT (mC (on2 dIsi) (aCons (vr 0) (aCons (ct (.ty .tuple)) aNil)))) (mT (m2 dEq (mC (on1 dLen) (aCons (vr 0) aNil)) (ct (.dat (.int 3)))))) (sRet (mOrV (mC F__self (aCons (m2 dIx (vr 0) (ct (.dat (.int 1)))) (aCons (vr 1) aNil))) (mC F__self (aCons (m2 dIx (vr 0) (ct (.dat (.int 2)))) (aCons (vr 1) aNil))))) sNil)
    (sRet (ct (.dat (.bool false))))))
noncomputable def F__law_has : List D → M D := recB giveD 2 2 b__law_has 24
theorem sc__law_has : FnScope N__law_has ["expr", "leaf"] (defScope s__law_has) := ⟨rfl, rfl, rfl, by decide +kernel, rfl, by decide +kernel, by decide +kernel⟩
theorem g__law_has {P : Program} {w : World} {K : PySem.W.Frag} {mg : Str → Option Value} {base : Heap} (B : Bt K mg) (d : Df K mg "_law_has" s__law_has ["expr", "leaf"]) :
    FnN P w K mg base 24 "_law_has" ["expr", "leaf"] F__law_has := by
  refine fnN_rec (j := 0) (N := N__law_has) (body := b__law_has) giveD_ok d sc__law_has (fun k F__self G__self f cdv A outer s H E C => ?_) 24
  exact (evs_cons (evs_if (t_eq C (ev_vr 0) (ev_vr 1)) (evs_one (evs_ret ev_bl)) evs_nil)
    (evs_cons (evs_if (evt_w (evw_and (evt_tru (n_isinstance B.b_isinstance (ea_cons (ev_vr 0) (ea_cons (ev_tyn (t := .tuple) (by rfl) B.b_tuple boot_tuple) ea_nil)))) (evw_and1 (t_eq C (n_len B.b_len (ea_cons (ev_vr 0) ea_nil)) ev_int)))) (evs_one (evs_ret (ev_or (ev_callN G__self C (Nat.le_refl _) (by rfl) (ea_cons (x_ix (ev_vr 0) ev_int) (ea_cons (ev_vr 1) ea_nil))) (ev_one (ev_callN G__self C (Nat.le_refl _) (by rfl) (ea_cons (x_ix (ev_vr 0) ev_int) (ea_cons (ev_vr 1) ea_nil))))))) evs_nil)
    (evs_one (evs_ret ev_bl))))


/-! _law_put -/
abbrev s__law_put : Stmt := top 28
abbrev N__law_put : List Str := ["expr", "leaf", "other"]
noncomputable def b__law_put (F__self : List D → M D) : SM :=
    (sSeq (sIf (mAnd (mT (m2 dEq (vr 0) (vr 1))) (mNot (mT (mC (on2 dIsi) (aCons (vr 0) (aCons (ct (.ty .int)) aNil)))))) (sRet (vr 2)) sNil)
    (sSeq (sIf (mAnd (mT (mC (on2 dIsi) (aCons (vr 0) (aCons (ct (.ty .tuple)) aNil)))) (mT (m2 dEq (mC (on1 dLen) (aCons (vr 0) aNil)) (ct (.dat (.int 3)))))) (sRet (mC mkTup (aCons (m2 dIx (vr 0) (ct (.dat (.int 0)))) (aCons (mC F__self (aCons (m2 dIx (vr 0) (ct (.dat (.int 1)))) (aCons (vr 1) (aCons (vr 2) aNil)))) (aCons (mC F__self (aCons (m2 dIx (vr 0) (ct (.dat (.int 2)))) (aCons (vr 1) (aCons (vr 2) aNil)))) aNil))))) sNil)
    (sRet (vr 0))))
noncomputable def F__law_put : List D → M D := recB giveD 3 3 b__law_put 24
theorem sc__law_put : FnScope N__law_put ["expr", "leaf", "other"] (defScope s__law_put) := ⟨rfl, rfl, rfl, by decide +kernel, rfl, by decide +kernel, by decide +kernel⟩
theorem g__law_put {P : Program} {w : World} {K : PySem.W.Frag} {mg : Str → Option Value} {base : Heap} (B : Bt K mg) (d : Df K mg "_law_put" s__law_put ["expr", "leaf", "other"]) :
    FnN P w K mg base 24 "_law_put" ["expr", "leaf", "other"] F__law_put := by
  refine fnN_rec (j := 0) (N := N__law_put) (body := b__law_put) giveD_ok d sc__law_put (fun k F__self G__self f cdv A outer s H E C => ?_) 24
  exact (evs_cons (evs_if (evt_w (evw_and (t_eq C (ev_vr 0) (ev_vr 1)) (evw_and1 (evt_not (evt_tru (n_isinstance B.b_isinstance (ea_cons (ev_vr 0) (ea_cons (ev_tyn (t := .int) (by rfl) B.b_int boot_int) ea_nil)))))))) (evs_one (evs_ret (ev_vr 2))) evs_nil)
    (evs_cons (evs_if (evt_w (evw_and (evt_tru (n_isinstance B.b_isinstance (ea_cons (ev_vr 0) (ea_cons (ev_tyn (t := .tuple) (by rfl) B.b_tuple boot_tuple) ea_nil)))) (evw_and1 (t_eq C (n_len B.b_len (ea_cons (ev_vr 0) ea_nil)) ev_int)))) (evs_one (evs_ret (ev_tup (ea_cons (x_ix (ev_vr 0) ev_int) (ea_cons (ev_callN G__self C (Nat.le_refl _) (by rfl) (ea_cons (x_ix (ev_vr 0) ev_int) (ea_cons (ev_vr 1) (ea_cons (ev_vr 2) ea_nil)))) (ea_cons (ev_callN G__self C (Nat.le_refl _) (by rfl) (ea_cons (x_ix (ev_vr 0) ev_int) (ea_cons (ev_vr 1) (ea_cons (ev_vr 2) ea_nil)))) ea_nil)))))) evs_nil)
    (evs_one (evs_ret (ev_vr 0)))))


/-! _law_turned -/
abbrev s__law_turned : Stmt := top 29
abbrev N__law_turned : List Str := ["expr", "order"]
noncomputable def b__law_turned (F__self : List D → M D) : SM :=
    (sSeq (sIf (mAnd (mT (mC (on2 dIsi) (aCons (vr 0) (aCons (ct (.ty .tuple)) aNil)))) (mT (m2 dEq (m2 dIx (vr 0) (ct (.dat (.int 0)))) (ct (.dat (.str "at")))))) (sRet (mC mkTup (aCons (ct (.dat (.str "at"))) (aCons (m2 dIx (vr 1) (m2 dIx (vr 0) (ct (.dat (.int 1))))) aNil)))) sNil)
    (sSeq (sIf (mAnd (mT (mC (on2 dIsi) (aCons (vr 0) (aCons (ct (.ty .tuple)) aNil)))) (mT (m2 dEq (mC (on1 dLen) (aCons (vr 0) aNil)) (ct (.dat (.int 3)))))) (sRet (mC mkTup (aCons (m2 dIx (vr 0) (ct (.dat (.int 0)))) (aCons (mC F__self (aCons (m2 dIx (vr 0) (ct (.dat (.int 1)))) (aCons (vr 1) aNil))) (aCons (mC F__self (aCons (m2 dIx (vr 0) (ct (.dat (.int 2)))) (aCons (vr 1) aNil))) aNil))))) sNil)
    (sRet (vr 0))))
noncomputable def F__law_turned : List D → M D := recB giveD 2 2 b__law_turned 24
theorem sc__law_turned : FnScope N__law_turned ["expr", "order"] (defScope s__law_turned) := ⟨rfl, rfl, rfl, by decide +kernel, rfl, by decide +kernel, by decide +kernel⟩
theorem g__law_turned {P : Program} {w : World} {K : PySem.W.Frag} {mg : Str → Option Value} {base : Heap} (B : Bt K mg) (d : Df K mg "_law_turned" s__law_turned ["expr", "order"]) :
    FnN P w K mg base 24 "_law_turned" ["expr", "order"] F__law_turned := by
  refine fnN_rec (j := 0) (N := N__law_turned) (body := b__law_turned) giveD_ok d sc__law_turned (fun k F__self G__self f cdv A outer s H E C => ?_) 24
  exact (evs_cons (evs_if (evt_w (evw_and (evt_tru (n_isinstance B.b_isinstance (ea_cons (ev_vr 0) (ea_cons (ev_tyn (t := .tuple) (by rfl) B.b_tuple boot_tuple) ea_nil)))) (evw_and1 (t_eq C (x_ix (ev_vr 0) ev_int) ev_str)))) (evs_one (evs_ret (ev_tup (ea_cons ev_str (ea_cons (x_ix (ev_vr 1) (x_ix (ev_vr 0) ev_int)) ea_nil))))) evs_nil)
    (evs_cons (evs_if (evt_w (evw_and (evt_tru (n_isinstance B.b_isinstance (ea_cons (ev_vr 0) (ea_cons (ev_tyn (t := .tuple) (by rfl) B.b_tuple boot_tuple) ea_nil)))) (evw_and1 (t_eq C (n_len B.b_len (ea_cons (ev_vr 0) ea_nil)) ev_int)))) (evs_one (evs_ret (ev_tup (ea_cons (x_ix (ev_vr 0) ev_int) (ea_cons (ev_callN G__self C (Nat.le_refl _) (by rfl) (ea_cons (x_ix (ev_vr 0) ev_int) (ea_cons (ev_vr 1) ea_nil))) (ea_cons (ev_callN G__self C (Nat.le_refl _) (by rfl) (ea_cons (x_ix (ev_vr 0) ev_int) (ea_cons (ev_vr 1) ea_nil))) ea_nil)))))) evs_nil)
    (evs_one (evs_ret (ev_vr 0)))))


/-! _law_bare -/
abbrev s__law_bare : Stmt := top 30
abbrev N__law_bare : List Str := ["expr", "words"]
noncomputable def b__law_bare (F__self : List D → M D) : SM :=
    (sSeq (sIf (mT (mC (on2 dIsi) (aCons (vr 0) (aCons (ct (.ty .int)) aNil)))) (sSeq (sDrop (mMt dAppend (vr 1) (aCons (vr 0) aNil)))
    (sRet (mC mkTup (aCons (ct (.dat (.str "at"))) (aCons (m2 dSub (mC (on1 dLen) (aCons (vr 1) aNil)) (ct (.dat (.int 1)))) aNil))))) sNil)
    (sSeq (sIf (mT (m2 dEq (mC (on1 dLen) (aCons (vr 0) aNil)) (ct (.dat (.int 3))))) (sRet (mC mkTup (aCons (m2 dIx (vr 0) (ct (.dat (.int 0)))) (aCons (mC F__self (aCons (m2 dIx (vr 0) (ct (.dat (.int 1)))) (aCons (vr 1) aNil))) (aCons (mC F__self (aCons (m2 dIx (vr 0) (ct (.dat (.int 2)))) (aCons (vr 1) aNil))) aNil))))) sNil)
    (sRet (vr 0))))
noncomputable def F__law_bare : List D → M D := recB giveD 2 2 b__law_bare 24
theorem sc__law_bare : FnScope N__law_bare ["expr", "words"] (defScope s__law_bare) := ⟨rfl, rfl, rfl, by decide +kernel, rfl, by decide +kernel, by decide +kernel⟩
theorem g__law_bare {P : Program} {w : World} {K : PySem.W.Frag} {mg : Str → Option Value} {base : Heap} (B : Bt K mg) (d : Df K mg "_law_bare" s__law_bare ["expr", "words"]) :
    FnN P w K mg base 24 "_law_bare" ["expr", "words"] F__law_bare := by
  refine fnN_rec (j := 0) (N := N__law_bare) (body := b__law_bare) giveD_ok d sc__law_bare (fun k F__self G__self f cdv A outer s H E C => ?_) 24
  exact (evs_cons (evs_if (evt_tru (n_isinstance B.b_isinstance (ea_cons (ev_vr 0) (ea_cons (ev_tyn (t := .int) (by rfl) B.b_int boot_int) ea_nil)))) (evs_cons (evs_expr (m_append (ev_vr 1) (ea_cons (ev_vr 0) ea_nil)))
    (evs_one (evs_ret (ev_tup (ea_cons ev_str (ea_cons (x_sub (n_len B.b_len (ea_cons (ev_vr 1) ea_nil)) ev_int) ea_nil)))))) evs_nil)
    (evs_cons (evs_if (t_eq C (n_len B.b_len (ea_cons (ev_vr 0) ea_nil)) ev_int) (evs_one (evs_ret (ev_tup (ea_cons (x_ix (ev_vr 0) ev_int) (ea_cons (ev_callN G__self C (Nat.le_refl _) (by rfl) (ea_cons (x_ix (ev_vr 0) ev_int) (ea_cons (ev_vr 1) ea_nil))) (ea_cons (ev_callN G__self C (Nat.le_refl _) (by rfl) (ea_cons (x_ix (ev_vr 0) ev_int) (ea_cons (ev_vr 1) ea_nil))) ea_nil)))))) evs_nil)
    (evs_one (evs_ret (ev_vr 0)))))


/-! _law_put_right -/
abbrev s__law_put_right : Stmt := top 31
abbrev N__law_put_right : List Str := ["expr", "other", "record", "elder", "leaf", "made", "due", "told"]
noncomputable def b__law_put_right : SM :=
    (sSeq (sSet 4 (mC mkTup (aCons (ct (.dat (.str "at"))) (aCons (mC (on1 dLen) (aCons (vr 2) aNil)) aNil))))
    (sSeq (sSet 5 (mC F__law_put (aCons (vr 0) (aCons (vr 4) (aCons (vr 1) aNil)))))
    (sSeq (sIf (mNot (mT (mK F_is_expr (fun ds es => ds ++ es) (aCons (vr 5) (aCons (mC (on1 dLen) (aCons (vr 2) aNil)) aNil)) (aCons (ct (.dat (.bool true))) aNil)))) (sRet (ct (.dat (.bool false)))) sNil)
    (sSeq (sSet 6 (mC F__law_met (aCons (vr 1) (aCons (vr 2) (aCons (vr 3) aNil)))))
    (sSeq (sSet 7 (mC F__law_met (aCons (vr 5) (aCons (vr 2) (aCons (vr 3) aNil)))))
    (sSeq (sIf (mT (m2 dEq (m2 dIx (vr 6) (ct (.dat (.int 0)))) (ct (.dat (.int 0))))) (sRet (m2 dEq (vr 7) (mC F__law_met (aCons (vr 0) (aCons (m2 dAdd (vr 2) (mC mkTup (aCons (m2 dIx (vr 6) (ct (.dat (.int 1)))) aNil))) (aCons (vr 3) aNil)))))) sNil)
    (sSeq (sIf (mT (mC F__law_has (aCons (vr 0) (aCons (vr 4) aNil)))) (sRet (m2 dEq (m2 dIx (vr 7) (ct (.dat (.int 0)))) (ct (.dat (.int 1))))) sNil)
    (sRet (m2 dEq (vr 7) (mC F__law_met (aCons (vr 0) (aCons (m2 dAdd (vr 2) (mC mkTup (aCons (ct (.dat (.int 0))) aNil))) (aCons (vr 3) aNil)))))))))))))
noncomputable def F__law_put_right : List D → M D := runB 8 4 b__law_put_right
theorem sc__law_put_right : FnScope N__law_put_right ["expr", "other", "record", "elder"] (defScope s__law_put_right) := ⟨rfl, rfl, rfl, by decide +kernel, rfl, by decide +kernel, by decide +kernel⟩
theorem g__law_put_right {P : Program} {w : World} {K : PySem.W.Frag} {mg : Str → Option Value} {base : Heap} (B : Bt K mg) (d : Df K mg "_law_put_right" s__law_put_right ["expr", "other", "record", "elder"]) (G__law_put : FnN P w K mg base 24 "_law_put" ["expr", "leaf", "other"] F__law_put) (G_is_expr : FnV P w K mg base 28 "is_expr" ["thing", "width", "carried"] F_is_expr) (G__law_met : FnN P w K mg base 29 "_law_met" ["expr", "record", "elder"] F__law_met) (G__law_has : FnN P w K mg base 24 "_law_has" ["expr", "leaf"] F__law_has) :
    FnN P w K mg base 30 "_law_put_right" ["expr", "other", "record", "elder"] F__law_put_right := by
  refine fnN_of (N := N__law_put_right) (body := b__law_put_right) giveD_ok d sc__law_put_right fun f cdv A outer s H E C => ?_
  exact (evs_cons (evs_set (i := 4) sc__law_put_right.nd rfl (Or.inl rfl) (ev_tup (ea_cons ev_str (ea_cons (n_len B.b_len (ea_cons (ev_vr 2) ea_nil)) ea_nil))))
    (evs_cons (evs_set (i := 5) sc__law_put_right.nd rfl (Or.inl rfl) (ev_callN G__law_put C (by decide) (by rfl) (ea_cons (ev_vr 0) (ea_cons (ev_vr 4) (ea_cons (ev_vr 1) ea_nil)))))
    (evs_cons (evs_if (evt_not (evt_tru (ev_callK G_is_expr B.k1_is_expr (fun _ _ _ _ _ _ _ _ _ _ _ h1 h2 => h1.app h2) C (by decide) (by rfl) (al_cons (al_cons al_nil)) (al_cons al_nil) (ea_cons (ev_vr 5) (ea_cons (n_len B.b_len (ea_cons (ev_vr 2) ea_nil)) ea_nil)) (ek_cons ev_bl ek_nil)))) (evs_one (evs_ret ev_bl)) evs_nil)
    (evs_cons (evs_set (i := 6) sc__law_put_right.nd rfl (Or.inl rfl) (ev_callN G__law_met C (by decide) (by rfl) (ea_cons (ev_vr 1) (ea_cons (ev_vr 2) (ea_cons (ev_vr 3) ea_nil)))))
    (evs_cons (evs_set (i := 7) sc__law_put_right.nd rfl (Or.inl rfl) (ev_callN G__law_met C (by decide) (by rfl) (ea_cons (ev_vr 5) (ea_cons (ev_vr 2) (ea_cons (ev_vr 3) ea_nil)))))
    (evs_cons (evs_if (t_eq C (x_ix (ev_vr 6) ev_int) ev_int) (evs_one (evs_ret (x_eq C (ev_vr 7) (ev_callN G__law_met C (by decide) (by rfl) (ea_cons (ev_vr 0) (ea_cons (x_add (ev_vr 2) (ev_tup (ea_cons (x_ix (ev_vr 6) ev_int) ea_nil))) (ea_cons (ev_vr 3) ea_nil))))))) evs_nil)
    (evs_cons (evs_if (evt_tru (ev_callN G__law_has C (by decide) (by rfl) (ea_cons (ev_vr 0) (ea_cons (ev_vr 4) ea_nil)))) (evs_one (evs_ret (x_eq C (x_ix (ev_vr 7) ev_int) ev_int))) evs_nil)
    (evs_one (evs_ret (x_eq C (ev_vr 7) (ev_callN G__law_met C (by decide) (by rfl) (ea_cons (ev_vr 0) (ea_cons (x_add (ev_vr 2) (ev_tup (ea_cons ev_int ea_nil))) (ea_cons (ev_vr 3) ea_nil))))))))))))))


/-! _law_others_right -/
abbrev s__law_others_right : Stmt := top 32
abbrev N__law_others_right : List Str := ["sack", "expr", "record", "elder", "told", "left", "order", "turned", "at", "word", "words", "bare", "turn"]
noncomputable def l__law_others_right_1 : SM :=
    (sSetIx (vr 7) (m2 dIx (vr 6) (vr 8)) (vr 9))
noncomputable def b__law_others_right : SM :=
    (sSeq (sSet 4 (mC F__law_met (aCons (vr 1) (aCons (vr 2) (aCons (vr 3) aNil)))))
    (sSeq (sSet 5 (m1 locRg (mC (on1 dLen) (aCons (vr 2) aNil))))
    (sSeq (sSet 6 (mLc (mRng1 (aCons (mC (on1 dLen) (aCons (vr 2) aNil)) aNil)) [12] (tgName 12) mYes (mMt dPopAt (vr 5) (aCons (mC F__law_draw (aCons (vr 0) (aCons (mC (on1 dLen) (aCons (vr 5) aNil)) aNil))) aNil))))
    (sSeq (sSet 7 (m2 dMulLoc (mC mkLst (aCons (ct (.dat (.int 0))) aNil)) (mC (on1 dLen) (aCons (vr 2) aNil))))
    (sSeq (sFor (mEnum (vr 2)) (tgTup (tgCons (tgName 8) (tgCons (tgName 9) tgNil))) l__law_others_right_1)
    (sSeq (sIf (mT (m2 dNe (mC F__law_met (aCons (mC F__law_turned (aCons (vr 1) (aCons (vr 6) aNil))) (aCons (mC (on1 tupOf) (aCons (vr 7) aNil)) (aCons (vr 3) aNil)))) (vr 4))) (sRet (ct (.dat (.bool false)))) sNil)
    (sSeq (sIf (mT (m2 dNe (mC F__law_met (aCons (mC F__law_put (aCons (vr 1) (aCons (mC mkTup (aCons (ct (.dat (.str "was"))) aNil)) (aCons (vr 3) aNil)))) (aCons (vr 2) (aCons (ct (.dat (.int 7))) aNil)))) (vr 4))) (sRet (ct (.dat (.bool false)))) sNil)
    (sSeq (sSet 10 (mC (on1 locOf) (aCons (vr 2) aNil)))
    (sSeq (sSet 11 (mC F__law_bare (aCons (vr 1) (aCons (vr 10) aNil))))
    (sRet (mOrV (m2 dGt (mC (on1 dLen) (aCons (vr 10) aNil)) (ct (.dat (.int 9)))) (m2 dEq (mC F__law_met (aCons (vr 11) (aCons (mC (on1 tupOf) (aCons (vr 10) aNil)) (aCons (vr 3) aNil)))) (vr 4)))))))))))))
noncomputable def F__law_others_right : List D → M D := runB 13 4 b__law_others_right
theorem sc__law_others_right : FnScope N__law_others_right ["sack", "expr", "record", "elder"] (defScope s__law_others_right) := ⟨rfl, rfl, rfl, by decide +kernel, rfl, by decide +kernel, by decide +kernel⟩
theorem g__law_others_right {P : Program} {w : World} {K : PySem.W.Frag} {mg : Str → Option Value} {base : Heap} (B : Bt K mg) (d : Df K mg "_law_others_right" s__law_others_right ["sack", "expr", "record", "elder"]) (G__law_met : FnN P w K mg base 29 "_law_met" ["expr", "record", "elder"] F__law_met) (G__law_draw : FnN P w K mg base 1 "_law_draw" ["sack", "many"] F__law_draw) (G__law_turned : FnN P w K mg base 24 "_law_turned" ["expr", "order"] F__law_turned) (G__law_put : FnN P w K mg base 24 "_law_put" ["expr", "leaf", "other"] F__law_put) (G__law_bare : FnN P w K mg base 24 "_law_bare" ["expr", "words"] F__law_bare) :
    FnN P w K mg base 30 "_law_others_right" ["sack", "expr", "record", "elder"] F__law_others_right := by
  refine fnN_of (N := N__law_others_right) (body := b__law_others_right) giveD_ok d sc__law_others_right fun f cdv A outer s H E C => ?_
  exact (evs_cons (evs_set (i := 4) sc__law_others_right.nd rfl (Or.inl rfl) (ev_callN G__law_met C (by decide) (by rfl) (ea_cons (ev_vr 1) (ea_cons (ev_vr 2) (ea_cons (ev_vr 3) ea_nil)))))
    (evs_cons (evs_set (i := 5) sc__law_others_right.nd rfl (Or.inr rfl) (n_locRg rfl B.b_list B.b_range (n_len B.b_len (ea_cons (ev_vr 2) ea_nil))))
    (evs_cons (evs_setLc (i := 6) (own := [("turn", 12)]) rfl sc__law_others_right.nd rfl rfl rfl (evi_range1 (by rfl) B.b_range (ea_cons (n_len B.b_len (ea_cons (ev_vr 2) ea_nil)) ea_nil)) (blkOk_by (N := N__law_others_right) (sc := defScope s__law_others_right) (by decide +kernel)) (fun _ _ _ _ _ => (eg_name (i := 12) sc__law_others_right.nd rfl (Or.inl rfl))) (by decide) (fun _ _ _ _ _ => evts_nil) (fun _ _ _ _ _ => (m_pop (ev_vr 5) (ea_cons (ev_callN G__law_draw (GC.blk C) (by decide) (by rfl) (ea_cons (ev_vr 0) (ea_cons (n_len B.b_len (ea_cons (ev_vr 5) ea_nil)) ea_nil))) ea_nil))))
    (evs_cons (evs_set (i := 7) sc__law_others_right.nd rfl (Or.inl rfl) (x_mulLoc (ev_lst (ea_cons ev_int ea_nil)) (n_len B.b_len (ea_cons (ev_vr 2) ea_nil))))
    (evs_cons (evs_for (mb := l__law_others_right_1) passes_cx rfl (evi_enum B.b_enumerate (ev_vr 2)) (eg_tup rfl (eg_cons (eg_name (i := 8) sc__law_others_right.nd rfl (Or.inl rfl)) (eg_cons (eg_name (i := 9) sc__law_others_right.nd rfl (Or.inl rfl)) eg_nil))) (evs_one (evs_setix (ev_vr 7) (x_ix (ev_vr 6) (ev_vr 8)) (ev_vr 9))))
    (evs_cons (evs_if (t_ne C (ev_callN G__law_met C (by decide) (by rfl) (ea_cons (ev_callN G__law_turned C (by decide) (by rfl) (ea_cons (ev_vr 1) (ea_cons (ev_vr 6) ea_nil))) (ea_cons (n_tuple B.b_tuple (ea_cons (ev_vr 7) ea_nil)) (ea_cons (ev_vr 3) ea_nil)))) (ev_vr 4)) (evs_one (evs_ret ev_bl)) evs_nil)
    (evs_cons (evs_if (t_ne C (ev_callN G__law_met C (by decide) (by rfl) (ea_cons (ev_callN G__law_put C (by decide) (by rfl) (ea_cons (ev_vr 1) (ea_cons (ev_tup (ea_cons ev_str ea_nil)) (ea_cons (ev_vr 3) ea_nil)))) (ea_cons (ev_vr 2) (ea_cons ev_int ea_nil)))) (ev_vr 4)) (evs_one (evs_ret ev_bl)) evs_nil)
    (evs_cons (evs_set (i := 10) sc__law_others_right.nd rfl (Or.inl rfl) (n_loc B.b_list (ea_cons (ev_vr 2) ea_nil)))
    (evs_cons (evs_set (i := 11) sc__law_others_right.nd rfl (Or.inl rfl) (ev_callN G__law_bare C (by decide) (by rfl) (ea_cons (ev_vr 1) (ea_cons (ev_vr 10) ea_nil))))
    (evs_one (evs_ret (ev_or (x_gt (n_len B.b_len (ea_cons (ev_vr 10) ea_nil)) ev_int) (ev_one (x_eq C (ev_callN G__law_met C (by decide) (by rfl) (ea_cons (ev_vr 11) (ea_cons (n_tuple B.b_tuple (ea_cons (ev_vr 10) ea_nil)) (ea_cons (ev_vr 3) ea_nil)))) (ev_vr 4)))))))))))))))


/-! law -/
abbrev s_law : Stmt := top 33
abbrev N_law : List Str := ["script", "at", "sack", "record", "elder", "turn", "expr", "op", "other"]
noncomputable def l_law_1 : SM :=
    (sSeq (sSet 6 (mC F__law_expr (aCons (vr 2) (aCons (m2 dAdd (mC (on1 dLen) (aCons (vr 3) aNil)) (ct (.dat (.int 1)))) (aCons (ct (.dat (.int 2))) (aCons (ct (.dat (.bool true))) aNil))))))
    (sSeq (sIf (mNot (mT (mC F__law_has (aCons (vr 6) (aCons (mC mkTup (aCons (ct (.dat (.str "at"))) (aCons (mC (on1 dLen) (aCons (vr 3) aNil)) aNil))) aNil))))) (sSeq (sSet 7 (m2 dIx (mC mkLst (aCons (ct (.dat (.str "plus"))) (aCons (ct (.dat (.str "over"))) (aCons (ct (.dat (.str "times"))) (aCons (ct (.dat (.str "less"))) aNil))))) (mC F__law_draw (aCons (vr 2) (aCons (ct (.dat (.int 4))) aNil)))))
    (sSet 6 (mC mkTup (aCons (vr 7) (aCons (mC mkTup (aCons (ct (.dat (.str "at"))) (aCons (mC (on1 dLen) (aCons (vr 3) aNil)) aNil))) (aCons (vr 6) aNil)))))) sNil)
    (sSeq (sSet 8 (mC F__law_expr (aCons (vr 2) (aCons (mC (on1 dLen) (aCons (vr 3) aNil)) (aCons (ct (.dat (.int 2))) (aCons (ct (.dat (.bool true))) aNil))))))
    (sSeq (sIf (mNot (mT (mC F__law_put_right (aCons (vr 6) (aCons (vr 8) (aCons (vr 3) (aCons (vr 4) aNil))))))) (sRet (ct (.dat (.bool false)))) sNil)
    (sIf (mNot (mT (mC F__law_others_right (aCons (vr 2) (aCons (vr 8) (aCons (vr 3) (aCons (vr 4) aNil))))))) (sRet (ct (.dat (.bool false)))) sNil)))))
noncomputable def l_law_2 : SM :=
    (sSeq (sSet 2 (mC F__law_sack (aCons (vr 0) (aCons (vr 1) aNil))))
    (sSeq (sSet 3 (mC (on1 tupOf) (aCons (mLc (mRng1 (aCons (m2 dAdd (ct (.dat (.int 1))) (mC F__law_draw (aCons (vr 2) (aCons (ct (.dat (.int 6))) aNil)))) aNil)) [5] (tgName 5) mYes (mC F__law_word (aCons (vr 2) aNil))) aNil)))
    (sSeq (sSet 4 (mC F__law_word (aCons (vr 2) aNil)))
    (sFor (mRng1 (aCons (ct (.dat (.int 3))) aNil)) (tgName 5) l_law_1))))
noncomputable def b_law : SM :=
    (sSeq (sFor (mRng1 (aCons (mC (on2 dMax2) (aCons (ct (.dat (.int 1))) (aCons (mC (on2 dMin2) (aCons (ct (.dat (.int 20))) (aCons (mC (on1 dLen) (aCons (vr 0) aNil)) aNil))) aNil))) aNil)) (tgName 1) l_law_2)
    (sSeq (sAsg (tgTup (tgCons (tgName 6) (tgCons (tgName 8) tgNil))) (mC mkTup (aCons (mC mkTup (aCons (ct (.dat (.str "over"))) (aCons (mC mkTup (aCons (ct (.dat (.str "at"))) (aCons (ct (.dat (.int 1))) aNil))) (aCons (mC mkTup (aCons (ct (.dat (.str "at"))) (aCons (ct (.dat (.int 0))) aNil))) aNil)))) (aCons (mC mkTup (aCons (ct (.dat (.str "minus"))) (aCons (mC mkTup (aCons (ct (.dat (.str "at"))) (aCons (ct (.dat (.int 0))) aNil))) (aCons (ct (.dat (.int 4))) aNil)))) aNil))))
    (sRet (mAndV (m2 dEq (mK F_worth (fun ds _ => ds ++ [.dat (.int 0)]) (aCons (mC F__law_put (aCons (vr 6) (aCons (mC mkTup (aCons (ct (.dat (.str "at"))) (aCons (ct (.dat (.int 1))) aNil))) (aCons (vr 8) aNil)))) (aCons (mC mkTup (aCons (ct (.dat (.int 2))) aNil)) aNil)) aNil) (m1 dNeg (ct (.dat (.int 1))))) (mC F__law_put_right (aCons (vr 6) (aCons (mC mkTup (aCons (ct (.dat (.str "over"))) (aCons (ct (.dat (.int 1))) (aCons (ct (.dat (.int 0))) aNil)))) (aCons (mC mkTup (aCons (ct (.dat (.int 2))) aNil)) (aCons (ct (.dat (.int 0))) aNil)))))))))
noncomputable def F_law : List D → M D := runB 9 1 b_law
theorem sc_law : FnScope N_law ["script"] (defScope s_law) := ⟨rfl, rfl, rfl, by decide +kernel, rfl, by decide +kernel, by decide +kernel⟩
theorem g_law {P : Program} {w : World} {K : PySem.W.Frag} {mg : Str → Option Value} {base : Heap} (B : Bt K mg) (d : Df K mg "law" s_law ["script"]) (G__law_sack : FnN P w K mg base 1 "_law_sack" ["script", "at"] F__law_sack) (G__law_draw : FnN P w K mg base 1 "_law_draw" ["sack", "many"] F__law_draw) (G__law_word : FnN P w K mg base 2 "_law_word" ["sack"] F__law_word) (G__law_expr : FnN P w K mg base 26 "_law_expr" ["sack", "wide", "deep", "led"] F__law_expr) (G__law_has : FnN P w K mg base 24 "_law_has" ["expr", "leaf"] F__law_has) (G__law_put_right : FnN P w K mg base 30 "_law_put_right" ["expr", "other", "record", "elder"] F__law_put_right) (G__law_others_right : FnN P w K mg base 30 "_law_others_right" ["sack", "expr", "record", "elder"] F__law_others_right) (G_worth : FnV P w K mg base 28 "worth" ["expr", "record", "was"] F_worth) (G__law_put : FnN P w K mg base 24 "_law_put" ["expr", "leaf", "other"] F__law_put) :
    FnN P w K mg base 31 "law" ["script"] F_law := by
  refine fnN_of (N := N_law) (body := b_law) giveD_ok d sc_law fun f cdv A outer s H E C => ?_
  exact (evs_cons (evs_for (mb := l_law_2) passes_cx rfl (evi_range1 (by rfl) B.b_range (ea_cons (n_max rfl B.b_max (ea_cons ev_int (ea_cons (n_min rfl B.b_min (ea_cons ev_int (ea_cons (n_len B.b_len (ea_cons (ev_vr 0) ea_nil)) ea_nil))) ea_nil))) ea_nil)) (eg_name (i := 1) sc_law.nd rfl (Or.inl rfl)) (evs_cons (evs_set (i := 2) sc_law.nd rfl (Or.inr rfl) (ev_callN G__law_sack C (by decide) (by rfl) (ea_cons (ev_vr 0) (ea_cons (ev_vr 1) ea_nil))))
    (evs_cons (evs_set (i := 3) sc_law.nd rfl (Or.inl rfl) (n_tuple B.b_tuple (ea_cons (ev_lc (own := [("turn", 5)]) rfl sc_law.nd (evi_range1 (by rfl) B.b_range (ea_cons (x_add ev_int (ev_callN G__law_draw C (by decide) (by rfl) (ea_cons (ev_vr 2) (ea_cons ev_int ea_nil)))) ea_nil)) (blkOk_by (N := N_law) (sc := defScope s_law) (by decide +kernel)) (fun _ _ _ _ _ => (eg_name (i := 5) sc_law.nd rfl (Or.inl rfl))) (by decide) (fun _ _ _ _ _ => evts_nil) (fun _ _ _ _ _ => (ev_callN G__law_word (GC.blk C) (by decide) (by rfl) (ea_cons (ev_vr 2) ea_nil)))) ea_nil)))
    (evs_cons (evs_set (i := 4) sc_law.nd rfl (Or.inl rfl) (ev_callN G__law_word C (by decide) (by rfl) (ea_cons (ev_vr 2) ea_nil)))
    (evs_one (evs_for (mb := l_law_1) passes_cx rfl (evi_range1 (by rfl) B.b_range (ea_cons ev_int ea_nil)) (eg_name (i := 5) sc_law.nd rfl (Or.inl rfl)) (evs_cons (evs_set (i := 6) sc_law.nd rfl (Or.inl rfl) (ev_callN G__law_expr C (by decide) (by rfl) (ea_cons (ev_vr 2) (ea_cons (x_add (n_len B.b_len (ea_cons (ev_vr 3) ea_nil)) ev_int) (ea_cons ev_int (ea_cons ev_bl ea_nil))))))
    (evs_cons (evs_if (evt_not (evt_tru (ev_callN G__law_has C (by decide) (by rfl) (ea_cons (ev_vr 6) (ea_cons (ev_tup (ea_cons ev_str (ea_cons (n_len B.b_len (ea_cons (ev_vr 3) ea_nil)) ea_nil))) ea_nil))))) (evs_cons (evs_set (i := 7) sc_law.nd rfl (Or.inl rfl) (x_ix (ev_lst (ea_cons ev_str (ea_cons ev_str (ea_cons ev_str (ea_cons ev_str ea_nil))))) (ev_callN G__law_draw C (by decide) (by rfl) (ea_cons (ev_vr 2) (ea_cons ev_int ea_nil)))))
    (evs_one (evs_set (i := 6) sc_law.nd rfl (Or.inl rfl) (ev_tup (ea_cons (ev_vr 7) (ea_cons (ev_tup (ea_cons ev_str (ea_cons (n_len B.b_len (ea_cons (ev_vr 3) ea_nil)) ea_nil))) (ea_cons (ev_vr 6) ea_nil))))))) evs_nil)
    (evs_cons (evs_set (i := 8) sc_law.nd rfl (Or.inl rfl) (ev_callN G__law_expr C (by decide) (by rfl) (ea_cons (ev_vr 2) (ea_cons (n_len B.b_len (ea_cons (ev_vr 3) ea_nil)) (ea_cons ev_int (ea_cons ev_bl ea_nil))))))
    (evs_cons (evs_if (evt_not (evt_tru (ev_callN G__law_put_right C (by decide) (by rfl) (ea_cons (ev_vr 6) (ea_cons (ev_vr 8) (ea_cons (ev_vr 3) (ea_cons (ev_vr 4) ea_nil))))))) (evs_one (evs_ret ev_bl)) evs_nil)
    (evs_one (evs_if (evt_not (evt_tru (ev_callN G__law_others_right C (by decide) (by rfl) (ea_cons (ev_vr 2) (ea_cons (ev_vr 8) (ea_cons (ev_vr 3) (ea_cons (ev_vr 4) ea_nil))))))) (evs_one (evs_ret ev_bl)) evs_nil))))))))))))
    (evs_cons (evs_asg (eg_tup rfl (eg_cons (eg_name (i := 6) sc_law.nd rfl (Or.inl rfl)) (eg_cons (eg_name (i := 8) sc_law.nd rfl (Or.inl rfl)) eg_nil))) (ev_tup (ea_cons (ev_tup (ea_cons ev_str (ea_cons (ev_tup (ea_cons ev_str (ea_cons ev_int ea_nil))) (ea_cons (ev_tup (ea_cons ev_str (ea_cons ev_int ea_nil))) ea_nil)))) (ea_cons (ev_tup (ea_cons ev_str (ea_cons (ev_tup (ea_cons ev_str (ea_cons ev_int ea_nil))) (ea_cons ev_int ea_nil)))) ea_nil))))
    (evs_one (evs_ret (ev_and (x_eq C (ev_callK G_worth B.k0_worth (fun _ _ _ _ _ _ _ _ _ _ _ h1 _ => h1.app (.cons (Dv.int 0) .nil)) C (by decide) (by rfl) (al_cons (al_cons al_nil)) al_nil (ea_cons (ev_callN G__law_put C (by decide) (by rfl) (ea_cons (ev_vr 6) (ea_cons (ev_tup (ea_cons ev_str (ea_cons ev_int ea_nil))) (ea_cons (ev_vr 8) ea_nil)))) (ea_cons (ev_tup (ea_cons ev_int ea_nil)) ea_nil)) ek_nil) (x_neg ev_int)) (ev_one (ev_callN G__law_put_right C (by decide) (by rfl) (ea_cons (ev_vr 6) (ea_cons (ev_tup (ea_cons ev_str (ea_cons ev_int (ea_cons ev_int ea_nil)))) (ea_cons (ev_tup (ea_cons ev_int ea_nil)) (ea_cons ev_int ea_nil)))))))))))

structure Ds (K : PySem.W.Frag) (mg : Str → Option Value) : Prop where
  d_is_whole : Df K mg "is_whole" s_is_whole ["thing"]
  d_is_from : Df K mg "is_from" s_is_from ["thing", "low", "high"]
  d_check_from : Df K mg "check_from" s_check_from ["thing", "low", "high"]
  d_is_word : Df K mg "is_word" s_is_word ["thing"]
  d__is_expr : Df K mg "_is_expr" s__is_expr ["thing", "width", "carried", "ops"]
  d_is_expr : DfV K mg "is_expr" s_is_expr
  d_op_worth : Df K mg "op_worth" s_op_worth ["op", "one", "other"]
  d__checked_op : Df K mg "_checked_op" s__checked_op ["op", "one", "other"]
  d_worth : DfV K mg "worth" s_worth
  d__law_sack : Df K mg "_law_sack" s__law_sack ["script", "at"]
  d__law_draw : Df K mg "_law_draw" s__law_draw ["sack", "many"]
  d__law_leaf : Df K mg "_law_leaf" s__law_leaf ["sack", "wide", "led"]
  d__law_expr : Df K mg "_law_expr" s__law_expr ["sack", "wide", "deep", "led"]
  d__law_word : Df K mg "_law_word" s__law_word ["sack"]
  d__law_met : Df K mg "_law_met" s__law_met ["expr", "record", "elder"]
  d__law_has : Df K mg "_law_has" s__law_has ["expr", "leaf"]
  d__law_put : Df K mg "_law_put" s__law_put ["expr", "leaf", "other"]
  d__law_turned : Df K mg "_law_turned" s__law_turned ["expr", "order"]
  d__law_bare : Df K mg "_law_bare" s__law_bare ["expr", "words"]
  d__law_put_right : Df K mg "_law_put_right" s__law_put_right ["expr", "other", "record", "elder"]
  d__law_others_right : Df K mg "_law_others_right" s__law_others_right ["sack", "expr", "record", "elder"]
  d_law : Df K mg "law" s_law ["script"]

theorem all_ok {P : Program} {w : World} {K : PySem.W.Frag} {mg : Str → Option Value} {base : Heap} (B : Bt K mg) (d : Ds K mg) : FnN P w K mg base 31 "law" ["script"] F_law := by
  have G_is_whole := g_is_whole (P := P) (w := w) (base := base) B d.d_is_whole
  have G_is_from := g_is_from (P := P) (w := w) (base := base) B d.d_is_from G_is_whole
  have G_check_from := g_check_from (P := P) (w := w) (base := base) B d.d_check_from G_is_from
  have G_is_word := g_is_word (P := P) (w := w) (base := base) B d.d_is_word G_is_from
  have G__is_expr := g__is_expr (P := P) (w := w) (base := base) B d.d__is_expr G_is_word G_is_from
  have G_is_expr := g_is_expr (P := P) (w := w) (base := base) B d.d_is_expr G_check_from G__is_expr
  have G_op_worth := g_op_worth (P := P) (w := w) (base := base) B d.d_op_worth
  have G__checked_op := g__checked_op (P := P) (w := w) (base := base) B d.d__checked_op G_op_worth G_is_word
  have G_worth := g_worth (P := P) (w := w) (base := base) B d.d_worth G__checked_op
  have G__law_sack := g__law_sack (P := P) (w := w) (base := base) B d.d__law_sack
  have G__law_draw := g__law_draw (P := P) (w := w) (base := base) B d.d__law_draw
  have G__law_leaf := g__law_leaf (P := P) (w := w) (base := base) B d.d__law_leaf G__law_draw
  have G__law_expr := g__law_expr (P := P) (w := w) (base := base) B d.d__law_expr G__law_draw G__law_leaf
  have G__law_word := g__law_word (P := P) (w := w) (base := base) B d.d__law_word G__law_draw
  have G__law_met := g__law_met (P := P) (w := w) (base := base) B d.d__law_met G_worth
  have G__law_has := g__law_has (P := P) (w := w) (base := base) B d.d__law_has
  have G__law_put := g__law_put (P := P) (w := w) (base := base) B d.d__law_put
  have G__law_turned := g__law_turned (P := P) (w := w) (base := base) B d.d__law_turned
  have G__law_bare := g__law_bare (P := P) (w := w) (base := base) B d.d__law_bare
  have G__law_put_right := g__law_put_right (P := P) (w := w) (base := base) B d.d__law_put_right G__law_put G_is_expr G__law_met G__law_has
  have G__law_others_right := g__law_others_right (P := P) (w := w) (base := base) B d.d__law_others_right G__law_met G__law_draw G__law_turned G__law_put G__law_bare
  have G_law := g_law (P := P) (w := w) (base := base) B d.d_law G__law_sack G__law_draw G__law_word G__law_expr G__law_has G__law_put_right G__law_others_right G_worth G__law_put
  exact G_law

end K04
set_option Elab.async false
set_option linter.all false
set_option maxRecDepth 100000
set_option maxHeartbeats 2000000
set_option exponentiation.threshold 5000
namespace K04
open PySem PySem.Spec PyProof.Rows L2 Ev
open Classical
inductive Op where
  | plus | minus | times | over | rest | less | same
  deriving DecidableEq
def Op.nm : Op → Str
  | .plus => "plus" | .minus => "minus" | .times => "times" | .over => "over" | .rest => "rest" | .less => "less" | .same => "same"
inductive Ex where
  | lit (i : Int)
  | at_ (k : Nat)
  | was
  | op (o : Op) (a b : Ex)
def Ex.enc : Ex → PyData
  | .lit i => .int i
  | .at_ k => .tuple [.str "at", .int k]
  | .was => .tuple [.str "was"]
  | .op o a b => .tuple [.str o.nm, a.enc, b.enc]
abbrev Wd (i : Int) : Prop := -1000000000 ≤ i ∧ i ≤ 1000000000
def Op.raw : Op → Int → Int → Int
  | .plus, x, y => x + y
  | .minus, x, y => x - y
  | .times, x, y => x * y
  | .over, x, y => x.fdiv y
  | .rest, x, y => x - y * x.fdiv y
  | .less, x, y => if x < y then 1 else 0
  | .same, x, y => if x = y then 1 else 0
def Op.dv : Op → Bool
  | .over | .rest => true
  | _ => false
/-- what it comes to, or how it falls: by nought (true), or great -/
def Op.ap (o : Op) (x y : Int) : Except Bool Int := if o.dv = true ∧ y = 0 then .error true else if Wd (o.raw x y) then .ok (o.raw x y) else .error false
def Ex.val (r : List Int) (w : Int) : Ex → Except Bool Int
  | .lit i => .ok i
  | .at_ k => .ok (r.getD k 0)
  | .was => .ok w
  | .op o a b => match a.val r w with
    | .error e => .error e
    | .ok x => match b.val r w with
      | .error e => .error e
      | .ok y => o.ap x y
def Ex.good (n : Nat) : Ex → Prop
  | .lit i => Wd i
  | .at_ k => k < n
  | .was => True
  | .op _ a b => a.good n ∧ b.good n
def Ex.dep : Ex → Nat
  | .op _ a b => max a.dep b.dep + 1
  | _ => 0
def wordOf (b : Bool) : Str := if b then "nought" else "great"
theorem val_wd {r : List Int} {w : Int} (hr : ∀ i ∈ r, Wd i) (hw : Wd w) : ∀ {e : Ex} {v : Int}, e.good r.length → e.val r w = .ok v → Wd v
  | .lit i, v, g, h => by cases h; exact g
  | .at_ k, v, g, h => by
    cases h
    have hk : k < r.length := g
    rw [List.getD_eq_getElem?_getD, List.getElem?_eq_getElem hk]
    exact hr _ (List.getElem_mem hk)
  | .was, v, g, h => by cases h; exact hw
  | .op o a b, v, g, h => by
    unfold Ex.val at h
    split at h
    · cases h
    · split at h
      · cases h
      · unfold Op.ap at h
        split at h
        · cases h
        · split at h
          · rename_i hz; cases h; exact hz
          · cases h
theorem ten9 (st : Sto) : dPow (.dat (.int 10)) (.dat (.int 9)) st = .ok (.dat (.int 1000000000)) st := by
  rw [dPow_ap _ _ _ (by rw [bits10]; decide)] <;> rfl
def isFr (lo hi : Int) : PyData → Bool
  | .int i => decide (lo ≤ i) && decide (i ≤ hi)
  | _ => false
theorem F_is_word_eq (i : Int) (st : Sto) : F_is_word [.dat (.int i)] st = .ok (.dat (.bool (decide (Wd i)))) st := by
  have e : F_is_from [.dat (.int i), .dat (.int (-1000000000)), .dat (.int 1000000000)] st = .ok (.dat (.bool (decide (-1000000000 ≤ i) && decide (i ≤ 1000000000)))) st := by
    by_cases h : -1000000000 ≤ i <;> simp [F_is_from, b_is_from, F_is_whole, b_is_whole, h]
  simp only [F_is_word, b_is_word, run1, startE_ap, List.map_cons, List.map_nil, List.length_cons, List.length_nil, List.replicate, List.cons_append, List.nil_append, sRet_ap, mC_ap, aCons_ap, aNil_ap, ct_ap, vr_zero, then_ok, bind_ap, pure_ap, e, thenS_ok, fin_rt, giveD_dat, List.take_length, Bool.decide_and]
theorem nm_plus (o : Op) : decide (o.nm = ("plus" : Str)) = decide (o = .plus) := by cases o <;> decide +kernel
theorem nm_minus (o : Op) : decide (o.nm = ("minus" : Str)) = decide (o = .minus) := by cases o <;> decide +kernel
theorem nm_times (o : Op) : decide (o.nm = ("times" : Str)) = decide (o = .times) := by cases o <;> decide +kernel
theorem nm_over (o : Op) : decide (o.nm = ("over" : Str)) = decide (o = .over) := by cases o <;> decide +kernel
theorem nm_rest (o : Op) : decide (o.nm = ("rest" : Str)) = decide (o = .rest) := by cases o <;> decide +kernel
theorem nm_less (o : Op) : decide (o.nm = ("less" : Str)) = decide (o = .less) := by cases o <;> decide +kernel
theorem nm_same (o : Op) : decide (o.nm = ("same" : Str)) = decide (o = .same) := by cases o <;> decide +kernel
theorem nm_at (o : Op) : decide (o.nm = ("at" : Str)) = false := by cases o <;> decide +kernel
theorem nm_was (o : Op) : decide (o.nm = ("was" : Str)) = false := by cases o <;> decide +kernel
theorem wide_wd {i : Int} (h : Wd i) : wideI i := wide64 (by have := h.1; omega) (by have := h.2; omega)
theorem mul_wd {x y : Int} (hx : Wd x) (hy : Wd y) (st : Sto) : dMul (.dat (.int x)) (.dat (.int y)) st = .ok (.dat (.int (x * y))) st := dMul_ap st x y ⟨wide_wd hx, wide_wd hy⟩
theorem fdiv_wd {x y : Int} (hy : Wd y) (h : y ≠ 0) (st : Sto) : dFdiv (.dat (.int x)) (.dat (.int y)) st = .ok (.dat (.int (x.fdiv y))) st := dFdiv_ap st x y (.inr ⟨h, by have := hy.1; have := hy.2; omega⟩)
theorem fdiv_pos {x y : Int} (hy : 0 < y) (n : Int) (h1 : -n ≤ x) (h2 : x ≤ n) : -n ≤ x.fdiv y ∧ x.fdiv y ≤ n := by
  have e := Int.mul_fdiv_add_fmod x y
  have b1 := Int.fmod_nonneg_of_pos x hy
  have b2 := Int.fmod_lt_of_pos x hy
  constructor
  · by_cases q : x.fdiv y < -n
    · have h3 : y * x.fdiv y ≤ y * (-n - 1) := Int.mul_le_mul_of_nonneg_left (by omega) (Int.le_of_lt hy)
      have h5 : 1 * n ≤ y * n := Int.mul_le_mul_of_nonneg_right (by omega) (by omega)
      have h6 : y * (-n - 1) = -(y * n) - y := by rw [Int.mul_sub, Int.mul_one, Int.mul_neg]
      omega
    · omega
  · by_cases q : n < x.fdiv y
    · have h3 : y * (n + 1) ≤ y * x.fdiv y := Int.mul_le_mul_of_nonneg_left (by omega) (Int.le_of_lt hy)
      have h4 : 1 * (n + 1) ≤ y * (n + 1) := Int.mul_le_mul_of_nonneg_right (by omega) (by omega)
      omega
    · omega
/-- a floor is no further from nought than what was divided -/
theorem fdiv_abs {x y : Int} (h : y ≠ 0) (n : Int) (h1 : -n ≤ x) (h2 : x ≤ n) : -n ≤ x.fdiv y ∧ x.fdiv y ≤ n := by
  rcases Int.lt_or_gt_of_ne h with hy | hy
  · have e : x.fdiv y = (-x).fdiv (-y) := by rw [Int.neg_fdiv_neg]
    rw [e]
    exact fdiv_pos (by omega) n (by omega) (by omega)
  · exact fdiv_pos hy n h1 h2
/-- what a floor leaves is nearer to nought than the divisor -/
theorem rest_abs {x y : Int} (h : y ≠ 0) (n : Int) (h1 : -n ≤ y) (h2 : y ≤ n) : -n ≤ x - y * x.fdiv y ∧ x - y * x.fdiv y ≤ n := by
  rcases Int.lt_or_gt_of_ne h with hy | hy
  · have e : x.fdiv y = (-x).fdiv (-y) := by rw [Int.neg_fdiv_neg]
    have e2 := Int.mul_fdiv_add_fmod (-x) (-y)
    have b1 := Int.fmod_nonneg_of_pos (-x) (show 0 < -y by omega)
    have b2 := Int.fmod_lt_of_pos (-x) (show 0 < -y by omega)
    have e3 : -y * (-x).fdiv (-y) = -(y * (-x).fdiv (-y)) := Int.neg_mul ..
    rw [e]
    omega
  · have e := Int.mul_fdiv_add_fmod x y
    have b1 := Int.fmod_nonneg_of_pos x hy
    have b2 := Int.fmod_lt_of_pos x hy
    omega
end K04
set_option Elab.async false
set_option linter.all false
set_option maxRecDepth 100000
set_option maxHeartbeats 2000000
set_option exponentiation.threshold 5000
namespace K04
open PySem PySem.Spec PyProof.Rows L2 Ev
open Classical
theorem np_plus (o : Op) : o.nm = ("plus" : Str) ↔ o = .plus := by have := nm_plus o; simpa using this
theorem np_minus (o : Op) : o.nm = ("minus" : Str) ↔ o = .minus := by have := nm_minus o; simpa using this
theorem np_times (o : Op) : o.nm = ("times" : Str) ↔ o = .times := by have := nm_times o; simpa using this
theorem np_over (o : Op) : o.nm = ("over" : Str) ↔ o = .over := by have := nm_over o; simpa using this
theorem np_rest (o : Op) : o.nm = ("rest" : Str) ↔ o = .rest := by have := nm_rest o; simpa using this
theorem np_less (o : Op) : o.nm = ("less" : Str) ↔ o = .less := by have := nm_less o; simpa using this
theorem np_same (o : Op) : o.nm = ("same" : Str) ↔ o = .same := by have := nm_same o; simpa using this
theorem np_at (o : Op) : ¬ o.nm = ("at" : Str) := by have := nm_at o; simpa using this
theorem np_was (o : Op) : ¬ o.nm = ("was" : Str) := by have := nm_was o; simpa using this
theorem op_worth_eq (o : Op) {x y : Int} (hx : Wd x) (hy : Wd y) (h : o.dv = true → y ≠ 0) (st : Sto) : F_op_worth [.dat (.str o.nm), .dat (.int x), .dat (.int y)] st = .ok (.dat (.int (o.raw x y))) st := by
  have m1 := mul_wd hx hy st
  cases o with
  | plus => simp [F_op_worth, b_op_worth, np_plus, Op.raw]
  | minus => simp [F_op_worth, b_op_worth, np_plus, np_minus, Op.raw]
  | times => simp [F_op_worth, b_op_worth, np_plus, np_minus, np_times, Op.raw, m1]
  | over =>
    have f := fdiv_wd (x := x) hy (h rfl) st
    simp [F_op_worth, b_op_worth, np_plus, np_minus, np_times, np_over, Op.raw, f]
  | rest =>
    have f := fdiv_wd (x := x) hy (h rfl) st
    obtain ⟨a1, a2⟩ := fdiv_abs (x := x) (h rfl) 1000000000 hx.1 hx.2
    have m2 := mul_wd hy (⟨a1, a2⟩ : Wd (x.fdiv y)) st
    simp [F_op_worth, b_op_worth, np_plus, np_minus, np_times, np_over, np_rest, Op.raw, f, m2]
  | less => by_cases q : x < y <;> simp [F_op_worth, b_op_worth, np_plus, np_minus, np_times, np_over, np_rest, np_less, Op.raw, q]
  | same => by_cases q : x = y <;> simp [F_op_worth, b_op_worth, np_plus, np_minus, np_times, np_over, np_rest, np_less, Op.raw, q, dEq_int]
def out (r : Except Bool Int) (st : Sto) : Res D := match r with
  | .ok v => .ok (.dat (.int v)) st
  | .error b => .exc ⟨"Falls", [("word", .str (wordOf b))]⟩ st
theorem in_dv (o : Op) (st : Sto) : dIn (.dat (.str o.nm)) (.dat (.tuple [.str "over", .str "rest"])) st = .ok (.dat (.bool o.dv)) st := by
  have e : inD false (.str o.nm) (.tuple [.str "over", .str "rest"]) = if SeqAt.shaped (.str o.nm) = true ∧ SeqAt.shaped (.tuple [.str "over", .str "rest"]) = true then retB (false != [PyData.str "over", .str "rest"].any fun z => PyData.eqv z (.str o.nm)) else M.bad := rfl
  show inD false (.str o.nm) (.tuple [.str "over", .str "rest"]) st = _
  rw [e, if_pos ⟨by cases o <;> decide +kernel, by decide +kernel⟩]
  show Res.ok (D.dat (.bool _)) st = _
  congr 3
  cases o <;> decide +kernel
theorem checked_eq (o : Op) {x y : Int} (hx : Wd x) (hy : Wd y) (st : Sto) : F__checked_op [.dat (.str o.nm), .dat (.int x), .dat (.int y)] st = out (o.ap x y) st := by
  have mk : mkTup [.dat (.str "over"), .dat (.str "rest")] st = .ok (.dat (.tuple [.str "over", .str "rest"])) st := rfl
  have iv := in_dv o st
  by_cases h : o.dv = true ∧ y = 0
  · obtain ⟨h1, h2⟩ := h
    subst h2
    have e : o.ap x 0 = .error true := by unfold Op.ap; rw [if_pos ⟨h1, rfl⟩]
    rw [e]
    simp [F__checked_op, b__checked_op, mk, iv, h1, dEq_int, out, wordOf]
  · have c : (mAnd (mT (m2 dIn (vr 0) (mC mkTup (aCons (ct (.dat (.str "over"))) (aCons (ct (.dat (.str "rest"))) aNil))))) (mT (m2 dEq (vr 2) (ct (.dat (.int 0)))))) [some (.dat (.str o.nm)), some (.dat (.int x)), some (.dat (.int y)), none] st = .ok false st := by
      cases q : o.dv with
      | false => simp [mk, iv, q]
      | true =>
        have : ¬ y = 0 := fun z => h ⟨q, z⟩
        simp [mk, iv, q, dEq_int, this]
    have w := op_worth_eq o hx hy (fun q z => h ⟨q, z⟩) st
    have iw := F_is_word_eq (o.raw x y) st
    unfold Op.ap
    rw [if_neg h]
    by_cases q : Wd (o.raw x y)
    · rw [if_pos q]
      have q' : decide (Wd (o.raw x y)) = true := decide_eq_true q
      rw [q'] at iw
      simp only [F__checked_op, b__checked_op, run3, startE_ap, List.map_cons, List.map_nil, List.length_cons, List.length_nil, List.replicate, List.cons_append, List.nil_append, sSeq_ap, sIf_ap, c, thenS_ok, ite_sm, Bool.false_eq_true, if_false, sNil_ap, sthen_nx, sSet_ap, mC_ap, aCons_ap, aNil_ap, vr_zero, vr_succ, then_ok, bind_ap, pure_ap, w, List.set_cons_succ, List.set_cons_zero, mNot_ap, mT_ap, iw, asB_ap, Bool.not_true, sRet_ap, fin_rt, giveD_dat, List.take_length, out]
    · rw [if_neg q]
      have q' : decide (Wd (o.raw x y)) = false := decide_eq_false q
      rw [q'] at iw
      simp only [F__checked_op, b__checked_op, run3, startE_ap, List.map_cons, List.map_nil, List.length_cons, List.length_nil, List.replicate, List.cons_append, List.nil_append, sSeq_ap, sIf_ap, c, thenS_ok, ite_sm, Bool.false_eq_true, if_false, sNil_ap, sthen_nx, sSet_ap, mC_ap, aCons_ap, aNil_ap, vr_zero, vr_succ, then_ok, bind_ap, pure_ap, w, List.set_cons_succ, List.set_cons_zero, mNot_ap, mT_ap, iw, asB_ap, Bool.not_false, if_true, sRaiseF_ap, ct_ap, sthen_exc, fin_exc, List.take_length, out, wordOf]
theorem at_rec {r : List Int} {k : Nat} (h : k < r.length) (st : Sto) : dIx (.dat (.tuple (r.map PyData.int))) (.dat (.int k)) st = .ok (.dat (.int (r.getD k 0))) st := by
  refine ix_tuple (Ev.atI_nat ?_) st
  rw [List.getElem?_map, List.getElem?_eq_getElem h, List.getD_eq_getElem?_getD, List.getElem?_eq_getElem h]
  rfl
theorem worth_eq {r : List Int} {w : Int} (hr : ∀ i ∈ r, Wd i) (hw : Wd w) : ∀ (k : Nat) (e : Ex) (st : Sto), e.dep < k → e.good r.length → recB giveD 5 3 b_worth k [.dat e.enc, .dat (.tuple (r.map PyData.int)), .dat (.int w)] st = out (e.val r w) st := by
  intro k
  induction k with
  | zero => intro e st h; omega
  | succ k ih =>
    intro e st hk hg
    cases e with
    | lit i => simp [recB, b_worth, Ex.enc, Ex.val, out]
    | at_ j =>
      have i0 : dIx (.dat (.tuple [.str "at", .int j])) (.dat (.int 0)) st = .ok (.dat (.str "at")) st := ix_tuple (by rfl) st
      have i1 : dIx (.dat (.tuple [.str "at", .int j])) (.dat (.int 1)) st = .ok (.dat (.int j)) st := ix_tuple (by rfl) st
      have ir := at_rec (r := r) hg st
      simp [recB, b_worth, Ex.enc, Ex.val, out, i0, i1, ir]
    | was =>
      have i0 : dIx (.dat (.tuple [.str "was"])) (.dat (.int 0)) st = .ok (.dat (.str "was")) st := ix_tuple (by rfl) st
      have ne : ¬ (("was" : Str) = "at") := by decide +kernel
      simp [recB, b_worth, Ex.enc, Ex.val, out, i0, ne]
    | op o a b =>
      have hd : max a.dep b.dep + 1 < k + 1 := hk
      have i0 : dIx (.dat (.tuple [.str o.nm, a.enc, b.enc])) (.dat (.int 0)) st = .ok (.dat (.str o.nm)) st := ix_tuple (by rfl) st
      have i1 : dIx (.dat (.tuple [.str o.nm, a.enc, b.enc])) (.dat (.int 1)) st = .ok (.dat a.enc) st := ix_tuple (by rfl) st
      have i2 : dIx (.dat (.tuple [.str o.nm, a.enc, b.enc])) (.dat (.int 2)) st = .ok (.dat b.enc) st := ix_tuple (by rfl) st
      have f1 := ih a st (by omega) hg.1
      have f2 := ih b st (by omega) hg.2
      cases ea : a.val r w with
      | error q =>
        rw [ea] at f1
        simp [recB, b_worth, Ex.enc, Ex.val, i0, i1, np_at, np_was, f1, ea, out]
      | ok x =>
        rw [ea] at f1
        cases eb : b.val r w with
        | error q =>
          rw [eb] at f2
          simp [recB, b_worth, Ex.enc, Ex.val, i0, i1, i2, np_at, np_was, f1, f2, ea, eb, out]
        | ok y =>
          rw [eb] at f2
          have c := checked_eq o (val_wd hr hw hg.1 ea) (val_wd hr hw hg.2 eb) st
          cases ec : o.ap x y with
          | error q =>
            rw [ec] at c
            simp [recB, b_worth, Ex.enc, Ex.val, i0, i1, i2, np_at, np_was, f1, f2, ea, eb, ec, out] at c ⊢
            simp [c]
          | ok z =>
            rw [ec] at c
            simp [recB, b_worth, Ex.enc, Ex.val, i0, i1, i2, np_at, np_was, f1, f2, ea, eb, ec, out] at c ⊢
            simp [c]
end K04
set_option Elab.async false
set_option linter.all false
set_option maxRecDepth 100000
set_option maxHeartbeats 2000000
set_option exponentiation.threshold 5000
namespace K04
open PySem PySem.Spec PyProof.Rows L2 Ev
open Classical
theorem drw {st : Sto} {n m : Nat} (S : SackAt st n m) {many : Int} (h0 : 0 < many) (h1 : many < 18446744073709551616) (hm : m ≤ 1000000) :
    ∃ r st', F__law_draw [.loc n, .dat (.int many)] st = .ok (.dat (.int r)) st' ∧ 0 ≤ r ∧ r < many ∧ Dn n (m + 1) st st' := draw_dn S h0 h1 hm
theorem F_sack : F__law_sack = runL 4 2 sackB := rfl
theorem leaf_ok {st : Sto} {n m : Nat} (S : SackAt st n m) (hm : m ≤ 900000) {w : Nat} (w1 : w ≤ 10) :
    ∃ (e : Ex) (st' : Sto), F__law_leaf [.loc n, .dat (.int w), .dat (.bool true)] st = .ok (.dat e.enc) st' ∧ e.good w ∧ e.dep = 0 ∧ Dn n (m + 3) st st' := by
  obtain ⟨r, st1, e1, r0, r1, n1⟩ := drw S (many := 8) (by decide) (by decide) (by omega)
  have t1 : mkTup [.dat (.str "was")] st1 = .ok (.dat (.tuple [.str "was"])) st1 := rfl
  by_cases c1 : r < 3
  · refine ⟨.was, st1, ?_, trivial, rfl, n1.mono (by omega)⟩
    have g := giveD_same n1.len (.tuple [.str "was"])
    simp [F__law_leaf, b__law_leaf, e1, c1, t1, g, Ex.enc]
  · by_cases c2 : 0 < (w : Int) ∧ r < 6
    · obtain ⟨q, st2, e2, q0, q1, n2⟩ := drw n1.sack (many := w) c2.1 (by omega) (by omega)
      obtain ⟨qn, rfl⟩ := Int.eq_ofNat_of_zero_le q0
      have t2 : mkTup [.dat (.str "at"), .dat (.int qn)] st2 = .ok (.dat (.tuple [.str "at", .int qn])) st2 := rfl
      have g := giveD_same (n1.trans n2).len (.tuple [.str "at", .int qn])
      refine ⟨.at_ qn, st2, ?_, by show qn < w; omega, rfl, (n1.trans n2).mono (by omega)⟩
      have c3 : 0 < w := by omega
      simp [F__law_leaf, b__law_leaf, e1, c1, c2.2, c3, e2, t2, g, Ex.enc]
    · obtain ⟨q, st2, e2, q0, q1, n2⟩ := drw n1.sack (many := 21) (by decide) (by decide) (by omega)
      obtain ⟨u, st3, e3, u0, u1, n3⟩ := drw n2.sack (many := 8) (by decide) (by decide) (by omega)
      have nn := (n1.trans n2).trans n3
      have mk : mkLst [.dat (.int 0), .dat (.int 1), .dat (.int 2), .dat (.int (-1)), .dat (.int 3), .dat (.int (q - 10)), .dat (.int 1000000000), .dat (.int (-1000000000))] st2 = .ok (.dat (.list [.int 0, .int 1, .int 2, .int (-1), .int 3, .int (q - 10), .int 1000000000, .int (-1000000000)])) st2 := rfl
      obtain ⟨x, hx, ex⟩ := atI_mem (xs := [PyData.int 0, .int 1, .int 2, .int (-1), .int 3, .int (q - 10), .int 1000000000, .int (-1000000000)]) u0 (by simpa using u1)
      have ix := ix_list ex st3
      obtain ⟨v, rfl, wv⟩ : ∃ v : Int, x = .int v ∧ Wd v := by
        simp only [List.mem_cons, List.not_mem_nil, or_false] at hx
        rcases hx with h | h | h | h | h | h | h | h <;> exact ⟨_, h, by constructor <;> omega⟩
      have g := giveD_same nn.len (.int v)
      refine ⟨.lit v, st3, ?_, wv, rfl, nn⟩
      have ca : (mAnd (mT (vr 2)) (mT (m2 dLt (vr 3) (ct (.dat (.int 3))))) [some (.loc n), some (.dat (.int w)), some (.dat (.bool true)), some (.dat (.int r))] st1) = .ok false st1 := by simp [c1]
      have cb : (mAnd (mT (m2 dGt (vr 1) (ct (.dat (.int 0))))) (mT (m2 dLt (vr 3) (ct (.dat (.int 6))))) [some (.loc n), some (.dat (.int w)), some (.dat (.bool true)), some (.dat (.int r))] st1) = .ok false st1 := by
        by_cases z : 0 < w
        · have : ¬ r < 6 := fun y => c2 ⟨by omega, y⟩
          simp [z, this]
        · simp [z]
      simp only [F__law_leaf, b__law_leaf, run3, startE_ap, List.map_cons, List.map_nil, List.length_cons, List.length_nil, List.replicate, List.cons_append, List.nil_append, sSeq_ap, sSet_ap, mC_ap, aCons_ap, aNil_ap, vr_zero, vr_succ, ct_ap, then_ok, bind_ap, pure_ap, e1, thenS_ok, List.set_cons_succ, List.set_cons_zero, sthen_nx, sIf_ap, ca, cb, ite_sm, Bool.false_eq_true, if_false, sNil_ap, sRet_ap, m2_ap, m1_ap, dNeg_ap, ten9, e2, dSub_ap, mk, e3, ix, fin_rt, g, Ex.enc]
theorem word_ok {st : Sto} {n m : Nat} (S : SackAt st n m) (hm : m ≤ 900000) : ∃ (v : Int) (st' : Sto), F__law_word [.loc n] st = .ok (.dat (.int v)) st' ∧ Wd v ∧ Dn n (m + 2) st st' := by
  obtain ⟨r, st1, e1, r0, r1, n1⟩ := drw S (many := 5) (by decide) (by decide) (by omega)
  by_cases c1 : r < 3
  · obtain ⟨q, st2, e2, q0, q1, n2⟩ := drw n1.sack (many := 9) (by decide) (by decide) (by omega)
    have g := giveD_same (n1.trans n2).len (.int (q - 4))
    exact ⟨q - 4, st2, by simp [F__law_word, b__law_word, e1, c1, e2, g], by constructor <;> omega, n1.trans n2⟩
  · by_cases c2 : r = 3
    · obtain ⟨q, st2, e2, q0, q1, n2⟩ := drw n1.sack (many := 4) (by decide) (by decide) (by omega)
      have mk : mkLst [.dat (.int 1000000000), .dat (.int (-1000000000)), .dat (.int 40000), .dat (.int (-40000))] st1 = .ok (.dat (.list [.int 1000000000, .int (-1000000000), .int 40000, .int (-40000)])) st1 := rfl
      obtain ⟨x, hx, ex⟩ := atI_mem (xs := [PyData.int 1000000000, .int (-1000000000), .int 40000, .int (-40000)]) q0 (by simpa using q1)
      have ix := ix_list ex st2
      obtain ⟨v, rfl, wv⟩ : ∃ v : Int, x = .int v ∧ Wd v := by
        simp only [List.mem_cons, List.not_mem_nil, or_false] at hx
        rcases hx with h | h | h | h <;> exact ⟨_, h, by constructor <;> omega⟩
      have g := giveD_same (n1.trans n2).len (.int v)
      refine ⟨v, st2, ?_, wv, n1.trans n2⟩
      subst c2
      have d3 : dEq (.dat (.int 3)) (.dat (.int 3)) st1 = .ok (.dat (.bool true)) st1 := rfl
      have l3 : decide ((3 : Int) < 3) = false := by decide
      simp only [F__law_word, b__law_word, run1, startE_ap, List.map_cons, List.map_nil, List.length_cons, List.length_nil, List.replicate, List.cons_append, List.nil_append, sSeq_ap, sSet_ap, mC_ap, aCons_ap, aNil_ap, vr_zero, vr_succ, ct_ap, then_ok, bind_ap, pure_ap, e1, thenS_ok, List.set_cons_succ, List.set_cons_zero, sthen_nx, sIf_ap, mT_ap, m2_ap, m1_ap, dLt_ap, l3, asB_ap, ite_sm, Bool.false_eq_true, if_false, sNil_ap, d3, if_true, sRet_ap, dNeg_ap, ten9, dSub_ap, mk, e2, ix, sthen_rt, fin_rt, g]
    · obtain ⟨q, st2, e2, q0, q1, n2⟩ := drw n1.sack (many := 2000000001) (by decide) (by decide) (by omega)
      have g := giveD_same (n1.trans n2).len (.int (q - 1000000000))
      have mu : dMul (.dat (.int 2)) (.dat (.int 1000000000)) st1 = .ok (.dat (.int (2 * 1000000000))) st1 := dMul_ap st1 2 1000000000 ⟨wide64 (by decide) (by decide), wide64 (by decide) (by decide)⟩
      exact ⟨q - 1000000000, st2, by simp [F__law_word, b__law_word, e1, c1, dEq_int, c2, ten9, mu, e2, g], by constructor <;> omega, n1.trans n2⟩
def opsW : List PyData := [.str "plus", .str "minus", .str "times", .str "over", .str "rest", .str "less", .str "same", .str "plus", .str "less", .str "rest"]
theorem ops_nm {x : PyData} (h : x ∈ opsW) : ∃ o : Op, x = .str o.nm := by
  simp only [opsW, List.mem_cons, List.not_mem_nil, or_false] at h
  rcases h with h | h | h | h | h | h | h | h | h | h <;> rw [h]
  · exact ⟨.plus, rfl⟩
  · exact ⟨.minus, rfl⟩
  · exact ⟨.times, rfl⟩
  · exact ⟨.over, rfl⟩
  · exact ⟨.rest, rfl⟩
  · exact ⟨.less, rfl⟩
  · exact ⟨.same, rfl⟩
  · exact ⟨.plus, rfl⟩
  · exact ⟨.less, rfl⟩
  · exact ⟨.rest, rfl⟩
theorem tree_ok (n : Nat) {w : Nat} (w1 : w ≤ 10) : ∀ (k d m : Nat) (st : Sto), d < k → SackAt st n m → m + 7 * 2 ^ d ≤ 900000 →
    ∃ (e : Ex) (st' : Sto), recB giveD 6 4 b__law_expr k [.loc n, .dat (.int w), .dat (.int d), .dat (.bool true)] st = .ok (.dat e.enc) st' ∧ e.good w ∧ e.dep ≤ d ∧ Dn n (m + (7 * 2 ^ d - 3)) st st' := by
  intro k
  induction k with
  | zero => intro d m st h; omega
  | succ k ih =>
    intro d m st hk S hm
    have p1 : 1 ≤ 2 ^ d := Nat.one_le_two_pow
    cases d with
    | zero =>
      obtain ⟨e, st1, e1, g1, d1, n1⟩ := leaf_ok S (by omega) w1
      have g := giveD_same n1.len e.enc
      exact ⟨e, st1, by simp [recB, b__law_expr, e1, g], g1, by omega, n1.mono (by omega)⟩
    | succ d =>
      have p2 : 2 ^ (d + 1) = 2 * 2 ^ d := by rw [Nat.pow_succ]; omega
      have p3 : 1 ≤ 2 ^ d := Nat.one_le_two_pow
      have c0 : ¬ (((d + 1 : Nat) : Int) < 1) := by omega
      have dd : ((d + 1 : Nat) : Int) - 1 = (d : Int) := by omega
      obtain ⟨r, st1, e1, r0, r1, n1⟩ := drw S (many := 3) (by decide) (by decide) (by omega)
      have l0 : decide (((d + 1 : Nat) : Int) < 1) = false := decide_eq_false c0
      by_cases cr : r = 0
      · obtain ⟨e, st2, e2, g1, d1, n2⟩ := leaf_ok n1.sack (by omega) w1
        have g := giveD_same (n1.trans n2).len e.enc
        have er : (r == 0) = true := by rw [cr]; rfl
        refine ⟨e, st2, ?_, g1, by omega, (n1.trans n2).mono (by omega)⟩
        simp only [recB, b__law_expr, run4, startE_ap, List.map_cons, List.map_nil, List.length_cons, List.length_nil, List.replicate, List.cons_append, List.nil_append, sSeq_ap, sIf_ap, mOr_ap, mT_ap, m2_ap, vr_zero, vr_succ, ct_ap, then_ok, bind_ap, pure_ap, dLt_ap, l0, asB_ap, Bool.false_eq_true, if_false, if_true, ite_em, mC_ap, aCons_ap, aNil_ap, e1, dEq_int, er, thenS_ok, ite_sm, sRet_ap, e2, sthen_rt, fin_rt, g]
      · obtain ⟨q, st2, e2, q0, q1, n2⟩ := drw n1.sack (many := 10) (by decide) (by decide) (by omega)
        obtain ⟨x, hx, ex⟩ := atI_mem (xs := opsW) q0 (by simpa [opsW] using q1)
        obtain ⟨o, rfl⟩ := ops_nm hx
        have ix := ix_list ex st2
        obtain ⟨a, st3, e3, ga, da, n3⟩ := ih d (m + 1 + 1) st2 (by omega) n2.sack (by omega)
        have mk : mkLst [.dat (.str "plus"), .dat (.str "minus"), .dat (.str "times"), .dat (.str "over"), .dat (.str "rest"), .dat (.str "less"), .dat (.str "same"), .dat (.str "plus"), .dat (.str "less"), .dat (.str "rest")] st1 = .ok (.dat (.list opsW)) st1 := rfl
        have mt2 : mkTup [.dat (.str "over"), .dat (.str "rest")] st3 = .ok (.dat (.tuple [.str "over", .str "rest"])) st3 := rfl
        have iv := in_dv o st3
        have er : (r == 0) = false := beq_eq_false_iff_ne.mpr cr
        -- the rest of it, when the second part is drawn
        have go : ∀ (st4 : Sto) (mm : Nat), Dn n mm st3 st4 → mm ≤ m + 1 + 1 + (7 * 2 ^ d - 3) + 1 →
            (mAnd (mT (m2 dIn (vr 4) (mC mkTup (aCons (ct (.dat (.str "over"))) (aCons (ct (.dat (.str "rest"))) aNil))))) (mT (m2 dGt (mC F__law_draw (aCons (vr 0) (aCons (ct (.dat (.int 5))) aNil))) (ct (.dat (.int 0)))))) [some (.loc n), some (.dat (.int w)), some (.dat (.int ((d + 1 : Nat) : Int))), some (.dat (.bool true)), some (.dat (.str o.nm)), some (.dat a.enc)] st3 = .ok false st4 →
            ∃ (e : Ex) (st' : Sto), recB giveD 6 4 b__law_expr (k + 1) [.loc n, .dat (.int w), .dat (.int ((d + 1 : Nat) : Int)), .dat (.bool true)] st = .ok (.dat e.enc) st' ∧ e.good w ∧ e.dep ≤ d + 1 ∧ Dn n (m + (7 * 2 ^ (d + 1) - 3)) st st' := fun st4 mm n4 hmm c => by
          obtain ⟨b, st5, e5, gb, db, n5⟩ := ih d mm st4 (by omega) n4.sack (by omega)
          have nn := (((n1.trans n2).trans n3).trans n4).trans n5
          have g := giveD_same nn.len (Ex.op o a b).enc
          have mt : mkTup [.dat (.str o.nm), .dat a.enc, .dat b.enc] st5 = .ok (.dat (Ex.op o a b).enc) st5 := rfl
          refine ⟨.op o a b, st5, ?_, ⟨ga, gb⟩, by show max a.dep b.dep + 1 ≤ _; omega, nn.mono (by omega)⟩
          simp only [recB, b__law_expr, run4, startE_ap, List.map_cons, List.map_nil, List.length_cons, List.length_nil, List.replicate, List.cons_append, List.nil_append, sSeq_ap, sIf_ap, mOr_ap, mT_ap, m2_ap, vr_zero, vr_succ, ct_ap, then_ok, bind_ap, pure_ap, dLt_ap, l0, asB_ap, Bool.false_eq_true, if_false, ite_em, mC_ap, aCons_ap, aNil_ap, e1, dEq_int, er, thenS_ok, ite_sm, sNil_ap, sthen_nx, sSet_ap, mk, List.set_cons_succ, List.set_cons_zero, e2, ix, dSub_ap, dd, e3]
          rw [c]
          simp only [thenS_ok, ite_sm, Bool.false_eq_true, if_false, sNil_ap, sthen_nx, sRet_ap, mC_ap, aCons_ap, aNil_ap, vr_zero, vr_succ, then_ok, bind_ap, pure_ap, m2_ap, ct_ap, dSub_ap, dd, e5, mt, fin_rt, g]
        cases ov : o.dv with
        | false =>
          refine go st3 (m + 1 + 1 + (7 * 2 ^ d - 3)) (Dn.rf n3.sack) (by omega) ?_
          simp [mt2, iv, ov]
        | true =>
          obtain ⟨u, st4, e4, u0, u1, n4⟩ := drw n3.sack (many := 5) (by decide) (by decide) (by omega)
          by_cases cu : 0 < u
          · obtain ⟨y, st5, e5, y0, y1, n5⟩ := drw n4.sack (many := 5) (by decide) (by decide) (by omega)
            obtain ⟨z, hz, ez⟩ := atI_mem (xs := [PyData.int 1, .int 2, .int 3, .int (-2), .int 7]) y0 (by simpa using y1)
            obtain ⟨v, rfl, wv⟩ : ∃ v : Int, z = .int v ∧ Wd v := by
              simp only [List.mem_cons, List.not_mem_nil, or_false] at hz
              rcases hz with h | h | h | h | h <;> exact ⟨_, h, by constructor <;> omega⟩
            have nn := (((n1.trans n2).trans n3).trans n4).trans n5
            have g := giveD_same nn.len (Ex.op o a (.lit v)).enc
            have mt : mkTup [.dat (.str o.nm), .dat a.enc, .dat (.int v)] st5 = .ok (.dat (Ex.op o a (.lit v)).enc) st5 := rfl
            have mk5 : mkLst [.dat (.int 1), .dat (.int 2), .dat (.int 3), .dat (.int (-2)), .dat (.int 7)] st4 = .ok (.dat (.list [.int 1, .int 2, .int 3, .int (-2), .int 7])) st4 := rfl
            have iz := ix_list ez st5
            refine ⟨.op o a (.lit v), st5, ?_, ⟨ga, wv⟩, by show max a.dep 0 + 1 ≤ _; omega, nn.mono (by omega)⟩
            have gu : decide (u > 0) = true := decide_eq_true cu
            simp only [recB, b__law_expr, run4, startE_ap, List.map_cons, List.map_nil, List.length_cons, List.length_nil, List.replicate, List.cons_append, List.nil_append, sSeq_ap, sIf_ap, mOr_ap, mT_ap, m2_ap, m1_ap, vr_zero, vr_succ, ct_ap, then_ok, bind_ap, pure_ap, dLt_ap, l0, asB_ap, Bool.false_eq_true, if_false, if_true, ite_em, mC_ap, aCons_ap, aNil_ap, e1, dEq_int, er, thenS_ok, ite_sm, sNil_ap, sthen_nx, sSet_ap, mk, List.set_cons_succ, List.set_cons_zero, e2, ix, dSub_ap, dd, e3, mAnd_ap, mt2, iv, ov, e4, dGt_ap, gu, dNeg_ap, mk5, e5, iz, sRet_ap, mt, sthen_rt, fin_rt, g]
          · refine go st4 _ n4 (by omega) ?_
            have gu : decide (u > 0) = false := decide_eq_false cu
            simp [mt2, iv, ov, e4, gu]
end K04
set_option Elab.async false
set_option linter.all false
set_option maxRecDepth 100000
set_option maxHeartbeats 2000000
set_option exponentiation.threshold 5000
namespace K04
open PySem PySem.Spec PyProof.Rows L2 Ev
open Classical
/-- a leaf: a column, or what was -/
def lenc : Option Nat → PyData
  | some n => .tuple [.str "at", .int n]
  | none => .tuple [.str "was"]
def Ex.is (l : Option Nat) : Ex → Bool
  | .at_ k => l == some k
  | .was => l == none
  | _ => false
def Ex.hasL (l : Option Nat) : Ex → Bool
  | .op _ a b => a.hasL l || b.hasL l
  | .lit i => false
  | .at_ k => l == some k
  | .was => l == none
def Ex.putL (l : Option Nat) : Ex → Ex → Ex
  | .op o a b, x => .op o (a.putL l x) (b.putL l x)
  | .lit i, _ => .lit i
  | .at_ k, x => if l == some k then x else .at_ k
  | .was, x => if l == none then x else .was
def Ex.turn (t : List Nat) : Ex → Ex
  | .op o a b => .op o (a.turn t) (b.turn t)
  | .lit i => .lit i
  | .at_ k => .at_ (t.getD k 0)
  | .was => .was
def Ex.lits : Ex → List Int
  | .op _ a b => a.lits ++ b.lits
  | .lit i => [i]
  | _ => []
def Ex.bare (c : Nat) : Ex → Ex
  | .op o a b => .op o (a.bare c) (b.bare (c + a.lits.length))
  | .lit _ => .at_ c
  | .at_ k => .at_ k
  | .was => .was
theorem nm_ok (o : Op) : PyData.strOk o.nm = true := by cases o <;> decide +kernel
theorem lay_ok : ∀ e : Ex, e.enc.canLay0 = true
  | .lit _ => rfl
  | .at_ k => by
    show (PyData.strOk "at" && (true && true)) = true
    decide +kernel
  | .was => by
    show (PyData.strOk "was" && true) = true
    decide +kernel
  | .op o a b => by
    show (PyData.strOk o.nm && (a.enc.canLay0 && (b.enc.canLay0 && true))) = true
    rw [nm_ok, lay_ok a, lay_ok b] <;> rfl
theorem depth_ok : ∀ e : Ex, e.enc.depth ≤ e.dep + 1
  | .lit _ => by show 0 ≤ _; omega
  | .at_ k => by show 0 + 1 ≤ 0 + 1; omega
  | .was => by show 0 + 1 ≤ 0 + 1; omega
  | .op o a b => by
    have h1 := depth_ok a
    have h2 := depth_ok b
    show max 0 (max a.enc.depth (max b.enc.depth 0)) + 1 ≤ max a.dep b.dep + 1 + 1
    omega
theorem shp {e : Ex} (h : e.dep ≤ 60) : SeqAt.shaped e.enc = true := by
  unfold SeqAt.shaped
  rw [lay_ok, decide_eq_true (by have := depth_ok e; omega)] <;> rfl
theorem lenc_ex (l : Option Nat) : ∃ e : Ex, e.enc = lenc l ∧ e.dep = 0 := by
  cases l with
  | none => exact ⟨.was, rfl, rfl⟩
  | some n => exact ⟨.at_ n, rfl, rfl⟩
theorem eqD_tup (x : PyData) (ys : List PyData) (st : Sto) (h1 : SeqAt.shaped x = true) (h2 : SeqAt.shaped (.tuple ys) = true) : dEq (.dat x) (.dat (.tuple ys)) st = .ok (.dat (.bool (PyData.eqv x (.tuple ys)))) st := by
  have e : eqD x (.tuple ys) = if SeqAt.shaped x = true ∧ SeqAt.shaped (.tuple ys) = true then retB (PyData.eqv x (.tuple ys)) else if lenDiff x (.tuple ys) = true then retB false else M.bad := by cases x <;> rfl
  show eqD x (.tuple ys) st = _
  rw [e, if_pos ⟨h1, h2⟩]
  rfl
theorem neD_tup (x : PyData) (ys : List PyData) (st : Sto) (h1 : SeqAt.shaped x = true) (h2 : SeqAt.shaped (.tuple ys) = true) : dNe (.dat x) (.dat (.tuple ys)) st = .ok (.dat (.bool (!PyData.eqv x (.tuple ys)))) st := by
  show notM (eqD x (.tuple ys)) st = _
  have e : eqD x (.tuple ys) st = .ok (.dat (.bool (PyData.eqv x (.tuple ys)))) st := eqD_tup x ys st h1 h2
  rw [notM_ap, e] <;> rfl
theorem at_was : (("at" : Str) == "was") = false := by decide +kernel
theorem was_at : (("was" : Str) == "at") = false := by decide +kernel
theorem is_eqv (l : Option Nat) (e : Ex) : PyData.eqv e.enc (lenc l) = e.is l := by
  cases l with
  | none =>
    cases e with
    | lit i => rfl
    | at_ k =>
      show ((("at" : Str) == "was") && PyData.eqvAll [.int (k : Int)] []) = _
      rw [at_was] <;> rfl
    | was =>
      show ((("was" : Str) == "was") && true) = true
      decide +kernel
    | op o a b =>
      show ((o.nm == "was") && false) = false
      rw [Bool.and_false]
  | some n =>
    cases e with
    | lit i => rfl
    | at_ k =>
      show ((("at" : Str) == "at") && (((k : Int) == (n : Int)) && true)) = (some n == some k)
      rw [show (("at" : Str) == "at") = true by decide +kernel, Bool.true_and, Bool.and_true]
      by_cases h : k = n
      · subst h; simp
      · have h1 : ((k : Int) == (n : Int)) = false := beq_eq_false_iff_ne.mpr (by omega)
        have h2 : (some n == some k) = false := beq_eq_false_iff_ne.mpr (fun z => h (Option.some.inj z).symm)
        rw [h1, h2]
    | was =>
      show ((("was" : Str) == "at") && false) = false
      rw [Bool.and_false]
    | op o a b =>
      show ((o.nm == "at") && (PyData.eqv a.enc (.int (n : Int)) && false)) = false
      rw [Bool.and_false, Bool.and_false]
theorem eq_leaf (l : Option Nat) {e : Ex} (h : e.dep ≤ 60) (st : Sto) : dEq (.dat e.enc) (.dat (lenc l)) st = .ok (.dat (.bool (e.is l))) st := by
  obtain ⟨x, ex, dx⟩ := lenc_ex l
  have s1 := shp h
  have s2 := shp (e := x) (by omega)
  rw [ex] at s2
  rw [← is_eqv]
  cases l <;> exact eqD_tup _ _ st s1 s2
theorem has_eq (l : Option Nat) : ∀ (k : Nat) (e : Ex) (st : Sto), e.dep < k → e.dep ≤ 60 → recB giveD 2 2 b__law_has k [.dat e.enc, .dat (lenc l)] st = .ok (.dat (.bool (e.hasL l))) st := by
  intro k
  induction k with
  | zero => intro e st h; omega
  | succ k ih =>
    intro e st hk h60
    have q := eq_leaf l h60 st
    cases e with
    | lit i => simp [Ex.is, Ex.enc] at q; simp [recB, b__law_has, Ex.enc, q, Ex.hasL]
    | at_ j =>
      simp only [Ex.is, Ex.enc] at q
      cases c : (l == some j) <;> rw [c] at q <;> simp [recB, b__law_has, Ex.enc, q, Ex.hasL, c, dEq_int]
    | was =>
      simp only [Ex.is, Ex.enc] at q
      cases c : (l == none) <;> rw [c] at q <;> simp [recB, b__law_has, Ex.enc, q, Ex.hasL, c, dEq_int]
    | op o a b =>
      have hd : max a.dep b.dep + 1 < k + 1 := hk
      have hd2 : max a.dep b.dep + 1 ≤ 60 := h60
      have i1 : dIx (.dat (.tuple [.str o.nm, a.enc, b.enc])) (.dat (.int 1)) st = .ok (.dat a.enc) st := ix_tuple (by rfl) st
      have i2 : dIx (.dat (.tuple [.str o.nm, a.enc, b.enc])) (.dat (.int 2)) st = .ok (.dat b.enc) st := ix_tuple (by rfl) st
      have f1 := ih a st (by omega) (by omega)
      have f2 := ih b st (by omega) (by omega)
      simp only [Ex.is, Ex.enc] at q
      cases c : a.hasL l <;> rw [c] at f1 <;> simp [recB, b__law_has, Ex.enc, q, Ex.hasL, c, dEq_int, i1, i2, f1, f2]
theorem put_eq (l : Option Nat) (x : Ex) : ∀ (k : Nat) (e : Ex) (st : Sto), e.dep < k → e.dep ≤ 60 → recB giveD 3 3 b__law_put k [.dat e.enc, .dat (lenc l), .dat x.enc] st = .ok (.dat (e.putL l x).enc) st := by
  intro k
  induction k with
  | zero => intro e st h; omega
  | succ k ih =>
    intro e st hk h60
    have q := eq_leaf l h60 st
    cases e with
    | lit i => simp [Ex.is, Ex.enc] at q; simp [recB, b__law_put, Ex.enc, q, Ex.putL]
    | at_ j =>
      simp only [Ex.is, Ex.enc] at q
      cases c : (l == some j) <;> rw [c] at q <;> simp [recB, b__law_put, Ex.enc, q, Ex.putL, c, dEq_int]
    | was =>
      simp only [Ex.is, Ex.enc] at q
      cases c : (l == none) <;> rw [c] at q <;> simp [recB, b__law_put, Ex.enc, q, Ex.putL, c, dEq_int]
    | op o a b =>
      have hd : max a.dep b.dep + 1 < k + 1 := hk
      have hd2 : max a.dep b.dep + 1 ≤ 60 := h60
      have i0 : dIx (.dat (.tuple [.str o.nm, a.enc, b.enc])) (.dat (.int 0)) st = .ok (.dat (.str o.nm)) st := ix_tuple (by rfl) st
      have i1 : dIx (.dat (.tuple [.str o.nm, a.enc, b.enc])) (.dat (.int 1)) st = .ok (.dat a.enc) st := ix_tuple (by rfl) st
      have i2 : dIx (.dat (.tuple [.str o.nm, a.enc, b.enc])) (.dat (.int 2)) st = .ok (.dat b.enc) st := ix_tuple (by rfl) st
      have f1 := ih a st (by omega) (by omega)
      have f2 := ih b st (by omega) (by omega)
      have mk : mkTup [.dat (.str o.nm), .dat (a.putL l x).enc, .dat (b.putL l x).enc] st = .ok (.dat (.tuple [.str o.nm, (a.putL l x).enc, (b.putL l x).enc])) st := rfl
      simp only [Ex.is, Ex.enc] at q
      simp [recB, b__law_put, Ex.enc, q, Ex.putL, dEq_int, i0, i1, i2, f1, f2, mk]
theorem turned_eq (t : List Nat) : ∀ (k : Nat) (e : Ex) (st : Sto), e.dep < k → e.good t.length → recB giveD 2 2 b__law_turned k [.dat e.enc, .dat (.list (t.map fun i : Nat => PyData.int (i : Int)))] st = .ok (.dat (e.turn t).enc) st := by
  intro k
  induction k with
  | zero => intro e st h; omega
  | succ k ih =>
    intro e st hk hg
    cases e with
    | lit i => simp [recB, b__law_turned, Ex.enc, Ex.turn]
    | at_ j =>
      have hj : j < t.length := hg
      have i0 : dIx (.dat (.tuple [.str "at", .int j])) (.dat (.int 0)) st = .ok (.dat (.str "at")) st := ix_tuple (by rfl) st
      have i1 : dIx (.dat (.tuple [.str "at", .int j])) (.dat (.int 1)) st = .ok (.dat (.int j)) st := ix_tuple (by rfl) st
      have it : dIx (.dat (.list (t.map fun i : Nat => PyData.int (i : Int)))) (.dat (.int j)) st = .ok (.dat (.int ((t.getD j 0 : Nat) : Int))) st := by
        refine ix_list (Ev.atI_nat ?_) st
        rw [List.getElem?_map, List.getElem?_eq_getElem hj, List.getD_eq_getElem?_getD, List.getElem?_eq_getElem hj]
        rfl
      have mk : ∀ z : Int, mkTup [.dat (.str "at"), .dat (.int z)] st = .ok (.dat (.tuple [.str "at", .int z])) st := fun _ => rfl
      simp [recB, b__law_turned, Ex.enc, Ex.turn, i0, i1, it, mk]
    | was =>
      have i0 : dIx (.dat (.tuple [.str "was"])) (.dat (.int 0)) st = .ok (.dat (.str "was")) st := ix_tuple (by rfl) st
      have ne : ¬ (("was" : Str) = "at") := by decide +kernel
      simp [recB, b__law_turned, Ex.enc, Ex.turn, i0, ne, dEq_int]
    | op o a b =>
      have hd : max a.dep b.dep + 1 < k + 1 := hk
      have i0 : dIx (.dat (.tuple [.str o.nm, a.enc, b.enc])) (.dat (.int 0)) st = .ok (.dat (.str o.nm)) st := ix_tuple (by rfl) st
      have i1 : dIx (.dat (.tuple [.str o.nm, a.enc, b.enc])) (.dat (.int 1)) st = .ok (.dat a.enc) st := ix_tuple (by rfl) st
      have i2 : dIx (.dat (.tuple [.str o.nm, a.enc, b.enc])) (.dat (.int 2)) st = .ok (.dat b.enc) st := ix_tuple (by rfl) st
      have f1 := ih a st (by omega) hg.1
      have f2 := ih b st (by omega) hg.2
      have mk : mkTup [.dat (.str o.nm), .dat (a.turn t).enc, .dat (b.turn t).enc] st = .ok (.dat (.tuple [.str o.nm, (a.turn t).enc, (b.turn t).enc])) st := rfl
      simp [recB, b__law_turned, Ex.enc, Ex.turn, dEq_int, i0, i1, i2, f1, f2, mk, np_at]
end K04
set_option Elab.async false
set_option linter.all false
set_option maxRecDepth 100000
set_option maxHeartbeats 2000000
set_option exponentiation.threshold 5000
namespace K04
open PySem PySem.Spec PyProof.Rows L2 Ev
open Classical
def opv (o : Op) (p q : Except Bool Int) : Except Bool Int := match p with
  | .error e => .error e
  | .ok y => match q with
    | .error e => .error e
    | .ok z => o.ap y z
theorem getD_app_lt {r : List Int} {v : Int} {k : Nat} (h : k < r.length) : (r ++ [v]).getD k 0 = r.getD k 0 := by
  rw [List.getD_eq_getElem?_getD, List.getD_eq_getElem?_getD, List.getElem?_append_left h]
theorem getD_app_eq {r : List Int} {v : Int} : (r ++ [v]).getD r.length 0 = v := by
  rw [List.getD_eq_getElem?_getD, List.getElem?_append_right (Nat.le_refl _), Nat.sub_self] <;> rfl
/-- another one in the place of a column: its worth there -/
theorem val_put {r : List Int} {w v : Int} {x : Ex} (hx : x.val r w = .ok v) : ∀ e : Ex, e.good (r.length + 1) → (e.putL (some r.length) x).val r w = e.val (r ++ [v]) w
  | .lit _, _ => rfl
  | .at_ k, g => by
    have hk : k < r.length + 1 := g
    unfold Ex.putL
    by_cases h : k = r.length
    · subst h
      rw [if_pos (by simp), hx]
      show _ = Except.ok ((r ++ [v]).getD r.length 0)
      rw [getD_app_eq]
    · rw [if_neg (by simp; omega)]
      show Except.ok (r.getD k 0) = Except.ok ((r ++ [v]).getD k 0)
      rw [getD_app_lt (by omega)]
  | .was, _ => rfl
  | .op o a b, g => by
    have h1 := val_put hx a g.1
    have h2 := val_put hx b g.2
    show opv o ((a.putL (some r.length) x).val r w) ((b.putL (some r.length) x).val r w) = _
    rw [h1, h2] <;> rfl
/-- where it falls, so does what has it -/
theorem val_fall {r : List Int} {w : Int} {x : Ex} {q : Bool} {l : Option Nat} (hx : x.val r w = .error q) : ∀ e : Ex, e.hasL l = true → ∃ q', (e.putL l x).val r w = .error q'
  | .lit _, h => by cases h
  | .at_ k, h => by
    have h' : (l == some k) = true := h
    unfold Ex.putL
    rw [if_pos h']
    exact ⟨q, hx⟩
  | .was, h => by
    have h' : (l == none) = true := h
    unfold Ex.putL
    rw [if_pos h']
    exact ⟨q, hx⟩
  | .op o a b, h => by
    have h' : (a.hasL l || b.hasL l) = true := h
    show ∃ q', opv o ((a.putL l x).val r w) ((b.putL l x).val r w) = .error q'
    cases ea : (a.putL l x).val r w with
    | error q1 => exact ⟨q1, rfl⟩
    | ok y =>
      cases eb : (b.putL l x).val r w with
      | error q1 => exact ⟨q1, rfl⟩
      | ok z =>
        rcases Bool.or_eq_true_iff.mp h' with h1 | h1
        · obtain ⟨q1, h2⟩ := val_fall hx a h1
          rw [ea] at h2
          cases h2
        · obtain ⟨q1, h2⟩ := val_fall hx b h1
          rw [eb] at h2
          cases h2
/-- where it is nowhere, nothing is put -/
theorem put_none {l : Option Nat} {x : Ex} : ∀ e : Ex, e.hasL l = false → e.putL l x = e
  | .lit _, _ => rfl
  | .at_ k, h => by
    have h' : (l == some k) = false := h
    unfold Ex.putL
    rw [if_neg (by rw [h']; exact Bool.false_ne_true)]
  | .was, h => by
    have h' : (l == none) = false := h
    unfold Ex.putL
    rw [if_neg (by rw [h']; exact Bool.false_ne_true)]
  | .op o a b, h => by
    have h' : (a.hasL l || b.hasL l) = false := h
    rw [Bool.or_eq_false_iff] at h'
    show Ex.op o (a.putL l x) (b.putL l x) = _
    rw [put_none a h'.1, put_none b h'.2]
theorem val_more {r : List Int} {w v : Int} : ∀ e : Ex, e.good (r.length + 1) → e.hasL (some r.length) = false → e.good r.length ∧ e.val (r ++ [v]) w = e.val r w
  | .lit _, g, _ => ⟨g, rfl⟩
  | .at_ k, g, h => by
    have hk : k < r.length + 1 := g
    have h' : (some r.length == some k) = false := h
    have hn : k < r.length := by
      rcases Nat.lt_or_ge k r.length with z | z
      · exact z
      · have : k = r.length := by omega
        rw [this] at h'
        simp at h'
    refine ⟨hn, ?_⟩
    show Except.ok ((r ++ [v]).getD k 0) = Except.ok (r.getD k 0)
    rw [getD_app_lt hn]
  | .was, g, _ => ⟨g, rfl⟩
  | .op o a b, g, h => by
    have h' : (a.hasL (some r.length) || b.hasL (some r.length)) = false := h
    rw [Bool.or_eq_false_iff] at h'
    obtain ⟨a1, a2⟩ := val_more (v := v) (w := w) a g.1 h'.1
    obtain ⟨b1, b2⟩ := val_more (v := v) (w := w) b g.2 h'.2
    refine ⟨⟨a1, b1⟩, ?_⟩
    show opv o (a.val (r ++ [v]) w) (b.val (r ++ [v]) w) = _
    rw [a2, b2] <;> rfl
theorem put_good {n : Nat} {x : Ex} (hx : x.good n) : ∀ e : Ex, e.good (n + 1) → (e.putL (some n) x).good n
  | .lit _, g => g
  | .at_ k, g => by
    have hk : k < n + 1 := g
    unfold Ex.putL
    by_cases h : k = n
    · subst h
      rw [if_pos (by simp)]
      exact hx
    · rw [if_neg (by simp; omega)]
      show k < n
      omega
  | .was, _ => trivial
  | .op o a b, g => ⟨put_good hx a g.1, put_good hx b g.2⟩
theorem put_dep {l : Option Nat} {x : Ex} : ∀ e : Ex, (e.putL l x).dep ≤ e.dep + x.dep
  | .lit _ => by show 0 ≤ _; omega
  | .at_ k => by
    unfold Ex.putL
    split
    · show _ ≤ 0 + _; omega
    · show 0 ≤ _; omega
  | .was => by
    unfold Ex.putL
    split
    · show _ ≤ 0 + _; omega
    · show 0 ≤ _; omega
  | .op o a b => by
    have h1 := put_dep (l := l) (x := x) a
    have h2 := put_dep (l := l) (x := x) b
    show max (a.putL l x).dep (b.putL l x).dep + 1 ≤ max a.dep b.dep + 1 + x.dep
    omega
/-- what was, as a word -/
theorem val_was {r : List Int} {w w' : Int} : ∀ e : Ex, (e.putL none (.lit w)).val r w' = e.val r w
  | .lit _ => rfl
  | .at_ _ => rfl
  | .was => rfl
  | .op o a b => by
    have h1 := val_was (r := r) (w := w) (w' := w') a
    have h2 := val_was (r := r) (w := w) (w' := w') b
    show opv o ((a.putL none (.lit w)).val r w') ((b.putL none (.lit w)).val r w') = _
    rw [h1, h2] <;> rfl
theorem was_good {n : Nat} {w : Int} (hw : Wd w) : ∀ e : Ex, e.good n → (e.putL none (.lit w)).good n
  | .lit _, g => g
  | .at_ _, g => g
  | .was, _ => hw
  | .op o a b, g => ⟨was_good hw a g.1, was_good hw b g.2⟩
/-- columns in another order -/
theorem val_turn {r t : List Int} {w : Int} {q : List Nat} (h : ∀ k < r.length, t.getD (q.getD k 0) 0 = r.getD k 0) : ∀ e : Ex, e.good r.length → (e.turn q).val t w = e.val r w
  | .lit _, _ => rfl
  | .at_ k, g => by
    show Except.ok (t.getD (q.getD k 0) 0) = Except.ok (r.getD k 0)
    rw [h k g]
  | .was, _ => rfl
  | .op o a b, g => by
    have h1 := val_turn (w := w) h a g.1
    have h2 := val_turn (w := w) h b g.2
    show opv o ((a.turn q).val t w) ((b.turn q).val t w) = _
    rw [h1, h2] <;> rfl
theorem turn_good {n m : Nat} {q : List Nat} (h : ∀ k < n, q.getD k 0 < m) : ∀ e : Ex, e.good n → (e.turn q).good m
  | .lit _, g => g
  | .at_ k, g => h k g
  | .was, _ => trivial
  | .op o a b, g => ⟨turn_good h a g.1, turn_good h b g.2⟩
theorem turn_dep {q : List Nat} : ∀ e : Ex, (e.turn q).dep = e.dep
  | .lit _ => rfl
  | .at_ _ => rfl
  | .was => rfl
  | .op o a b => by
    show max (a.turn q).dep (b.turn q).dep + 1 = max a.dep b.dep + 1
    rw [turn_dep a, turn_dep b]
/-- each word as a column of its own -/
theorem val_bare {r : List Int} {w : Int} : ∀ (e : Ex) (ws zs : List Int), e.good r.length → (∃ us, ws = r ++ us) → (e.bare ws.length).val (ws ++ e.lits ++ zs) w = e.val r w
  | .lit i, ws, zs, _, _ => by
    show Except.ok ((ws ++ [i] ++ zs).getD ws.length 0) = Except.ok i
    rw [List.getD_eq_getElem?_getD, List.append_assoc, List.getElem?_append_right (Nat.le_refl _), Nat.sub_self] <;> rfl
  | .at_ k, ws, zs, g, ⟨us, h⟩ => by
    have hk : k < r.length := g
    show Except.ok ((ws ++ [] ++ zs).getD k 0) = Except.ok (r.getD k 0)
    rw [h, List.append_nil, List.append_assoc, List.getD_eq_getElem?_getD, List.getD_eq_getElem?_getD, List.getElem?_append_left hk]
  | .was, _, _, _, _ => rfl
  | .op o a b, ws, zs, g, ⟨us, h⟩ => by
    have h1 := val_bare (w := w) a ws (b.lits ++ zs) g.1 ⟨us, h⟩
    have h2 := val_bare (w := w) b (ws ++ a.lits) zs g.2 ⟨us ++ a.lits, by rw [h, List.append_assoc]⟩
    rw [List.length_append] at h2
    show opv o ((a.bare ws.length).val (ws ++ (a.lits ++ b.lits) ++ zs) w) ((b.bare (ws.length + a.lits.length)).val (ws ++ (a.lits ++ b.lits) ++ zs) w) = _
    rw [show ws ++ (a.lits ++ b.lits) ++ zs = ws ++ a.lits ++ (b.lits ++ zs) by simp [List.append_assoc], h1, ← List.append_assoc, h2] <;> rfl
theorem bare_good {n : Nat} : ∀ (e : Ex) (c m : Nat), e.good n → n ≤ c → c + e.lits.length ≤ m → (e.bare c).good m
  | .lit i, c, m, _, _, h => by
    have h' : c + 1 ≤ m := h
    show c < m
    omega
  | .at_ k, c, m, g, h1, h2 => by
    have hk : k < n := g
    have h' : c + 0 ≤ m := h2
    show k < m
    omega
  | .was, _, _, _, _, _ => trivial
  | .op o a b, c, m, g, h1, h2 => by
    have h' : c + (a.lits ++ b.lits).length ≤ m := h2
    rw [List.length_append] at h'
    exact ⟨bare_good a c m g.1 h1 (by omega), bare_good b (c + a.lits.length) m g.2 (by omega) (by omega)⟩
theorem bare_dep : ∀ (e : Ex) (c : Nat), (e.bare c).dep = e.dep
  | .lit _, _ => rfl
  | .at_ _, _ => rfl
  | .was, _ => rfl
  | .op o a b, c => by
    show max (a.bare c).dep (b.bare (c + a.lits.length)).dep + 1 = max a.dep b.dep + 1
    rw [bare_dep a, bare_dep b]
theorem lits_wd {n : Nat} : ∀ (e : Ex), e.good n → ∀ i ∈ e.lits, Wd i
  | .lit j, g, i, h => by
    rw [List.mem_singleton.mp h]
    exact g
  | .at_ _, _, i, h => by cases h
  | .was, _, i, h => by cases h
  | .op o a b, g, i, h => by
    rcases List.mem_append.mp h with z | z
    · exact lits_wd a g.1 i z
    · exact lits_wd b g.2 i z
theorem lits_len : ∀ (e : Ex), e.lits.length ≤ 2 ^ e.dep
  | .lit _ => by show 1 ≤ 1; omega
  | .at_ _ => Nat.zero_le _
  | .was => Nat.zero_le _
  | .op o a b => by
    have h1 := lits_len a
    have h2 := lits_len b
    have pa : 2 ^ a.dep ≤ 2 ^ max a.dep b.dep := Nat.pow_le_pow_right (by decide) (Nat.le_max_left _ _)
    have pb : 2 ^ b.dep ≤ 2 ^ max a.dep b.dep := Nat.pow_le_pow_right (by decide) (Nat.le_max_right _ _)
    show (a.lits ++ b.lits).length ≤ 2 ^ (max a.dep b.dep + 1)
    rw [List.length_append, Nat.pow_succ]
    omega
end K04
set_option Elab.async false
set_option linter.all false
set_option maxRecDepth 100000
set_option maxHeartbeats 2000000
set_option exponentiation.threshold 5000
namespace K04
open PySem PySem.Spec PyProof.Rows L2 Ev
open Classical
theorem set_same {st : Sto} {p : Nat} {c : Cell} (h : st[p]? = some c) : st.set p c = st := by
  obtain ⟨hp, e⟩ := List.getElem?_eq_some_iff.mp h
  rw [← e]
  exact List.set_getElem_self hp
theorem dLen_loc {st : Sto} {p : Nat} {xs : List PyData} (h : st[p]? = some (.lst xs)) : dLen (.loc p) st = .ok (.dat (.int xs.length)) st := by
  unfold dLen
  dsimp only
  simp [Ev.dataOf, h, lenD]
theorem bare_eq : ∀ (k : Nat) (e : Ex) (ws : List Int) (st : Sto) (p : Nat), e.dep < k → st[p]? = some (.lst (ws.map PyData.int)) → ws.length + e.lits.length ≤ 1000 →
    recB giveD 2 2 b__law_bare k [.dat e.enc, .loc p] st = .ok (.dat (e.bare ws.length).enc) (st.set p (.lst ((ws ++ e.lits).map PyData.int))) := by
  intro k
  induction k with
  | zero => intro e ws st p h; omega
  | succ k ih =>
    intro e ws st p hk hs hl
    obtain ⟨hp, _⟩ := List.getElem?_eq_some_iff.mp hs
    cases e with
    | lit i =>
      have ap := append_ap (mo := vr 1) (ms := aCons (vr 0) aNil) (ρ := [some (.dat (.int i)), some (.loc p)]) (st := st) (st1 := st) (st2 := st) (y := .int i) rfl hs rfl hs (by rw [List.length_map]; have : ws.length + 1 ≤ 1000 := hl; omega)
      obtain ⟨st2, h2⟩ : ∃ s, s = st.set p (.lst (ws.map PyData.int ++ [.int i])) := ⟨_, rfl⟩
      rw [← h2] at ap
      have l2 : st2[p]? = some (.lst (ws.map PyData.int ++ [.int i])) := by rw [h2, List.getElem?_set_self hp]
      have dl := dLen_loc l2
      have ln : (((ws.map PyData.int ++ [PyData.int i]).length : Nat) : Int) - 1 = (ws.length : Int) := by simp
      have mk : mkTup [.dat (.str "at"), .dat (.int (ws.length : Int))] st2 = .ok (.dat (.tuple [.str "at", .int (ws.length : Int)])) st2 := rfl
      have g := giveD_same (n := st.length) (st := st2) (by rw [h2, List.length_set]) (.tuple [.str "at", .int (ws.length : Int)])
      have fin : st.set p (.lst ((ws ++ (Ex.lit i).lits).map PyData.int)) = st2 := by
        rw [h2]
        simp [Ex.lits]
      have tI : isi (tyOf (.int i)) .int = true := rfl
      rw [fin]
      simp only [recB, b__law_bare, run2, startE_ap, List.map_cons, List.map_nil, List.length_cons, List.length_nil, Nat.reduceAdd, Nat.sub_self, List.replicate, List.cons_append, List.nil_append, Ex.enc, Ex.bare, sSeq_ap, sIf_ap, mT_ap, mC_ap, aCons_ap, aNil_ap, vr_zero, vr_succ, ct_ap, then_ok, bind_ap, pure_ap, on2_ap, dIsi_ap, tI, asB_ap, thenS_ok, ite_sm, if_true, sDrop_ap, ap, sthen_nx, sRet_ap, m2_ap, on1_ap, dl, dSub_ap, ln, mk, sthen_rt, fin_rt, g]
    | at_ j =>
      have g := giveD_same (n := st.length) (st := st) rfl (.tuple [.str "at", .int j])
      have fin : st.set p (.lst ((ws ++ (Ex.at_ j).lits).map PyData.int)) = st := by
        rw [show ws ++ (Ex.at_ j).lits = ws from List.append_nil _]
        exact set_same hs
      rw [fin]
      simp [recB, b__law_bare, Ex.enc, Ex.bare, dEq_int]
    | was =>
      have fin : st.set p (.lst ((ws ++ Ex.was.lits).map PyData.int)) = st := by
        rw [show ws ++ Ex.was.lits = ws from List.append_nil _]
        exact set_same hs
      rw [fin]
      simp [recB, b__law_bare, Ex.enc, Ex.bare, dEq_int]
    | op o a b =>
      have hd : max a.dep b.dep + 1 < k + 1 := hk
      have hl' : ws.length + (a.lits ++ b.lits).length ≤ 1000 := hl
      rw [List.length_append] at hl'
      have f1 := ih a ws st p (by omega) hs (by omega)
      obtain ⟨st1, h1⟩ : ∃ s, s = st.set p (.lst ((ws ++ a.lits).map PyData.int)) := ⟨_, rfl⟩
      rw [← h1] at f1
      have s1 : st1[p]? = some (.lst ((ws ++ a.lits).map PyData.int)) := by rw [h1, List.getElem?_set_self hp]
      have f2 := ih b (ws ++ a.lits) st1 p (by omega) s1 (by rw [List.length_append]; omega)
      obtain ⟨st2, h2⟩ : ∃ s, s = st1.set p (.lst ((ws ++ a.lits ++ b.lits).map PyData.int)) := ⟨_, rfl⟩
      rw [← h2, List.length_append] at f2
      have fin : st.set p (.lst ((ws ++ (Ex.op o a b).lits).map PyData.int)) = st2 := by
        rw [h2, h1, List.set_set]
        show _ = st.set p (.lst ((ws ++ a.lits ++ b.lits).map PyData.int))
        rw [List.append_assoc] <;> rfl
      rw [fin]
      have i0 : dIx (.dat (.tuple [.str o.nm, a.enc, b.enc])) (.dat (.int 0)) st = .ok (.dat (.str o.nm)) st := ix_tuple (by rfl) st
      have i1 : dIx (.dat (.tuple [.str o.nm, a.enc, b.enc])) (.dat (.int 1)) st = .ok (.dat a.enc) st := ix_tuple (by rfl) st
      have i2 : dIx (.dat (.tuple [.str o.nm, a.enc, b.enc])) (.dat (.int 2)) st1 = .ok (.dat b.enc) st1 := ix_tuple (by rfl) st1
      have mk : mkTup [.dat (.str o.nm), .dat (a.bare ws.length).enc, .dat (b.bare (ws.length + a.lits.length)).enc] st2 = .ok (.dat (.tuple [.str o.nm, (a.bare ws.length).enc, (b.bare (ws.length + a.lits.length)).enc])) st2 := rfl
      have g := giveD_same (n := st.length) (st := st2) (by rw [h2, h1, List.length_set, List.length_set]) (.tuple [.str o.nm, (a.bare ws.length).enc, (b.bare (ws.length + a.lits.length)).enc])
      simp [recB, b__law_bare, Ex.enc, Ex.bare, dEq_int, i0, i1, i2, f1, f2, mk, g]
theorem F_is_from_eq (v lo hi : Int) (st : Sto) : F_is_from [.dat (.int v), .dat (.int lo), .dat (.int hi)] st = .ok (.dat (.bool (decide (lo ≤ v) && decide (v ≤ hi)))) st := by
  by_cases h : lo ≤ v <;> simp [F_is_from, b_is_from, F_is_whole, b_is_whole, h]
theorem nin_op (o : Op) (st : Sto) : dNin (.dat (.str o.nm)) (.dat (.tuple [.str "plus", .str "minus", .str "times", .str "over", .str "rest", .str "less", .str "same"])) st = .ok (.dat (.bool false)) st := by
  have e : inD true (.str o.nm) (.tuple [.str "plus", .str "minus", .str "times", .str "over", .str "rest", .str "less", .str "same"]) = if SeqAt.shaped (.str o.nm) = true ∧ SeqAt.shaped (.tuple [.str "plus", .str "minus", .str "times", .str "over", .str "rest", .str "less", .str "same"]) = true then retB (true != [PyData.str "plus", .str "minus", .str "times", .str "over", .str "rest", .str "less", .str "same"].any fun z => PyData.eqv z (.str o.nm)) else M.bad := rfl
  show inD true (.str o.nm) (.tuple [.str "plus", .str "minus", .str "times", .str "over", .str "rest", .str "less", .str "same"]) st = _
  rw [e, if_pos ⟨by cases o <;> decide +kernel, by decide +kernel⟩]
  show Res.ok (D.dat (.bool _)) st = _
  congr 3
  cases o <;> decide +kernel
theorem expr_eq {n : Nat} : ∀ (k d : Nat) (e : Ex) (st : Sto), d < k → e.dep ≤ d → e.good n → recB giveD 4 4 b__is_expr k [.dat e.enc, .dat (.int n), .dat (.bool true), .dat (.int d)] st = .ok (.dat (.bool true)) st := by
  intro k
  induction k with
  | zero => intro d e st h; omega
  | succ k ih =>
    intro d e st hk hd hg
    cases e with
    | lit i =>
      have w : decide (Wd i) = true := decide_eq_true hg
      have f := F_is_word_eq i st
      rw [w] at f
      simp [recB, b__is_expr, Ex.enc, f]
    | at_ j =>
      have hj : j < n := hg
      have i0 : dIx (.dat (.tuple [.str "at", .int j])) (.dat (.int 0)) st = .ok (.dat (.str "at")) st := ix_tuple (by rfl) st
      have i1 : dIx (.dat (.tuple [.str "at", .int j])) (.dat (.int 1)) st = .ok (.dat (.int j)) st := ix_tuple (by rfl) st
      have f := F_is_from_eq (j : Int) 0 ((n : Int) - 1) st
      rw [decide_eq_true (show (0 : Int) ≤ (j : Int) by omega), decide_eq_true (show (j : Int) ≤ (n : Int) - 1 by omega)] at f
      simp [recB, b__is_expr, Ex.enc, i0, i1, dEq_int, f]
    | was =>
      have i0 : dIx (.dat (.tuple [.str "was"])) (.dat (.int 0)) st = .ok (.dat (.str "was")) st := ix_tuple (by rfl) st
      have b : dBool (.dat (.bool true)) st = .ok (.dat (.bool true)) st := rfl
      simp [recB, b__is_expr, Ex.enc, i0, dEq_int, b]
    | op o a b =>
      have hd' : max a.dep b.dep + 1 ≤ d := hd
      obtain ⟨c, rfl⟩ : ∃ c, d = c + 1 := ⟨d - 1, by omega⟩
      have i0 : dIx (.dat (.tuple [.str o.nm, a.enc, b.enc])) (.dat (.int 0)) st = .ok (.dat (.str o.nm)) st := ix_tuple (by rfl) st
      have i1 : dIx (.dat (.tuple [.str o.nm, a.enc, b.enc])) (.dat (.int 1)) st = .ok (.dat a.enc) st := ix_tuple (by rfl) st
      have i2 : dIx (.dat (.tuple [.str o.nm, a.enc, b.enc])) (.dat (.int 2)) st = .ok (.dat b.enc) st := ix_tuple (by rfl) st
      have f1 := ih c a st (by omega) (by omega) hg.1
      have f2 := ih c b st (by omega) (by omega) hg.2
      have ni := nin_op o st
      have o3 : dNe (.dat (.int 3)) (.dat (.int 3)) st = .ok (.dat (.bool false)) st := rfl
      have en : (c : Int) + 1 - 1 = c := by omega
      have z0 : ¬ (c : Int) + 1 = 0 := by omega
      simp [recB, b__is_expr, Ex.enc, i0, i1, i2, dEq_int, ni, o3, en, z0, f1, f2]
theorem is_expr_ok {n : Nat} (hn : n ≤ 9) {e : Ex} (hd : e.dep ≤ 4) (hg : e.good n) (st : Sto) : F_is_expr [.dat e.enc, .dat (.int n), .dat (.bool true)] st = .ok (.dat (.bool true)) st := by
  have f : F__is_expr [.dat e.enc, .dat (.int n), .dat (.bool true), .dat (.int 4)] st = .ok (.dat (.bool true)) st := expr_eq 24 4 e st (by decide) hd hg
  have c : F_check_from [.dat (.int n), .dat (.int 0), .dat (.int 9)] st = .ok (.dat .none) st := by
    have q := F_is_from_eq (n : Int) 0 9 st
    rw [decide_eq_true (show (0 : Int) ≤ (n : Int) by omega), decide_eq_true (show (n : Int) ≤ 9 by omega)] at q
    simp [F_check_from, b_check_from, q]
  simp [F_is_expr, b_is_expr, c, f]
def metout : Except Bool Int → PyData
  | .ok v => .tuple [.int 0, .int v]
  | .error b => .tuple [.int 1, .str (wordOf b)]
theorem met_eq {r : List Int} {w : Int} (hr : ∀ i ∈ r, Wd i) (hw : Wd w) {e : Ex} (hd : e.dep < 24) (hg : e.good r.length) (st : Sto) : F__law_met [.dat e.enc, .dat (.tuple (r.map PyData.int)), .dat (.int w)] st = .ok (.dat (metout (e.val r w))) st := by
  have we : F_worth [.dat e.enc, .dat (.tuple (r.map PyData.int)), .dat (.int w)] st = out (e.val r w) st := worth_eq hr hw 24 e st hd hg
  obtain ⟨ρ, hρ⟩ : ∃ ρ : Ev.Env, ρ = [some (.dat e.enc), some (.dat (.tuple (r.map PyData.int))), some (.dat (.int w)), none] := ⟨_, rfl⟩
  have mk : ∀ x y : PyData, mkTup [.dat x, .dat y] st = .ok (.dat (.tuple [x, y])) st := fun _ _ => rfl
  cases ev : e.val r w with
  | ok v =>
    rw [ev] at we
    have b : sRet (mC mkTup (aCons (ct (.dat (.int 0))) (aCons (mK F_worth (fun ds es => ds ++ es) (aCons (vr 0) (aCons (vr 1) aNil)) (aCons (vr 2) aNil)) aNil))) ρ st = .rt (.dat (.tuple [.int 0, .int v])) st := by
      rw [hρ]
      simp [we, out, mk]
    have t := fun suite => tryAs_rt (hit := hit_Falls) (i := 3) (suite := suite) b
    rw [hρ] at t
    simp [F__law_met, b__law_met, t, metout]
  | error q =>
    rw [ev] at we
    have b : sRet (mC mkTup (aCons (ct (.dat (.int 0))) (aCons (mK F_worth (fun ds es => ds ++ es) (aCons (vr 0) (aCons (vr 1) aNil)) (aCons (vr 2) aNil)) aNil))) ρ st = .exc ⟨"Falls", [("word", .str (wordOf q))]⟩ ρ st := by
      rw [hρ]
      simp [we, out]
    have hn : hit_Falls "Falls" = some true := by decide +kernel
    have t := tryAs_exc (hit := hit_Falls) (i := 3) (r := .rt (.dat (.tuple [.int 1, .str (wordOf q)])) st) (suite := fun a cls d => sRet (mC mkTup (aCons (ct (.dat (.int 1))) (aCons (m1 (dFld a cls d "Falls" "word") (vr 3)) aNil)))) b hn (fun a cls d _ => by
      have j3 := dFld_ap a cls d "Falls" "word" (.str (wordOf q)) st
      rw [hρ]
      simp [j3, mk, Ev.unI])
    rw [hρ] at t
    simp [F__law_met, b__law_met, t, metout]
theorem met_shp (x : Except Bool Int) : SeqAt.shaped (metout x) = true := by
  cases x with
  | ok v => rfl
  | error b => cases b <;> decide +kernel
theorem met_self (x : Except Bool Int) : PyData.eqv (metout x) (metout x) = true := by
  cases x with
  | ok v =>
    show ((0 : Int) == 0 && (v == v && true)) = true
    simp
  | error b => cases b <;> decide +kernel
theorem met_eqq (x : Except Bool Int) (st : Sto) : dEq (.dat (metout x)) (.dat (metout x)) st = .ok (.dat (.bool true)) st := by
  have s := met_shp x
  rw [← met_self x]
  cases x <;> exact eqD_tup _ _ st s s
theorem met_nee (x : Except Bool Int) (st : Sto) : dNe (.dat (metout x)) (.dat (metout x)) st = .ok (.dat (.bool false)) st := by
  have s := met_shp x
  have q : (!PyData.eqv (metout x) (metout x)) = false := by rw [met_self]; rfl
  rw [← q]
  cases x <;> exact neD_tup _ _ st s s
end K04
set_option Elab.async false
set_option linter.all false
set_option maxRecDepth 100000
set_option maxHeartbeats 2000000
set_option exponentiation.threshold 5000
namespace K04
open PySem PySem.Spec PyProof.Rows L2 Ev
open Classical
theorem wd_app {r : List Int} {v : Int} (hr : ∀ i ∈ r, Wd i) (hv : Wd v) : ∀ i ∈ r ++ [v], Wd i := fun i h => by
  rcases List.mem_append.mp h with z | z
  · exact hr i z
  · rw [List.mem_singleton.mp z]; exact hv
theorem put_right_ok {r : List Int} {w : Int} (hr : ∀ i ∈ r, Wd i) (hw : Wd w) (hl : r.length ≤ 8) {e x : Ex} (he : e.good (r.length + 1)) (hde : e.dep ≤ 10) (hx : x.good r.length) (hdx : x.dep ≤ 10) (hd : (e.putL (some r.length) x).dep ≤ 4) (st : Sto) :
    F__law_put_right [.dat e.enc, .dat x.enc, .dat (.tuple (r.map PyData.int)), .dat (.int w)] st = .ok (.dat (.bool true)) st := by
  have mk1 : mkTup [.dat (.str "at"), .dat (.int (r.length : Int))] st = .ok (.dat (lenc (some r.length))) st := rfl
  have f1 : F__law_put [.dat e.enc, .dat (lenc (some r.length)), .dat x.enc] st = .ok (.dat (e.putL (some r.length) x).enc) st := put_eq (some r.length) x 24 e st (by omega) (by omega)
  have gm := put_good hx e he
  have f2 := is_expr_ok (n := r.length) (by omega) hd gm st
  have f3 := met_eq hr hw (e := x) (by omega) hx st
  have f4 := met_eq hr hw (e := e.putL (some r.length) x) (by omega) gm st
  have g := giveD_same (n := st.length) (st := st) rfl (.bool true)
  cases ev : x.val r w with
  | ok v =>
    have wv := val_wd hr hw hx ev
    rw [ev] at f3
    have i0 : dIx (.dat (metout (.ok v))) (.dat (.int 0)) st = .ok (.dat (.int 0)) st := ix_tuple (by rfl) st
    have i1 : dIx (.dat (metout (.ok v))) (.dat (.int 1)) st = .ok (.dat (.int v)) st := ix_tuple (by rfl) st
    have mk2 : mkTup [.dat (.int v)] st = .ok (.dat (.tuple [.int v])) st := rfl
    have ad := dAdd_tuple (xs := r.map PyData.int) (ys := [.int v]) (by simp; omega) st
    have ma : r.map PyData.int ++ [.int v] = (r ++ [v]).map PyData.int := by simp
    rw [ma] at ad
    have f5 := met_eq (r := r ++ [v]) (wd_app hr wv) hw (e := e) (by omega) (by rw [List.length_append]; exact he) st
    rw [val_put ev e he] at f4
    have q := met_eqq (e.val (r ++ [v]) w) st
    simp only [F__law_put_right, b__law_put_right, run4, startE_ap, List.map_cons, List.map_nil, List.length_cons, List.length_nil, List.replicate, List.cons_append, List.nil_append, sSeq_ap, sIf_ap, mT_ap, mNot_ap, m2_ap, vr_zero, vr_succ, ct_ap, then_ok, bind_ap, pure_ap, asB_ap, thenS_ok, ite_sm, sNil_ap, sthen_nx, sSet_ap, List.set_cons_succ, List.set_cons_zero, mC_ap, aCons_ap, aNil_ap, on1_ap, dLen_tuple, List.length_map, mk1, f1, mK_ap, f2, Bool.not_true, Bool.false_eq_true, if_false, f3, f4, i0, dEq_int, beq_self_eq_true, if_true, sRet_ap, i1, mk2, ad, f5, q, sthen_rt, fin_rt, g]
  | error b =>
    rw [ev] at f3
    have i0 : dIx (.dat (metout (.error b))) (.dat (.int 0)) st = .ok (.dat (.int 1)) st := ix_tuple (by rfl) st
    have hs : F__law_has [.dat e.enc, .dat (lenc (some r.length))] st = .ok (.dat (.bool (e.hasL (some r.length)))) st := has_eq (some r.length) 24 e st (by omega) (by omega)
    have n01 : ((1 : Int) == 0) = false := by decide
    cases eh : e.hasL (some r.length) with
    | true =>
      rw [eh] at hs
      obtain ⟨q', hq⟩ := val_fall ev e eh
      rw [hq] at f4
      have i2 : dIx (.dat (metout (.error q'))) (.dat (.int 0)) st = .ok (.dat (.int 1)) st := ix_tuple (by rfl) st
      simp only [F__law_put_right, b__law_put_right, run4, startE_ap, List.map_cons, List.map_nil, List.length_cons, List.length_nil, List.replicate, List.cons_append, List.nil_append, sSeq_ap, sIf_ap, mT_ap, mNot_ap, m2_ap, vr_zero, vr_succ, ct_ap, then_ok, bind_ap, pure_ap, asB_ap, thenS_ok, ite_sm, sNil_ap, sthen_nx, sSet_ap, List.set_cons_succ, List.set_cons_zero, mC_ap, aCons_ap, aNil_ap, on1_ap, dLen_tuple, List.length_map, mk1, f1, mK_ap, f2, Bool.not_true, Bool.false_eq_true, if_false, f3, f4, i0, dEq_int, n01, hs, if_true, sRet_ap, i2, beq_self_eq_true, sthen_rt, fin_rt, g]
    | false =>
      rw [eh] at hs
      obtain ⟨ge, hv⟩ := val_more (v := 0) (w := w) e he eh
      have mk2 : mkTup [.dat (.int 0)] st = .ok (.dat (.tuple [.int 0])) st := rfl
      have ad := dAdd_tuple (xs := r.map PyData.int) (ys := [.int 0]) (by simp; omega) st
      have ma : r.map PyData.int ++ [.int 0] = (r ++ [0]).map PyData.int := by simp
      rw [ma] at ad
      have f5 := met_eq (r := r ++ [0]) (wd_app hr (by decide)) hw (e := e) (by omega) (by rw [List.length_append]; exact he) st
      rw [hv] at f5
      rw [put_none e eh] at f4 f2 f1
      have q := met_eqq (e.val r w) st
      simp only [F__law_put_right, b__law_put_right, run4, startE_ap, List.map_cons, List.map_nil, List.length_cons, List.length_nil, List.replicate, List.cons_append, List.nil_append, sSeq_ap, sIf_ap, mT_ap, mNot_ap, m2_ap, vr_zero, vr_succ, ct_ap, then_ok, bind_ap, pure_ap, asB_ap, thenS_ok, ite_sm, sNil_ap, sthen_nx, sSet_ap, List.set_cons_succ, List.set_cons_zero, mC_ap, aCons_ap, aNil_ap, on1_ap, dLen_tuple, List.length_map, mk1, f1, mK_ap, f2, Bool.not_true, Bool.false_eq_true, if_false, f3, f4, i0, dEq_int, n01, hs, if_true, sRet_ap, mk2, ad, f5, q, sthen_rt, fin_rt, g]
end K04
set_option Elab.async false
set_option linter.all false
set_option maxRecDepth 100000
set_option maxHeartbeats 2000000
set_option exponentiation.threshold 5000
namespace K04
open PySem PySem.Spec PyProof.Rows L2 Ev
open Classical
/-! the store: what stood at first stands, the sack aside; more behind it -/
structure Rl (n m : Nat) (st0 st : Sto) : Prop where
  len : st0.length ≤ st.length
  at_ : ∀ i, i < st0.length → i ≠ n → st[i]? = st0[i]?
  lt : n < st0.length
  sack : SackAt st n m
theorem Rl.rf {n m : Nat} {st : Sto} (S : SackAt st n m) : Rl n m st st := by
  obtain ⟨a, b, c, e, _⟩ := id S
  exact ⟨Nat.le_refl _, fun _ _ _ => rfl, (List.getElem?_eq_some_iff.mp e).1, S⟩
theorem Dn.at_ {n m p : Nat} {st st' : Sto} (h : Dn n m st st') (hp : p ≠ n) : st'[p]? = st[p]? := by
  obtain ⟨c, e⟩ := h.but
  rw [e, List.getElem?_set_ne (Ne.symm hp)]
theorem Rl.dn {n m m' : Nat} {st0 st st' : Sto} (h : Rl n m st0 st) (d : Dn n m' st st') : Rl n m' st0 st' :=
  ⟨by rw [d.len]; exact h.len, fun i hi hn => by rw [Dn.at_ d hn]; exact h.at_ i hi hn, h.lt, d.sack⟩
theorem Rl.app {n m : Nat} {st0 st : Sto} (h : Rl n m st0 st) (c : Cell) : Rl n m st0 (st ++ [c]) :=
  ⟨by rw [List.length_append]; exact Nat.le_trans h.len (Nat.le_add_right _ _), fun i hi hn => by rw [List.getElem?_append_left (Nat.lt_of_lt_of_le hi h.len)]; exact h.at_ i hi hn, h.lt, by
    obtain ⟨a, b, c', e, r⟩ := h.sack
    exact ⟨a, b, c', by rw [List.getElem?_append_left (Nat.lt_of_lt_of_le h.lt h.len)]; exact e, r⟩⟩
theorem Rl.put {n m p : Nat} {st0 st : Sto} (h : Rl n m st0 st) (hp : st0.length ≤ p) (c : Cell) : Rl n m st0 (st.set p c) :=
  ⟨by rw [List.length_set]; exact h.len, fun i hi hn => by rw [List.getElem?_set_ne (by omega)]; exact h.at_ i hi hn, h.lt, by
    obtain ⟨a, b, c', e, r⟩ := h.sack
    have := h.lt
    exact ⟨a, b, c', by rw [List.getElem?_set_ne (by omega)]; exact e, r⟩⟩
theorem Rl.mono {n m m' : Nat} {st0 st : Sto} (h : Rl n m st0 st) (hm : m ≤ m') : Rl n m' st0 st := ⟨h.len, h.at_, h.lt, h.sack.mono hm⟩
theorem Rl.fin {n m : Nat} {st0 st : Sto} (h : Rl n m st0 st) : Dn n m st0 (st.take st0.length) := by
  obtain ⟨a, b, c, e, r⟩ := h.sack
  refine ⟨⟨.lst [.int a, .int b, .int c], List.ext_getElem? fun i => ?_⟩, a, b, c, by rw [List.getElem?_take, if_pos h.lt]; exact e, r⟩
  rw [List.getElem?_take]
  by_cases hi : i < st0.length
  · rw [if_pos hi]
    by_cases hn : i = n
    · rw [hn, e, List.getElem?_set_self h.lt]
    · rw [h.at_ i hi hn, List.getElem?_set_ne (Ne.symm hn)]
  · rw [if_neg hi, List.getElem?_eq_none (by rw [List.length_set]; omega)]
theorem ixN_nat {n k : Nat} (h : k < n) : ixN n (k : Int) = some k := by
  unfold ixN
  simp [h]
theorem pop_ap {mo : Ev.Env → M D} {ms : Ev.Env → M (List D)} {ρ : Ev.Env} {st st2 : Sto} {p k : Nat} {xs zs : List PyData} {y : PyData} (h1 : mo ρ st = .ok (.loc p) st) (h2 : st[p]? = some (.lst zs)) (h3 : ms ρ st = .ok [.dat (.int (k : Int))] st2) (e : st2[p]? = some (.lst xs)) (hl : xs.length ≤ 100000) (hy : xs[k]? = some y) :
    mMt dPopAt mo ms ρ st = .ok (.dat y) (st2.set p (.lst (xs.eraseIdx k))) := by
  unfold mMt
  rw [bind_ap, h1, then_ok, bind_ap]
  have q : isLoc (.loc p) st = .ok (.loc p) st := by
    unfold isLoc
    dsimp only
    rw [h2]
  rw [q, then_ok, bind_ap, h3, then_ok]
  show onLoc _ (.loc p) st2 = _
  unfold onLoc
  dsimp only
  rw [e]
  dsimp only
  rw [if_pos hl, ixN_nat (List.getElem?_eq_some_iff.mp hy).1]
  dsimp only
  rw [hy]
theorem erase_map {α β : Type} (f : α → β) : ∀ (q : List α) (k : Nat), (q.map f).eraseIdx k = (q.eraseIdx k).map f
  | [], _ => rfl
  | _ :: _, 0 => rfl
  | x :: r, k + 1 => by
    show f x :: (r.map f).eraseIdx k = f x :: (r.eraseIdx k).map f
    rw [erase_map f r k]
theorem erase_perm : ∀ (q : List Nat) (k : Nat) (h : k < q.length), (q[k] :: q.eraseIdx k).Perm q
  | [], k, h => absurd h (Nat.not_lt_zero _)
  | x :: r, 0, _ => List.Perm.refl _
  | x :: r, k + 1, h => (List.Perm.swap x (r[k]'(by simpa using h)) (r.eraseIdx k)).trans (List.Perm.cons x (erase_perm r k (by simpa using h)))
def natD (q : List Nat) : List PyData := q.map fun i : Nat => PyData.int (i : Int)
/-- the order is drawn: one by one out of those that are left -/
theorem order_ok {st0 : Sto} {n p : Nat} (hp : st0.length ≤ p) {ρ : Ev.Env} (a1 a2 a3 a4 a6 a7 a8 a9 a10 a11 : Option D) : ∀ (ds : List D) (q acc : List Nat) (m : Nat) (st : Sto), q.length = ds.length → acc.length + ds.length ≤ 1000 → m + ds.length ≤ 900000 → Rl n m st0 st → st[p]? = some (.lst (natD q)) →
    ∃ (ys : List Nat) (st' : Sto), loopC (fun _ => True) (tgName 12) mYes (mMt dPopAt (vr 5) (aCons (mC F__law_draw (aCons (vr 0) (aCons (mC (on1 dLen) (aCons (vr 5) aNil)) aNil))) aNil)) [some (.loc n), a1, a2, a3, a4, some (.loc p), a6, a7, a8, a9, a10, a11, none] ds (natD acc) st = .ok (.dat (.list (natD (acc ++ ys)))) st' ∧ ys.Perm q ∧ Rl n (m + ds.length) st0 st' ∧ st'.length = st.length
  | [], q, acc, m, st, hq, _, _, hr, _ => by
    have : q = [] := List.length_eq_zero_iff.mp hq
    subst this
    exact ⟨[], st, by rw [loopC, if_pos trivial, List.append_nil], List.Perm.refl _, hr, rfl⟩
  | d :: ds, q, acc, m, st, hq, ha, hm, hr, hs => by
    rw [List.length_cons] at hq ha hm
    have hpn : p ≠ n := by have := hr.lt; omega
    obtain ⟨i, st1, e1, i0, i1, n1⟩ := drw hr.sack (many := (q.length : Int)) (by omega) (by omega) (by omega)
    obtain ⟨k, rfl⟩ := Int.eq_ofNat_of_zero_le i0
    have hk : k < q.length := by omega
    have s1 : st1[p]? = some (.lst (natD q)) := by rw [Dn.at_ n1 hpn]; exact hs
    have hy : (natD q)[k]? = some (.int ((q[k] : Nat) : Int)) := by
      unfold natD
      rw [List.getElem?_map, List.getElem?_eq_getElem hk] <;> rfl
    have dl := dLen_loc hs
    have ln : (natD q).length = q.length := List.length_map _
    rw [ln] at dl
    have pp := pop_ap (mo := vr 5) (ms := aCons (mC F__law_draw (aCons (vr 0) (aCons (mC (on1 dLen) (aCons (vr 5) aNil)) aNil))) aNil) (ρ := [some (.loc n), a1, a2, a3, a4, some (.loc p), a6, a7, a8, a9, a10, a11, some d]) (st := st) (st2 := st1) (k := k) rfl hs (by
      simp only [aCons_ap, aNil_ap, mC_ap, on1_ap, vr_zero, vr_succ, then_ok, bind_ap, pure_ap, dl, e1]) s1 (by rw [ln]; omega) hy
    have er : (natD q).eraseIdx k = natD (q.eraseIdx k) := by
      unfold natD
      rw [erase_map]
    rw [er] at pp
    have lt1 : p < st1.length := (List.getElem?_eq_some_iff.mp s1).1
    obtain ⟨ys, st', e2, pm, r2, l2⟩ := order_ok hp (ρ := ρ) a1 a2 a3 a4 a6 a7 a8 a9 a10 a11 ds (q.eraseIdx k) (acc ++ [q[k]]) (m + 1) (st1.set p (.lst (natD (q.eraseIdx k)))) (by rw [List.length_eraseIdx_of_lt hk]; omega) (by rw [List.length_append, List.length_singleton]; omega) (by omega) ((hr.dn n1).put hp _) (by rw [List.getElem?_set_self lt1])
    refine ⟨q[k] :: ys, st', ?_, ?_, by rw [List.length_cons, show m + (ds.length + 1) = m + 1 + ds.length by omega]; exact r2, by rw [l2, List.length_set, n1.len]⟩
    · rw [loopC, if_pos ⟨trivial, by show (natD acc).length ≤ _; unfold natD; rw [List.length_map]; omega⟩]
      show (match (mMt dPopAt (vr 5) (aCons (mC F__law_draw (aCons (vr 0) (aCons (mC (on1 dLen) (aCons (vr 5) aNil)) aNil))) aNil)) [some (.loc n), a1, a2, a3, a4, some (.loc p), a6, a7, a8, a9, a10, a11, some d] st with | .ok (.dat y) st2 => loopC (fun _ => True) (tgName 12) mYes _ _ ds (natD acc ++ [y]) st2 | _ => .bad) = _
      rw [pp]
      show loopC (fun _ => True) (tgName 12) mYes _ _ ds (natD acc ++ [.int ((q[k] : Nat) : Int)]) _ = _
      rw [show natD acc ++ [.int ((q[k] : Nat) : Int)] = natD (acc ++ [q[k]]) by unfold natD; rw [List.map_append] <;> rfl, e2, List.append_assoc]
      rfl
    · exact (List.Perm.cons _ pm).trans (erase_perm q k hk)
end K04
set_option Elab.async false
set_option linter.all false
set_option maxRecDepth 100000
set_option maxHeartbeats 2000000
set_option exponentiation.threshold 5000
namespace K04
open PySem PySem.Spec PyProof.Rows L2 Ev
open Classical
theorem getD_lt {q : List Nat} {k : Nat} (h : k < q.length) : q.getD k 0 = q[k] := by
  rw [List.getD_eq_getElem?_getD, List.getElem?_eq_getElem h] <;> rfl
theorem getDI_lt {q : List Int} {k : Nat} (h : k < q.length) : q.getD k 0 = q[k] := by
  rw [List.getD_eq_getElem?_getD, List.getElem?_eq_getElem h] <;> rfl
theorem setD_eq {t : List Int} {i : Nat} {u : Int} (h : i < t.length) : (t.set i u).getD i 0 = u := by
  rw [List.getD_eq_getElem?_getD, List.getElem?_set_self h] <;> rfl
theorem setD_ne {t : List Int} {i j : Nat} {u : Int} (h : i ≠ j) : (t.set i u).getD j 0 = t.getD j 0 := by
  rw [List.getD_eq_getElem?_getD, List.getElem?_set_ne h, List.getD_eq_getElem?_getD]
theorem rep_zero : ∀ k : Nat, repD k [.int 0] = (List.replicate k (0 : Int)).map PyData.int
  | 0 => rfl
  | k + 1 => by
    have h := rep_zero k
    unfold repD at h ⊢
    rw [List.replicate_succ, List.flatten_cons, h, List.replicate_succ, List.map_cons] <;> rfl
theorem inj_of {q : List Nat} {N : Nat} (h : q.Perm (List.range N)) : ∀ i j, i < q.length → j < q.length → i ≠ j → q.getD i 0 ≠ q.getD j 0 := fun i j hi hj hn => by
  have nd : q.Nodup := h.nodup_iff.mpr List.nodup_range
  have pw := List.pairwise_iff_getElem.mp nd
  rw [getD_lt hi, getD_lt hj]
  rcases Nat.lt_or_gt_of_ne hn with z | z
  · exact pw i j hi hj z
  · exact Ne.symm (pw j i hj hi z)
theorem lt_of {q : List Nat} {N : Nat} (h : q.Perm (List.range N)) : ∀ i, i < q.length → q.getD i 0 < N := fun i hi => by
  rw [getD_lt hi]
  exact List.mem_range.mp ((h.mem_iff).mp (List.getElem_mem hi))
theorem fill_ok {q : List Nat} (inj : ∀ i j, i < q.length → j < q.length → i ≠ j → q.getD i 0 ≠ q.getD j 0) (p : Nat) (a0 a1 a2 a3 a4 a5 a10 a11 a12 : Option D) : ∀ (us : List Int) (k : Nat) (t : List Int) (st : Sto) (a8 a9 : Option D), k + us.length = q.length → (∀ i, i < q.length → q.getD i 0 < t.length) → st[p]? = some (.lst (t.map PyData.int)) →
    ∃ (t' : List Int) (b8 b9 : Option D), loopS (fun _ => True) (tgTup (tgCons (tgName 8) (tgCons (tgName 9) tgNil))) l__law_others_right_1 (enFrom k (us.map PyData.int)) [a0, a1, a2, a3, a4, a5, some (.dat (.list (natD q))), some (.loc p), a8, a9, a10, a11, a12] st =
        .nx [a0, a1, a2, a3, a4, a5, some (.dat (.list (natD q))), some (.loc p), b8, b9, a10, a11, a12] (st.set p (.lst (t'.map PyData.int))) ∧ t'.length = t.length ∧
      (∀ j, j < us.length → t'.getD (q.getD (k + j) 0) 0 = us.getD j 0) ∧ (∀ i, (∀ j, k ≤ j → j < q.length → q.getD j 0 ≠ i) → t'.getD i 0 = t.getD i 0) ∧ ((∀ i ∈ t, Wd i) → (∀ i ∈ us, Wd i) → ∀ i ∈ t', Wd i)
  | [], k, t, st, a8, a9, _, _, hs => by
    refine ⟨t, a8, a9, ?_, rfl, (fun j h => absurd h (Nat.not_lt_zero _)), (fun _ _ => rfl), fun h _ => h⟩
    rw [set_same hs]
    exact loopS_end
  | u :: us, k, t, st, a8, a9, hk, hq, hs => by
    rw [List.length_cons] at hk
    have kq : k < q.length := by omega
    have ln : (t.map PyData.int).length = t.length := List.length_map _
    have hp : p < st.length := (List.getElem?_eq_some_iff.mp hs).1
    have ix : dIx (.dat (.list (natD q))) (.dat (.int (k : Int))) st = .ok (.dat (.int ((q.getD k 0 : Nat) : Int))) st := by
      refine ix_list (Ev.atI_nat ?_) st
      unfold natD
      rw [List.getElem?_map, List.getElem?_eq_getElem kq, getD_lt kq] <;> rfl
    have sx := setix_ap (mo := vr 7) (mi := m2 dIx (vr 6) (vr 8)) (me := vr 9) (ρ := [a0, a1, a2, a3, a4, a5, some (.dat (.list (natD q))), some (.loc p), some (.dat (.int (k : Int))), some (.dat (.int u)), a10, a11, a12]) (st := st) (st1 := st) (st2 := st) (st3 := st) (n := p) (k := ((q.getD k 0 : Nat) : Int)) (y := .int u) (j := q.getD k 0) rfl rfl (by
      simp only [m2_ap, vr_zero, vr_succ, then_ok, bind_ap, ix]) hs (ixN_nat (by rw [ln]; exact hq k kq))
    have es : (t.map PyData.int).set (q.getD k 0) (.int u) = (t.set (q.getD k 0) u).map PyData.int := by rw [List.map_set]
    rw [es] at sx
    obtain ⟨t', b8, b9, e1, l1, f1, f2, f3⟩ := fill_ok inj p a0 a1 a2 a3 a4 a5 a10 a11 a12 us (k + 1) (t.set (q.getD k 0) u) (st.set p (.lst ((t.set (q.getD k 0) u).map PyData.int))) (some (.dat (.int (k : Int)))) (some (.dat (.int u))) (by omega) (fun i hi => by rw [List.length_set]; exact hq i hi) (by rw [List.getElem?_set_self hp])
    refine ⟨t', b8, b9, ?_, by rw [l1, List.length_set], fun j hj => ?_, fun i hi => ?_, fun h1 h2 => ?_⟩
    · rw [List.set_set] at e1
      rw [← e1]
      exact loopS_nx trivial rfl sx
    · cases j with
      | zero =>
        have := f2 (q.getD k 0) fun j h1 h2 => inj j k h2 kq (by omega)
        rw [Nat.add_zero, this, setD_eq (hq k kq)] <;> rfl
      | succ j =>
        rw [List.length_cons] at hj
        have := f1 j (by omega)
        rw [show k + (j + 1) = k + 1 + j by omega, this]
        rfl
    · rw [f2 i fun j h1 h2 => hi j (by omega) h2, setD_ne (hi k (Nat.le_refl _) kq)]
    · refine f3 (fun i hi => ?_) fun i hi => h2 i (List.mem_cons_of_mem _ hi)
      rcases List.mem_or_eq_of_mem_set hi with z | z
      · exact h1 i z
      · rw [z]; exact h2 u List.mem_cons_self
theorem seq_nx {a b : SM} {ρ ρ1 : Ev.Env} {st st1 : Sto} (h : a ρ st = .nx ρ1 st1) : sSeq a b ρ st = b ρ1 st1 := by rw [sSeq_ap, h] <;> rfl
theorem lc_of {src : Ev.Env → M Src} {own : List Nat} {tg : Tg} {test : Ev.Env → M Bool} {elt : Ev.Env → M D} {ρ : Ev.Env} {s : Src} {st st1 : Sto} (h : src ρ st = .ok s st1) : mLc src own tg test elt ρ st = loopC s.ok tg test elt (wipeE ρ own) s.items [] st1 := by rw [mLc_ap, h] <;> rfl
theorem for_of {src : Ev.Env → M Src} {tg : Tg} {b : SM} {ρ : Ev.Env} {s : Src} {st st1 : Sto} (h : src ρ st = .ok s st1) : sFor src tg b ρ st = loopS s.ok tg b s.items ρ st1 := by rw [sFor_ap, h] <;> rfl
theorem set_of {i : Nat} {m : Ev.Env → M D} {ρ : Ev.Env} {d : D} {st st1 : Sto} (h : m ρ st = .ok d st1) : sSet i m ρ st = .nx (ρ.set i (some d)) st1 := by rw [sSet_ap, h] <;> rfl
theorem src_of {m : Ev.Env → M (List D)} {ρ : Ev.Env} {ds : List D} {s : Src} {st st1 : Sto} (h : m ρ st = .ok ds st1) (h2 : rng1 ds st1 = .ok s st1) : mRng1 m ρ st = .ok s st1 := by rw [mRng1_ap, h, then_ok, h2]
theorem en_of {m : Ev.Env → M D} {ρ : Ev.Env} {d : D} {s : Src} {st st1 : Sto} (h : m ρ st = .ok d st1) (h2 : enumOf d st1 = .ok s st1) : mEnum m ρ st = .ok s st1 := by
  show (m ρ st).then enumOf = _
  rw [h, then_ok, h2]
theorem if_no {c : Ev.Env → M Bool} {b : SM} {ρ : Ev.Env} {st st1 : Sto} (h : c ρ st = .ok false st1) : sIf c b sNil ρ st = .nx ρ st1 := by
  rw [sIf_ap, h] <;> rfl
theorem others_ok {r : List Int} {w : Int} (hr : ∀ i ∈ r, Wd i) (hw : Wd w) (hl : r.length ≤ 8) {e : Ex} (hg : e.good r.length) (hd : e.dep ≤ 6) {st : Sto} {n m : Nat} (S : SackAt st n m) (hm : m ≤ 800000) :
    ∃ st', F__law_others_right [.loc n, .dat e.enc, .dat (.tuple (r.map PyData.int)), .dat (.int w)] st = .ok (.dat (.bool true)) st' ∧ Dn n (m + 10) st st' := by
  obtain ⟨N, hN⟩ : ∃ N, N = r.length := ⟨_, rfl⟩
  obtain ⟨L, hL⟩ : ∃ L : Int, L = (r.length : Int) := ⟨_, rfl⟩
  have dl0 : ∀ s : Sto, dLen (.dat (.tuple (r.map PyData.int))) s = .ok (.dat (.int L)) s := fun s => by rw [hL, dLen_tuple, List.length_map]
  have h60 : e.dep ≤ 60 := by omega
  have mA := met_eq hr hw (e := e) (by omega) hg st
  have R0 := Rl.rf S
  -- those that are left
  obtain ⟨p, hp⟩ : ∃ p, p = st.length := ⟨_, rfl⟩
  obtain ⟨st1, h1⟩ : ∃ s, s = st ++ [Cell.lst (natD (List.range N))] := ⟨_, rfl⟩
  have R1 : Rl n m st st1 := by rw [h1]; exact R0.app _
  have s1 : st1[p]? = some (.lst (natD (List.range N))) := by rw [h1, hp, List.getElem?_append_right (Nat.le_refl _), Nat.sub_self] <;> rfl
  have lr : locRg (.dat (.int L)) st = .ok (.loc p) st1 := by
    have q : rgD L = natD (List.range N) := by
      unfold rgD natD
      rw [hL, Int.toNat_natCast, hN]
    unfold locRg
    dsimp only
    rw [if_pos ⟨by omega, by omega⟩, q, h1, hp]
  -- the order
  have g : rng1 [.dat (.int L)] st1 = .ok (rangeD 0 N) st1 := by
    have g' := rng_ap (k := L) (by omega) (by omega) st1
    rw [g', hL, Int.toNat_natCast, hN]
  obtain ⟨q, st2, e2, pm, R2, l2⟩ := order_ok (ρ := []) (n := n) (p := p) (st0 := st) (by omega) (some (.dat e.enc)) (some (.dat (.tuple (r.map PyData.int)))) (some (.dat (.int w))) (some (.dat (metout (e.val r w)))) none none none none none none ((List.range N).map (fun i : Nat => D.dat (.int (0 + (i : Int))))) (List.range N) [] m st1 (by simp) (by simp; omega) (by simp; omega) R1 s1
  rw [List.nil_append] at e2
  rw [List.length_map, List.length_range] at R2
  have ql : q.length = N := by rw [pm.length_eq, List.length_range]
  have inj := inj_of pm
  have qlt := lt_of pm
  -- the words in that order
  obtain ⟨p2, hp2⟩ : ∃ p, p = st2.length := ⟨_, rfl⟩
  obtain ⟨st3, h3⟩ : ∃ s, s = st2 ++ [Cell.lst ((List.replicate N (0 : Int)).map PyData.int)] := ⟨_, rfl⟩
  have R3 : Rl n (m + N) st st3 := by rw [h3]; exact R2.app _
  have s3 : st3[p2]? = some (.lst ((List.replicate N (0 : Int)).map PyData.int)) := by rw [h3, hp2, List.getElem?_append_right (Nat.le_refl _), Nat.sub_self] <;> rfl
  have mk0 : mkLst [.dat (.int 0)] st2 = .ok (.dat (.list [.int 0])) st2 := rfl
  have ml : dMulLoc (.dat (.list [.int 0])) (.dat (.int L)) st2 = .ok (.loc p2) st3 := by
    unfold dMulLoc
    show (if L ≤ 1000 ∧ -1000 ≤ L ∧ [PyData.int 0].length ≤ 100 then Res.ok (D.loc st2.length) (st2 ++ [Cell.lst (repD L.toNat [.int 0])]) else .bad) = _
    rw [if_pos ⟨by omega, by omega, by decide⟩, show L.toNat = N by omega, rep_zero, h3, hp2]
  have en : enumOf (.dat (.tuple (r.map PyData.int))) st3 = .ok ⟨enFrom 0 (r.map PyData.int), fun _ => True⟩ st3 := rfl
  obtain ⟨t, b8, b9, e4, tl, f1, _, f3⟩ := fill_ok inj p2 (some (.loc n)) (some (.dat e.enc)) (some (.dat (.tuple (r.map PyData.int)))) (some (.dat (.int w))) (some (.dat (metout (e.val r w)))) (some (.loc p)) none none none r 0 (List.replicate N 0) st3 none none (by omega) (fun i hi => by rw [List.length_replicate]; exact qlt i hi) s3
  rw [List.length_replicate] at tl
  obtain ⟨st4, h4⟩ : ∃ s, s = st3.set p2 (Cell.lst (t.map PyData.int)) := ⟨_, rfl⟩
  rw [← h4] at e4
  have lp2 : st.length ≤ p2 := by rw [hp2, l2, h1, List.length_append]; omega
  have R4 : Rl n (m + N) st st4 := by rw [h4]; exact R3.put lp2 _
  have s4 : st4[p2]? = some (.lst (t.map PyData.int)) := by rw [h4, List.getElem?_set_self (List.getElem?_eq_some_iff.mp s3).1]
  have wt : ∀ i ∈ t, Wd i := f3 (fun i hi => by rw [List.eq_of_mem_replicate hi]; decide) hr
  have hq : ∀ k < r.length, t.getD (q.getD k 0) 0 = r.getD k 0 := fun k hk => by
    have := f1 k hk
    rw [Nat.zero_add] at this
    exact this
  have tq : F__law_turned [.dat e.enc, .dat (.list (natD q))] st4 = .ok (.dat (e.turn q).enc) st4 := turned_eq q 24 e st4 (by omega) (by rw [ql, hN]; exact hg)
  have tt : tupOf (.loc p2) st4 = .ok (.dat (.tuple (t.map PyData.int))) st4 := by
    unfold tupOf
    simp [Ev.dataOf, s4]
  have m4 := met_eq (r := t) wt hw (e := e.turn q) (by rw [turn_dep]; omega) (turn_good (n := r.length) (fun k hk => by rw [tl]; exact qlt k (by omega)) e hg) st4
  rw [val_turn hq e hg] at m4
  have n4 := met_nee (e.val r w) st4
  -- what was, as a word
  have mk4 : mkTup [.dat (.str "was")] st4 = .ok (.dat (lenc none)) st4 := rfl
  have pw : F__law_put [.dat e.enc, .dat (lenc none), .dat (.int w)] st4 = .ok (.dat (e.putL none (.lit w)).enc) st4 := put_eq none (.lit w) 24 e st4 (by omega) h60
  have w7 : Wd 7 := by decide
  have dp : (e.putL none (.lit w)).dep < 24 := by
    have h := put_dep (l := none) (x := Ex.lit w) e
    have z : (Ex.lit w).dep = 0 := rfl
    omega
  have m5 := met_eq hr w7 (e := e.putL none (.lit w)) dp (was_good hw e hg) st4
  rw [val_was] at m5
  -- each word as a column
  obtain ⟨p3, hp3⟩ : ∃ p, p = st4.length := ⟨_, rfl⟩
  obtain ⟨st5, h5⟩ : ∃ s, s = st4 ++ [Cell.lst (r.map PyData.int)] := ⟨_, rfl⟩
  have R5 : Rl n (m + N) st st5 := by rw [h5]; exact R4.app _
  have s5 : st5[p3]? = some (.lst (r.map PyData.int)) := by rw [h5, hp3, List.getElem?_append_right (Nat.le_refl _), Nat.sub_self] <;> rfl
  have lo : locOf (.dat (.tuple (r.map PyData.int))) st4 = .ok (.loc p3) st5 := by rw [h5, hp3] <;> rfl
  have ll : e.lits.length ≤ 64 := Nat.le_trans (lits_len e) (Nat.le_trans (Nat.pow_le_pow_right (by decide) hd) (by decide))
  have be : F__law_bare [.dat e.enc, .loc p3] st5 = .ok (.dat (e.bare r.length).enc) (st5.set p3 (.lst ((r ++ e.lits).map PyData.int))) := bare_eq 24 e r st5 p3 (by omega) s5 (by omega)
  obtain ⟨st6, h6⟩ : ∃ s, s = st5.set p3 (Cell.lst ((r ++ e.lits).map PyData.int)) := ⟨_, rfl⟩
  rw [← h6] at be
  have lp3 : st.length ≤ p3 := by rw [hp3]; exact R4.len
  have R6 : Rl n (m + N) st st6 := by rw [h6]; exact R5.put lp3 _
  have s6 : st6[p3]? = some (.lst ((r ++ e.lits).map PyData.int)) := by rw [h6, List.getElem?_set_self (List.getElem?_eq_some_iff.mp s5).1]
  obtain ⟨k6, hk6⟩ : ∃ k6 : Int, k6 = ((((r ++ e.lits).map PyData.int).length : Nat) : Int) := ⟨_, rfl⟩
  have dl := dLen_loc s6
  rw [← hk6] at dl
  have t6 : tupOf (.loc p3) st6 = .ok (.dat (.tuple ((r ++ e.lits).map PyData.int))) st6 := by
    unfold tupOf
    simp [Ev.dataOf, s6]
  have wl : ∀ i ∈ r ++ e.lits, Wd i := fun i hi => by
    rcases List.mem_append.mp hi with z | z
    · exact hr i z
    · exact lits_wd e hg i z
  have m6 := met_eq (r := r ++ e.lits) wl hw (e := e.bare r.length) (by rw [bare_dep]; omega) (bare_good (n := r.length) e r.length _ hg (Nat.le_refl _) (by rw [List.length_append]; exact Nat.le_refl _)) st6
  have vb := val_bare (w := w) e r [] hg ⟨[], by rw [List.append_nil]⟩
  rw [List.append_nil] at vb
  rw [vb] at m6
  have q6 := met_eqq (e.val r w) st6
  have last : ∀ (a5 a6 a7 a8 a9 a12 : Option D), (mOrV (m2 dGt (mC (on1 dLen) (aCons (vr 10) aNil)) (ct (.dat (.int 9)))) (m2 dEq (mC F__law_met (aCons (vr 11) (aCons (mC (on1 tupOf) (aCons (vr 10) aNil)) (aCons (vr 3) aNil)))) (vr 4))) [some (.loc n), some (.dat e.enc), some (.dat (.tuple (r.map PyData.int))), some (.dat (.int w)), some (.dat (metout (e.val r w))), a5, a6, a7, a8, a9, some (.loc p3), some (.dat (e.bare r.length).enc), a12] st6 = .ok (.dat (.bool true)) st6 := fun a5 a6 a7 a8 a9 a12 => by
    by_cases c : k6 > 9
    · simp only [mOrV_ap, m2_ap, mC_ap, aCons_ap, aNil_ap, on1_ap, vr_zero, vr_succ, ct_ap, then_ok, bind_ap, pure_ap, dl, dGt_ap, decide_eq_true c, asB_ap, if_true, ite_em, ite_st]
    · simp only [mOrV_ap, m2_ap, mC_ap, aCons_ap, aNil_ap, on1_ap, vr_zero, vr_succ, ct_ap, then_ok, bind_ap, pure_ap, dl, dGt_ap, decide_eq_false c, asB_ap, Bool.false_eq_true, if_false, ite_em, ite_st, t6, m6, q6]
  refine ⟨st6.take st.length, ?_, R6.fin.mono (by omega)⟩
  have fin : giveD st.length (.dat (.bool true)) st6 = .ok (.dat (.bool true)) (st6.take st.length) := rfl
  have na : natD [] = [] := rfl
  rw [na] at e2
  have A1 : sSet 4 (mC F__law_met (aCons (vr 1) (aCons (vr 2) (aCons (vr 3) aNil)))) [some (.loc n), some (.dat e.enc), some (.dat (.tuple (r.map PyData.int))), some (.dat (.int w)), none, none, none, none, none, none, none, none, none] st = .nx [some (.loc n), some (.dat e.enc), some (.dat (.tuple (r.map PyData.int))), some (.dat (.int w)), some (.dat (metout (e.val r w))), none, none, none, none, none, none, none, none] st := by
    simp only [sSet_ap, mC_ap, aCons_ap, aNil_ap, vr_zero, vr_succ, then_ok, bind_ap, pure_ap, mA, thenS_ok, List.set_cons_succ, List.set_cons_zero]
  have len2 : ∀ (a3 a4 a5 a6 a7 a8 a9 a10 a11 a12 : Option D) (s : Sto), mC (on1 dLen) (aCons (vr 2) aNil) [some (.loc n), some (.dat e.enc), some (.dat (.tuple (r.map PyData.int))), a3, a4, a5, a6, a7, a8, a9, a10, a11, a12] s = .ok (.dat (.int L)) s := fun a3 a4 a5 a6 a7 a8 a9 a10 a11 a12 s => by
    simp only [mC_ap, aCons_ap, aNil_ap, on1_ap, vr_zero, vr_succ, then_ok, bind_ap, pure_ap, dl0]
  have A2 : sSet 5 (m1 locRg (mC (on1 dLen) (aCons (vr 2) aNil))) [some (.loc n), some (.dat e.enc), some (.dat (.tuple (r.map PyData.int))), some (.dat (.int w)), some (.dat (metout (e.val r w))), none, none, none, none, none, none, none, none] st = .nx [some (.loc n), some (.dat e.enc), some (.dat (.tuple (r.map PyData.int))), some (.dat (.int w)), some (.dat (metout (e.val r w))), some (.loc p), none, none, none, none, none, none, none] st1 :=
    set_of (by rw [m1_ap, len2, then_ok, lr])
  have A3 : sSet 6 (mLc (mRng1 (aCons (mC (on1 dLen) (aCons (vr 2) aNil)) aNil)) [12] (tgName 12) mYes (mMt dPopAt (vr 5) (aCons (mC F__law_draw (aCons (vr 0) (aCons (mC (on1 dLen) (aCons (vr 5) aNil)) aNil))) aNil))) [some (.loc n), some (.dat e.enc), some (.dat (.tuple (r.map PyData.int))), some (.dat (.int w)), some (.dat (metout (e.val r w))), some (.loc p), none, none, none, none, none, none, none] st1 = .nx [some (.loc n), some (.dat e.enc), some (.dat (.tuple (r.map PyData.int))), some (.dat (.int w)), some (.dat (metout (e.val r w))), some (.loc p), some (.dat (.list (natD q))), none, none, none, none, none, none] st2 := by
    have sr := src_of (m := aCons (mC (on1 dLen) (aCons (vr 2) aNil)) aNil) (ρ := [some (.loc n), some (.dat e.enc), some (.dat (.tuple (r.map PyData.int))), some (.dat (.int w)), some (.dat (metout (e.val r w))), some (.loc p), none, none, none, none, none, none, none]) (ds := [.dat (.int L)]) (st := st1) (by rw [aCons_ap, len2, then_ok, bind_ap, aNil_ap, then_ok, pure_ap]) g
    refine set_of ?_
    rw [lc_of sr, rng_items, rng_ok]
    exact e2
  have A4 : sSet 7 (m2 dMulLoc (mC mkLst (aCons (ct (.dat (.int 0))) aNil)) (mC (on1 dLen) (aCons (vr 2) aNil))) [some (.loc n), some (.dat e.enc), some (.dat (.tuple (r.map PyData.int))), some (.dat (.int w)), some (.dat (metout (e.val r w))), some (.loc p), some (.dat (.list (natD q))), none, none, none, none, none, none] st2 = .nx [some (.loc n), some (.dat e.enc), some (.dat (.tuple (r.map PyData.int))), some (.dat (.int w)), some (.dat (metout (e.val r w))), some (.loc p), some (.dat (.list (natD q))), some (.loc p2), none, none, none, none, none] st3 :=
    set_of (by
      have k : mC mkLst (aCons (ct (.dat (.int 0))) aNil) [some (.loc n), some (.dat e.enc), some (.dat (.tuple (r.map PyData.int))), some (.dat (.int w)), some (.dat (metout (e.val r w))), some (.loc p), some (.dat (.list (natD q))), none, none, none, none, none, none] st2 = .ok (.dat (.list [.int 0])) st2 := by
        simp only [mC_ap, aCons_ap, aNil_ap, ct_ap, then_ok, bind_ap, pure_ap, mk0]
      rw [m2_ap, k, then_ok, bind_ap, len2, then_ok, ml])
  have A5 : sFor (mEnum (vr 2)) (tgTup (tgCons (tgName 8) (tgCons (tgName 9) tgNil))) l__law_others_right_1 [some (.loc n), some (.dat e.enc), some (.dat (.tuple (r.map PyData.int))), some (.dat (.int w)), some (.dat (metout (e.val r w))), some (.loc p), some (.dat (.list (natD q))), some (.loc p2), none, none, none, none, none] st3 = .nx [some (.loc n), some (.dat e.enc), some (.dat (.tuple (r.map PyData.int))), some (.dat (.int w)), some (.dat (metout (e.val r w))), some (.loc p), some (.dat (.list (natD q))), some (.loc p2), b8, b9, none, none, none] st4 := by
    rw [for_of (en_of (m := vr 2) (d := .dat (.tuple (r.map PyData.int))) (st1 := st3) (by simp only [vr_zero, vr_succ]) en)]
    exact e4
  have A6 : sIf (mT (m2 dNe (mC F__law_met (aCons (mC F__law_turned (aCons (vr 1) (aCons (vr 6) aNil))) (aCons (mC (on1 tupOf) (aCons (vr 7) aNil)) (aCons (vr 3) aNil)))) (vr 4))) (sRet (ct (.dat (.bool false)))) sNil [some (.loc n), some (.dat e.enc), some (.dat (.tuple (r.map PyData.int))), some (.dat (.int w)), some (.dat (metout (e.val r w))), some (.loc p), some (.dat (.list (natD q))), some (.loc p2), b8, b9, none, none, none] st4 = .nx [some (.loc n), some (.dat e.enc), some (.dat (.tuple (r.map PyData.int))), some (.dat (.int w)), some (.dat (metout (e.val r w))), some (.loc p), some (.dat (.list (natD q))), some (.loc p2), b8, b9, none, none, none] st4 :=
    if_no (by simp only [mT_ap, m2_ap, mC_ap, aCons_ap, aNil_ap, on1_ap, vr_zero, vr_succ, then_ok, bind_ap, pure_ap, tq, tt, m4, n4, asB_ap])
  have A7 : sIf (mT (m2 dNe (mC F__law_met (aCons (mC F__law_put (aCons (vr 1) (aCons (mC mkTup (aCons (ct (.dat (.str "was"))) aNil)) (aCons (vr 3) aNil)))) (aCons (vr 2) (aCons (ct (.dat (.int 7))) aNil)))) (vr 4))) (sRet (ct (.dat (.bool false)))) sNil [some (.loc n), some (.dat e.enc), some (.dat (.tuple (r.map PyData.int))), some (.dat (.int w)), some (.dat (metout (e.val r w))), some (.loc p), some (.dat (.list (natD q))), some (.loc p2), b8, b9, none, none, none] st4 = .nx [some (.loc n), some (.dat e.enc), some (.dat (.tuple (r.map PyData.int))), some (.dat (.int w)), some (.dat (metout (e.val r w))), some (.loc p), some (.dat (.list (natD q))), some (.loc p2), b8, b9, none, none, none] st4 :=
    if_no (by simp only [mT_ap, m2_ap, mC_ap, aCons_ap, aNil_ap, on1_ap, vr_zero, vr_succ, ct_ap, then_ok, bind_ap, pure_ap, mk4, pw, m5, n4, asB_ap])
  have A8 : sSet 10 (mC (on1 locOf) (aCons (vr 2) aNil)) [some (.loc n), some (.dat e.enc), some (.dat (.tuple (r.map PyData.int))), some (.dat (.int w)), some (.dat (metout (e.val r w))), some (.loc p), some (.dat (.list (natD q))), some (.loc p2), b8, b9, none, none, none] st4 = .nx [some (.loc n), some (.dat e.enc), some (.dat (.tuple (r.map PyData.int))), some (.dat (.int w)), some (.dat (metout (e.val r w))), some (.loc p), some (.dat (.list (natD q))), some (.loc p2), b8, b9, some (.loc p3), none, none] st5 :=
    set_of (by simp only [mC_ap, aCons_ap, aNil_ap, on1_ap, vr_zero, vr_succ, then_ok, bind_ap, pure_ap, lo])
  have A9 : sSet 11 (mC F__law_bare (aCons (vr 1) (aCons (vr 10) aNil))) [some (.loc n), some (.dat e.enc), some (.dat (.tuple (r.map PyData.int))), some (.dat (.int w)), some (.dat (metout (e.val r w))), some (.loc p), some (.dat (.list (natD q))), some (.loc p2), b8, b9, some (.loc p3), none, none] st5 = .nx [some (.loc n), some (.dat e.enc), some (.dat (.tuple (r.map PyData.int))), some (.dat (.int w)), some (.dat (metout (e.val r w))), some (.loc p), some (.dat (.list (natD q))), some (.loc p2), b8, b9, some (.loc p3), some (.dat (e.bare r.length).enc), none] st6 :=
    set_of (by simp only [mC_ap, aCons_ap, aNil_ap, vr_zero, vr_succ, then_ok, bind_ap, pure_ap, be])
  simp only [F__law_others_right, run4, startE_ap, List.map_cons, List.map_nil, List.length_cons, List.length_nil, List.replicate, List.cons_append, List.nil_append]
  rw [b__law_others_right, seq_nx A1, seq_nx A2, seq_nx A3, seq_nx A4, seq_nx A5, seq_nx A6, seq_nx A7, seq_nx A8, seq_nx A9, sRet_ap, last, thenS_ok, fin_rt, fin]
end K04
set_option Elab.async false
set_option linter.all false
set_option maxRecDepth 100000
set_option maxHeartbeats 2000000
set_option exponentiation.threshold 5000
namespace K04
open PySem PySem.Spec PyProof.Rows L2 Ev
open Classical
def opsH : List PyData := [.str "plus", .str "over", .str "times", .str "less"]
theorem opsH_nm {x : PyData} (h : x ∈ opsH) : ∃ o : Op, x = .str o.nm := by
  simp only [opsH, List.mem_cons, List.not_mem_nil, or_false] at h
  rcases h with h | h | h | h <;> rw [h]
  · exact ⟨.plus, rfl⟩
  · exact ⟨.over, rfl⟩
  · exact ⟨.times, rfl⟩
  · exact ⟨.less, rfl⟩
/-- one that has the column more, or is put behind an op of it -/
theorem has_step {r : List Int} (hl : r.length ≤ 8) {n m : Nat} {st : Sto} (S : SackAt st n m) (hm : m ≤ 800000) {e : Ex} (hg : e.good (r.length + 1)) (hd : e.dep ≤ 2) (a0 a1 a4 a5 a7 a8 : Option D) :
    ∃ (e' : Ex) (b7 : Option D) (st' : Sto), sIf (mNot (mT (mC F__law_has (aCons (vr 6) (aCons (mC mkTup (aCons (ct (.dat (.str "at"))) (aCons (mC (on1 dLen) (aCons (vr 3) aNil)) aNil))) aNil))))) (sSeq (sSet 7 (m2 dIx (mC mkLst (aCons (ct (.dat (.str "plus"))) (aCons (ct (.dat (.str "over"))) (aCons (ct (.dat (.str "times"))) (aCons (ct (.dat (.str "less"))) aNil))))) (mC F__law_draw (aCons (vr 2) (aCons (ct (.dat (.int 4))) aNil)))))
    (sSet 6 (mC mkTup (aCons (vr 7) (aCons (mC mkTup (aCons (ct (.dat (.str "at"))) (aCons (mC (on1 dLen) (aCons (vr 3) aNil)) aNil))) (aCons (vr 6) aNil)))))) sNil [a0, a1, some (.loc n), some (.dat (.tuple (r.map PyData.int))), a4, a5, some (.dat e.enc), a7, a8] st =
      .nx [a0, a1, some (.loc n), some (.dat (.tuple (r.map PyData.int))), a4, a5, some (.dat e'.enc), b7, a8] st' ∧ e'.good (r.length + 1) ∧ e'.dep ≤ 3 ∧ (∀ x : Ex, x.dep ≤ 2 → (e'.putL (some r.length) x).dep ≤ 4) ∧ Dn n (m + 1) st st' := by
  obtain ⟨L, hL⟩ : ∃ L : Int, L = (r.length : Int) := ⟨_, rfl⟩
  have dl0 : ∀ s : Sto, dLen (.dat (.tuple (r.map PyData.int))) s = .ok (.dat (.int L)) s := fun s => by rw [hL, dLen_tuple, List.length_map]
  have mk : ∀ s : Sto, mkTup [.dat (.str "at"), .dat (.int L)] s = .ok (.dat (lenc (some r.length))) s := fun s => by rw [hL] <;> rfl
  have hs : ∀ s : Sto, F__law_has [.dat e.enc, .dat (lenc (some r.length))] s = .ok (.dat (.bool (e.hasL (some r.length)))) s := fun s => has_eq (some r.length) 24 e s (by omega) (by omega)
  cases eh : e.hasL (some r.length) with
  | true =>
    refine ⟨e, a7, st, ?_, hg, by omega, fun x hx => ?_, ((Dn.rf S).mono (by omega))⟩
    · have h1 := hs st
      rw [eh] at h1
      exact if_no (by simp only [mNot_ap, mT_ap, mC_ap, aCons_ap, aNil_ap, on1_ap, vr_zero, vr_succ, ct_ap, then_ok, bind_ap, pure_ap, dl0, mk, h1, asB_ap, Bool.not_true])
    · have := put_dep (l := some r.length) (x := x) e
      omega
  | false =>
    obtain ⟨u, st1, e1, u0, u1, n1⟩ := drw S (many := 4) (by decide) (by decide) (by omega)
    obtain ⟨y, hy, ey⟩ := atI_mem (xs := opsH) u0 (by simpa [opsH] using u1)
    obtain ⟨o, rfl⟩ := opsH_nm hy
    have ix := ix_list ey st1
    have ml : mkLst [.dat (.str "plus"), .dat (.str "over"), .dat (.str "times"), .dat (.str "less")] st = .ok (.dat (.list opsH)) st := rfl
    have h1 := hs st
    rw [eh] at h1
    have mt : mkTup [.dat (.str o.nm), .dat (lenc (some r.length)), .dat e.enc] st1 = .ok (.dat (Ex.op o (.at_ r.length) e).enc) st1 := rfl
    refine ⟨.op o (.at_ r.length) e, some (.dat (.str o.nm)), st1, ?_, ⟨by show r.length < r.length + 1; omega, hg⟩, ?_, fun x hx => ?_, n1⟩
    · simp only [sIf_ap, mNot_ap, mT_ap, mC_ap, aCons_ap, aNil_ap, on1_ap, vr_zero, vr_succ, ct_ap, then_ok, bind_ap, pure_ap, dl0, mk, h1, asB_ap, Bool.not_false, thenS_ok, ite_sm, if_true, sSeq_ap, sSet_ap, m2_ap, ml, e1, ix, List.set_cons_succ, List.set_cons_zero, sthen_nx, mt]
    · show max 0 e.dep + 1 ≤ 3
      omega
    · have z : (Ex.op o (.at_ r.length) e).putL (some r.length) x = .op o x e := by
        show Ex.op o (if (some r.length == some r.length) = true then x else .at_ r.length) (e.putL (some r.length) x) = _
        rw [put_none e eh, if_pos (by simp)]
      rw [z]
      show max x.dep e.dep + 1 ≤ 4
      omega
theorem inner_ok {r : List Int} {w : Int} (hr : ∀ i ∈ r, Wd i) (hw : Wd w) (hl : r.length ≤ 8) {n m : Nat} {st : Sto} (S : SackAt st n m) (hm : m ≤ 700000) (a0 a1 a5 a6 a7 a8 : Option D) :
    ∃ b6 b7 b8 st', l_law_1 [a0, a1, some (.loc n), some (.dat (.tuple (r.map PyData.int))), some (.dat (.int w)), a5, a6, a7, a8] st = .nx [a0, a1, some (.loc n), some (.dat (.tuple (r.map PyData.int))), some (.dat (.int w)), a5, b6, b7, b8] st' ∧ Dn n (m + 200) st st' := by
  obtain ⟨L, hL⟩ : ∃ L : Int, L = (r.length : Int) := ⟨_, rfl⟩
  obtain ⟨L1, hL1⟩ : ∃ L1 : Int, L1 = ((r.length + 1 : Nat) : Int) := ⟨_, rfl⟩
  have dl0 : ∀ s : Sto, dLen (.dat (.tuple (r.map PyData.int))) s = .ok (.dat (.int L)) s := fun s => by rw [hL, dLen_tuple, List.length_map]
  have ad : ∀ s : Sto, dAdd (.dat (.int L)) (.dat (.int 1)) s = .ok (.dat (.int L1)) s := fun s => by rw [dAdd_ap, show L + 1 = L1 by omega]
  obtain ⟨e, st1, e1, g1, d1, n1⟩ := tree_ok n (w := r.length + 1) (by omega) 24 2 m st (by decide) S (by omega)
  rw [← hL1] at e1
  have e1' : F__law_expr [.loc n, .dat (.int L1), .dat (.int 2), .dat (.bool true)] st = .ok (.dat e.enc) st1 := e1
  obtain ⟨e', b7, st2, e2, g2, d2, p2, n2⟩ := has_step hl n1.sack (by omega) g1 d1 a0 a1 (some (.dat (.int w))) a5 a7 a8
  obtain ⟨x, st3, e3, g3, d3, n3⟩ := tree_ok n (w := r.length) (by omega) 24 2 _ st2 (by decide) n2.sack (by omega)
  rw [← hL] at e3
  have e3' : F__law_expr [.loc n, .dat (.int L), .dat (.int 2), .dat (.bool true)] st2 = .ok (.dat x.enc) st3 := e3
  have pr := put_right_ok hr hw hl g2 (by omega) g3 (by omega) (p2 x d3) st3
  obtain ⟨st4, e4, n4⟩ := others_ok hr hw hl g3 (by omega) n3.sack (by omega)
  have B1 : sSet 6 (mC F__law_expr (aCons (vr 2) (aCons (m2 dAdd (mC (on1 dLen) (aCons (vr 3) aNil)) (ct (.dat (.int 1)))) (aCons (ct (.dat (.int 2))) (aCons (ct (.dat (.bool true))) aNil))))) [a0, a1, some (.loc n), some (.dat (.tuple (r.map PyData.int))), some (.dat (.int w)), a5, a6, a7, a8] st = .nx [a0, a1, some (.loc n), some (.dat (.tuple (r.map PyData.int))), some (.dat (.int w)), a5, some (.dat e.enc), a7, a8] st1 :=
    set_of (by simp only [mC_ap, aCons_ap, aNil_ap, on1_ap, vr_zero, vr_succ, ct_ap, then_ok, bind_ap, pure_ap, m2_ap, dl0, ad, e1'])
  have B3 : sSet 8 (mC F__law_expr (aCons (vr 2) (aCons (mC (on1 dLen) (aCons (vr 3) aNil)) (aCons (ct (.dat (.int 2))) (aCons (ct (.dat (.bool true))) aNil))))) [a0, a1, some (.loc n), some (.dat (.tuple (r.map PyData.int))), some (.dat (.int w)), a5, some (.dat e'.enc), b7, a8] st2 = .nx [a0, a1, some (.loc n), some (.dat (.tuple (r.map PyData.int))), some (.dat (.int w)), a5, some (.dat e'.enc), b7, some (.dat x.enc)] st3 :=
    set_of (by simp only [mC_ap, aCons_ap, aNil_ap, on1_ap, vr_zero, vr_succ, ct_ap, then_ok, bind_ap, pure_ap, dl0, e3'])
  have B4 : sIf (mNot (mT (mC F__law_put_right (aCons (vr 6) (aCons (vr 8) (aCons (vr 3) (aCons (vr 4) aNil))))))) (sRet (ct (.dat (.bool false)))) sNil [a0, a1, some (.loc n), some (.dat (.tuple (r.map PyData.int))), some (.dat (.int w)), a5, some (.dat e'.enc), b7, some (.dat x.enc)] st3 = .nx [a0, a1, some (.loc n), some (.dat (.tuple (r.map PyData.int))), some (.dat (.int w)), a5, some (.dat e'.enc), b7, some (.dat x.enc)] st3 :=
    if_no (by simp only [mNot_ap, mT_ap, mC_ap, aCons_ap, aNil_ap, vr_zero, vr_succ, then_ok, bind_ap, pure_ap, pr, asB_ap, Bool.not_true])
  have B5 : sIf (mNot (mT (mC F__law_others_right (aCons (vr 2) (aCons (vr 8) (aCons (vr 3) (aCons (vr 4) aNil))))))) (sRet (ct (.dat (.bool false)))) sNil [a0, a1, some (.loc n), some (.dat (.tuple (r.map PyData.int))), some (.dat (.int w)), a5, some (.dat e'.enc), b7, some (.dat x.enc)] st3 = .nx [a0, a1, some (.loc n), some (.dat (.tuple (r.map PyData.int))), some (.dat (.int w)), a5, some (.dat e'.enc), b7, some (.dat x.enc)] st4 :=
    if_no (by simp only [mNot_ap, mT_ap, mC_ap, aCons_ap, aNil_ap, vr_zero, vr_succ, then_ok, bind_ap, pure_ap, e4, asB_ap, Bool.not_true])
  refine ⟨some (.dat e'.enc), b7, some (.dat x.enc), st4, ?_, (((n1.trans n2).trans n3).trans n4).mono (by omega)⟩
  rw [l_law_1, seq_nx B1, seq_nx e2, seq_nx B3, seq_nx B4, B5]
theorem turn_ok (ns : List Int) {k : Nat} (hk : k < 1000) (a2 a3 a4 a5 a6 a7 a8 : Option D) (st : Sto) :
    ∃ b2 b3 b4 b5 b6 b7 b8 st', l_law_2 [some (.fz (ns.map PyData.int)), some (.dat (.int k)), a2, a3, a4, a5, a6, a7, a8] st = .nx [some (.fz (ns.map PyData.int)), some (.dat (.int k)), b2, b3, b4, b5, b6, b7, b8] st' := by
  obtain ⟨sx, e1, S1⟩ := sack_ok ns hk st
  rw [← F_sack] at e1
  obtain ⟨n, hn⟩ : ∃ n, n = st.length := ⟨_, rfl⟩
  rw [← hn] at e1 S1
  obtain ⟨st1, hs1⟩ : ∃ x, x = st ++ [Cell.lst sx] := ⟨_, rfl⟩
  rw [← hs1] at e1 S1
  obtain ⟨q, st2, e2, q0, q1, n2⟩ := drw S1 (many := 6) (by decide) (by decide) (by omega)
  obtain ⟨N, hN⟩ : ∃ N, N = (1 + q).toNat := ⟨_, rfl⟩
  have N9 : N ≤ 6 := by omega
  have g := rng_ap (k := 1 + q) (by omega) (by omega) st2
  rw [← hN] at g
  obtain ⟨ys, st3, e3, l3, q3, p3⟩ := loopC_st (t := tgName 5) (elt := mC F__law_word (aCons (vr 2) aNil)) (ρ := wipeE [some (.fz (ns.map PyData.int)), some (.dat (.int k)), some (.loc n), a3, a4, a5, a6, a7, a8] [5])
    (fun j s => Dn n (1 + 2 * j) st2 s) (fun y => ∃ v : Int, y = .int v ∧ Wd v) ((List.range N).map (fun i : Nat => D.dat (.int (0 + (i : Int))))) 0 [] st2 (by rw [List.length_map, List.length_range, List.length_nil]; omega) (Dn.rf n2.sack) (fun d _ => ⟨_, rfl, fun j s hj hjl => by
      rw [List.length_map, List.length_range] at hjl
      obtain ⟨v, s', ev, wv, nv⟩ := word_ok hj.sack (by omega)
      refine ⟨.int v, s', ?_, ⟨v, rfl, wv⟩, (hj.trans nv).mono (by omega)⟩
      simp only [wipeE, List.set_cons_succ, List.set_cons_zero, mC_ap, aCons_ap, aNil_ap, vr_zero, vr_succ, then_ok, bind_ap, pure_ap, ev]⟩)
  obtain ⟨r, rfl, hr, lr⟩ := ints_of q3
  simp only [List.length_map, List.length_range] at l3 p3 lr
  have hl : r.length ≤ 8 := by rw [l3]; omega
  rw [List.nil_append] at e3
  have S3 : SackAt st3 n 100 := SackAt.mono (m := 1 + 2 * (0 + N)) p3.sack (by omega)
  obtain ⟨w, st4, e4, hw, n4⟩ := word_ok S3 (by omega)
  have g4 := rng_ap (k := 3) (by decide) (by decide) st4
  have r4 : List.range (3 : Int).toNat = [0, 1, 2] := rfl
  obtain ⟨c6, c7, c8, st5, f5, m5⟩ := inner_ok hr hw hl n4.sack (by omega) (some (.fz (ns.map PyData.int))) (some (.dat (.int k))) (some (.dat (.int (0 + ((0 : Nat) : Int))))) a6 a7 a8
  obtain ⟨d6, d7, d8, st6, f6, m6⟩ := inner_ok hr hw hl m5.sack (by omega) (some (.fz (ns.map PyData.int))) (some (.dat (.int k))) (some (.dat (.int (0 + ((1 : Nat) : Int))))) c6 c7 c8
  obtain ⟨h6, h7, h8, st7, f7, m7⟩ := inner_ok hr hw hl m6.sack (by omega) (some (.fz (ns.map PyData.int))) (some (.dat (.int k))) (some (.dat (.int (0 + ((2 : Nat) : Int))))) d6 d7 d8
  refine ⟨some (.loc n), some (.dat (.tuple (r.map PyData.int))), some (.dat (.int w)), some (.dat (.int (0 + ((2 : Nat) : Int)))), h6, h7, h8, st7, ?_⟩
  simp only [l_law_2, sSeq_ap, sSet_ap, mC_ap, aCons_ap, aNil_ap, ct_ap, on1_ap, vr_zero, vr_succ, then_ok, bind_ap, pure_ap, e1, thenS_ok, List.set_cons_succ, List.set_cons_zero, sthen_nx, mLc_ap, mRng1_ap, m2_ap, e2, dAdd_ap, g, rng_items, rng_ok, e3, tupOf_list, e4, sFor_ap, g4, r4, List.map_cons, List.map_nil]
  rw [loopS_nx trivial rfl f5, loopS_nx trivial rfl f6, loopS_nx trivial rfl f7, loopS_end]
theorem turns_ok (ns : List Int) : ∀ (c lo : Nat), lo + c ≤ 1000 → ∀ (a1 a2 a3 a4 a5 a6 a7 a8 : Option D) (st : Sto),
    ∃ b1 b2 b3 b4 b5 b6 b7 b8 st', loopS (fun _ => True) (tgName 1) l_law_2 ((List.range' lo c).map fun i : Nat => D.dat (.int (0 + (i : Int)))) [some (.fz (ns.map PyData.int)), a1, a2, a3, a4, a5, a6, a7, a8] st =
      .nx [some (.fz (ns.map PyData.int)), b1, b2, b3, b4, b5, b6, b7, b8] st'
  | 0, lo, _, a1, a2, a3, a4, a5, a6, a7, a8, st => ⟨_, _, _, _, _, _, _, _, _, by simp only [List.range'_zero, List.map_nil]; exact loopS_end⟩
  | c + 1, lo, h, a1, a2, a3, a4, a5, a6, a7, a8, st => by
    obtain ⟨b2, b3, b4, b5, b6, b7, b8, st1, e1⟩ := turn_ok ns (k := lo) (by omega) a2 a3 a4 a5 a6 a7 a8 st
    obtain ⟨c1, c2, c3, c4, c5, c6, c7, c8, st2, e2⟩ := turns_ok ns c (lo + 1) (by omega) (some (.dat (.int lo))) b2 b3 b4 b5 b6 b7 b8 st1
    refine ⟨c1, c2, c3, c4, c5, c6, c7, c8, st2, Eq.trans ?_ e2⟩
    rw [List.range'_succ, List.map_cons]
    exact loopS_nx trivial rfl (by rw [Int.zero_add]; exact e1)
def xE : Ex := .op .over (.at_ 1) (.at_ 0)
def xO : Ex := .op .minus (.at_ 0) (.lit 4)
def xP : Ex := .op .over (.lit 1) (.lit 0)
theorem law_ok (ns : List Int) : ∃ st', F_law [.fz (ns.map PyData.int)] [] = .ok (.dat (.bool true)) st' := by
  obtain ⟨c, hc⟩ : ∃ c, c = iMax 1 (iMin 20 ((ns.map PyData.int).length : Int)) := ⟨_, rfl⟩
  have c0 : 0 ≤ c := by rw [hc]; unfold iMax iMin; split <;> split <;> omega
  have c1 : c ≤ 20 := by rw [hc]; unfold iMax iMin; split <;> split <;> omega
  have g1 := rng_ap (k := c) c0 (by omega) []
  obtain ⟨b1, b2, b3, b4, b5, b6, b7, b8, st1, e1⟩ := turns_ok ns c.toNat 0 (by omega) none none none none none none none none []
  rw [← List.range_eq_range'] at e1
  have r2 : ∀ i ∈ ([2] : List Int), Wd i := fun i h => by
    rw [List.mem_singleton.mp h]
    decide
  have z0 : Wd 0 := by decide
  have gE : xE.good 2 := ⟨by show 1 < 2; decide, by show 0 < 2; decide⟩
  have gO : xO.good 1 := ⟨by show 0 < 1; decide, by show Wd 4; decide⟩
  have gP : xP.good 1 := ⟨by show Wd 1; decide, by show Wd 0; decide⟩
  have pt : F__law_put [.dat xE.enc, .dat (lenc (some 1)), .dat xO.enc] st1 = .ok (.dat (xE.putL (some 1) xO).enc) st1 := put_eq (some 1) xO 24 xE st1 (by decide) (by decide)
  have gm := put_good (n := 1) gO xE gE
  have we : F_worth [.dat (xE.putL (some 1) xO).enc, .dat (.tuple [.int 2]), .dat (.int 0)] st1 = out ((xE.putL (some 1) xO).val [2] 0) st1 := worth_eq r2 z0 24 _ st1 (by decide) gm
  have ev : (xE.putL (some 1) xO).val [2] 0 = .ok (-1) := rfl
  rw [ev] at we
  have we' : F_worth [.dat (xE.putL (some 1) xO).enc, .dat (.tuple [.int 2]), .dat (.int 0)] st1 = .ok (.dat (.int (-1))) st1 := we
  have pr : F__law_put_right [.dat xE.enc, .dat xP.enc, .dat (.tuple [.int 2]), .dat (.int 0)] st1 = .ok (.dat (.bool true)) st1 := put_right_ok (r := [2]) r2 z0 (by decide) (e := xE) (x := xP) gE (by decide) gP (by decide) (by decide) st1
  have k1 : mkTup [.dat (.str "at"), .dat (.int 1)] st1 = .ok (.dat (lenc (some 1))) st1 := rfl
  have k0 : mkTup [.dat (.str "at"), .dat (.int 0)] st1 = .ok (.dat (lenc (some 0))) st1 := rfl
  have kE : mkTup [.dat (.str "over"), .dat (lenc (some 1)), .dat (lenc (some 0))] st1 = .ok (.dat xE.enc) st1 := rfl
  have kO : mkTup [.dat (.str "minus"), .dat (lenc (some 0)), .dat (.int 4)] st1 = .ok (.dat xO.enc) st1 := rfl
  have kP : mkTup [.dat (.str "over"), .dat (.int 1), .dat (.int 0)] st1 = .ok (.dat xP.enc) st1 := rfl
  have kT : mkTup [.dat xE.enc, .dat xO.enc] st1 = .ok (.dat (.tuple [xE.enc, xO.enc])) st1 := rfl
  have k2 : mkTup [.dat (.int 2)] st1 = .ok (.dat (.tuple [.int 2])) st1 := rfl
  have as : sAsg (tgTup (tgCons (tgName 6) (tgCons (tgName 8) tgNil))) (mC mkTup (aCons (mC mkTup (aCons (ct (.dat (.str "over"))) (aCons (mC mkTup (aCons (ct (.dat (.str "at"))) (aCons (ct (.dat (.int 1))) aNil))) (aCons (mC mkTup (aCons (ct (.dat (.str "at"))) (aCons (ct (.dat (.int 0))) aNil))) aNil)))) (aCons (mC mkTup (aCons (ct (.dat (.str "minus"))) (aCons (mC mkTup (aCons (ct (.dat (.str "at"))) (aCons (ct (.dat (.int 0))) aNil))) (aCons (ct (.dat (.int 4))) aNil)))) aNil))) [some (.fz (ns.map PyData.int)), b1, b2, b3, b4, b5, b6, b7, b8] st1 = .nx [some (.fz (ns.map PyData.int)), b1, b2, b3, b4, b5, some (.dat xE.enc), b7, some (.dat xO.enc)] st1 := by
    have k : mC mkTup (aCons (mC mkTup (aCons (ct (.dat (.str "over"))) (aCons (mC mkTup (aCons (ct (.dat (.str "at"))) (aCons (ct (.dat (.int 1))) aNil))) (aCons (mC mkTup (aCons (ct (.dat (.str "at"))) (aCons (ct (.dat (.int 0))) aNil))) aNil)))) (aCons (mC mkTup (aCons (ct (.dat (.str "minus"))) (aCons (mC mkTup (aCons (ct (.dat (.str "at"))) (aCons (ct (.dat (.int 0))) aNil))) (aCons (ct (.dat (.int 4))) aNil)))) aNil)) [some (.fz (ns.map PyData.int)), b1, b2, b3, b4, b5, b6, b7, b8] st1 = .ok (.dat (.tuple [xE.enc, xO.enc])) st1 := by
      simp only [mC_ap, aCons_ap, aNil_ap, ct_ap, then_ok, bind_ap, pure_ap, k1, k0, kE, kO, kT]
    unfold sAsg
    rw [sBind_ap, k] <;> rfl
  refine ⟨st1.take 0, ?_⟩
  have fin : giveD (List.length ([] : Sto)) (.dat (.bool true)) st1 = .ok (.dat (.bool true)) (st1.take 0) := rfl
  have F1 : sFor (mRng1 (aCons (mC (on2 dMax2) (aCons (ct (.dat (.int 1))) (aCons (mC (on2 dMin2) (aCons (ct (.dat (.int 20))) (aCons (mC (on1 dLen) (aCons (vr 0) aNil)) aNil))) aNil))) aNil)) (tgName 1) l_law_2 [some (.fz (ns.map PyData.int)), none, none, none, none, none, none, none, none] [] = .nx [some (.fz (ns.map PyData.int)), b1, b2, b3, b4, b5, b6, b7, b8] st1 := by
    simp only [sFor_ap, mRng1_ap, m2_ap, mC_ap, aCons_ap, aNil_ap, on1_ap, on2_ap, pure_ap, vr_zero, ct_ap, then_ok, bind_ap, thenS_ok, dLen_fz, dMin_ap, dMax_ap, ← hc, g1, rng_items, rng_ok, e1]
  simp only [F_law, run1, startE, List.map_cons, List.map_nil, List.length_cons, List.length_nil, List.replicate, List.cons_append, List.nil_append]
  rw [b_law, seq_nx F1, seq_nx as]
  simp only [sRet_ap, mAndV_ap, m2_ap, m1_ap, mK_ap, mC_ap, aCons_ap, aNil_ap, vr_zero, vr_succ, ct_ap, then_ok, bind_ap, pure_ap, k1, k2, pt, List.cons_append, List.nil_append, we', dNeg_ap, dEq_int, beq_self_eq_true, asB_ap, if_true, ite_em, ite_st, kP, pr, thenS_ok, fin_rt]
  exact fin
end K04
set_option Elab.async false
set_option linter.all false
open PySem PySem.W PyProof.Rows
set_option maxRecDepth 100000 in
set_option maxHeartbeats 0 in
theorem PySem.Challenge.cw_rowhaul_k04_whole_one_in_the_place_of_an_holds : PySem.Challenge.rw_rowhaul_k04_whole_one_in_the_place_of_an.Holds := by
  w_on; o_law; k_head; (case hw => w_witness2)
  k_fill
  refine Ev.end_lawN (F := K04.F_law) (k := 31) (x := "script") rfl (by decide) rfl (by rfl) ⟨rfl, by decide, by decide⟩ ?F (fun ns h1 h2 => K04.law_ok ns)
  case F =>
    intro w mg h Y XP G
    have KX := PySem.W.kIn_of Y
    refine ⟨_, KX, fun bs => K04.all_ok ?B ?D⟩
    case B =>
      constructor
      · exact PySem.W.mg_none_of KX G (by k_is)
      · exact PySem.W.mg_none_of KX G (by k_is)
      · exact PySem.W.mg_none_of KX G (by k_is)
      · exact PySem.W.mg_none_of KX G (by k_is)
      · exact PySem.W.mg_none_of KX G (by k_is)
      · exact PySem.W.mg_none_of KX G (by k_is)
      · exact PySem.W.mg_none_of KX G (by k_is)
      · exact PySem.W.mg_none_of KX G (by k_is)
      · exact PySem.W.mg_none_of KX G (by k_is)
      · exact PySem.W.mg_none_of KX G (by k_is)
      · exact PySem.W.mg_none_of KX G (by k_is)
      · first | exact Ev.loose_int XP.2 (List.Mem.head _) | exact Ev.loose_int XP.2 (List.Mem.tail _ (List.Mem.head _)) | exact Ev.loose_int XP.2 (List.Mem.tail _ (List.Mem.tail _ (List.Mem.head _))) | exact Ev.loose_int XP.2 (List.Mem.tail _ (List.Mem.tail _ (List.Mem.tail _ (List.Mem.head _)))) | exact Ev.loose_int XP.2 (List.Mem.tail _ (List.Mem.tail _ (List.Mem.tail _ (List.Mem.tail _ (List.Mem.head _))))) | exact Ev.loose_int XP.2 (List.Mem.tail _ (List.Mem.tail _ (List.Mem.tail _ (List.Mem.tail _ (List.Mem.tail _ (List.Mem.head _)))))) | exact Ev.loose_int XP.2 (List.Mem.tail _ (List.Mem.tail _ (List.Mem.tail _ (List.Mem.tail _ (List.Mem.tail _ (List.Mem.tail _ (List.Mem.head _))))))) | exact Ev.loose_int XP.2 (List.Mem.tail _ (List.Mem.tail _ (List.Mem.tail _ (List.Mem.tail _ (List.Mem.tail _ (List.Mem.tail _ (List.Mem.tail _ (List.Mem.head _)))))))) | (refine' Ev.const_int KX G ?qv ?qr; (case qv => k_is); (case qr => exact ⟨_, rfl⟩))
      · first | exact Ev.loose_int XP.2 (List.Mem.head _) | exact Ev.loose_int XP.2 (List.Mem.tail _ (List.Mem.head _)) | exact Ev.loose_int XP.2 (List.Mem.tail _ (List.Mem.tail _ (List.Mem.head _))) | exact Ev.loose_int XP.2 (List.Mem.tail _ (List.Mem.tail _ (List.Mem.tail _ (List.Mem.head _)))) | exact Ev.loose_int XP.2 (List.Mem.tail _ (List.Mem.tail _ (List.Mem.tail _ (List.Mem.tail _ (List.Mem.head _))))) | exact Ev.loose_int XP.2 (List.Mem.tail _ (List.Mem.tail _ (List.Mem.tail _ (List.Mem.tail _ (List.Mem.tail _ (List.Mem.head _)))))) | exact Ev.loose_int XP.2 (List.Mem.tail _ (List.Mem.tail _ (List.Mem.tail _ (List.Mem.tail _ (List.Mem.tail _ (List.Mem.tail _ (List.Mem.head _))))))) | exact Ev.loose_int XP.2 (List.Mem.tail _ (List.Mem.tail _ (List.Mem.tail _ (List.Mem.tail _ (List.Mem.tail _ (List.Mem.tail _ (List.Mem.tail _ (List.Mem.head _)))))))) | (refine' Ev.const_int KX G ?qv ?qr; (case qv => k_is); (case qr => exact ⟨_, rfl⟩))
      · first | exact Ev.loose_int XP.2 (List.Mem.head _) | exact Ev.loose_int XP.2 (List.Mem.tail _ (List.Mem.head _)) | exact Ev.loose_int XP.2 (List.Mem.tail _ (List.Mem.tail _ (List.Mem.head _))) | exact Ev.loose_int XP.2 (List.Mem.tail _ (List.Mem.tail _ (List.Mem.tail _ (List.Mem.head _)))) | exact Ev.loose_int XP.2 (List.Mem.tail _ (List.Mem.tail _ (List.Mem.tail _ (List.Mem.tail _ (List.Mem.head _))))) | exact Ev.loose_int XP.2 (List.Mem.tail _ (List.Mem.tail _ (List.Mem.tail _ (List.Mem.tail _ (List.Mem.tail _ (List.Mem.head _)))))) | exact Ev.loose_int XP.2 (List.Mem.tail _ (List.Mem.tail _ (List.Mem.tail _ (List.Mem.tail _ (List.Mem.tail _ (List.Mem.tail _ (List.Mem.head _))))))) | exact Ev.loose_int XP.2 (List.Mem.tail _ (List.Mem.tail _ (List.Mem.tail _ (List.Mem.tail _ (List.Mem.tail _ (List.Mem.tail _ (List.Mem.tail _ (List.Mem.head _)))))))) | (refine' Ev.const_int KX G ?qv ?qr; (case qv => k_is); (case qr => exact ⟨_, rfl⟩))
      · first | exact Ev.loose_int XP.2 (List.Mem.head _) | exact Ev.loose_int XP.2 (List.Mem.tail _ (List.Mem.head _)) | exact Ev.loose_int XP.2 (List.Mem.tail _ (List.Mem.tail _ (List.Mem.head _))) | exact Ev.loose_int XP.2 (List.Mem.tail _ (List.Mem.tail _ (List.Mem.tail _ (List.Mem.head _)))) | exact Ev.loose_int XP.2 (List.Mem.tail _ (List.Mem.tail _ (List.Mem.tail _ (List.Mem.tail _ (List.Mem.head _))))) | exact Ev.loose_int XP.2 (List.Mem.tail _ (List.Mem.tail _ (List.Mem.tail _ (List.Mem.tail _ (List.Mem.tail _ (List.Mem.head _)))))) | exact Ev.loose_int XP.2 (List.Mem.tail _ (List.Mem.tail _ (List.Mem.tail _ (List.Mem.tail _ (List.Mem.tail _ (List.Mem.tail _ (List.Mem.head _))))))) | exact Ev.loose_int XP.2 (List.Mem.tail _ (List.Mem.tail _ (List.Mem.tail _ (List.Mem.tail _ (List.Mem.tail _ (List.Mem.tail _ (List.Mem.tail _ (List.Mem.head _)))))))) | (refine' Ev.const_int KX G ?qv ?qr; (case qv => k_is); (case qr => exact ⟨_, rfl⟩))
      · refine' Ev.ktup_mk KX G ?ga ?gl ?gv ?gz ?gf; (case ga => k_is); (case gl => k_is); (case gv => exact (.cons ⟨_, rfl⟩ (.cons ⟨_, rfl⟩ (.cons ⟨_, rfl⟩ (.cons ⟨_, rfl⟩ (.cons ⟨_, rfl⟩ (.cons ⟨_, rfl⟩ (.cons ⟨_, rfl⟩ .nil)))))))); (case gz => first | decide | (rw [PyProof.Rows.sizeLine_eq]; decide) | simp [PySem.sizeLine]); (case gf => rfl)
      · refine' Ev.exn_mk KX G PySem.F.excBase_ValueError ?ga ?xF ?kF ?bF ?tF; (case ga => k_is); (case xF => k_exc); (case kF => k_is); (case bF => k_is); (case tF => k_is)
      · refine' ⟨_, PySem.W.mg_of KX G ?ga, ?gh⟩; (case ga => k_is); (case gh => refine' (Ev.hits_cons (PySem.W.mg_of KX G ?a0) (PySem.W.exm_ref ?b0 ?d0 ?t0 ?s0) (Ev.hits_cons (PySem.W.mg_of KX G ?a1) (PySem.W.exm_ref ?b1 ?d1 ?t1 ?s1) (Ev.hits_cons (PySem.W.mg_of KX G ?a2) (PySem.W.exm_ref ?b2 ?d2 ?t2 ?s2) Ev.hits_nil))); (case a0 => k_is); (case b0 => k_is); (case d0 => k_is); (case t0 => k_is); (case s0 => k_is); (case a1 => k_is); (case b1 => k_is); (case d1 => k_is); (case t1 => k_is); (case s1 => k_is); (case a2 => k_is); (case b2 => k_is); (case d2 => k_is); (case t2 => k_is); (case s2 => k_is))
      · refine' Ev.exi_mk KX G ?ga ?o1 ?o2 ?o3 ?o4 ?o5 ?o6 ?o7 ?tk ?fi ?ti ?gl ?gc ?kf (fun _ _ _ _ _ _ us hl => match us, hl with | [_, _], _ => rfl) (Ev.bsg_ArithmeticError (PySem.W.mg_none_of KX G (by k_is)) ?bi) K04.ini_Falls; (case ga => k_is); (case o1 => kx_is); (case o2 => kx_is); (case o3 => k_is); (case o4 => k_is); (case o5 => k_is); (case o6 => k_is); (case o7 => k_is); (case tk => k_is); (case fi => k_is); (case ti => k_is); (case gl => k_is); (case gc => k_is); (case kf => k_is); (case bi => k_is)
      · refine' Ev.fldc_mk KX G ?ga ?x1 ?x2 ?x3 ?x4 ?x5; (case ga => k_is); (case x1 => k_is); (case x2 => k_is); (case x3 => k_is); (case x4 => k_is); (case x5 => k_is)
      · refine' Ev.bn1f (st := K04.s_is_expr) KX G ?ga ?gl ?gb; (case ga => k_is); (case gl => k_is); (case gb => exact fun _ _ _ _ _ _ us w hl => match us, hl with | [_, _], _ => rfl)
      · refine' Ev.bn0f (st := K04.s_worth) (kn := "was") KX G ?ga ?gl ?gd ?gr ?gb; (case ga => k_is); (case gl => k_is); (case gd => k_is); (case gr => first | rfl | exact ⟨_, rfl⟩); (case gb => exact fun _ _ _ _ _ _ _ us hl => match us, hl with | [_, _], _ => ⟨_, _, _, _, _, _, rfl, rfl, rfl⟩)
      · refine' Ev.bn1f (st := K04.s_worth) KX G ?ga ?gl ?gb; (case ga => k_is); (case gl => k_is); (case gb => exact fun _ _ _ _ _ _ us w hl => match us, hl with | [_, _], _ => rfl)
    case D =>
      constructor
      · refine' Ev.df_mk KX G ?qa ?ql ?qc ?qk (fun _ _ _ _ _ _ us hl => match us, hl with | [_], _ => rfl); (case qa => k_is); (case ql => k_is); (case qc => k_is); (case qk => k_is)
      · refine' Ev.df_mk KX G ?qa ?ql ?qc ?qk (fun _ _ _ _ _ _ us hl => match us, hl with | [_, _, _], _ => rfl); (case qa => k_is); (case ql => k_is); (case qc => k_is); (case qk => k_is)
      · refine' Ev.df_mk KX G ?qa ?ql ?qc ?qk (fun _ _ _ _ _ _ us hl => match us, hl with | [_, _, _], _ => rfl); (case qa => k_is); (case ql => k_is); (case qc => k_is); (case qk => k_is)
      · refine' Ev.df_mk KX G ?qa ?ql ?qc ?qk (fun _ _ _ _ _ _ us hl => match us, hl with | [_], _ => rfl); (case qa => k_is); (case ql => k_is); (case qc => k_is); (case qk => k_is)
      · refine' Ev.df_mk KX G ?qa ?ql ?qc ?qk (fun _ _ _ _ _ _ us hl => match us, hl with | [_, _, _, _], _ => rfl); (case qa => k_is); (case ql => k_is); (case qc => k_is); (case qk => k_is)
      · refine' Ev.dfv_mk KX G ?qa ?ql ?qc ?qk; (case qa => k_is); (case ql => k_is); (case qc => k_is); (case qk => k_is)
      · refine' Ev.df_mk KX G ?qa ?ql ?qc ?qk (fun _ _ _ _ _ _ us hl => match us, hl with | [_, _, _], _ => rfl); (case qa => k_is); (case ql => k_is); (case qc => k_is); (case qk => k_is)
      · refine' Ev.df_mk KX G ?qa ?ql ?qc ?qk (fun _ _ _ _ _ _ us hl => match us, hl with | [_, _, _], _ => rfl); (case qa => k_is); (case ql => k_is); (case qc => k_is); (case qk => k_is)
      · refine' Ev.dfv_mk KX G ?qa ?ql ?qc ?qk; (case qa => k_is); (case ql => k_is); (case qc => k_is); (case qk => k_is)
      · refine' Ev.df_mk KX G ?qa ?ql ?qc ?qk (fun _ _ _ _ _ _ us hl => match us, hl with | [_, _], _ => rfl); (case qa => k_is); (case ql => k_is); (case qc => k_is); (case qk => k_is)
      · refine' Ev.df_mk KX G ?qa ?ql ?qc ?qk (fun _ _ _ _ _ _ us hl => match us, hl with | [_, _], _ => rfl); (case qa => k_is); (case ql => k_is); (case qc => k_is); (case qk => k_is)
      · refine' Ev.df_mk KX G ?qa ?ql ?qc ?qk (fun _ _ _ _ _ _ us hl => match us, hl with | [_, _, _], _ => rfl); (case qa => k_is); (case ql => k_is); (case qc => k_is); (case qk => k_is)
      · refine' Ev.df_mk KX G ?qa ?ql ?qc ?qk (fun _ _ _ _ _ _ us hl => match us, hl with | [_, _, _, _], _ => rfl); (case qa => k_is); (case ql => k_is); (case qc => k_is); (case qk => k_is)
      · refine' Ev.df_mk KX G ?qa ?ql ?qc ?qk (fun _ _ _ _ _ _ us hl => match us, hl with | [_], _ => rfl); (case qa => k_is); (case ql => k_is); (case qc => k_is); (case qk => k_is)
      · refine' Ev.df_mk KX G ?qa ?ql ?qc ?qk (fun _ _ _ _ _ _ us hl => match us, hl with | [_, _, _], _ => rfl); (case qa => k_is); (case ql => k_is); (case qc => k_is); (case qk => k_is)
      · refine' Ev.df_mk KX G ?qa ?ql ?qc ?qk (fun _ _ _ _ _ _ us hl => match us, hl with | [_, _], _ => rfl); (case qa => k_is); (case ql => k_is); (case qc => k_is); (case qk => k_is)
      · refine' Ev.df_mk KX G ?qa ?ql ?qc ?qk (fun _ _ _ _ _ _ us hl => match us, hl with | [_, _, _], _ => rfl); (case qa => k_is); (case ql => k_is); (case qc => k_is); (case qk => k_is)
      · refine' Ev.df_mk KX G ?qa ?ql ?qc ?qk (fun _ _ _ _ _ _ us hl => match us, hl with | [_, _], _ => rfl); (case qa => k_is); (case ql => k_is); (case qc => k_is); (case qk => k_is)
      · refine' Ev.df_mk KX G ?qa ?ql ?qc ?qk (fun _ _ _ _ _ _ us hl => match us, hl with | [_, _], _ => rfl); (case qa => k_is); (case ql => k_is); (case qc => k_is); (case qk => k_is)
      · refine' Ev.df_mk KX G ?qa ?ql ?qc ?qk (fun _ _ _ _ _ _ us hl => match us, hl with | [_, _, _, _], _ => rfl); (case qa => k_is); (case ql => k_is); (case qc => k_is); (case qk => k_is)
      · refine' Ev.df_mk KX G ?qa ?ql ?qc ?qk (fun _ _ _ _ _ _ us hl => match us, hl with | [_, _, _, _], _ => rfl); (case qa => k_is); (case ql => k_is); (case qc => k_is); (case qk => k_is)
      · refine' Ev.df_mk KX G ?qa ?ql ?qc ?qk (fun _ _ _ _ _ _ us hl => match us, hl with | [_], _ => rfl); (case qa => k_is); (case ql => k_is); (case qc => k_is); (case qk => k_is)
