import PyProof.Rows.All
import Wide.All
import OpenK.AllK
import Wide.FinOn
import HandS.ForMost
import HandS.Walk
import HandS.Wide
import HandS.WideBits
import HandS.Flow
import HandS.IsInst
import HandS.Exc
import HandS.ExcOwn
import HandS.TryOnly
import HandS.WordsExc
import HandS.TupMul
import HandS.TupAny
import HandS.TupLe
import HandS.EndBits
import HandS.ExcIs
import HandS.ExcField
import HandS.Deep
import HandS.Defaults
import PySem.Challenge.RW_rowhaul_k02_what_is_an_expression
set_option Elab.async false
set_option linter.all false
set_option maxRecDepth 100000
set_option maxHeartbeats 4000000
/-! Ev1: values as data, a store of lists that change, what stands for what in the heap. -/
namespace Ev
open PySem PySem.Spec PyProof.Rows L2

/-! ### data in the heap: nothing of it lies at an address that may change (U) -/
def keyD : Key → PyData
  | .inl i => .int i
  | .inr x => .str x
/-- a list of the module's own top -/
def KL (K : PySem.W.Frag) (a : Addr) (xs : List V) : Prop :=
  ∃ (o : Obj) (its : Array Value) (n : Nat), K.lookup a = some o ∧ o.cls = .type "list" ∧ o.dict = none ∧ o.data = .seq its n ∧ its.size ≤ sizeLine ∧ Vals xs its.toList
def KT (K : PySem.W.Frag) (a : Addr) (xs : List V) : Prop :=
  ∃ (o : Obj) (its : Array Value) (n : Nat), K.lookup a = some o ∧ o.cls = .type "tuple" ∧ o.data = .seq its n ∧ its.size ≤ sizeLine ∧ Vals xs its.toList
def LstAt (K : PySem.W.Frag) (U : Addr → Prop) (H : Hp) (a : Addr) (xs : List V) : Prop := (Rd H a (.lst xs) ∧ ¬ U a) ∨ KL K a xs
def TupAt (K : PySem.W.Frag) (U : Addr → Prop) (H : Hp) (a : Addr) (xs : List V) : Prop := (Rd H a (.tup xs) ∧ ¬ U a) ∨ KT K a xs
mutual
inductive Pd (K : PySem.W.Frag) (U : Addr → Prop) (H : Hp) : V → PyData → Prop
  | non : Pd K U H .non .none
  | bl (b : Bool) : Pd K U H (.bl b) (.bool b)
  | int (i : Int) : Pd K U H (.int i) (.int i)
  | str (x : Str) : Pd K U H (.str x) (.str x)
  | lst {a : Addr} {xs : List V} {ds : List PyData} : H a = some (.lst xs) → ¬ U a → PdA K U H xs ds → Pd K U H (.ref a) (.list ds)
  | tup {a : Addr} {xs : List V} {ds : List PyData} : TupAt K U H a xs → PdA K U H xs ds → Pd K U H (.ref a) (.tuple ds)
  | dct {a : Addr} {kvs : List (Key × V)} {ds : List (PyData × PyData)} : H a = some (.dK kvs) → ¬ U a → PdK K U H kvs ds → Pd K U H (.ref a) (.dict ds)
inductive PdA (K : PySem.W.Frag) (U : Addr → Prop) (H : Hp) : List V → List PyData → Prop
  | nil : PdA K U H [] []
  | cons {v : V} {vs : List V} {d : PyData} {ds : List PyData} : Pd K U H v d → PdA K U H vs ds → PdA K U H (v :: vs) (d :: ds)
inductive PdK (K : PySem.W.Frag) (U : Addr → Prop) (H : Hp) : List (Key × V) → List (PyData × PyData) → Prop
  | nil : PdK K U H [] []
  | cons {k : Key} {v : V} {vs : List (Key × V)} {d : PyData} {ds : List (PyData × PyData)} : Pd K U H v d → PdK K U H vs ds → PdK K U H ((k, v) :: vs) ((keyD k, d) :: ds)
end
section
variable {K : PySem.W.Frag} {U U' : Addr → Prop} {H H' : Hp}
/-- all that may not change stays -/
structure Stays (U U' : Addr → Prop) (H H' : Hp) : Prop where
  keep : ∀ a o, H a = some o → ¬ U a → H' a = some o
  own : ∀ a, U' a → U a ∨ H a = none
theorem Stays.not {a : Addr} {o : HO} (s : Stays U U' H H') (h : H a = some o) (n : ¬ U a) : ¬ U' a := fun z => by
  rcases s.own a z with z | z
  · exact n z
  · rw [h] at z; cases z
theorem LstAt.stays {a : Addr} {xs : List V} (s : Stays U U' H H') (h : LstAt K U H a xs) : LstAt K U' H' a xs := by
  rcases h with ⟨h | ⟨o, h⟩, n⟩ | h
  · exact .inl ⟨.inl (s.keep a _ h n), s.not h n⟩
  · exact .inl ⟨.inr ⟨o, s.keep a _ h n⟩, s.not h n⟩
  · exact .inr h
theorem TupAt.stays {a : Addr} {xs : List V} (s : Stays U U' H H') (h : TupAt K U H a xs) : TupAt K U' H' a xs := by
  rcases h with ⟨h | ⟨o, h⟩, n⟩ | h
  · exact .inl ⟨.inl (s.keep a _ h n), s.not h n⟩
  · exact .inl ⟨.inr ⟨o, s.keep a _ h n⟩, s.not h n⟩
  · exact .inr h
mutual
theorem Pd.stays (s : Stays U U' H H') : ∀ {d : PyData} {v : V}, Pd K U H v d → Pd K U' H' v d
  | _, _, .non => .non
  | _, _, .bl b => .bl b
  | _, _, .int i => .int i
  | _, _, .str x => .str x
  | _, _, .lst h n q => .lst (s.keep _ _ h n) (s.not h n) (PdA.stays s q)
  | _, _, .tup h q => .tup (h.stays s) (PdA.stays s q)
  | _, _, .dct h n q => .dct (s.keep _ _ h n) (s.not h n) (PdK.stays s q)
theorem PdA.stays (s : Stays U U' H H') : ∀ {ds : List PyData} {vs : List V}, PdA K U H vs ds → PdA K U' H' vs ds
  | _, _, .nil => .nil
  | _, _, .cons h q => .cons (Pd.stays s h) (PdA.stays s q)
theorem PdK.stays (s : Stays U U' H H') : ∀ {ds : List (PyData × PyData)} {vs : List (Key × V)}, PdK K U H vs ds → PdK K U' H' vs ds
  | _, _, .nil => .nil
  | _, _, .cons h q => .cons (Pd.stays s h) (PdK.stays s q)
end
theorem Stays.weak (h : ∀ a, U' a → U a) : Stays U U' H H := ⟨fun _ _ e _ => e, fun a z => .inl (h a z)⟩
theorem LstAt.seq {a : Addr} {xs : List V} (h : LstAt K U H a xs) : SqL K H a xs := by
  rcases h with ⟨h, _⟩ | h
  · exact .inl h
  · exact .inr h
theorem TupAt.seq {a : Addr} {xs : List V} (h : TupAt K U H a xs) : SqT K H a xs := by
  rcases h with ⟨h, _⟩ | h
  · exact .inl h
  · exact .inr h
theorem PdA.len : ∀ {ds : List PyData} {vs : List V}, PdA K U H vs ds → vs.length = ds.length
  | _, _, .nil => rfl
  | _, _, .cons _ q => congrArg (· + 1) (PdA.len q)
theorem PdA.at_ : ∀ {ds : List PyData} {vs : List V} {i : Nat} {d : PyData}, PdA K U H vs ds → ds[i]? = some d → ∃ v, vs[i]? = some v ∧ Pd K U H v d
  | _, _, _, _, .nil, e => by simp at e
  | _, _, 0, _, .cons h _, e => by
    simp at e; subst e; exact ⟨_, rfl, h⟩
  | _, _, i + 1, _, .cons _ q, e => by
    obtain ⟨v, h1, h2⟩ := PdA.at_ (i := i) q (by simpa using e)
    exact ⟨v, by simpa using h1, h2⟩
theorem PdA.set {d : PyData} {v : V} (h : Pd K U H v d) : ∀ {ds : List PyData} {vs : List V} (i : Nat), PdA K U H vs ds → PdA K U H (vs.set i v) (ds.set i d)
  | _, _, _, .nil => .nil
  | _, _, 0, .cons _ q => .cons h q
  | _, _, i + 1, .cons p q => .cons p (PdA.set h i q)
theorem PdA.app : ∀ {ds es : List PyData} {vs ws : List V}, PdA K U H vs ds → PdA K U H ws es → PdA K U H (vs ++ ws) (ds ++ es)
  | _, _, _, _, .nil, r => r
  | _, _, _, _, .cons h q, r => .cons h (PdA.app q r)
theorem PdA.take : ∀ {ds : List PyData} {vs : List V} (n : Nat), PdA K U H vs ds → PdA K U H (vs.take n) (ds.take n)
  | _, _, 0, _ => .nil
  | _, _, _ + 1, .nil => .nil
  | _, _, n + 1, .cons h q => .cons h (PdA.take n q)
theorem PdA.drop : ∀ {ds : List PyData} {vs : List V} (n : Nat), PdA K U H vs ds → PdA K U H (vs.drop n) (ds.drop n)
  | _, _, 0, q => q
  | _, _, _ + 1, .nil => .nil
  | _, _, n + 1, .cons _ q => PdA.drop n q
theorem PdA.snoc {d : PyData} {v : V} {ds : List PyData} {vs : List V} (q : PdA K U H vs ds) (h : Pd K U H v d) : PdA K U H (vs ++ [v]) (ds ++ [d]) := q.app (.cons h .nil)
theorem PdA.one {d : PyData} {vs : List V} (q : PdA K U H vs [d]) : ∃ v, vs = [v] ∧ Pd K U H v d := by
  cases q with
  | cons h r => cases r; exact ⟨_, rfl, h⟩
end

/-! ### exceptions -/
/-- an exception: its class by the module's name, its fields -/
structure Exc where
  cls : Str
  flds : List (Str × PyData)
section
variable {K : PySem.W.Frag} {mg : Str → Option Value} {H H1 : Hp}
/-- what stands for an exception: its class's object, its dict -/
def ExcR (K : PySem.W.Frag) (mg : Str → Option Value) (U : Addr → Prop) (H : Hp) (x : Exc) (cls : Value) (dx : Option Addr) : Prop :=
  mg x.cls = some cls ∧ ((x.flds = [] ∧ dx = none) ∨ ∃ d fs, x.flds ≠ [] ∧ dx = some d ∧ ¬ U d ∧ H d = some (.xd fs) ∧ ∀ f y, x.flds.lookup f = some y → ∃ v, fs.lookup f = some v ∧ Pd K U H v y)
theorem ExcR.stays {U U' : Addr → Prop} {x : Exc} {cls : Value} {dx : Option Addr} (s : Stays U U' H H1) (h : ExcR K mg U H x cls dx) : ExcR K mg U' H1 x cls dx := by
  obtain ⟨h1, h⟩ := h
  refine ⟨h1, ?_⟩
  rcases h with h | ⟨d, fs, nf, rfl, n, e, q⟩
  · exact .inl h
  · exact .inr ⟨d, fs, nf, rfl, s.not e n, s.keep d _ e n, fun f y hy => let ⟨v, a, b⟩ := q f y hy; ⟨v, a, b.stays s⟩⟩
end
/-! ### values, the store -/
inductive Ty where
  | int | bool | str | tuple | list | dict | none
  deriving DecidableEq
def Ty.name : Ty → String
  | .int => "int" | .bool => "bool" | .str => "str" | .tuple => "tuple" | .list => "list" | .dict => "dict" | .none => "NoneType"
inductive D where
  | dat (d : PyData)
  | loc (n : Nat)
  | glob (x : Str)
  /-- a list that nobody changes (the script) -/
  | fz (ds : List PyData)
  /-- a class of Python's own -/
  | ty (t : Ty)
  /-- just this value (a caught error, its classes) -/
  | raw (v : V)
  /-- a caught error: where it lies, its class, its dict -/
  | err (v : V) (cls : Value) (d : Option Addr) (x : Exc)
inductive Cell where
  | lst (xs : List PyData)
  | dead
abbrev Sto := List Cell
/-- where the store's lists lie; the addresses that a running comprehension fills -/
structure Rg where
  r : List Addr
  p : List Addr
/-- the addresses that may change -/
def Own (R : Rg) (st : Sto) (a : Addr) : Prop := (∃ (n : Nat) (xs : List PyData), R.r[n]? = some a ∧ st[n]? = some (Cell.lst xs)) ∨ a ∈ R.p
structure Sim (K : PySem.W.Frag) (R : Rg) (H : Hp) (st : Sto) : Prop where
  len : R.r.length = st.length
  nd : R.r.Nodup
  nr : ∀ a ∈ R.r, a ∉ R.p
  trk : ∀ a, a ∈ R.r ∨ a ∈ R.p → H a ≠ none
  at_ : ∀ (n : Nat) (a : Addr) (xs : List PyData), R.r[n]? = some a → st[n]? = some (Cell.lst xs) → ∃ vs, H a = some (.lst vs) ∧ PdA K (Own R st) H vs xs
structure Ext (R : Rg) (H : Hp) (st : Sto) (R' : Rg) (H' : Hp) (st' : Sto) : Prop where
  pre : ∃ S, R'.r = R.r ++ S ∧ ∀ a ∈ S, H a = none
  pe : R'.p = R.p
  prv : ∀ a ∈ R.p, ∀ o, H a = some o → H' a = some o
  stays : Stays (Own R st) (Own R' st') H H'
section
variable {K : PySem.W.Frag} {mg : Str → Option Value} {R R1 R2 : Rg} {H H1 H2 : Hp} {st st1 st2 : Sto}
theorem Ext.refl : Ext R H st R H st := ⟨⟨[], by simp, fun _ h => by cases h⟩, rfl, fun _ _ _ h => h, Stays.weak fun _ h => h⟩
theorem Ext.trans (S1 : Sim K R1 H1 st1) (a : Ext R H st R1 H1 st1) (b : Ext R1 H1 st1 R2 H2 st2) : Ext R H st R2 H2 st2 := by
  obtain ⟨⟨s1, e1, n1⟩, p1, v1, k1⟩ := a
  obtain ⟨⟨s2, e2, n2⟩, p2, v2, k2⟩ := b
  have fresh : ∀ x, H1 x = none → H x = none := fun x hx => by
    cases q : H x with
    | none => rfl
    | some o =>
      by_cases hu : Own R st x
      · refine absurd hx (S1.trk x ?_)
        rcases hu with ⟨n, xs, hn, _⟩ | hp
        · exact .inl (by rw [e1]; exact List.mem_append_left _ (List.mem_of_getElem? hn))
        · exact .inr (by rw [p1]; exact hp)
      · rw [k1.keep x o q hu] at hx; cases hx
  refine ⟨⟨s1 ++ s2, by rw [e2, e1, List.append_assoc], fun x hx => ?_⟩, p2.trans p1, fun x hx o q => v2 x (by rw [p1]; exact hx) o (v1 x hx o q), fun x o q hu => ?_, fun x z => ?_⟩
  · rcases List.mem_append.mp hx with h | h
    · exact n1 x h
    · exact fresh x (n2 x h)
  · exact k2.keep x o (k1.keep x o q hu) (k1.not q hu)
  · rcases k2.own x z with z | z
    · exact k1.own x z
    · exact .inr (fresh x z)
theorem Ext.at_ {n : Nat} {a : Addr} (e : Ext R H st R1 H1 st1) (h : R.r[n]? = some a) : R1.r[n]? = some a := by
  obtain ⟨⟨S, e1, _⟩, _⟩ := e
  rw [e1, List.getElem?_append_left (List.getElem?_eq_some_iff.mp h).1]
  exact h

/-- what a value stands for -/
def Dv (K : PySem.W.Frag) (mg : Str → Option Value) (R : Rg) (st : Sto) (H : Hp) (v : V) : D → Prop
  | .dat d => Pd K (Own R st) H v d
  | .loc n => ∃ a, R.r[n]? = some a ∧ v = .ref a
  | .glob x => ∃ a, mg x = some (.ref a) ∧ v = .ref a
  | .fz ds => ∃ a xs, v = .ref a ∧ LstAt K (Own R st) H a xs ∧ PdA K (Own R st) H xs ds
  | .ty t => v = .ty t.name
  | .raw u => v = u
  | .err u cls d x => v = u ∧ ExcR K mg (Own R st) H x cls d
theorem Dv.ext {v : V} {d : D} (e : Ext R H st R1 H1 st1) (h : Dv K mg R st H v d) : Dv K mg R1 st1 H1 v d := by
  cases d with
  | dat d => exact Pd.stays e.stays h
  | loc n => obtain ⟨a, h1, h2⟩ := h; exact ⟨a, e.at_ h1, h2⟩
  | glob x => exact h
  | fz ds => obtain ⟨a, xs, h1, h2, h3⟩ := h; exact ⟨a, xs, h1, h2.stays e.stays, h3.stays e.stays⟩
  | ty t => exact h
  | raw t => exact h
  | err u cls d x => exact ⟨h.1, h.2.stays e.stays⟩
inductive DvA (K : PySem.W.Frag) (mg : Str → Option Value) (R : Rg) (st : Sto) (H : Hp) : List V → List D → Prop
  | nil : DvA K mg R st H [] []
  | cons {v : V} {vs : List V} {d : D} {ds : List D} : Dv K mg R st H v d → DvA K mg R st H vs ds → DvA K mg R st H (v :: vs) (d :: ds)
theorem DvA.ext (e : Ext R H st R1 H1 st1) : ∀ {vs : List V} {ds : List D}, DvA K mg R st H vs ds → DvA K mg R1 st1 H1 vs ds
  | _, _, .nil => .nil
  | _, _, .cons h q => .cons (h.ext e) (DvA.ext e q)
theorem DvA.len : ∀ {vs : List V} {ds : List D}, DvA K mg R st H vs ds → vs.length = ds.length
  | _, _, .nil => rfl
  | _, _, .cons _ q => congrArg (· + 1) (DvA.len q)
theorem DvA.at_ : ∀ {ds : List D} {vs : List V} {i : Nat} {d : D}, DvA K mg R st H vs ds → ds[i]? = some d → ∃ v, vs[i]? = some v ∧ Dv K mg R st H v d
  | _, _, _, _, .nil, e => by simp at e
  | _, _, 0, _, .cons h _, e => by
    simp at e; subst e; exact ⟨_, rfl, h⟩
  | _, _, i + 1, _, .cons _ q, e => by
    obtain ⟨v, h1, h2⟩ := DvA.at_ (i := i) q (by simpa using e)
    exact ⟨v, by simpa using h1, h2⟩

abbrev Env := List (Option D)
structure EnvR (K : PySem.W.Frag) (mg : Str → Option Value) (R : Rg) (st : Sto) (H : Hp) (σ : L2.St) (ρ : Env) : Prop where
  len : σ.length = ρ.length
  at_ : ∀ (i : Nat) (d : D), ρ[i]? = some (some d) → ∃ v, σ[i]? = some (some v) ∧ Dv K mg R st H v d
theorem EnvR.ext {σ : L2.St} {ρ : Env} (e : Ext R H st R1 H1 st1) (h : EnvR K mg R st H σ ρ) : EnvR K mg R1 st1 H1 σ ρ :=
  ⟨h.len, fun i d q => let ⟨v, h1, h2⟩ := h.at_ i d q; ⟨v, h1, h2.ext e⟩⟩
theorem EnvR.set {σ : L2.St} {ρ : Env} {v : V} {d : D} (h : EnvR K mg R st H σ ρ) (i : Nat) (q : Dv K mg R st H v d) : EnvR K mg R st H (σ.set i (some v)) (ρ.set i (some d)) := by
  refine ⟨by simp [h.len], fun j e hj => ?_⟩
  by_cases hij : j = i
  · subst hij
    have hl : j < ρ.length := by
      have := (List.getElem?_eq_some_iff.mp hj).1
      simpa using this
    rw [List.getElem?_set_self hl] at hj
    cases hj
    exact ⟨v, by rw [List.getElem?_set_self (by rw [h.len]; exact hl)], q⟩
  · rw [List.getElem?_set_ne (Ne.symm hij)] at hj ⊢
    exact h.at_ j e hj
theorem EnvR.unset {σ : L2.St} {ρ : Env} (h : EnvR K mg R st H σ ρ) (i : Nat) : EnvR K mg R st H (σ.set i none) (ρ.set i none) := by
  refine ⟨by simp [h.len], fun j e hj => ?_⟩
  by_cases hij : j = i
  · subst hij
    have hl : j < ρ.length := by
      have := (List.getElem?_eq_some_iff.mp hj).1
      simpa using this
    rw [List.getElem?_set_self hl] at hj
    cases hj
  · rw [List.getElem?_set_ne (Ne.symm hij)] at hj ⊢
    exact h.at_ j e hj

/-! ### results -/
inductive Res (α : Type) where
  | ok (a : α) (st : Sto)
  | exc (x : Exc) (st : Sto)
  | bad
abbrev M (α : Type) := Sto → Res α
def M.pure {α : Type} (a : α) : M α := fun st => .ok a st
def M.bind {α β : Type} (m : M α) (f : α → M β) : M β := fun st =>
  match m st with
  | .ok a st' => f a st'
  | .exc x st' => .exc x st'
  | .bad => .bad
def M.bad {α : Type} : M α := fun _ => .bad
abbrev RelT (α β : Type) := Rg → Sto → Hp → β → α → Prop
def Post {α β : Type} (K : PySem.W.Frag) (mg : Str → Option Value) (Rel : RelT α β) (R : Rg) (H : Hp) (st : Sto) (r : Res α) (Q : β → Hp → Prop) (W : XK) : Prop :=
  match r with
  | .ok a st' => ∀ b R' H', Ext R H st R' H' st' → Sim K R' H' st' → Rel R' st' H' b a → Q b H'
  | .exc x st' => ∀ R' H' cls dx, Ext R H st R' H' st' → Sim K R' H' st' → ExcR K mg (Own R' st') H' x cls dx → W cls dx H'
  | .bad => False
section
variable {α β γ δ : Type} {Rel : RelT α β} {Rel2 : RelT γ δ} {W : XK}
theorem Post.shift {r : Res α} {Q : β → Hp → Prop} (S1 : Sim K R1 H1 st1) (e : Ext R H st R1 H1 st1) (h : Post K mg Rel R H st r Q W) : Post K mg Rel R1 H1 st1 r Q W := by
  cases r with
  | ok a st' => exact fun b R' H' e' s' q => h b R' H' (e.trans S1 e') s' q
  | exc x st' => exact fun R' H' cls dx e' s' q => h R' H' cls dx (e.trans S1 e') s' q
  | bad => exact h
theorem Post.bind {m : M α} {f : α → M γ} {Q : δ → Hp → Prop} (h : Post K mg Rel2 R H st (M.bind m f st) Q W) :
    Post K mg Rel R H st (m st) (fun b H1 => ∃ R1 st1 a, Ext R H st R1 H1 st1 ∧ Sim K R1 H1 st1 ∧ Rel R1 st1 H1 b a ∧ Post K mg Rel2 R1 H1 st1 (f a st1) Q W) W := by
  unfold M.bind at h
  cases e : m st with
  | ok a st' =>
    rw [e] at h
    exact fun b R' H' e' s' q => ⟨R', st', a, e', s', q, Post.shift s' e' h⟩
  | exc x st' =>
    rw [e] at h
    exact h
  | bad =>
    rw [e] at h
    exact h
end
end

/-! ### expressions -/
section
variable (K : PySem.W.Frag) (mg : Str → Option Value)
def RelB : RelT Bool Bool := fun _ _ _ b a => b = a
def tM (W : WX) (m : Env → M D) : TE := fun σ H Q => ∃ R ρ st, Sim K R H st ∧ EnvR K mg R st H σ ρ ∧ Post K mg (Dv K mg) R H st (m ρ st) Q (fun c d H' => W c d σ H')
def tMB (W : WX) (m : Env → M Bool) : TT := fun σ H Q => ∃ R ρ st, Sim K R H st ∧ EnvR K mg R st H σ ρ ∧ Post K mg RelB R H st (m ρ st) Q (fun c d H' => W c d σ H')
def tMA (W : WX) (m : Env → M (List D)) : TA := fun σ H Q => ∃ R ρ st, Sim K R H st ∧ EnvR K mg R st H σ ρ ∧ Post K mg (DvA K mg) R H st (m ρ st) Q (fun c d H' => W c d σ H')
end
structure EV (X : Cx) (W : WX) (e : Expr) (m : Env → M D) : Prop where
  pe : PE X e (tM X.K X.mg W m)
structure EVT (X : Cx) (W : WX) (e : Expr) (m : Env → M Bool) : Prop where
  pt : PT X e (tMB X.K X.mg W m)
structure EVW (X : Cx) (W : WX) (e : Expr) (m : Env → M Bool) : Prop where
  pw : PW X e (tMB X.K X.mg W m)
structure EVA (X : Cx) (W : WX) (es : List Expr) (m : Env → M (List D)) : Prop where
  pa : PA X es (tMA X.K X.mg W m)
theorem PE.imp {X : Cx} {e : Expr} {t u : TE} (h : PE X e t) (q : ∀ σ H Q, u σ H Q → t σ H Q) : PE X e u := ⟨fun pins s σ H Q I z => h.run pins s σ H Q I (q σ H Q z)⟩
theorem PT.imp {X : Cx} {e : Expr} {t u : TT} (h : PT X e t) (q : ∀ σ H Q, u σ H Q → t σ H Q) : PT X e u := ⟨fun pins s σ H Q I z => h.run pins s σ H Q I (q σ H Q z)⟩
theorem PW.imp {X : Cx} {e : Expr} {t u : TT} (h : PW X e t) (q : ∀ σ H Q, u σ H Q → t σ H Q) : PW X e u := ⟨fun whole pins s σ H Q I z => h.run whole pins s σ H Q I (q σ H Q z)⟩
theorem PA.imp {X : Cx} {e : List Expr} {t u : TA} (h : PA X e t) (q : ∀ σ H Q, u σ H Q → t σ H Q) : PA X e u := ⟨fun pos pins s σ H Q I z => h.run pos pins s σ H Q I (q σ H Q z)⟩
end Ev
set_option Elab.async false
set_option linter.all false
set_option maxRecDepth 100000
set_option maxHeartbeats 4000000
/-! Ev2: expressions by their functions. -/
namespace Ev
open PySem PySem.Spec PyProof.Rows L2

/-! ### new objects -/
section
variable {K : PySem.W.Frag} {mg : Str → Option Value} {R : Rg} {H : Hp} {st : Sto} {p : Addr} {o : HO}
theorem Sim.fresh (S : Sim K R H st) (h : H p = none) : p ∉ R.r := fun q => S.trk p (.inl q) h
theorem Sim.freshP (S : Sim K R H st) (h : H p = none) : p ∉ R.p := fun q => S.trk p (.inr q) h
theorem Sim.notOwn (S : Sim K R H st) (h : H p = none) : ¬ Own R st p := fun z => by
  rcases z with ⟨_, _, e, _⟩ | z
  · exact S.fresh h (List.mem_of_getElem? e)
  · exact S.freshP h z
theorem Ext.new (h : H p = none) : Ext R H st R (upd H p o) st :=
  ⟨⟨[], by simp, fun _ h => by cases h⟩, rfl, fun a _ u e => by rw [upd_ne (ne_of_none e h)]; exact e, ⟨fun a u e _ => by rw [upd_ne (ne_of_none e h)]; exact e, fun _ z => .inl z⟩⟩
theorem Sim.new (S : Sim K R H st) (h : H p = none) : Sim K R (upd H p o) st := by
  refine ⟨S.len, S.nd, S.nr, fun a ha => ?_, fun n a xs h1 h2 => ?_⟩
  · have ne : a ≠ p := fun e => S.trk a ha (e ▸ h)
    rw [upd_ne ne]; exact S.trk a ha
  · obtain ⟨vs, e, q⟩ := S.at_ n a xs h1 h2
    exact ⟨vs, by rw [upd_ne (ne_of_none e h)]; exact e, q.stays (Ext.new h).stays⟩
theorem Dv.int (i : Int) : Dv K mg R st H (.int i) (.dat (.int i)) := Pd.int i
theorem Dv.bl (i : Bool) : Dv K mg R st H (.bl i) (.dat (.bool i)) := Pd.bl i
theorem Dv.str (i : Str) : Dv K mg R st H (.str i) (.dat (.str i)) := Pd.str i
theorem Dv.non : Dv K mg R st H .non (.dat .none) := Pd.non
theorem Post.okR {α β : Type} {Rel : RelT α β} {a : α} {b : β} {Q : β → Hp → Prop} {W : XK} (S : Sim K R H st) (r : Rel R st H b a) (h : Post K mg Rel R H st (.ok a st) Q W) : Q b H := h b R H .refl S r
theorem Post.okN {α β : Type} {Rel : RelT α β} {a : α} {b : β} {Q : β → Hp → Prop} {W : XK} (S : Sim K R H st) (hp : H p = none) (r : Rel R st (upd H p o) b a) (h : Post K mg Rel R H st (.ok a st) Q W) : Q b (upd H p o) := h b R _ (.new hp) (S.new hp) r
theorem newTup {vs : List V} {ds : List PyData} (S : Sim K R H st) (hp : H p = none) (q : PdA K (Own R st) H vs ds) : Dv K mg R st (upd H p (.tup vs)) (.ref p) (.dat (.tuple ds)) :=
  Pd.tup (.inl ⟨.inl upd_same, S.notOwn hp⟩) (q.stays (Ext.new hp).stays)
theorem newLst {vs : List V} {ds : List PyData} (S : Sim K R H st) (hp : H p = none) (q : PdA K (Own R st) H vs ds) : Dv K mg R st (upd H p (.lst vs)) (.ref p) (.dat (.list ds)) :=
  Pd.lst upd_same (S.notOwn hp) (q.stays (Ext.new hp).stays)

/-- what a value tells as data, now -/
def dataOf (d : D) (st : Sto) : Option PyData :=
  match d with
  | .dat d => some d
  | .loc n => match st[n]? with
    | some (.lst xs) => some (.list xs)
    | _ => none
  | _ => none
abbrev NoU : Addr → Prop := fun _ => False
theorem noStays {U : Addr → Prop} : Stays U NoU H H := Stays.weak fun _ h => h.elim
theorem Dv.data {v : V} {d : D} {x : PyData} (S : Sim K R H st) (h : Dv K mg R st H v d) (e : dataOf d st = some x) : Pd K NoU H v x := by
  cases d with
  | dat y =>
    cases e
    exact Pd.stays noStays h
  | loc n =>
    obtain ⟨a, h1, rfl⟩ := h
    unfold dataOf at e
    simp only at e
    split at e
    · rename_i xs q
      cases e
      obtain ⟨vs, e1, e2⟩ := S.at_ n a xs h1 q
      exact .lst e1 (fun z => z) (e2.stays noStays)
    · cases e
  | glob x => cases e
  | fz ds => cases e
  | ty t => cases e
  | raw t => cases e
  | err _ _ _ _ => cases e
end

/-! ### operations on values, by functions -/
def OpOk (K : PySem.W.Frag) (mg : Str → Option Value) (r : R2) (f : D → D → M D) : Prop :=
  ∀ (R : Rg) (H : Hp) (st : Sto) (v w : V) (d e : D) (Q : VK) (W : XK), Sim K R H st → Dv K mg R st H v d → Dv K mg R st H w e → Post K mg (Dv K mg) R H st (f d e st) Q W → r v w H Q
def UnOk (K : PySem.W.Frag) (mg : Str → Option Value) (r : V → Hp → VK → Prop) (f : D → M D) : Prop :=
  ∀ (R : Rg) (H : Hp) (st : Sto) (v : V) (d : D) (Q : VK) (W : XK), Sim K R H st → Dv K mg R st H v d → Post K mg (Dv K mg) R H st (f d st) Q W → r v H Q
def CallOk (K : PySem.W.Frag) (mg : Str → Option Value) (r : List V → Hp → VK → Prop) (f : List D → M D) : Prop :=
  ∀ (R : Rg) (H : Hp) (st : Sto) (vs : List V) (ds : List D) (Q : VK) (W : XK), Sim K R H st → DvA K mg R st H vs ds → Post K mg (Dv K mg) R H st (f ds st) Q W → r vs H Q
def m2 (f : D → D → M D) (a b : Env → M D) : Env → M D := fun ρ => M.bind (a ρ) fun x => M.bind (b ρ) fun y => f x y
def m1 (f : D → M D) (a : Env → M D) : Env → M D := fun ρ => M.bind (a ρ) f
def mC (f : List D → M D) (a : Env → M (List D)) : Env → M D := fun ρ => M.bind (a ρ) f
def asB : D → M Bool
  | .dat (.bool b) => M.pure b
  | _ => M.bad
def mT (a : Env → M D) : Env → M Bool := fun ρ => M.bind (a ρ) asB

section
variable {X : Cx} {W : WX} {a b c : Expr} {ma mb mc : Env → M D} {pos : Pos}

theorem tM_bind {K : PySem.W.Frag} {mg : Str → Option Value} {m : Env → M D} {f : D → M D} {σ : L2.St} {H : Hp} {Q : VK} (h : tM K mg W (fun ρ => M.bind (m ρ) f) σ H Q) :
    ∃ R ρ st, Sim K R H st ∧ EnvR K mg R st H σ ρ ∧ tM K mg W m σ H (fun v H1 => ∃ R1 st1 d, Ext R H st R1 H1 st1 ∧ Sim K R1 H1 st1 ∧ Dv K mg R1 st1 H1 v d ∧ Post K mg (Dv K mg) R1 H1 st1 (f d st1) Q (fun c d H' => W c d σ H')) := by
  obtain ⟨R, ρ, st, S, E, h⟩ := h
  exact ⟨R, ρ, st, S, E, R, ρ, st, S, E, Post.bind h⟩

theorem tOp_of {r : R2} {f : D → D → M D} (hf : OpOk X.K X.mg r f) {σ : L2.St} {H : Hp} {Q : VK} (h : tM X.K X.mg W (m2 f ma mb) σ H Q) : tOp r (tM X.K X.mg W ma) (tM X.K X.mg W mb) σ H Q := by
  obtain ⟨R, ρ, st, S, E, h⟩ := h
  refine ⟨R, ρ, st, S, E, ?_⟩
  have h1 := Post.bind (Rel := Dv X.K X.mg) (Rel2 := Dv X.K X.mg) h
  cases e1 : ma ρ st with
  | bad => rw [e1] at h1; exact h1
  | exc x st' => rw [e1] at h1; exact h1
  | ok d1 st1 =>
    rw [e1] at h1
    intro v1 R1 H1 x1 S1 D1
    obtain ⟨R1', st1', d1', x1', S1', D1', h2⟩ := h1 v1 R1 H1 x1 S1 D1
    refine ⟨R1', ρ, st1', S1', E.ext x1', ?_⟩
    have h3 := Post.bind (Rel := Dv X.K X.mg) (Rel2 := Dv X.K X.mg) h2
    cases e2 : mb ρ st1' with
    | bad => rw [e2] at h3; exact h3
    | exc x st' => rw [e2] at h3; exact h3
    | ok d2 st2 =>
      rw [e2] at h3
      intro v2 R2 H2 x2 S2 D2
      obtain ⟨R2', st2', d2', x2', S2', D2', h4⟩ := h3 v2 R2 H2 x2 S2 D2
      exact hf R2' H2 st2' v1 v2 d1' d2' Q _ S2' (D1'.ext x2') D2' h4

theorem ev_bin {op : Operator} {r : R2} {f : D → D → M D} (ho : OpR X (binaryOp op) r) (hf : OpOk X.K X.mg r f) (ha : EV X W a ma) (hb : EV X W b mb) : EV X W (.BinOp a op b pos) (m2 f ma mb) :=
  ⟨PE.imp (pe_op ho ha.pe hb.pe) fun _ _ _ h => tOp_of hf h⟩
theorem ev_cmp {op : CmpOp} {r : R2} {f : D → D → M D} (ho : OpR X (compareOp op) r) (hf : OpOk X.K X.mg r f) (hm : behindInMarks op b = false) (ha : EV X W a ma) (hb : EV X W b mb) : EV X W (.Compare a [op] [b] pos) (m2 f ma mb) :=
  ⟨PE.imp (pe_cmpR ho ha.pe hb.pe hm) fun _ _ _ h => tOp_of hf h⟩
theorem ev_ix {r : R2} {f : D → D → M D} (ho : IxR X r) (hf : OpOk X.K X.mg r f) (hs : PlainIx b) (ha : EV X W a ma) (hb : EV X W b mb) : EV X W (.Subscript a b pos) (m2 f ma mb) :=
  ⟨PE.imp (pe_ix ho ha.pe hb.pe hs) fun _ _ _ h => tOp_of hf h⟩
theorem ev_un {op : UnaryOp} {r : V → Hp → VK → Prop} {f : D → M D} (ho : UnR X (unaryOp op) r) (hf : UnOk X.K X.mg r f) (ha : EV X W a ma) : EV X W (.UnaryOp op a pos) (m1 f ma) := by
  refine ⟨PE.imp (pe_un ho ha.pe) fun σ H Q h => ?_⟩
  obtain ⟨R, ρ, st, S, E, h⟩ := h
  refine ⟨R, ρ, st, S, E, ?_⟩
  have h1 := Post.bind (Rel := Dv X.K X.mg) (Rel2 := Dv X.K X.mg) h
  cases e1 : ma ρ st with
  | bad => rw [e1] at h1; exact h1
  | exc x st' => rw [e1] at h1; exact h1
  | ok d1 st1 =>
    rw [e1] at h1
    intro v1 R1 H1 x1 S1 D1
    obtain ⟨R1', st1', d1', x1', S1', D1', h2⟩ := h1 v1 R1 H1 x1 S1 D1
    exact hf R1' H1 st1' v1 d1' Q _ S1' D1' h2

/-! ### names, constants -/
def vr (i : Nat) : Env → M D := fun ρ st =>
  match ρ[i]? with
  | some (some d) => .ok d st
  | _ => .bad
def ct (d : D) : Env → M D := fun _ st => .ok d st
theorem ev_vr (i : Nat) {x : Str} (hN : X.N[i]? = some x := by rfl) (hv : Vis X.env.scope x := by first | exact Or.inl rfl | exact Or.inr (Or.inl rfl) | exact Or.inr (Or.inr rfl)) (hd : (x == ("__debug__" : Str)) = false := by decide)
    (hcd : (x == ("__classdict__" : Str)) = false := by decide) : EV X W (.Name x pos) (vr i) := by
  refine ⟨PE.imp (pe_var hN hv hd hcd) fun σ H Q h => ?_⟩
  obtain ⟨R, ρ, st, S, E, h⟩ := h
  unfold vr at h
  split at h
  · rename_i d e
    obtain ⟨v, h1, h2⟩ := E.at_ i d e
    exact ⟨v, h1, h.okR S h2⟩
  · exact h.elim
theorem tC_of {v : V} {d : D} {σ : L2.St} {H : Hp} {Q : VK} (hd : ∀ R st H, Dv X.K X.mg R st H v d) (h : tM X.K X.mg W (ct d) σ H Q) : tC v σ H Q := by
  obtain ⟨R, ρ, st, S, E, h⟩ := h
  exact h.okR S (hd _ _ _)
theorem ev_int {i : Int} {j : Nat} : EV X W (.Constant (.int i) j pos) (ct (.dat (.int i))) := ⟨PE.imp pe_int fun _ _ _ h => tC_of (fun _ _ _ => Dv.int i) h⟩
theorem ev_bl {i : Bool} {j : Nat} : EV X W (.Constant (.bool i) j pos) (ct (.dat (.bool i))) := ⟨PE.imp pe_bl fun _ _ _ h => tC_of (fun _ _ _ => Dv.bl i) h⟩
theorem ev_non {j : Nat} : EV X W (.Constant .none j pos) (ct (.dat .none)) := ⟨PE.imp pe_non fun _ _ _ h => tC_of (fun _ _ _ => Dv.non) h⟩
theorem ev_str {i : Str} {j : Nat} : EV X W (.Constant (.str i) j pos) (ct (.dat (.str i))) := ⟨PE.imp pe_str fun _ _ _ h => tC_of (fun _ _ _ => Dv.str i) h⟩
/-- a module's int -/
theorem ev_gint {x : Str} {i : Int} {u : Value} (hg : Gl X x) (hm : X.mg x = some u) (r : RelV (.int i) u) (hd : (x == ("__debug__" : Str)) = false := by decide) : EV X W (.Name x pos) (ct (.dat (.int i))) :=
  ⟨PE.imp (pe_glob hg hm r hd) fun _ _ _ h => tC_of (fun _ _ _ => Dv.int i) h⟩

/-! ### tests -/
theorem Post.asB {K : PySem.W.Frag} {mg : Str → Option Value} {R : Rg} {H : Hp} {st : Sto} {d : D} {v : V} {Q : Bool → Hp → Prop} {W : XK} (S : Sim K R H st) (D1 : Dv K mg R st H v d) (h : Post K mg RelB R H st (asB d st) Q W) :
    ∃ k, v = .bl k ∧ d = .dat (.bool k) ∧ Q k H := by
  unfold Ev.asB at h
  split at h
  · rename_i b
    cases D1
    exact ⟨b, rfl, rfl, h.okR S rfl⟩
  · exact h.elim
theorem tTest_of {m : Env → M D} {σ : L2.St} {H : Hp} {Q : Bool → Hp → Prop} (h : tMB X.K X.mg W (mT m) σ H Q) : tM X.K X.mg W m σ H fun x H' => ∃ k, x = .bl k ∧ Q k H' := by
  obtain ⟨R, ρ, st, S, E, h⟩ := h
  refine ⟨R, ρ, st, S, E, ?_⟩
  have h1 := Post.bind (Rel := Dv X.K X.mg) (Rel2 := RelB) h
  cases e1 : m ρ st with
  | bad => rw [e1] at h1; exact h1
  | exc x st' => rw [e1] at h1; exact h1
  | ok d1 st1 =>
    rw [e1] at h1
    intro v1 R1 H1 x1 S1 D1
    obtain ⟨R1', st1', d1', x1', S1', D1', h2⟩ := h1 v1 R1 H1 x1 S1 D1
    obtain ⟨k, e, _, q⟩ := Post.asB S1' D1' h2
    exact ⟨k, e, q⟩
theorem evt_cmp {op : CmpOp} {r : R2} {f : D → D → M D} (ho : OpR X (compareOp op) r) (hf : OpOk X.K X.mg r f) (hm : behindInMarks op b = false) (ha : EV X W a ma) (hb : EV X W b mb) : EVT X W (.Compare a [op] [b] pos) (mT (m2 f ma mb)) :=
  ⟨PT.imp (pt_cmpR ho ha.pe hb.pe hm) fun _ _ _ h => tOp_of hf (tTest_of h)⟩
/-- a name, a call, a subscript that gives True or False -/
theorem evt_tru (ha : EV X W a ma) (he : ∀ whole, isTrue a X.env whole = (do let v ← whole; standAt a.pos; holding [v] (truthy v)) := by intro _; rfl) : EVT X W a (mT ma) := by
  refine ⟨PT.imp (pt_truth ha.pe he) fun σ H Q h => ?_⟩
  obtain ⟨R, ρ, st, S, E, h⟩ := tTest_of h
  refine ⟨R, ρ, st, S, E, ?_⟩
  cases e1 : ma ρ st with
  | bad => rw [e1] at h; exact h
  | exc x st' => rw [e1] at h; exact h
  | ok d1 st1 =>
    rw [e1] at h
    intro v1 R1 H1 x1 S1 D1
    obtain ⟨k, rfl, q⟩ := h v1 R1 H1 x1 S1 D1
    exact ⟨k, rfl, q⟩
def mNot (m : Env → M Bool) : Env → M Bool := fun ρ => M.bind (m ρ) fun b => M.pure !b
def mAnd (m n : Env → M Bool) : Env → M Bool := fun ρ => M.bind (m ρ) fun b => if b = true then n ρ else M.pure false
def mOr (m n : Env → M Bool) : Env → M Bool := fun ρ => M.bind (m ρ) fun b => if b = true then M.pure true else n ρ
variable {ta tb : Env → M Bool} {rest : List Expr}
theorem tB_bind {α : Type} {m : Env → M Bool} {f : Env → Bool → M α} {β : Type} {Rel : RelT α β} {σ : L2.St} {H : Hp} {Q : β → Hp → Prop} {R : Rg} {ρ : Env} {st : Sto} (S : Sim X.K R H st) (E : EnvR X.K X.mg R st H σ ρ)
    (h : Post X.K X.mg Rel R H st (M.bind (m ρ) (f ρ) st) Q (fun c d H' => W c d σ H')) :
    tMB X.K X.mg W m σ H (fun k H1 => ∃ R1 st1, Sim X.K R1 H1 st1 ∧ EnvR X.K X.mg R1 st1 H1 σ ρ ∧ Post X.K X.mg Rel R1 H1 st1 (f ρ k st1) Q (fun c d H' => W c d σ H')) := by
  refine ⟨R, ρ, st, S, E, ?_⟩
  have h1 := Post.bind (Rel := RelB) (Rel2 := Rel) h
  cases e1 : m ρ st with
  | bad => rw [e1] at h1; exact h1
  | exc x st' => rw [e1] at h1; exact h1
  | ok d1 st1 =>
    rw [e1] at h1
    intro v1 R1 H1 x1 S1 D1
    obtain ⟨R1', st1', d1', x1', S1', D1', h2⟩ := h1 v1 R1 H1 x1 S1 D1
    have e : v1 = d1' := D1'
    subst e
    exact ⟨R1', st1', S1', E.ext x1', h2⟩
theorem evt_not (ha : EVT X W a ta) : EVT X W (.UnaryOp .Not a pos) (mNot ta) := by
  refine ⟨PT.imp (pt_not ha.pt) fun σ H Q h => ?_⟩
  obtain ⟨R, ρ, st, S, E, h⟩ := h
  obtain ⟨R0, ρ0, st0, S0, E0, h0⟩ := tB_bind (f := fun _ b => M.pure !b) S E h
  refine ⟨R0, ρ0, st0, S0, E0, ?_⟩
  cases e1 : ta ρ0 st0 with
  | bad => rw [e1] at h0; exact h0
  | exc x st' => rw [e1] at h0; exact h0
  | ok d1 st1 =>
    rw [e1] at h0
    intro v1 R1 H1 x1 S1 D1
    obtain ⟨R1', st1', S1', E1, h2⟩ := h0 v1 R1 H1 x1 S1 D1
    exact h2.okR S1' rfl
theorem Post.monoQ {K : PySem.W.Frag} {mg : Str → Option Value} {α β : Type} {Rel : RelT α β} {R : Rg} {H : Hp} {st : Sto} {r : Res α} {Q Q' : β → Hp → Prop} {W : XK} (h : Post K mg Rel R H st r Q W) (q : ∀ b H, Q b H → Q' b H) : Post K mg Rel R H st r Q' W := by
  cases r with
  | ok a st' => exact fun b R' H' e s z => q _ _ (h b R' H' e s z)
  | exc x st' => exact h
  | bad => exact h
theorem tMB.mono {K : PySem.W.Frag} {mg : Str → Option Value} {m : Env → M Bool} {σ : L2.St} {H : Hp} {Q Q' : Bool → Hp → Prop} (h : tMB K mg W m σ H Q) (q : ∀ b H, Q b H → Q' b H) : tMB K mg W m σ H Q' := by
  obtain ⟨R, ρ, st, S, E, h⟩ := h
  exact ⟨R, ρ, st, S, E, h.monoQ q⟩
theorem tM.mono {K : PySem.W.Frag} {mg : Str → Option Value} {m : Env → M D} {σ : L2.St} {H : Hp} {Q Q' : VK} (h : tM K mg W m σ H Q) (q : ∀ b H, Q b H → Q' b H) : tM K mg W m σ H Q' := by
  obtain ⟨R, ρ, st, S, E, h⟩ := h
  exact ⟨R, ρ, st, S, E, h.monoQ q⟩
theorem evw_and1 (ha : EVT X W a ta) : EVW X W (.BoolOp .And [a] pos) ta := ⟨pw_and1 ha.pt⟩
theorem evw_or1 (ha : EVT X W a ta) : EVW X W (.BoolOp .Or [a] pos) ta := ⟨pw_or1 ha.pt⟩
theorem evw_and (ha : EVT X W a ta) (hb : EVW X W (.BoolOp .And (b :: rest) pos) tb) : EVW X W (.BoolOp .And (a :: b :: rest) pos) (mAnd ta tb) := by
  refine ⟨PW.imp (pw_and ha.pt hb.pw) fun σ H Q h => ?_⟩
  obtain ⟨R, ρ, st, S, E, h⟩ := h
  refine tMB.mono (tB_bind (f := fun ρ b => if b = true then tb ρ else M.pure false) S E h) fun k H1 ⟨R1, st1, S1, E1, h1⟩ => ?_
  cases k with
  | true => exact ⟨R1, ρ, st1, S1, E1, h1⟩
  | false => exact h1.okR S1 rfl
theorem evw_or (ha : EVT X W a ta) (hb : EVW X W (.BoolOp .Or (b :: rest) pos) tb) : EVW X W (.BoolOp .Or (a :: b :: rest) pos) (mOr ta tb) := by
  refine ⟨PW.imp (pw_or ha.pt hb.pw) fun σ H Q h => ?_⟩
  obtain ⟨R, ρ, st, S, E, h⟩ := h
  refine tMB.mono (tB_bind (f := fun ρ b => if b = true then M.pure true else tb ρ) S E h) fun k H1 ⟨R1, st1, S1, E1, h1⟩ => ?_
  cases k with
  | true => exact h1.okR S1 rfl
  | false => exact ⟨R1, ρ, st1, S1, E1, h1⟩
theorem evt_w (h : EVW X W a ta) : EVT X W a ta := ⟨h.pw.pt⟩
/-- a if t else b -/
def mIf (t : Env → M Bool) (m n : Env → M D) : Env → M D := fun ρ => M.bind (t ρ) fun k => if k = true then m ρ else n ρ
theorem ev_if (hc : EVT X W c ta) (ha : EV X W a ma) (hb : EV X W b mb) : EV X W (.IfExp c a b pos) (mIf ta ma mb) := by
  refine ⟨PE.imp (pe_ifExp hc.pt ha.pe hb.pe) fun σ H Q h => ?_⟩
  obtain ⟨R, ρ, st, S, E, h⟩ := h
  refine tMB.mono (tB_bind (f := fun ρ b => if b = true then ma ρ else mb ρ) S E h) fun k H1 ⟨R1, st1, S1, E1, h1⟩ => ?_
  cases k with
  | true => exact ⟨R1, ρ, st1, S1, E1, h1⟩
  | false => exact ⟨R1, ρ, st1, S1, E1, h1⟩

/-! ### and, or, not as values: all but the last True or False -/
def mAndV (m n : Env → M D) : Env → M D := fun ρ => M.bind (m ρ) fun x => M.bind (asB x) fun b => if b = true then n ρ else M.pure (.dat (.bool false))
def mOrV (m n : Env → M D) : Env → M D := fun ρ => M.bind (m ρ) fun x => M.bind (asB x) fun b => if b = true then M.pure (.dat (.bool true)) else n ρ
def mNotV (m : Env → M D) : Env → M D := fun ρ => M.bind (m ρ) fun x => M.bind (asB x) fun b => M.pure (.dat (.bool !b))
theorem tV_bind {m : Env → M D} {f : Env → Bool → M D} {σ : L2.St} {H : Hp} {Q : VK} (h : tM X.K X.mg W (fun ρ => M.bind (m ρ) fun x => M.bind (asB x) (f ρ)) σ H Q) :
    tM X.K X.mg W m σ H (fun v H1 => ∃ k, v = .bl k ∧ ∃ R1 st1 ρ, Sim X.K R1 H1 st1 ∧ EnvR X.K X.mg R1 st1 H1 σ ρ ∧ Post X.K X.mg (Dv X.K X.mg) R1 H1 st1 (f ρ k st1) Q (fun c d H' => W c d σ H')) := by
  obtain ⟨R, ρ, st, S, E, h⟩ := h
  refine ⟨R, ρ, st, S, E, ?_⟩
  have h1 := Post.bind (Rel := Dv X.K X.mg) (Rel2 := Dv X.K X.mg) h
  cases e1 : m ρ st with
  | bad => rw [e1] at h1; exact h1
  | exc x st' => rw [e1] at h1; exact h1
  | ok d1 st1 =>
    rw [e1] at h1
    intro v1 R1 H1 x1 S1 D1
    obtain ⟨R1', st1', d1', x1', S1', D1', h2⟩ := h1 v1 R1 H1 x1 S1 D1
    have h3 := Post.bind (Rel := RelB) (Rel2 := Dv X.K X.mg) h2
    obtain ⟨k, rfl, rfl, R2, st2, a, x2, S2, rb, h4⟩ := Post.asB S1' D1' h3
    have e : k = a := rb
    subst e
    exact ⟨k, rfl, R2, st2, ρ, S2, (E.ext x1').ext x2, h4⟩
theorem ev_one {op : BoolOp} (h : EV X W a ma) : EV X W (.BoolOp op [a] pos) ma := ⟨pe_one h.pe⟩
theorem ev_and (ha : EV X W a ma) (hb : EV X W (.BoolOp .And (b :: rest) pos) mb) : EV X W (.BoolOp .And (a :: b :: rest) pos) (mAndV ma mb) := by
  refine ⟨PE.imp (pe_and ha.pe hb.pe) fun σ H Q h => ?_⟩
  refine tM.mono (tV_bind (f := fun ρ b => if b = true then mb ρ else M.pure (.dat (.bool false))) h) fun v H1 ⟨k, e, R1, st1, ρ, S1, E1, h1⟩ => ⟨k, e, ?_⟩
  cases k with
  | true => exact ⟨R1, ρ, st1, S1, E1, h1⟩
  | false => exact h1.okR S1 (Pd.bl false)
theorem ev_or (ha : EV X W a ma) (hb : EV X W (.BoolOp .Or (b :: rest) pos) mb) : EV X W (.BoolOp .Or (a :: b :: rest) pos) (mOrV ma mb) := by
  refine ⟨PE.imp (pe_or ha.pe hb.pe) fun σ H Q h => ?_⟩
  refine tM.mono (tV_bind (f := fun ρ b => if b = true then M.pure (.dat (.bool true)) else mb ρ) h) fun v H1 ⟨k, e, R1, st1, ρ, S1, E1, h1⟩ => ⟨k, e, ?_⟩
  cases k with
  | true => exact h1.okR S1 (Pd.bl true)
  | false => exact ⟨R1, ρ, st1, S1, E1, h1⟩
theorem ev_not (ha : EV X W a ma) : EV X W (.UnaryOp .Not a pos) (mNotV ma) := by
  refine ⟨PE.imp (pe_not ha.pe) fun σ H Q h => ?_⟩
  refine tM.mono (tV_bind (f := fun ρ b => M.pure (.dat (.bool !b))) h) fun v H1 ⟨k, e, R1, st1, ρ, S1, E1, h1⟩ => ⟨k, e, ?_⟩
  exact h1.okR S1 (Pd.bl (!k))
/-- a op b op' c -/
def mChain (f g : D → D → M D) (ma mb mc : Env → M D) : Env → M D := fun ρ => M.bind (ma ρ) fun x => M.bind (mb ρ) fun y => M.bind (f x y) fun z => M.bind (asB z) fun k => if k = true then M.bind (mc ρ) fun w => g y w else M.pure (.dat (.bool false))
theorem tChain_of {r r' : R2} {f g : D → D → M D} (hf : OpOk X.K X.mg r f) (hg : OpOk X.K X.mg r' g) {σ : L2.St} {H : Hp} {Q : VK} (h : tM X.K X.mg W (mChain f g ma mb mc) σ H Q) : tChain r r' (tM X.K X.mg W ma) (tM X.K X.mg W mb) (tM X.K X.mg W mc) σ H Q := by
  obtain ⟨R, ρ, st, S, E, h⟩ := h
  refine ⟨R, ρ, st, S, E, ?_⟩
  have h1 := Post.bind (Rel := Dv X.K X.mg) (Rel2 := Dv X.K X.mg) h
  refine h1.monoQ ?_
  intro v1 H1 ⟨R1, st1, d1, x1, S1, D1, h2⟩
  refine ⟨R1, ρ, st1, S1, E.ext x1, ?_⟩
  have h3 := Post.bind (Rel := Dv X.K X.mg) (Rel2 := Dv X.K X.mg) h2
  refine h3.monoQ ?_
  intro v2 H2 ⟨R2, st2, d2, x2, S2, D2, h4⟩
  have h5 := Post.bind (Rel := Dv X.K X.mg) (Rel2 := Dv X.K X.mg) h4
  refine hf R2 H2 st2 v1 v2 d1 d2 _ _ S2 (D1.ext x2) D2 (h5.monoQ ?_)
  intro v3 H3 ⟨R3, st3, d3, x3, S3, D3, h6⟩
  have h7 := Post.bind (Rel := RelB) (Rel2 := Dv X.K X.mg) h6
  obtain ⟨k, rfl, rfl, R4, st4, a, x4, S4, rb, h8⟩ := Post.asB S3 D3 h7
  have e : k = a := rb
  subst e
  refine ⟨k, rfl, ?_⟩
  cases k with
  | true =>
    rw [if_pos rfl] at h8 ⊢
    refine ⟨R4, ρ, st4, S4, (((E.ext x1).ext x2).ext x3).ext x4, ?_⟩
    have h9 := Post.bind (Rel := Dv X.K X.mg) (Rel2 := Dv X.K X.mg) h8
    refine h9.monoQ ?_
    intro v5 H5 ⟨R5, st5, d5, x5, S5, D5, h10⟩
    exact hg R5 H5 st5 v2 v5 d2 d5 _ _ S5 (((D2.ext x3).ext x4).ext x5) D5 h10
  | false =>
    rw [if_neg Bool.false_ne_true] at h8 ⊢
    exact h8.okR S4 (Pd.bl false)
theorem ev_chain {op op' : CmpOp} {r r' : R2} {f g : D → D → M D} (ho : OpR X (compareOp op) r) (hf : OpOk X.K X.mg r f) (ho' : OpR X (compareOp op') r') (hg : OpOk X.K X.mg r' g) (hm : lastMarks [op, op'] [b, c] = false) (ha : EV X W a ma) (hb : EV X W b mb) (hc : EV X W c mc) :
    EV X W (.Compare a [op, op'] [b, c] pos) (mChain f g ma mb mc) := ⟨PE.imp (pe_chain ho ho' ha.pe hb.pe hc.pe hm) fun _ _ _ h => tChain_of hf hg h⟩
theorem evt_chain {op op' : CmpOp} {r r' : R2} {f g : D → D → M D} (ho : OpR X (compareOp op) r) (hf : OpOk X.K X.mg r f) (ho' : OpR X (compareOp op') r') (hg : OpOk X.K X.mg r' g) (hm : lastMarks [op, op'] [b, c] = false) (ha : EV X W a ma) (hb : EV X W b mb) (hc : EV X W c mc) :
    EVT X W (.Compare a [op, op'] [b, c] pos) (mT (mChain f g ma mb mc)) := ⟨PT.imp (pt_chain ho ho' ha.pe hb.pe hc.pe hm) fun _ _ _ h => tChain_of hf hg (tTest_of h)⟩

/-! ### argument lists, displays, calls of built-ins -/
def aNil : Env → M (List D) := fun _ => M.pure []
def aCons (m : Env → M D) (r : Env → M (List D)) : Env → M (List D) := fun ρ => M.bind (m ρ) fun x => M.bind (r ρ) fun xs => M.pure (x :: xs)
variable {e : Expr} {es : List Expr} {me : Env → M D} {ms : Env → M (List D)}
theorem ea_nil : EVA X W [] aNil := by
  refine ⟨PA.imp pa_nil fun σ H Q h => ?_⟩
  obtain ⟨R, ρ, st, S, E, h⟩ := h
  exact h.okR S .nil
theorem ea_cons (ha : EV X W e me) (hr : EVA X W es ms) (hs : starEach (e :: es) X.env = (false, eval e X.env) :: starEach es X.env := by rfl) : EVA X W (e :: es) (aCons me ms) := by
  refine ⟨PA.imp (pa_cons ha.pe hr.pa hs) fun σ H Q h => ?_⟩
  obtain ⟨R, ρ, st, S, E, h⟩ := h
  refine ⟨R, ρ, st, S, E, ?_⟩
  have h1 := Post.bind (Rel := Dv X.K X.mg) (Rel2 := DvA X.K X.mg) h
  refine h1.monoQ ?_
  intro v1 H1 ⟨R1, st1, d1, x1, S1, D1, h2⟩
  refine ⟨R1, ρ, st1, S1, E.ext x1, ?_⟩
  have h3 := Post.bind (Rel := DvA X.K X.mg) (Rel2 := DvA X.K X.mg) h2
  refine h3.monoQ ?_
  intro vs H2 ⟨R2, st2, ds, x2, S2, D2, h4⟩
  exact h4.okR S2 (.cons (D1.ext x2) D2)
theorem tA_of {β : Type} {f : List D → M D} {σ : L2.St} {H : Hp} {Q : VK} (h : tM X.K X.mg W (mC f ms) σ H Q) :
    tMA X.K X.mg W ms σ H (fun vs H1 => ∃ R1 st1 ds, Sim X.K R1 H1 st1 ∧ DvA X.K X.mg R1 st1 H1 vs ds ∧ Post X.K X.mg (Dv X.K X.mg) R1 H1 st1 (f ds st1) Q (fun c d H' => W c d σ H')) := by
  obtain ⟨R, ρ, st, S, E, h⟩ := h
  refine ⟨R, ρ, st, S, E, ?_⟩
  have h1 := Post.bind (Rel := DvA X.K X.mg) (Rel2 := Dv X.K X.mg) h
  exact h1.monoQ fun vs H1 ⟨R1, st1, ds, x1, S1, D1, h2⟩ => ⟨R1, st1, ds, S1, D1, h2⟩
theorem ev_callB {x : Str} {p : Pos} {id : String} {r : List V → Hp → VK → Prop} {f : List D → M D} (hc : CallR X (.builtin id) r) (hf : CallOk X.K X.mg r f) (hg : Gl X x) (hm : X.mg x = none) (hv : bootBuiltins x = some (.builtin id)) (ha : EVA X W (e :: es) ms)
    (hn : x ≠ "__name__" := by decide) (hdb : (x == ("__debug__" : Str)) = false := by decide)
    (he : starEach (e :: es) X.env = (false, eval e X.env) :: starEach es X.env := by rfl) (hpl : (backTo pos (starEach es X.env)).any (·.1) = false := by rfl) : EV X W (.Call (.Name x p) (e :: es) [] pos) (mC f ms) := by
  refine ⟨PE.imp (pe_callB hc hg hm hv ha.pa hn hdb he hpl) fun σ H Q h => ?_⟩
  obtain ⟨R, ρ, st, S, E, h⟩ := tA_of (β := V) h
  exact ⟨R, ρ, st, S, E, h.monoQ fun vs H1 ⟨R1, st1, ds, S1, D1, h2⟩ => hf R1 H1 st1 vs ds Q _ S1 D1 h2⟩
theorem ev_callTy {x : Str} {p : Pos} {T : String} {r : List V → Hp → VK → Prop} {f : List D → M D} (hc : CallR X (.type T) r) (hf : CallOk X.K X.mg r f) (hg : Gl X x) (hm : X.mg x = none) (hv : bootBuiltins x = some (.type T)) (ha : EVA X W (e :: es) ms)
    (hn : x ≠ "__name__" := by decide) (hdb : (x == ("__debug__" : Str)) = false := by decide)
    (he : starEach (e :: es) X.env = (false, eval e X.env) :: starEach es X.env := by rfl) (hpl : (backTo pos (starEach es X.env)).any (·.1) = false := by rfl) : EV X W (.Call (.Name x p) (e :: es) [] pos) (mC f ms) := by
  refine ⟨PE.imp (pe_callTy hc hg hm hv ha.pa hn hdb he hpl) fun σ H Q h => ?_⟩
  obtain ⟨R, ρ, st, S, E, h⟩ := tA_of (β := V) h
  exact ⟨R, ρ, st, S, E, h.monoQ fun vs H1 ⟨R1, st1, ds, S1, D1, h2⟩ => hf R1 H1 st1 vs ds Q _ S1 D1 h2⟩
/-- all of them data -/
def datas : List D → Option (List PyData)
  | [] => some []
  | .dat d :: r => (datas r).map (d :: ·)
  | _ :: _ => none
theorem datas_of {K : PySem.W.Frag} {mg : Str → Option Value} {R : Rg} {H : Hp} {st : Sto} : ∀ {ds : List D} {vs : List V} {xs : List PyData}, DvA K mg R st H vs ds → datas ds = some xs → PdA K (Own R st) H vs xs
  | _, _, _, .nil, e => by cases e; exact .nil
  | .dat d :: r, _, _, .cons h q, e => by
    unfold datas at e
    cases z : datas r with
    | none => rw [z] at e; cases e
    | some ys =>
      rw [z] at e
      cases e
      exact .cons h (datas_of q z)
  | .loc _ :: _, _, _, .cons _ _, e => by cases e
  | .glob _ :: _, _, _, .cons _ _, e => by cases e
  | .fz _ :: _, _, _, .cons _ _, e => by cases e
  | .ty _ :: _, _, _, .cons _ _, e => by cases e
  | .raw _ :: _, _, _, .cons _ _, e => by cases e
  | .err _ _ _ _ :: _, _, _, .cons _ _, e => by cases e
def mkTup (ds : List D) : M D := fun st =>
  match datas ds with
  | some xs => if xs.length ≤ 100000 then .ok (.dat (.tuple xs)) st else .bad
  | none => .bad
def mkLst (ds : List D) : M D := fun st =>
  match datas ds with
  | some xs => if xs.length ≤ 100000 then .ok (.dat (.list xs)) st else .bad
  | none => .bad
/-- a list that is to change: it goes into the store -/
def mkLoc (ds : List D) : M D := fun st =>
  match datas ds with
  | some xs => if xs.length ≤ 100000 then .ok (.loc st.length) (st ++ [.lst xs]) else .bad
  | none => .bad
theorem small5 {n : Nat} (h : n ≤ 100000) : n ≤ sizeLine := by rw [sizeLine_eq]; omega
theorem ev_tup {x1} (h : EVA X W es ms) : EV X W (.Tuple es x1 pos) (mC mkTup ms) := by
  refine ⟨PE.imp (pe_tup h.pa) fun σ H Q h => ?_⟩
  obtain ⟨R, ρ, st, S, E, h⟩ := tA_of (β := V) h
  refine ⟨R, ρ, st, S, E, h.monoQ fun vs H1 ⟨R1, st1, ds, S1, D1, h2⟩ => ?_⟩
  unfold mkTup at h2
  split at h2
  · rename_i xs e
    split at h2
    · rename_i hl
      have q := datas_of D1 e
      exact ⟨by rw [q.len]; exact small5 hl, fun p hp => h2.okN S1 hp (newTup S1 hp q)⟩
    · exact h2.elim
  · exact h2.elim
theorem ev_lst (h : EVA X W es ms) : EV X W (.List es pos) (mC mkLst ms) := by
  refine ⟨PE.imp (pe_lst h.pa) fun σ H Q h => ?_⟩
  obtain ⟨R, ρ, st, S, E, h⟩ := tA_of (β := V) h
  refine ⟨R, ρ, st, S, E, h.monoQ fun vs H1 ⟨R1, st1, ds, S1, D1, h2⟩ => ?_⟩
  unfold mkLst at h2
  split at h2
  · rename_i xs e
    split at h2
    · rename_i hl
      have q := datas_of D1 e
      exact ⟨by rw [q.len]; exact small5 hl, fun p hp => h2.okN S1 hp (newLst S1 hp q)⟩
    · exact h2.elim
  · exact h2.elim
end
/-- a new list enters the store -/
def Rg.put (R : Rg) (p : Addr) : Rg := ⟨R.r ++ [p], R.p⟩
theorem ext_loc {K : PySem.W.Frag} {R : Rg} {H : Hp} {st : Sto} {p : Addr} {vs : List V} {xs : List PyData} (S : Sim K R H st) (hp : H p = none) (q : PdA K (Own R st) H vs xs) :
    Ext R H st (R.put p) (upd H p (.lst vs)) (st ++ [.lst xs]) ∧ Sim K (R.put p) (upd H p (.lst vs)) (st ++ [.lst xs]) := by
  have own : ∀ a, Own (R.put p) (st ++ [.lst xs]) a → Own R st a ∨ a = p := by
    rintro a (⟨n, ys, h1, h2⟩ | h)
    · unfold Rg.put at h1
      dsimp only at h1
      by_cases hn : n < R.r.length
      · rw [List.getElem?_append_left hn] at h1
        rw [List.getElem?_append_left (by rw [← S.len]; exact hn)] at h2
        exact .inl (.inl ⟨n, ys, h1, h2⟩)
      · right
        rw [List.getElem?_append_right (by omega)] at h1
        have := List.mem_of_getElem? h1
        simpa using this
    · exact .inl (.inr h)
  have E : Ext R H st (R.put p) (upd H p (.lst vs)) (st ++ [.lst xs]) := by
    refine ⟨⟨[p], rfl, fun a ha => ?_⟩, rfl, fun a _ u e => by rw [upd_ne (ne_of_none e hp)]; exact e, ⟨fun a u e _ => by rw [upd_ne (ne_of_none e hp)]; exact e, fun a z => ?_⟩⟩
    · have e : a = p := by simpa using ha
      rw [e]; exact hp
    · rcases own a z with z | rfl
      · exact .inl z
      · exact .inr hp
  refine ⟨E, by simp [Rg.put, S.len], ?_, fun a ha => ?_, fun a ha => ?_, fun n a ys h1 h2 => ?_⟩
  · refine List.nodup_append.mpr ⟨S.nd, by simp, fun a ha b hb => ?_⟩
    have e : b = p := by simpa using hb
    rw [e]
    exact fun z => S.fresh hp (z ▸ ha)
  · rcases List.mem_append.mp ha with h | h
    · exact S.nr a h
    · have e : a = p := by simpa using h
      rw [e]; exact S.freshP hp
  · by_cases e : a = p
    · rw [e, upd_same]; simp
    · rw [upd_ne e]
      refine S.trk a ?_
      rcases ha with h | h
      · rcases List.mem_append.mp h with h | h
        · exact .inl h
        · exact absurd (by simpa using h) e
      · exact .inr h
  · unfold Rg.put at h1
    dsimp only at h1
    by_cases hn : n < R.r.length
    · rw [List.getElem?_append_left hn] at h1
      rw [List.getElem?_append_left (by rw [← S.len]; exact hn)] at h2
      obtain ⟨ws, e, w⟩ := S.at_ n a ys h1 h2
      exact ⟨ws, by rw [upd_ne (ne_of_none e hp)]; exact e, w.stays E.stays⟩
    · rw [List.getElem?_append_right (by omega)] at h1
      rw [List.getElem?_append_right (by rw [← S.len]; omega)] at h2
      have e1 : a = p := by
        have := List.mem_of_getElem? h1
        simpa using this
      have e2 : Cell.lst ys = Cell.lst xs := by
        have := List.mem_of_getElem? h2
        simpa using this
      cases e2
      exact ⟨vs, by rw [e1, upd_same], q.stays E.stays⟩
theorem put_at {K : PySem.W.Frag} {R : Rg} {H : Hp} {st : Sto} {p : Addr} (S : Sim K R H st) : (R.put p).r[st.length]? = some p := by
  unfold Rg.put
  rw [← S.len, List.getElem?_append_right (Nat.le_refl _), Nat.sub_self]
  rfl
section
variable {X : Cx} {W : WX} {pos : Pos} {es : List Expr} {ms : Env → M (List D)}
theorem ev_loc (h : EVA X W es ms) : EV X W (.List es pos) (mC mkLoc ms) := by
  refine ⟨PE.imp (pe_lst h.pa) fun σ H Q h => ?_⟩
  obtain ⟨R, ρ, st, S, E, h⟩ := tA_of (β := V) h
  refine ⟨R, ρ, st, S, E, h.monoQ fun vs H1 ⟨R1, st1, ds, S1, D1, h2⟩ => ?_⟩
  unfold mkLoc at h2
  split at h2
  · rename_i xs e
    split at h2
    · rename_i hl
      have q := datas_of D1 e
      refine ⟨by rw [q.len]; exact small5 hl, fun p hp => ?_⟩
      obtain ⟨x2, S2⟩ := ext_loc S1 hp q
      exact h2 _ _ _ x2 S2 ⟨p, put_at S1, rfl⟩
    · exact h2.elim
  · exact h2.elim
end
end Ev
set_option Elab.async false
set_option linter.all false
set_option maxRecDepth 100000
set_option maxHeartbeats 4000000
/-! EvT: a tuple none or one time. -/
namespace Ev
open PySem PySem.Spec PyProof.Rows L2
theorem mul_same (l : Addr) (its : Array Value) (m : Nat) (dd : Option Addr) (sl : Array (Option Value)) (k : Int) (t : Tok)
    (h0 : (decide (k < -(2 ^ 63)) || decide (k ≥ 2 ^ 63)) = false) (h1 : (its.isEmpty || k == 1) = true) :
    Meets (Builtin.«tuple.__mul__» ⟨[.ref l, .int k t], []⟩) (fun _ R s => s.heap.get? l = some ⟨.type "tuple", dd, .seq its m, sl⟩ ∧ R (.ok (.ret (.ref l))) s) := by
  refine .of_wp fun prog w A R s h => ?_
  obtain ⟨hp, g, d, tk, os⟩ := s
  obtain ⟨hl, h⟩ := h
  have f1 := AutoSeq1.idx_int
  wp_walk using wpAny_loadPart' hl
  repeat (first
    | (refine wpAny_ite_false (decide_eq_false (fun z => by rw [h0] at z; cases z)) ?_
       wp_walk using wpAny_loadPart' hl)
    | (refine wpAny_ite_true (decide_eq_true h1) ?_
       wp_walk using wpAny_loadPart' hl))
  exact ⟨_, rfl, h⟩
theorem mul_none (l : Addr) (its : Array Value) (m : Nat) (dd : Option Addr) (sl : Array (Option Value)) (k : Int) (t : Tok)
    (h0 : (decide (k < -(2 ^ 63)) || decide (k ≥ 2 ^ 63)) = false) (h1 : (its.isEmpty || k == 1) = false) (h2 : (decide (k ≤ 0) || its.isEmpty) = true) :
    Meets (Builtin.«tuple.__mul__» ⟨[.ref l, .int k t], []⟩) (fun _ R s => s.heap.get? l = some ⟨.type "tuple", dd, .seq its m, sl⟩ ∧
      R (.ok (.ret (.ref s.heap.objs.size))) { s with heap := s.heap.push { cls := .type "tuple", data := .seq #[] } }) := by
  refine .of_wp fun prog w A R s h => ?_
  obtain ⟨hp, g, d, tk, os⟩ := s
  obtain ⟨hl, h⟩ := h
  have f1 := AutoSeq1.idx_int
  wp_walk using wpAny_loadPart' hl
  repeat (first
    | (refine wpAny_ite_false (decide_eq_false (fun z => by rw [h0] at z; cases z)) ?_
       wp_walk using wpAny_loadPart' hl)
    | (refine wpAny_ite_false (decide_eq_false (fun z => by rw [h1] at z; cases z)) ?_
       wp_walk using wpAny_loadPart' hl)
    | (refine wpAny_ite_true (decide_eq_true h2) ?_
       wp_walk using wpAny_loadPart' hl))
  exact ⟨_, rfl, h⟩
/-- t * k, whatever k is -/
def rRepA (K : PySem.W.Frag) : R2 := fun x y H Q => ∃ l k xs, x = .ref l ∧ y = .int k ∧ SqT K H l xs ∧ -1000 ≤ k ∧ k ≤ 1000 ∧ xs.length ≤ 1000 ∧
  ((xs = [] ∨ k = 1) → Q (.ref l) H) ∧ (xs ≠ [] → k ≠ 1 → ∀ p, H p = none → Q (.ref p) (upd H p (.tup (List.replicate k.toNat xs).flatten)))
theorem op_repA {X : Cx} : OpR X (binaryOp .Mult) (rRepA X.K) := by
  intro pins s σ H x y v u Q I rx ry h
  obtain ⟨l, k, xs, rfl, rfl, hT, lo, hi9, hz, q1, q2⟩ := h
  by_cases big : xs ≠ [] ∧ 2 ≤ k
  · exact op_repT pins s σ H _ _ v u Q I rx ry ⟨l, k, xs, rfl, rfl, hT, big.1, big.2, hi9, hz, q2 big.1 (by omega)⟩
  cases rx
  obtain ⟨tk, rfl⟩ := ry
  obtain ⟨ws, rv, ⟨⟨c9, dd, d9, sl⟩, hw, hc, n, hd⟩, _⟩ := I.tuple hT
  simp only at hc hd
  subst hc
  subst hd
  have hle : ws.length = xs.length := rv.length.symm
  have c0 : (decide (k < -(2 ^ 63)) || decide (k ≥ 2 ^ 63)) = false := by
    rw [decide_eq_false (by omega : ¬ k < -(2 ^ 63)), decide_eq_false (by omega : ¬ k ≥ 2 ^ 63)] <;> rfl
  by_cases same : xs = [] ∨ k = 1
  · have c1 : (ws.toArray.isEmpty || k == 1) = true := by
      rcases same with e | e
      · have : ws = [] := List.eq_nil_of_length_eq_zero (by rw [hle, e]; rfl)
        rw [this] <;> rfl
      · rw [e, Bool.or_eq_true]
        exact .inr rfl
    refine wpAny_binaryOp_repeat_ref (T := "tuple") (U := "int") (by decide) ⟨_, hw, rfl⟩ (fun z => typeIs_int z k tk) noFill_tuple_mul F.fills_int_mul F.slot_int_rmul repeat_tuple F.slot_int_index.lookup
      (call_meets F.slot_int_rmul (typeIs_int s k tk) F.entry_int_rmul (F.args_int_rmul_2 _ _) (int_rmul_tuple k tk l ws.toArray n dd sl)
        ⟨hw, rfl, ⟨_, hw, rfl⟩, call_meets F.slot_tuple_mul ⟨_, hw, rfl⟩ F.entry_tuple_mul (F.args_tuple_mul_2 _ _) (mul_same l ws.toArray n dd sl k tk c0 c1) ⟨hw, ?_⟩⟩)
    exact ⟨.ref l, H, I, rfl, q1 same⟩
  · have hx : xs ≠ [] := fun e => same (.inl e)
    have hk : k ≠ 1 := fun e => same (.inr e)
    have k0 : k ≤ 0 := by
      by_cases z : 2 ≤ k
      · exact absurd ⟨hx, z⟩ big
      · omega
    have hi : ws.toArray.isEmpty = false := by
      cases ws with
      | nil => exact absurd (List.eq_nil_of_length_eq_zero hle.symm) hx
      | cons a b => rfl
    have c1 : (ws.toArray.isEmpty || k == 1) = false := by
      rw [hi, Bool.false_or]
      exact beq_eq_false_iff_ne.mpr hk
    have c2 : (decide (k ≤ 0) || ws.toArray.isEmpty) = true := by
      rw [decide_eq_true k0] <;> rfl
    refine wpAny_binaryOp_repeat_ref (T := "tuple") (U := "int") (by decide) ⟨_, hw, rfl⟩ (fun z => typeIs_int z k tk) noFill_tuple_mul F.fills_int_mul F.slot_int_rmul repeat_tuple F.slot_int_index.lookup
      (call_meets F.slot_int_rmul (typeIs_int s k tk) F.entry_int_rmul (F.args_int_rmul_2 _ _) (int_rmul_tuple k tk l ws.toArray n dd sl)
        ⟨hw, rfl, ⟨_, hw, rfl⟩, call_meets F.slot_tuple_mul ⟨_, hw, rfl⟩ F.entry_tuple_mul (F.args_tuple_mul_2 _ _) (mul_none l ws.toArray n dd sl k tk c0 c1 c2) ⟨hw, ?_⟩⟩)
    have e0 : (List.replicate k.toNat xs).flatten = [] := by
      rw [show k.toNat = 0 by omega]
      rfl
    have q := q2 hx hk _ (I.hok.fresh (Nat.le_refl _))
    rw [e0] at q
    refine ⟨.ref s.heap.objs.size, _, I.laid (t' := s.toks) (o := .tup []) (fun b ob z => Heap.get?_push_of_some _ z) (Nat.le_refl _) ?_, rfl, q⟩
    exact ⟨by rw [sizeLine_eq]; decide, [], .nil, IsTup.new _ _⟩
end Ev
set_option Elab.async false
set_option linter.all false
set_option maxRecDepth 100000
set_option maxHeartbeats 4000000
/-! Ev3: the operations on data. -/
namespace Ev
open PySem PySem.Spec PyProof.Rows L2

/-! ### reading the heap as data -/
section
variable {K : PySem.W.Frag} {U : Addr → Prop} {H : Hp}
mutual
theorem Pd.dp : ∀ {d : PyData} {v : V}, Pd K U H v d → d.canLay0 = true → Dp K H v d
  | _, _, .non, _ => .non
  | _, _, .bl b, _ => .bl b
  | _, _, .int i, _ => .int i
  | _, _, .str x, _ => .str x
  | _, _, .lst h n q, c => .lst (.inl (.inl h)) (PdA.dp q (by simpa [PyData.canLay0] using c))
  | _, _, .tup h q, c => .tup h.seq (PdA.dp q (by simpa [PyData.canLay0] using c))
  | _, _, .dct _ _ _, c => by simp [PyData.canLay0] at c
theorem PdA.dp : ∀ {ds : List PyData} {vs : List V}, PdA K U H vs ds → PyData.canLayAll0 ds = true → DpAll K H vs ds
  | _, _, .nil, _ => .nil
  | _, _, .cons h q, c => by
    simp only [PyData.canLayAll0, Bool.and_eq_true] at c
    exact .cons (Pd.dp h c.1) (PdA.dp q c.2)
end
end
mutual
/-- no list stands in it -/
def noList : PyData → Bool
  | .none | .bool _ | .int _ | .str _ => true
  | .tuple xs => noListA xs
  | .list _ => false
  | .dict kvs => noListK kvs
def noListA : List PyData → Bool
  | [] => true
  | x :: r => noList x && noListA r
def noListK : List (PyData × PyData) → Bool
  | [] => true
  | (_, v) :: r => noList v && noListK r
end
def bigLine : Nat := 16000000
def reprOk (d : PyData) : Bool := d.showable && decide (d.depth ≤ 64) && decide (d.shown.length ≤ bigLine)

section
variable {X : Cx} {pins : List (Addr × Obj)} {σ : L2.St} {H : Hp} {s : Shared} {U : Addr → Prop}
theorem keyD_reads {h : Heap} {k : Key} {u : Value} (e : keyIs k u = true) : Reads h u (keyD k) [] := by
  rcases keyIs_shape e with ⟨i, t, rfl, rfl⟩ | ⟨x, t, rfl, rfl⟩
  · exact .int i t
  · exact .str x t
mutual
theorem Pd.reads (I : Inv X pins σ H s) (hs : H sysModules = none) : ∀ {d : PyData} {v : V} {u : Value}, Pd X.K U H v d → RelV v u → ∃ as, Reads s.heap u d as ∧ sysModules ∉ as
  | _, _, _, .non, r => by cases r; exact ⟨_, .none, fun z => by cases z⟩
  | _, _, _, .bl b, r => by cases r; exact ⟨_, .bool b, fun z => by cases z⟩
  | _, _, _, .int i, r => by obtain ⟨t, rfl⟩ := r; exact ⟨_, .int i t, fun z => by cases z⟩
  | _, _, _, .str x, r => by obtain ⟨t, rfl⟩ := r; exact ⟨_, .str x t, fun z => by cases z⟩
  | _, _, _, .lst h _ q, r => by
    cases r
    obtain ⟨its, rv, ⟨o, n, ho, hc, _, hd⟩, _⟩ := I.list (.inl (.inl h))
    obtain ⟨as, hr, hn⟩ := PdA.reads I hs q rv
    refine ⟨_, .list ho hc hd (by simpa using hr), fun z => ?_⟩
    simp only [List.mem_cons] at z
    rcases z with z | z
    · rw [← z, hs] at h; cases h
    · exact hn z
  | _, _, _, .tup h q, r => by
    cases r
    obtain ⟨its, rv, ⟨o, ho, hc, n, hd⟩, _⟩ := I.tuple h.seq
    obtain ⟨as, hr, hn⟩ := PdA.reads I hs q rv
    exact ⟨_, .tuple ho hc hd (by simpa using hr), hn⟩
  | _, _, _, .dct h _ q, r => by
    cases r
    obtain ⟨_, hS, vs, rv, o, es, ep, ho, hx, hd, _, hp, _⟩ := (show ObjOk X.prog X.w H s.heap _ (.dK _) from I.hok _ _ h)
    obtain ⟨as, hk, hv, c'⟩ := PdK.reads I hs q rv hp
    refine ⟨_, .dict ho hx.1 hd hk hv, ?_⟩
    have ne : sysModules ≠ _ := fun e => (beq_eq_false_iff_ne.mp hS) e.symm
    intro z
    simp only [List.cons_append, List.nil_append, List.mem_cons] at z
    rcases z with z | z
    · exact ne z
    · exact c' z
theorem PdA.reads (I : Inv X pins σ H s) (hs : H sysModules = none) : ∀ {ds : List PyData} {vs : List V} {us : List Value}, PdA X.K U H vs ds → Vals vs us → ∃ as, ReadsAll s.heap us ds as ∧ sysModules ∉ as
  | _, _, _, .nil, r => by cases r; exact ⟨_, .nil, fun z => by cases z⟩
  | _, _, _, .cons h q, r => by
    cases r with
    | cons r1 r2 =>
      obtain ⟨as, a1, a2⟩ := Pd.reads I hs h r1
      obtain ⟨bs, b1, b2⟩ := PdA.reads I hs q r2
      refine ⟨_, .cons a1 b1, ?_⟩
      exact fun z => (List.mem_append.mp z).elim a2 b2
theorem PdK.reads (I : Inv X pins σ H s) (hs : H sysModules = none) : ∀ {ds : List (PyData × PyData)} {kvs : List (Key × V)} {vs : List (Key × Value)} {es : List DictEntry}, PdK X.K U H kvs ds → KV kvs vs →
    Pairs (mixKind X.prog X.w) es vs → ∃ bs, ReadsAll s.heap (es.map (·.key)) (ds.map (·.1)) [] ∧ ReadsAll s.heap (es.map (·.val)) (ds.map (·.2)) bs ∧ sysModules ∉ bs
  | _, _, _, _, .nil, r, z => by cases r; cases z; exact ⟨_, .nil, .nil, fun z => by cases z⟩
  | _, _, _, _, .cons h q, r, z => by
    cases r with
    | cons r1 r2 =>
      cases z with
      | cons z1 z2 z3 =>
        obtain ⟨bs, a1, a2, a3⟩ := PdK.reads I hs q r2 z3
        obtain ⟨e1, e2⟩ := r1
        obtain ⟨cs, c1, c2⟩ := Pd.reads I hs h e2
        refine ⟨cs ++ bs, ReadsAll.cons (as := []) (bs := []) (keyD_reads (by rw [← e1] at z1; exact z1)) a1, ReadsAll.cons (as := cs) (bs := bs) (by show Reads _ (DictEntry.val _) _ _; rw [z2]; exact c1) a2, ?_⟩
        exact fun z => (List.mem_append.mp z).elim c2 a3
end
end

/-! ### numbers -/
def asInts (f : Int → Int → M D) : D → D → M D
  | .dat (.int i), .dat (.int j) => f i j
  | _, _ => M.bad
def retI (i : Int) : M D := M.pure (.dat (.int i))
def retB (b : Bool) : M D := M.pure (.dat (.bool b))
def guardM (c : Prop) [Decidable c] (m : M D) : M D := if c then m else M.bad
def wideI (i : Int) : Prop := i.natAbs < 2 ^ 4000
instance (i : Int) : Decidable (wideI i) := by unfold wideI; exact inferInstance

section
variable {K : PySem.W.Frag} {mg : Str → Option Value}
theorem okI {R : Rg} {H : Hp} {st : Sto} {v w : V} {d e : D} {Q : VK} {W : XK} {f : Int → Int → M D} (h1 : Dv K mg R st H v d) (h2 : Dv K mg R st H w e) (h : Post K mg (Dv K mg) R H st (asInts f d e st) Q W) :
    ∃ i j, v = .int i ∧ w = .int j ∧ d = .dat (.int i) ∧ e = .dat (.int j) ∧ Post K mg (Dv K mg) R H st (f i j st) Q W := by
  unfold asInts at h
  split at h
  · cases h1
    cases h2
    exact ⟨_, _, rfl, rfl, rfl, rfl, h⟩
  · exact h.elim
theorem okG {R : Rg} {H : Hp} {st : Sto} {Q : VK} {W : XK} {c : Prop} [Decidable c] {m : M D} (h : Post K mg (Dv K mg) R H st (guardM c m st) Q W) : c ∧ Post K mg (Dv K mg) R H st (m st) Q W := by
  unfold guardM at h
  split at h
  · rename_i hc
    exact ⟨hc, h⟩
  · exact h.elim
theorem ok_rI0 {g : Int → Int → Int} : OpOk K mg (rI0 fun i j => .int (g i j)) (asInts fun i j => retI (g i j)) := by
  intro R H st v w d e Q W S h1 h2 h
  obtain ⟨i, j, rfl, rfl, rfl, rfl, h⟩ := okI h1 h2 h
  exact ⟨i, j, rfl, rfl, h.okR S (Dv.int _)⟩
theorem ok_rB0 {g : Int → Int → Bool} : OpOk K mg (rI0 fun i j => .bl (g i j)) (asInts fun i j => retB (g i j)) := by
  intro R H st v w d e Q W S h1 h2 h
  obtain ⟨i, j, rfl, rfl, rfl, rfl, h⟩ := okI h1 h2 h
  exact ⟨i, j, rfl, rfl, h.okR S (Dv.bl _)⟩
theorem ok_rI {C : Int → Int → Prop} {c : Int → Int → Prop} [∀ i j, Decidable (c i j)] {g : Int → Int → Int} (hc : ∀ i j, c i j → C i j) : OpOk K mg (rI C fun i j => .int (g i j)) (asInts fun i j => guardM (c i j) (retI (g i j))) := by
  intro R H st v w d e Q W S h1 h2 h
  obtain ⟨i, j, rfl, rfl, rfl, rfl, h⟩ := okI h1 h2 h
  obtain ⟨z, h⟩ := okG h
  exact ⟨i, j, rfl, rfl, hc i j z, h.okR S (Dv.int _)⟩
end
def dSub : D → D → M D := asInts fun i j => retI (i - j)
def dLt : D → D → M D := asInts fun i j => retB (decide (i < j))
def dLe : D → D → M D := asInts fun i j => retB (decide (i ≤ j))
def dGt : D → D → M D := asInts fun i j => retB (decide (j < i))
def dGe : D → D → M D := asInts fun i j => retB (decide (j ≤ i))
def dMod : D → D → M D := asInts fun i j => guardM (j ≠ 0) (retI (i.fmod j))
def dFdiv : D → D → M D := asInts fun i j => guardM (0 < j ∧ wideI j ∨ j ≠ 0 ∧ j.natAbs < 1073741824) (retI (i.fdiv j))
def dPow : D → D → M D := asInts fun i j => guardM (0 ≤ j ∧ (Builtin.Int.intBits i : Int) * j ≤ 100000) (retI (i ^ j.toNat))
section
variable {X : Cx}
theorem op_mod2 : OpR X (binaryOp .Mod) (rI (fun _ j => j ≠ 0) fun i j => .int (i.fmod j)) := op_modN
theorem op_fdiv2 : OpR X (binaryOp .FloorDiv) (rI (fun _ j => 0 < j ∧ wideI j ∨ j ≠ 0 ∧ j.natAbs < 1073741824) fun i j => .int (i.fdiv j)) := opI fun i j _ _ _ _ _ hc q => by
  rcases hc with ⟨h1, h2⟩ | hc
  · refine floordiv_int (by omega) q (.inl (PyProof.noPylong_of_log2 ?_))
    exact Nat.lt_of_lt_of_le (PySem.Flt.log2_lt_of (by decide : 0 < 4000) h2) (by decide)
  · exact floordiv_int hc.1 q (.inl (PyProof.noPylong_small hc.2))
theorem op_pow2 : OpR X (binaryOp .Pow) (rI (fun i j => 0 ≤ j ∧ (Builtin.Int.intBits i : Int) * j ≤ 100000) fun i j => .int (i ^ j.toNat)) := opI fun i j _ _ _ _ _ hc q =>
  PyProof.Rows.pow_int hc.1 (Int.le_trans hc.2 (by decide)) q
end
def dNeg : D → M D
  | .dat (.int i) => retI (-i)
  | _ => M.bad
theorem ok_neg {K : PySem.W.Frag} {mg : Str → Option Value} : UnOk K mg (rU fun i => .int (-i)) dNeg := by
  intro R H st v d Q W S h1 h
  unfold dNeg at h
  split at h
  · cases h1
    exact ⟨_, rfl, h.okR S (Dv.int _)⟩
  · exact h.elim
/-! ### + and * of numbers, texts, lists, tuples -/
def ifLen (n : Nat) (d : PyData) : M D := if n ≤ 100000 then M.pure (.dat d) else M.bad
/-- two things read as data -/
def asData (f : PyData → PyData → M D) (d e : D) : M D := fun st =>
  match dataOf d st, dataOf e st with
  | some x, some y => f x y st
  | _, _ => .bad
def addD : PyData → PyData → M D
  | .int i, .int j => retI (i + j)
  | .str x, .str y => ifLen (x.length + y.length) (.str (x ++ y))
  | .list xs, .list ys => ifLen (xs.length + ys.length) (.list (xs ++ ys))
  | .tuple xs, .tuple ys => ifLen (xs.length + ys.length) (.tuple (xs ++ ys))
  | _, _ => M.bad
def dAdd : D → D → M D := asData addD
section
variable {K : PySem.W.Frag} {mg : Str → Option Value} {R : Rg} {H : Hp} {st : Sto} {v w : V} {d e : D} {Q : VK} {W : XK}
theorem okL {n : Nat} {x : PyData} (h : Post K mg (Dv K mg) R H st (ifLen n x st) Q W) : n ≤ 100000 ∧ Post K mg (Dv K mg) R H st (.ok (.dat x) st) Q W := by
  unfold ifLen at h
  split at h
  · rename_i z; exact ⟨z, h⟩
  · exact h.elim
theorem okA {f : PyData → PyData → M D} (h : Post K mg (Dv K mg) R H st (asData f d e st) Q W) : ∃ x y, dataOf d st = some x ∧ dataOf e st = some y ∧ Post K mg (Dv K mg) R H st (f x y st) Q W := by
  unfold asData at h
  split at h
  · rename_i x y h1 h2; exact ⟨x, y, h1, h2, h⟩
  · exact h.elim
/-- what is told as data lies as data, unless it is a list of the store -/
theorem Dv.dataT {ds : List PyData} (h : Dv K mg R st H v d) (e : dataOf d st = some (.tuple ds)) : Pd K (Own R st) H v (.tuple ds) := by
  cases d with
  | dat x => cases e; exact h
  | loc n =>
    unfold dataOf at e
    simp only at e
    split at e <;> cases e
  | glob x => cases e
  | fz ds => cases e
  | ty t => cases e
  | raw t => cases e
  | err _ _ _ _ => cases e
/-- a list, told: where it lies, and its items as data that stay -/
theorem Dv.dataL {ds : List PyData} (S : Sim K R H st) (h : Dv K mg R st H v d) (e : dataOf d st = some (.list ds)) : ∃ a vs, v = .ref a ∧ H a = some (.lst vs) ∧ PdA K (Own R st) H vs ds := by
  cases d with
  | dat x =>
    cases e
    cases (show Pd K (Own R st) H v (.list ds) from h) with
    | lst h1 h2 h3 => exact ⟨_, _, rfl, h1, h3⟩
  | loc n =>
    obtain ⟨a, h1, rfl⟩ := h
    unfold dataOf at e
    simp only at e
    split at e
    · rename_i xs q
      cases e
      obtain ⟨vs, e1, e2⟩ := S.at_ n a ds h1 q
      exact ⟨a, vs, rfl, e1, e2⟩
    · cases e
  | glob x => cases e
  | fz ds => cases e
  | ty t => cases e
  | raw t => cases e
  | err _ _ _ _ => cases e
theorem Dv.dataI {i : Int} (h : Dv K mg R st H v d) (e : dataOf d st = some (.int i)) : v = .int i := by
  cases d with
  | dat x => cases e; cases h; rfl
  | loc n =>
    unfold dataOf at e
    simp only at e
    split at e <;> cases e
  | glob x => cases e
  | fz ds => cases e
  | ty t => cases e
  | raw t => cases e
  | err _ _ _ _ => cases e
theorem Dv.dataS {x : Str} (h : Dv K mg R st H v d) (e : dataOf d st = some (.str x)) : v = .str x := by
  cases d with
  | dat x => cases e; cases h; rfl
  | loc n =>
    unfold dataOf at e
    simp only at e
    split at e <;> cases e
  | glob x => cases e
  | fz ds => cases e
  | ty t => cases e
  | raw t => cases e
  | err _ _ _ _ => cases e
end
def rAddAll (K : PySem.W.Frag) : R2 := fun x y H Q => (∃ i j, x = .int i ∧ y = .int j ∧ Q (.int (i + j)) H) ∨ (∃ i j, x = .str i ∧ y = .str j ∧ i.length + j.length ≤ sizeLine ∧ Q (.str (i ++ j)) H) ∨ rCat x y H Q ∨ rCatA K x y H Q
theorem op_addAll {X : Cx} : OpR X (binaryOp .Add) (rAddAll X.K) := (op_add).or (op_add_str.or (op_cat.or op_catA))
theorem ok_addAll {K : PySem.W.Frag} {mg : Str → Option Value} : OpOk K mg (rAddAll K) dAdd := by
  intro R H st v w d e Q W S h1 h2 h
  obtain ⟨x, y, e1, e2, h⟩ := okA h
  unfold addD at h
  split at h
  · have a := h1.dataI e1
    have b := h2.dataI e2
    subst a; subst b
    exact .inl ⟨_, _, rfl, rfl, h.okR S (Dv.int _)⟩
  · have a := h1.dataS e1
    have b := h2.dataS e2
    subst a; subst b
    obtain ⟨z, h⟩ := okL h
    exact .inr (.inl ⟨_, _, rfl, rfl, small5 z, h.okR S (Dv.str _)⟩)
  · obtain ⟨a, vs, rfl, ha, pa⟩ := h1.dataL S e1
    obtain ⟨b, ws, rfl, hb, pb⟩ := h2.dataL S e2
    obtain ⟨z, h⟩ := okL h
    exact .inr (.inr (.inl ⟨a, b, vs, ws, rfl, rfl, ha, hb, small5 (by rw [pa.len, pb.len]; exact z), fun p hp => h.okN S hp (newLst S hp (pa.app pb))⟩))
  · cases h1.dataT e1 with
    | tup ta pa =>
      cases h2.dataT e2 with
      | tup tb pb =>
        obtain ⟨z, h⟩ := okL h
        refine .inr (.inr (.inr ⟨_, _, _, _, rfl, rfl, ta.seq, tb.seq, small5 (by rw [pa.len, pb.len]; exact z), fun q => ?_, fun _ q => ?_, fun _ _ p hp => h.okN S hp (newTup S hp (pa.app pb))⟩))
        · refine h.okR S (Pd.tup tb ?_)
          subst q
          cases pa
          exact pb
        · refine h.okR S (Pd.tup ta ?_)
          subst q
          cases pb
          rw [List.append_nil]
          exact pa
  · exact h.elim
/-- so many times the items -/
def repD (k : Nat) (xs : List PyData) : List PyData := (List.replicate k xs).flatten
theorem PdA.rep {K : PySem.W.Frag} {U : Addr → Prop} {H : Hp} {vs : List V} {ds : List PyData} (q : PdA K U H vs ds) : ∀ k : Nat, PdA K U H (List.replicate k vs).flatten (repD k ds)
  | 0 => .nil
  | k + 1 => by
    unfold repD
    rw [List.replicate_succ, List.replicate_succ, List.flatten_cons, List.flatten_cons]
    exact q.app (PdA.rep q k)
theorem rep_nil : ∀ k : Nat, repD k [] = []
  | 0 => rfl
  | k + 1 => by
    unfold repD
    rw [List.replicate_succ, List.flatten_cons]
    exact rep_nil k
theorem rep_one (xs : List PyData) : repD 1 xs = xs := by
  unfold repD
  simp
def mulD : PyData → PyData → M D
  | .int i, .int j => guardM (wideI i ∧ wideI j) (retI (i * j))
  | .list xs, .int k => guardM (k ≤ 1000 ∧ -1000 ≤ k ∧ xs.length ≤ 100) (M.pure (.dat (.list (repD k.toNat xs))))
  | .tuple xs, .int k => guardM (-1000 ≤ k ∧ k ≤ 1000 ∧ xs.length ≤ 100) (M.pure (.dat (.tuple (repD k.toNat xs))))
  | _, _ => M.bad
def dMul : D → D → M D := asData mulD
def rMulAll (K : PySem.W.Frag) : R2 := fun x y H Q => rI CMulW (fun i j => .int (i * j)) x y H Q ∨ rRep x y H Q ∨ rRepA K x y H Q
theorem op_mulAll {X : Cx} : OpR X (binaryOp .Mult) (rMulAll X.K) := op_mulW.or (op_rep.or op_repA)
theorem ok_mulAll {K : PySem.W.Frag} {mg : Str → Option Value} : OpOk K mg (rMulAll K) dMul := by
  intro R H st v w d e Q W S h1 h2 h
  obtain ⟨x, y, e1, e2, h⟩ := okA h
  unfold mulD at h
  split at h
  · have a := h1.dataI e1
    have b := h2.dataI e2
    subst a; subst b
    obtain ⟨z, h⟩ := okG h
    exact .inl ⟨_, _, rfl, rfl, wide_mul z.1 z.2 (by decide) (by decide) (by decide), h.okR S (Dv.int _)⟩
  · obtain ⟨a, vs, rfl, ha, pa⟩ := h1.dataL S e1
    have b := h2.dataI e2
    subst b
    obtain ⟨⟨z1, z2, z3⟩, h⟩ := okG h
    refine .inr (.inl ⟨a, _, vs, rfl, rfl, ha, by omega, by omega, ?_, fun p hp => h.okN S hp (newLst S hp (pa.rep _))⟩)
    rw [pa.len, sizeLine_eq]
    exact Nat.le_trans (Nat.mul_le_mul z3 (show _ ≤ 1000 by omega)) (by decide)
  · cases h1.dataT e1 with
    | tup ta pa =>
      have b := h2.dataI e2
      subst b
      obtain ⟨⟨z1, z2, z3⟩, h⟩ := okG h
      refine .inr (.inr ⟨_, _, _, rfl, rfl, ta.seq, z1, z2, by rw [pa.len]; omega, fun q => ?_, fun _ _ p hp => h.okN S hp (newTup S hp (pa.rep _))⟩)
      refine h.okR S (Pd.tup ta ?_)
      have e := pa.rep ‹Int›.toNat
      rcases q with rfl | rfl
      · cases pa
        rw [rep_nil] at e ⊢
        exact .nil
      · rw [show repD (1 : Int).toNat _ = _ from rep_one _]
        exact pa
  · exact h.elim

/-! ### == and != -/
/-- two lists of unlike lengths -/
def lenDiff : PyData → PyData → Bool
  | .list xs, .list ys => xs.length != ys.length
  | .tuple xs, .tuple ys => (xs.isEmpty || ys.isEmpty) && xs.length != ys.length
  | _, _ => false
def eqD : PyData → PyData → M D
  | .str x, .str y => retB (decide (x = y))
  | x, y => if SeqAt.shaped x = true ∧ SeqAt.shaped y = true then retB (PyData.eqv x y) else if lenDiff x y = true then retB false else M.bad
def notM (m : M D) : M D := M.bind m fun x => M.bind (asB x) fun b => retB (!b)
def dEq : D → D → M D := asData eqD
def dNe : D → D → M D := asData fun x y => notM (eqD x y)
def rEqLen (K : PySem.W.Frag) (b : Bool) : R2 := fun x y H Q => ∃ l m xs ys, x = .ref l ∧ y = .ref m ∧ SqL K H l xs ∧ SqL K H m ys ∧ xs.length ≠ ys.length ∧ Q (.bl b) H
theorem op_eqLen {X : Cx} (hu : X.A.units + 64 < cLine) : OpR X (compareOp .Eq) (rEqLen X.K false) := by
  intro pins s σ H x y v u Q I rx ry h
  obtain ⟨l, m, xs, ys, rfl, rfl, h1, h2, hn, q⟩ := h
  cases rx
  cases ry
  obtain ⟨us, r1, p1, _⟩ := I.list h1
  obtain ⟨ws, r2, p2, _⟩ := I.list h2
  refine SeqAt.eq_list_lengthsAt p1.isList p2.isList ?_ (by omega) ⟨.bl false, H, I, rfl, q⟩
  rw [List.size_toArray, List.size_toArray, ← r1.length, ← r2.length, bne_iff_ne]
  exact hn
theorem op_neLen {X : Cx} (hu : X.A.units + 64 < cLine) : OpR X (compareOp .NotEq) (rEqLen X.K true) := by
  intro pins s σ H x y v u Q I rx ry h
  obtain ⟨l, m, xs, ys, rfl, rfl, h1, h2, hn, q⟩ := h
  cases rx
  cases ry
  obtain ⟨us, r1, p1, _⟩ := I.list h1
  obtain ⟨ws, r2, p2, _⟩ := I.list h2
  refine SeqAt.RcNeAt.lists_lengths p1.isList p2.isList ?_ (by omega) X.prog X.w _ _ ⟨.bl true, H, I, rfl, q⟩
  rw [List.size_toArray, List.size_toArray, ← r1.length, ← r2.length, bne_iff_ne]
  exact hn
/-- two tuples, one of them empty -/
def rEqTup0 (K : PySem.W.Frag) (b : Bool) : R2 := fun x y H Q => ∃ l m xs ys, x = .ref l ∧ y = .ref m ∧ SqT K H l xs ∧ SqT K H m ys ∧ (xs = [] ∨ ys = []) ∧ xs.length ≠ ys.length ∧ Q (.bl b) H
theorem none_less {α β : Type} {us : List α} {ws : List β} (h : us = [] ∨ ws = []) : min us.toArray.size ws.toArray.size = 0 := by
  rcases h with h | h
  · rw [h]; simp
  · rw [h]; simp
theorem op_eqTup0 {X : Cx} (hu : X.A.units + 64 < cLine) : OpR X (compareOp .Eq) (rEqTup0 X.K false) := by
  intro pins s σ H x y v u Q I rx ry h
  obtain ⟨l, m, xs, ys, rfl, rfl, h1, h2, h0, hn, q⟩ := h
  cases rx
  cases ry
  obtain ⟨us, r1, p1, _⟩ := I.tuple h1
  obtain ⟨ws, r2, p2, _⟩ := I.tuple h2
  have e0 : us = [] ∨ ws = [] := by
    rcases h0 with h0 | h0
    · exact .inl (List.eq_nil_of_length_eq_zero (by rw [← r1.length, h0]; rfl))
    · exact .inr (List.eq_nil_of_length_eq_zero (by rw [← r2.length, h0]; rfl))
  have z := none_less e0
  refine SeqAt.eq_tupleAt (e := fun _ => true) p1 p2 (by omega) (fun j a1 a2 => ?_) ?_
  · have : j < min us.toArray.size ws.toArray.size := Nat.lt_min.mpr ⟨a1, a2⟩
    omega
  · rw [z]
    have : (us.toArray.size == ws.toArray.size) = false := by
      rw [beq_eq_false_iff_ne, List.size_toArray, List.size_toArray, ← r1.length, ← r2.length]
      exact hn
    rw [this]
    exact ⟨.bl false, H, I, rfl, q⟩
theorem op_neTup0 {X : Cx} (hu : X.A.units + 64 < cLine) : OpR X (compareOp .NotEq) (rEqTup0 X.K true) := by
  intro pins s σ H x y v u Q I rx ry h
  obtain ⟨l, m, xs, ys, rfl, rfl, h1, h2, h0, hn, q⟩ := h
  cases rx
  cases ry
  obtain ⟨us, r1, p1, _⟩ := I.tuple h1
  obtain ⟨ws, r2, p2, _⟩ := I.tuple h2
  have e0 : us = [] ∨ ws = [] := by
    rcases h0 with h0 | h0
    · exact .inl (List.eq_nil_of_length_eq_zero (by rw [← r1.length, h0]; rfl))
    · exact .inr (List.eq_nil_of_length_eq_zero (by rw [← r2.length, h0]; rfl))
  have z := none_less e0
  refine SeqAt.RcNeAt.tuples (e := fun _ => true) p1 p2 (by omega) (fun j a1 a2 => ?_) X.prog X.w _ _ ?_
  · have : j < min us.toArray.size ws.toArray.size := Nat.lt_min.mpr ⟨a1, a2⟩
    omega
  · rw [z]
    have : (us.toArray.size == ws.toArray.size) = false := by
      rw [beq_eq_false_iff_ne, List.size_toArray, List.size_toArray, ← r1.length, ← r2.length]
      exact hn
    rw [this]
    exact ⟨.bl true, H, I, rfl, q⟩
def rEqAll (K : PySem.W.Frag) : R2 := fun x y H Q => rEq x y H Q ∨ rEqD K x y H Q ∨ rEqLen K false x y H Q ∨ rEqTup0 K false x y H Q
def rNeAll (K : PySem.W.Frag) : R2 := fun x y H Q => rNe x y H Q ∨ rNeD K x y H Q ∨ rEqLen K true x y H Q ∨ rEqTup0 K true x y H Q
theorem op_eqAll {X : Cx} (hu : X.A.units + 64 < cLine) : OpR X (compareOp .Eq) (rEqAll X.K) := op_eq.or ((op_eqD hu).or ((op_eqLen hu).or (op_eqTup0 hu)))
theorem op_neAll {X : Cx} (hu : X.A.units + 64 < cLine) : OpR X (compareOp .NotEq) (rNeAll X.K) := op_ne.or ((op_neD hu).or ((op_neLen hu).or (op_neTup0 hu)))
theorem eqD_cases {x y : PyData} {st : Sto} {r : Res D} (h : eqD x y st = r) : (∃ a b, x = .str a ∧ y = .str b ∧ r = .ok (.dat (.bool (decide (a = b)))) st) ∨ (SeqAt.shaped x = true ∧ SeqAt.shaped y = true ∧ r = .ok (.dat (.bool (PyData.eqv x y))) st) ∨
    (∃ xs ys, x = .list xs ∧ y = .list ys ∧ xs.length ≠ ys.length ∧ r = .ok (.dat (.bool false)) st) ∨
    (∃ xs ys, x = .tuple xs ∧ y = .tuple ys ∧ (xs = [] ∨ ys = []) ∧ xs.length ≠ ys.length ∧ r = .ok (.dat (.bool false)) st) ∨ r = .bad := by
  subst h
  unfold eqD
  split
  · exact .inl ⟨_, _, rfl, rfl, rfl⟩
  · split
    · rename_i z
      exact .inr (.inl ⟨z.1, z.2, rfl⟩)
    · split
      · rename_i z
        unfold lenDiff at z
        split at z
        · exact .inr (.inr (.inl ⟨_, _, rfl, rfl, by simpa using z, rfl⟩))
        · rw [Bool.and_eq_true, Bool.or_eq_true, List.isEmpty_iff, List.isEmpty_iff, bne_iff_ne] at z
          exact .inr (.inr (.inr (.inl ⟨_, _, rfl, rfl, z.1, z.2, rfl⟩)))
        · cases z
      · exact .inr (.inr (.inr (.inr rfl)))
theorem ok_eqAll {K : PySem.W.Frag} {mg : Str → Option Value} : OpOk K mg (rEqAll K) dEq := by
  intro R H st v w d e Q W S h1 h2 h
  obtain ⟨x, y, e1, e2, h⟩ := okA h
  rcases eqD_cases (x := x) (y := y) (st := st) rfl with ⟨a, b, rfl, rfl, z⟩ | ⟨z1, z2, z⟩ | ⟨xs, ys, rfl, rfl, z0, z⟩ | ⟨xs, ys, rfl, rfl, z1, z0, z⟩ | z
  · rw [z] at h
    have a' := h1.dataS e1
    have b' := h2.dataS e2
    subst a'; subst b'
    refine .inl ⟨rfl, ?_⟩
    have := h.okR S (Dv.bl _)
    simpa using this
  · rw [z] at h
    have p1 := (h1.data S e1).dp (SeqAt.canLay_of_shaped z1)
    have p2 := (h2.data S e2).dp (SeqAt.canLay_of_shaped z2)
    exact .inr (.inl ⟨x, y, p1, p2, z1, z2, h.okR S (Dv.bl _)⟩)
  · rw [z] at h
    obtain ⟨a, vs, rfl, ha, pa⟩ := h1.dataL S e1
    obtain ⟨b, ws, rfl, hb, pb⟩ := h2.dataL S e2
    exact .inr (.inr (.inl ⟨a, b, vs, ws, rfl, rfl, .inl (.inl ha), .inl (.inl hb), by rw [pa.len, pb.len]; exact z0, h.okR S (Dv.bl _)⟩))
  · rw [z] at h
    cases h1.dataT e1 with
    | tup ta pa =>
      cases h2.dataT e2 with
      | tup tb pb =>
        refine .inr (.inr (.inr ⟨_, _, _, _, rfl, rfl, ta.seq, tb.seq, ?_, by rw [pa.len, pb.len]; exact z0, h.okR S (Dv.bl _)⟩))
        rcases z1 with z1 | z1
        · subst z1; cases pa; exact .inl rfl
        · subst z1; cases pb; exact .inr rfl
  · rw [z] at h
    exact h.elim
theorem ok_neAll {K : PySem.W.Frag} {mg : Str → Option Value} : OpOk K mg (rNeAll K) dNe := by
  intro R H st v w d e Q W S h1 h2 h
  obtain ⟨x, y, e1, e2, h⟩ := okA h
  have un : ∀ b : Bool, eqD x y st = .ok (.dat (.bool b)) st → notM (eqD x y) st = .ok (.dat (.bool (!b))) st := fun b z => by
    unfold notM M.bind
    rw [z]
    rfl
  rcases eqD_cases (x := x) (y := y) (st := st) rfl with ⟨a, b, rfl, rfl, z⟩ | ⟨z1, z2, z⟩ | ⟨xs, ys, rfl, rfl, z0, z⟩ | ⟨xs, ys, rfl, rfl, z1, z0, z⟩ | z
  · rw [un _ z] at h
    have a' := h1.dataS e1
    have b' := h2.dataS e2
    subst a'; subst b'
    refine .inl ⟨rfl, ?_⟩
    have := h.okR S (Dv.bl _)
    simpa using this
  · rw [un _ z] at h
    have p1 := (h1.data S e1).dp (SeqAt.canLay_of_shaped z1)
    have p2 := (h2.data S e2).dp (SeqAt.canLay_of_shaped z2)
    exact .inr (.inl ⟨x, y, p1, p2, z1, z2, h.okR S (Dv.bl _)⟩)
  · rw [un _ z] at h
    obtain ⟨a, vs, rfl, ha, pa⟩ := h1.dataL S e1
    obtain ⟨b, ws, rfl, hb, pb⟩ := h2.dataL S e2
    exact .inr (.inr (.inl ⟨a, b, vs, ws, rfl, rfl, .inl (.inl ha), .inl (.inl hb), by rw [pa.len, pb.len]; exact z0, h.okR S (Dv.bl _)⟩))
  · rw [un _ z] at h
    cases h1.dataT e1 with
    | tup ta pa =>
      cases h2.dataT e2 with
      | tup tb pb =>
        refine .inr (.inr (.inr ⟨_, _, _, _, rfl, rfl, ta.seq, tb.seq, ?_, by rw [pa.len, pb.len]; exact z0, h.okR S (Dv.bl _)⟩))
        rcases z1 with z1 | z1
        · subst z1; cases pa; exact .inl rfl
        · subst z1; cases pb; exact .inr rfl
  · have : notM (eqD x y) st = .bad := by
      unfold notM M.bind
      rw [z]
    rw [this] at h
    exact h.elim
/-! ### is None -/
def isN : D → D → M D
  | .dat d, .dat .none => fun st => .ok (.dat (.bool (match d with | .none => true | _ => false))) st
  | .dat (.bool a), .dat (.bool b) => retB (decide (a = b))
  | .loc _, .dat .none => retB false
  | .glob _, .dat .none => retB false
  | _, _ => M.bad
def isNotN (d e : D) : M D := notM (isN d e)
theorem isN_cases {K : PySem.W.Frag} {mg : Str → Option Value} {R : Rg} {H : Hp} {st : Sto} {v w : V} {d e : D} (h1 : Dv K mg R st H v d) (h2 : Dv K mg R st H w e) :
    (w = .non ∧ isN d e st = .ok (.dat (.bool (decide (v = .non)))) st) ∨ (∃ a b : Bool, v = .bl a ∧ w = .bl b ∧ isN d e st = .ok (.dat (.bool (decide (a = b)))) st) ∨ isN d e st = .bad := by
  cases e with
  | dat y =>
    cases y with
    | none =>
      cases h2
      cases d with
      | dat x =>
        refine .inl ⟨rfl, ?_⟩
        cases h1 <;> rfl
      | loc n => obtain ⟨a, _, rfl⟩ := h1; exact .inl ⟨rfl, rfl⟩
      | glob n => obtain ⟨a, _, rfl⟩ := h1; exact .inl ⟨rfl, rfl⟩
      | fz ds => exact .inr (.inr rfl)
      | ty t => exact .inr (.inr rfl)
      | raw t => exact .inr (.inr rfl)
      | err _ _ _ _ => exact .inr (.inr rfl)
    | bool b =>
      cases h2
      cases d with
      | dat x =>
        cases x with
        | bool a => cases h1; exact .inr (.inl ⟨a, b, rfl, rfl, rfl⟩)
        | _ => exact .inr (.inr rfl)
      | _ => exact .inr (.inr rfl)
    | _ =>
      refine .inr (.inr ?_)
      cases d with
      | dat x => cases x <;> rfl
      | _ => rfl
  | _ =>
    refine .inr (.inr ?_)
    cases d with
    | dat x => cases x <;> rfl
    | _ => rfl
def rIsA : R2 := fun x y H Q => (y = .non ∧ Q (.bl (decide (x = .non))) H) ∨ ∃ a b : Bool, x = .bl a ∧ y = .bl b ∧ Q (.bl (decide (a = b))) H
def rNotA : R2 := fun x y H Q => (y = .non ∧ Q (.bl (!decide (x = .non))) H) ∨ ∃ a b : Bool, x = .bl a ∧ y = .bl b ∧ Q (.bl (!decide (a = b))) H
theorem op_isA {X : Cx} : OpR X (compareOp .Is) rIsA := op_isN.or op_is_bl
theorem op_notA {X : Cx} : OpR X (compareOp .IsNot) rNotA := op_notN.or op_isnot_bl
theorem ok_isN {K : PySem.W.Frag} {mg : Str → Option Value} : OpOk K mg rIsA isN := by
  intro R H st v w d e Q W S h1 h2 h
  rcases isN_cases h1 h2 with ⟨rfl, z⟩ | ⟨a, b, rfl, rfl, z⟩ | z
  · rw [z] at h
    exact .inl ⟨rfl, h.okR S (Dv.bl _)⟩
  · rw [z] at h
    exact .inr ⟨a, b, rfl, rfl, h.okR S (Dv.bl _)⟩
  · rw [z] at h
    exact h.elim
theorem ok_isNotN {K : PySem.W.Frag} {mg : Str → Option Value} : OpOk K mg rNotA isNotN := by
  intro R H st v w d e Q W S h1 h2 h
  rcases isN_cases h1 h2 with ⟨rfl, z⟩ | ⟨a, b, rfl, rfl, z⟩ | z
  · have : isNotN d e st = .ok (.dat (.bool (!decide (v = .non)))) st := by
      unfold isNotN notM M.bind
      rw [z]
      rfl
    rw [this] at h
    exact .inl ⟨rfl, h.okR S (Dv.bl _)⟩
  · have : isNotN d e st = .ok (.dat (.bool (!decide (a = b)))) st := by
      unfold isNotN notM M.bind
      rw [z]
      rfl
    rw [this] at h
    exact .inr ⟨a, b, rfl, rfl, h.okR S (Dv.bl _)⟩
  · have : isNotN d e st = .bad := by
      unfold isNotN notM M.bind
      rw [z]
    rw [this] at h
    exact h.elim
/-! ### xs[i] -/
def ixD (i : Int) : PyData → M D
  | .list xs => fun st => match atI xs i with | some d => .ok (.dat d) st | none => .bad
  | .tuple xs => fun st => match atI xs i with | some d => .ok (.dat d) st | none => .bad
  | _ => M.bad
def dIx (d e : D) : M D := fun st =>
  match d, e with
  | .fz xs, .dat (.int i) => match atI xs i with | some d => .ok (.dat d) st | none => .bad
  | d, .dat (.int i) => match dataOf d st with | some x => ixD i x st | none => .bad
  | _, _ => .bad
theorem PdA.atI {K : PySem.W.Frag} {U : Addr → Prop} {H : Hp} {vs : List V} {ds : List PyData} {i : Int} {d : PyData} (q : PdA K U H vs ds) (h : L2.atI ds i = some d) : ∃ v, L2.atI vs i = some v ∧ Pd K U H v d := by
  unfold L2.atI at h ⊢
  rw [q.len]
  cases e : ixN ds.length i with
  | none => rw [e] at h; cases h
  | some j => rw [e] at h; exact q.at_ h
theorem ok_ix {K : PySem.W.Frag} {mg : Str → Option Value} : OpOk K mg (rIx K) dIx := by
  intro R H st v w d e Q W S h1 h2 h
  unfold dIx at h
  split at h
  · obtain ⟨a, xs, rfl, hl, pa⟩ := h1
    cases h2
    split at h
    · rename_i z
      obtain ⟨u, z2, pu⟩ := pa.atI z
      exact .inl ⟨a, xs, _, u, rfl, rfl, hl.seq, z2, h.okR S pu⟩
    · exact h.elim
  · cases h2
    split at h
    · rename_i x z
      cases x with
      | list ys =>
        obtain ⟨a, vs, rfl, ha, pa⟩ := h1.dataL S z
        simp only [ixD] at h
        split at h
        · rename_i z
          obtain ⟨u, z2, pu⟩ := pa.atI z
          exact .inl ⟨a, vs, _, u, rfl, rfl, .inl (.inl ha), z2, h.okR S pu⟩
        · exact h.elim
      | tuple ys =>
        cases h1.dataT z with
        | tup ta pa =>
          simp only [ixD] at h
          split at h
          · rename_i z
            obtain ⟨u, z2, pu⟩ := pa.atI z
            exact .inr (.inl ⟨_, _, _, u, rfl, rfl, ta.seq, z2, h.okR S pu⟩)
          · exact h.elim
      | _ => exact h.elim
    · exact h.elim
  · exact h.elim
end Ev
set_option Elab.async false
set_option linter.all false
set_option maxRecDepth 100000
set_option maxHeartbeats 4000000
/-! Ev4: slices, built-in functions. -/
namespace Ev
open PySem PySem.Spec PyProof.Rows L2

/-! ### slices -/
def mNoPart : Env → M (Option Int) := fun _ => M.pure none
def asPart : D → M (Option Int)
  | .dat (.int i) => M.pure (some i)
  | _ => M.bad
def mPart (m : Env → M D) : Env → M (Option Int) := fun ρ => M.bind (m ρ) asPart
def RelP : RelT (Option Int) (Option Int) := fun _ _ _ b a => b = a
def tMP (K : PySem.W.Frag) (mg : Str → Option Value) (W : WX) (m : Env → M (Option Int)) : TO := fun σ H Q => ∃ R ρ st, Sim K R H st ∧ EnvR K mg R st H σ ρ ∧ Post K mg RelP R H st (m ρ st) Q (fun c d H' => W c d σ H')
structure EVP (X : Cx) (W : WX) (e : Option Expr) (m : Env → M (Option Int)) : Prop where
  po : PO X e (tMP X.K X.mg W m)
theorem PO.imp {X : Cx} {e : Option Expr} {t u : TO} (h : PO X e t) (q : ∀ σ H Q, u σ H Q → t σ H Q) : PO X e u := ⟨fun pins s σ H Q I z => h.run pins s σ H Q I (q σ H Q z)⟩
/-- list, tuple: the items from lo on, below hi -/
def cutD (xs : List PyData) (lo hi : Option Int) : List PyData := (xs.drop (HT.sIx xs.length 0 lo)).take (HT.sIx xs.length xs.length hi - HT.sIx xs.length 0 lo)
def slD (lo hi : Option Int) : PyData → M D
  | .list xs => M.pure (.dat (.list (cutD xs lo hi)))
  | .tuple xs => M.pure (.dat (.tuple (cutD xs lo hi)))
  | _ => M.bad
def dSl (d : D) (lo hi : Option Int) : M D := fun st => match dataOf d st with | some x => slD lo hi x st | none => .bad
def mSl (m : Env → M D) (l u : Env → M (Option Int)) : Env → M D := fun ρ => M.bind (m ρ) fun x => M.bind (l ρ) fun i => M.bind (u ρ) fun j => dSl x i j
theorem PdA.cut {K : PySem.W.Frag} {U : Addr → Prop} {H : Hp} {vs : List V} {ds : List PyData} (q : PdA K U H vs ds) (lo hi : Option Int) : PdA K U H (cutV vs lo hi) (cutD ds lo hi) := by
  unfold cutV cutD
  rw [q.len]
  exact (q.drop _).take _
section
variable {X : Cx} {W : WX} {e : Expr} {me : Env → M D} {lo hi : Option Expr} {ml mu : Env → M (Option Int)} {pos p2 : Pos}
theorem evp_none : EVP X W none mNoPart := by
  refine ⟨PO.imp po_none fun σ H Q h => ?_⟩
  obtain ⟨R, ρ, st, S, E, h⟩ := h
  exact h.okR S rfl
theorem evp_some (h : EV X W e me) : EVP X W (some e) (mPart me) := by
  refine ⟨PO.imp (po_some h.pe) fun σ H Q h => ?_⟩
  obtain ⟨R, ρ, st, S, E, h⟩ := h
  refine ⟨R, ρ, st, S, E, (Post.bind (Rel := Dv X.K X.mg) (Rel2 := RelP) h).monoQ fun v H1 ⟨R1, st1, d, x1, S1, D1, h2⟩ => ?_⟩
  unfold asPart at h2
  split at h2
  · cases D1
    exact ⟨_, rfl, h2.okR S1 rfl⟩
  · exact h2.elim
def rSlAll (K : PySem.W.Frag) : V → Option Int → Option Int → Hp → VK → Prop := fun x lo hi H Q => rSlL K x lo hi H Q ∨ rSlA K x lo hi H Q
theorem cut_all (xs : List V) (lo hi : Option Int) (h : HT.sIx xs.length 0 lo = 0 ∧ HT.sIx xs.length xs.length hi = xs.length) : cutV xs lo hi = xs := by
  unfold cutV
  rw [h.1, h.2]
  simp
theorem ev_slice (he : EV X W e me) (hl : EVP X W lo ml) (hu : EVP X W hi mu) : EV X W (.Subscript e (.Slice lo hi none p2) pos) (mSl me ml mu) := by
  refine ⟨PE.imp (pe_slice (sl_list.or sl_tupA) he.pe hl.po hu.po) fun σ H Q h => ?_⟩
  obtain ⟨R, ρ, st, S, E, h⟩ := h
  refine ⟨R, ρ, st, S, E, (Post.bind (Rel := Dv X.K X.mg) (Rel2 := Dv X.K X.mg) h).monoQ fun v H1 ⟨R1, st1, d, x1, S1, D1, h2⟩ => ?_⟩
  refine ⟨R1, ρ, st1, S1, E.ext x1, (Post.bind (Rel := RelP) (Rel2 := Dv X.K X.mg) h2).monoQ fun i H2 ⟨R2, st2, i', x2, S2, e2, h3⟩ => ?_⟩
  refine ⟨R2, ρ, st2, S2, (E.ext x1).ext x2, (Post.bind (Rel := RelP) (Rel2 := Dv X.K X.mg) h3).monoQ fun j H3 ⟨R3, st3, j', x3, S3, e3, h4⟩ => ?_⟩
  obtain rfl : i = i' := e2
  obtain rfl : j = j' := e3
  have D3 := (D1.ext x2).ext x3
  unfold dSl at h4
  split at h4
  · rename_i x z
    cases x with
    | list ys =>
      obtain ⟨a, vs, rfl, ha, pa⟩ := D3.dataL S3 z
      exact .inl ⟨a, vs, rfl, .inl (.inl ha), fun p hp => h4.okN S3 hp (newLst S3 hp (pa.cut i j))⟩
    | tuple ys =>
      cases D3.dataT z with
      | tup ta pa =>
        refine .inr ⟨_, _, rfl, ta.seq, fun hw => h4.okR S3 (Pd.tup ta ?_), fun _ p hp => h4.okN S3 hp (newTup S3 hp (pa.cut i j))⟩
        have := pa.cut i j
        rw [cut_all _ _ _ hw] at this
        exact this
    | _ => exact h4.elim
  · exact h4.elim
end

/-! ### built-in functions of one or two numbers -/
def on1 (f : D → M D) : List D → M D
  | [d] => f d
  | _ => M.bad
def on2 (f : D → D → M D) : List D → M D
  | [d, e] => f d e
  | _ => M.bad
section
variable {K : PySem.W.Frag} {mg : Str → Option Value} {R : Rg} {H : Hp} {st : Sto} {vs : List V} {ds : List D} {Q : VK} {W : XK}
theorem ok1 {f : D → M D} (h1 : DvA K mg R st H vs ds) (h : Post K mg (Dv K mg) R H st (on1 f ds st) Q W) : ∃ v d, vs = [v] ∧ ds = [d] ∧ Dv K mg R st H v d ∧ Post K mg (Dv K mg) R H st (f d st) Q W := by
  unfold on1 at h
  split at h
  · cases h1 with
    | cons a b => cases b; exact ⟨_, _, rfl, rfl, a, h⟩
  · exact h.elim
theorem ok2 {f : D → D → M D} (h1 : DvA K mg R st H vs ds) (h : Post K mg (Dv K mg) R H st (on2 f ds st) Q W) : ∃ v w d e, vs = [v, w] ∧ ds = [d, e] ∧ Dv K mg R st H v d ∧ Dv K mg R st H w e ∧ Post K mg (Dv K mg) R H st (f d e st) Q W := by
  unfold on2 at h
  split at h
  · cases h1 with
    | cons a b =>
      cases b with
      | cons b c => cases c; exact ⟨_, _, _, _, rfl, rfl, a, b, h⟩
  · exact h.elim
end
def iAbs (i : Int) : Int := if i < 0 then -i else i
def iMax (i j : Int) : Int := if j > i then j else i
def iMin (i j : Int) : Int := if j < i then j else i
def dAbs : D → M D
  | .dat (.int i) => retI (iAbs i)
  | _ => M.bad
def dMax2 : D → D → M D := asInts fun i j => retI (iMax i j)
def dMin2 : D → D → M D := asInts fun i j => retI (iMin i j)
def dInt : D → M D
  | .dat (.int i) => retI i
  | .dat (.bool b) => retI (if b then 1 else 0)
  | _ => M.bad
section
variable {K : PySem.W.Frag} {mg : Str → Option Value}
theorem ok_abs : CallOk K mg (fun xs H Q => ∃ i, xs = [.int i] ∧ Q (.int (if i < 0 then -i else i)) H) (on1 dAbs) := by
  intro R H st vs ds Q W S hd h
  obtain ⟨v, d, rfl, rfl, h1, h⟩ := ok1 hd h
  unfold dAbs at h
  split at h
  · cases h1
    exact ⟨_, rfl, h.okR S (Dv.int _)⟩
  · exact h.elim
theorem ok_max2 : CallOk K mg (fun xs H Q => ∃ i j, xs = [.int i, .int j] ∧ Q (.int (if j > i then j else i)) H) (on2 dMax2) := by
  intro R H st vs ds Q W S hd h
  obtain ⟨v, w, d, e, rfl, rfl, h1, h2, h⟩ := ok2 hd h
  obtain ⟨i, j, rfl, rfl, rfl, rfl, h⟩ := okI h1 h2 h
  exact ⟨i, j, rfl, h.okR S (Dv.int _)⟩
theorem ok_min2 : CallOk K mg (fun xs H Q => ∃ i j, xs = [.int i, .int j] ∧ Q (.int (if j < i then j else i)) H) (on2 dMin2) := by
  intro R H st vs ds Q W S hd h
  obtain ⟨v, w, d, e, rfl, rfl, h1, h2, h⟩ := ok2 hd h
  obtain ⟨i, j, rfl, rfl, rfl, rfl, h⟩ := okI h1 h2 h
  exact ⟨i, j, rfl, h.okR S (Dv.int _)⟩
theorem ok_int : CallOk K mg (fun xs H Q => (∃ i, xs = [.int i] ∧ Q (.int i) H) ∨ ∃ k, xs = [.bl k] ∧ Q (.int (if k then 1 else 0)) H) (on1 dInt) := by
  intro R H st vs ds Q W S hd h
  obtain ⟨v, d, rfl, rfl, h1, h⟩ := ok1 hd h
  unfold dInt at h
  split at h
  · cases h1
    exact .inl ⟨_, rfl, h.okR S (Dv.int _)⟩
  · cases h1
    exact .inr ⟨_, rfl, h.okR S (Dv.int _)⟩
  · exact h.elim
end
/-! ### len -/
def lenD : PyData → M D
  | .str x => if x.length ≤ 100000 then retI x.length else M.bad
  | .list xs => retI xs.length
  | .tuple xs => retI xs.length
  | .dict kvs => retI kvs.length
  | _ => M.bad
def dLen (d : D) : M D := fun st =>
  match d with
  | .fz xs => retI xs.length st
  | d => match dataOf d st with
    | some x => lenD x st
    | none => .bad
theorem PdK.len {K : PySem.W.Frag} {U : Addr → Prop} {H : Hp} : ∀ {ds : List (PyData × PyData)} {vs : List (Key × V)}, PdK K U H vs ds → vs.length = ds.length
  | _, _, .nil => rfl
  | _, _, .cons _ q => congrArg (· + 1) (PdK.len q)
def rLenAll (K : PySem.W.Frag) : List V → Hp → VK → Prop := fun xs H Q => (∃ x n, xs = [x] ∧ LenV K x H n ∧ Q (.int n) H) ∨ ∃ a kvs, xs = [V.ref a] ∧ H a = some (.dK kvs) ∧ Q (.int kvs.length) H
theorem CallR.or {X : Cx} {f : Value} {r r' : List V → Hp → VK → Prop} (h : CallR X f r) (h' : CallR X f r') : CallR X f (fun xs H Q => r xs H Q ∨ r' xs H Q) := by
  intro pins s σ H xs us Q I rv q
  rcases q with q | q
  · exact h pins s σ H xs us Q I rv q
  · exact h' pins s σ H xs us Q I rv q
theorem call_lenAll {X : Cx} : CallR X (.builtin "len") (rLenAll X.K) := CallR.or call_len call_lenD
theorem ok_len {K : PySem.W.Frag} {mg : Str → Option Value} : CallOk K mg (rLenAll K) (on1 dLen) := by
  intro R H st vs ds Q W S hd h
  obtain ⟨v, d, rfl, rfl, h1, h⟩ := ok1 hd h
  have core : ∀ x, dataOf d st = some x → Post K mg (Dv K mg) R H st (lenD x st) Q W → rLenAll K [v] H Q := fun x z h => by
    cases x with
    | str y =>
      have a := h1.dataS z
      subst a
      simp only [lenD] at h
      split at h
      · rename_i hl
        exact .inl ⟨_, y.length, rfl, ⟨small5 hl, rfl⟩, h.okR S (Dv.int _)⟩
      · exact h.elim
    | list ys =>
      obtain ⟨a, vs, rfl, ha, pa⟩ := h1.dataL S z
      exact .inl ⟨_, vs.length, rfl, .inl ⟨vs, .inl (.inl ha), rfl⟩, by rw [pa.len]; exact h.okR S (Dv.int _)⟩
    | tuple ys =>
      cases h1.dataT z with
      | tup ta pa => exact .inl ⟨_, _, rfl, .inr ⟨_, ta.seq, rfl⟩, by rw [pa.len]; exact h.okR S (Dv.int _)⟩
    | dict ys =>
      cases h1.data S z with
      | dct ha _ pa => exact .inr ⟨_, _, rfl, ha, by rw [pa.len]; exact h.okR S (Dv.int _)⟩
    | _ => exact h.elim
  cases d with
  | fz xs =>
    obtain ⟨a, vs, rfl, hl, pa⟩ := h1
    exact .inl ⟨_, vs.length, rfl, .inl ⟨vs, hl.seq, rfl⟩, by rw [pa.len]; exact h.okR S (Dv.int _)⟩
  | dat x => exact core x rfl h
  | loc n =>
    have h' : Post K mg (Dv K mg) R H st (match dataOf (.loc n) st with | some x => lenD x st | none => .bad) Q W := h
    cases z : dataOf (.loc n) st with
    | none => rw [z] at h'; exact h'.elim
    | some x => rw [z] at h'; exact core x z h'
  | glob x => exact h.elim
  | ty t => exact h.elim
  | raw t => exact h.elim
  | err _ _ _ _ => exact h.elim
/-! ### tuple(xs), list(xs) -/
def tupOf (d : D) : M D := fun st =>
  match dataOf d st with
  | some (.list xs) => .ok (.dat (.tuple xs)) st
  | some (.tuple xs) => .ok (.dat (.tuple xs)) st
  | _ => .bad
def lstOf (d : D) : M D := fun st =>
  match dataOf d st with
  | some (.list xs) => .ok (.dat (.list xs)) st
  | some (.tuple xs) => .ok (.dat (.list xs)) st
  | _ => .bad
/-- list(xs) that is to change -/
def locOf (d : D) : M D := fun st =>
  match dataOf d st with
  | some (.list xs) => .ok (.loc st.length) (st ++ [.lst xs])
  | some (.tuple xs) => .ok (.loc st.length) (st ++ [.lst xs])
  | _ => .bad
section
variable {K : PySem.W.Frag} {mg : Str → Option Value}
theorem ok_tupOf : CallOk K mg (fun xs H Q => ∃ p ys, xs = [.ref p] ∧ ((SqL K H p ys ∧ ∀ l, H l = none → Q (.ref l) (upd H l (.tup ys))) ∨ (SqT K H p ys ∧ Q (.ref p) H))) (on1 tupOf) := by
  intro R H st vs ds Q W S hd h
  obtain ⟨v, d, rfl, rfl, h1, h⟩ := ok1 hd h
  unfold tupOf at h
  split at h
  · rename_i z
    obtain ⟨a, vs, rfl, ha, pa⟩ := h1.dataL S z
    exact ⟨a, vs, rfl, .inl ⟨.inl (.inl ha), fun p hp => h.okN S hp (newTup S hp pa)⟩⟩
  · rename_i z
    have h2 := h1.dataT z
    cases h2 with
    | tup ta pa => exact ⟨_, _, rfl, .inr ⟨ta.seq, h.okR S (Pd.tup ta pa)⟩⟩
  · exact h.elim
theorem ok_lstOf : CallOk K mg (fun xs H Q => ∃ p ys, xs = [.ref p] ∧ (SqL K H p ys ∨ SqT K H p ys) ∧ ∀ l, H l = none → Q (.ref l) (upd H l (.lst ys))) (on1 lstOf) := by
  intro R H st vs ds Q W S hd h
  obtain ⟨v, d, rfl, rfl, h1, h⟩ := ok1 hd h
  unfold lstOf at h
  split at h
  · rename_i z
    obtain ⟨a, vs, rfl, ha, pa⟩ := h1.dataL S z
    exact ⟨a, vs, rfl, .inl (.inl (.inl ha)), fun p hp => h.okN S hp (newLst S hp pa)⟩
  · rename_i z
    have h2 := h1.dataT z
    cases h2 with
    | tup ta pa => exact ⟨_, _, rfl, .inr ta.seq, fun p hp => h.okN S hp (newLst S hp pa)⟩
  · exact h.elim
theorem ok_locOf : CallOk K mg (fun xs H Q => ∃ p ys, xs = [.ref p] ∧ (SqL K H p ys ∨ SqT K H p ys) ∧ ∀ l, H l = none → Q (.ref l) (upd H l (.lst ys))) (on1 locOf) := by
  intro R H st vs ds Q W S hd h
  obtain ⟨v, d, rfl, rfl, h1, h⟩ := ok1 hd h
  unfold locOf at h
  have fin : ∀ (vs : List V) (xs : List PyData), PdA K (Own R st) H vs xs → Post K mg (Dv K mg) R H st (.ok (.loc st.length) (st ++ [.lst xs])) Q W → ∀ p, H p = none → Q (.ref p) (upd H p (.lst vs)) := fun vs xs pa h p hp => by
    obtain ⟨x2, S2⟩ := ext_loc S hp pa
    exact h _ _ _ x2 S2 ⟨p, put_at S, rfl⟩
  split at h
  · rename_i z
    obtain ⟨a, vs, rfl, ha, pa⟩ := h1.dataL S z
    exact ⟨a, vs, rfl, .inl (.inl (.inl ha)), fin vs _ pa h⟩
  · rename_i z
    have h2 := h1.dataT z
    cases h2 with
    | tup ta pa => exact ⟨_, _, rfl, .inr ta.seq, fin _ _ pa h⟩
  · exact h.elim
end
/-! ### sum, all, any of a list -/
def intsOf : List PyData → Option (List Int)
  | [] => some []
  | .int i :: r => (intsOf r).map (i :: ·)
  | _ :: _ => none
def boolsOf : List PyData → Option (List Bool)
  | [] => some []
  | .bool i :: r => (boolsOf r).map (i :: ·)
  | _ :: _ => none
theorem intsOf_vals {K : PySem.W.Frag} {U : Addr → Prop} {H : Hp} : ∀ {ds : List PyData} {vs : List V} {ns : List Int}, PdA K U H vs ds → intsOf ds = some ns → vs = ns.map V.int
  | _, _, _, .nil, e => by cases e; rfl
  | .int i :: r, _, _, .cons h q, e => by
    unfold intsOf at e
    cases z : intsOf r with
    | none => rw [z] at e; cases e
    | some ys =>
      rw [z] at e
      cases e
      cases h
      rw [intsOf_vals q z]
      rfl
  | .none :: _, _, _, .cons _ _, e => by cases e
  | .bool _ :: _, _, _, .cons _ _, e => by cases e
  | .str _ :: _, _, _, .cons _ _, e => by cases e
  | .list _ :: _, _, _, .cons _ _, e => by cases e
  | .tuple _ :: _, _, _, .cons _ _, e => by cases e
  | .dict _ :: _, _, _, .cons _ _, e => by cases e
theorem boolsOf_vals {K : PySem.W.Frag} {U : Addr → Prop} {H : Hp} : ∀ {ds : List PyData} {vs : List V} {ns : List Bool}, PdA K U H vs ds → boolsOf ds = some ns → vs = ns.map V.bl
  | _, _, _, .nil, e => by cases e; rfl
  | .bool i :: r, _, _, .cons h q, e => by
    unfold boolsOf at e
    cases z : boolsOf r with
    | none => rw [z] at e; cases e
    | some ys =>
      rw [z] at e
      cases e
      cases h
      rw [boolsOf_vals q z]
      rfl
  | .none :: _, _, _, .cons _ _, e => by cases e
  | .int _ :: _, _, _, .cons _ _, e => by cases e
  | .str _ :: _, _, _, .cons _ _, e => by cases e
  | .list _ :: _, _, _, .cons _ _, e => by cases e
  | .tuple _ :: _, _, _, .cons _ _, e => by cases e
  | .dict _ :: _, _, _, .cons _ _, e => by cases e
/-- a list's items -/
def itemsOf (f : List PyData → M D) (d : D) : M D := fun st =>
  match dataOf d st with
  | some (.list xs) => f xs st
  | _ => .bad
def onBools (f : List Bool → Bool) (xs : List PyData) : M D := match boolsOf xs with | some bs => retB (f bs) | none => M.bad
def onInts (f : List Int → M D) (xs : List PyData) : M D := match intsOf xs with | some bs => f bs | none => M.bad
def dAll : D → M D := itemsOf (onBools fun bs => bs.all id)
def dAny : D → M D := itemsOf (onBools fun bs => bs.any id)
def dSum : D → M D := itemsOf (onInts fun ns => retI ns.sum)
section
variable {K : PySem.W.Frag} {mg : Str → Option Value}
theorem okIt {R : Rg} {H : Hp} {st : Sto} {v : V} {d : D} {Q : VK} {W : XK} {f : List PyData → M D} (S : Sim K R H st) (h1 : Dv K mg R st H v d) (h : Post K mg (Dv K mg) R H st (itemsOf f d st) Q W) :
    ∃ a vs xs, v = .ref a ∧ H a = some (.lst vs) ∧ PdA K (Own R st) H vs xs ∧ Post K mg (Dv K mg) R H st (f xs st) Q W := by
  unfold itemsOf at h
  split at h
  · rename_i z
    obtain ⟨a, vs, rfl, ha, pa⟩ := h1.dataL S z
    exact ⟨a, vs, _, rfl, ha, pa, h⟩
  · exact h.elim
theorem okBs {R : Rg} {H : Hp} {st : Sto} {Q : VK} {W : XK} {f : List Bool → Bool} {xs : List PyData} (h : Post K mg (Dv K mg) R H st (onBools f xs st) Q W) : ∃ bs, boolsOf xs = some bs ∧ Post K mg (Dv K mg) R H st (retB (f bs) st) Q W := by
  unfold onBools at h
  cases z : boolsOf xs with
  | none => rw [z] at h; exact h.elim
  | some bs => rw [z] at h; exact ⟨bs, rfl, h⟩
theorem okIs {R : Rg} {H : Hp} {st : Sto} {Q : VK} {W : XK} {f : List Int → M D} {xs : List PyData} (h : Post K mg (Dv K mg) R H st (onInts f xs st) Q W) : ∃ bs, intsOf xs = some bs ∧ Post K mg (Dv K mg) R H st (f bs st) Q W := by
  unfold onInts at h
  cases z : intsOf xs with
  | none => rw [z] at h; exact h.elim
  | some bs => rw [z] at h; exact ⟨bs, rfl, h⟩
theorem ok_all : CallOk K mg (rAll K) (on1 dAll) := by
  intro R H st vs ds Q W S hd h
  obtain ⟨v, d, rfl, rfl, h1, h⟩ := ok1 hd h
  obtain ⟨a, vs, xs, rfl, ha, pa, h⟩ := okIt S h1 h
  obtain ⟨bs, e, h⟩ := okBs h
  have q := boolsOf_vals pa e
  subst q
  exact ⟨a, bs, rfl, .inl (.inl ha), h.okR S (Dv.bl _)⟩
theorem ok_any : CallOk K mg (rAny K) (on1 dAny) := by
  intro R H st vs ds Q W S hd h
  obtain ⟨v, d, rfl, rfl, h1, h⟩ := ok1 hd h
  obtain ⟨a, vs, xs, rfl, ha, pa, h⟩ := okIt S h1 h
  obtain ⟨bs, e, h⟩ := okBs h
  have q := boolsOf_vals pa e
  subst q
  exact ⟨a, bs, rfl, .inl (.inl ha), h.okR S (Dv.bl _)⟩
theorem ok_sum : CallOk K mg (rSum K) (on1 dSum) := by
  intro R H st vs ds Q W S hd h
  obtain ⟨v, d, rfl, rfl, h1, h⟩ := ok1 hd h
  obtain ⟨a, vs, xs, rfl, ha, pa, h⟩ := okIt S h1 h
  obtain ⟨bs, e, h⟩ := okIs h
  have q := intsOf_vals pa e
  subst q
  exact ⟨a, bs, rfl, .inl (.inl ha), h.okR S (Dv.int _)⟩
end
/-! ### repr -/
def dRepr (d : D) : M D := fun st =>
  match dataOf d st with
  | some x => if reprOk x = true then .ok (.dat (.str x.shown)) st else .bad
  | none => .bad
def rRepr (K : PySem.W.Frag) : List V → Hp → VK → Prop := fun xs H Q => ∃ v d, xs = [v] ∧ Pd K NoU H v d ∧ reprOk d = true ∧ Q (.str d.shown) H
theorem call_repr {X : Cx} (hg : X.A.guards = some []) (hm : ∃ o, X.base.get? sysModules = some o) (hu : X.A.units + 128 < cLine) : CallR X (.builtin "repr") (rRepr X.K) := by
  intro pins s σ H xs us Q I rv h
  obtain ⟨v, d, rfl, p, ok, q⟩ := h
  obtain ⟨u, rfl, ru⟩ := vals1 rv
  have hs : H sysModules = none := let ⟨o, e⟩ := hm; (I.bs _ o e).2
  obtain ⟨as, hr, hn⟩ := Pd.reads I hs p ru
  unfold reprOk at ok
  simp only [Bool.and_eq_true, decide_eq_true_eq] at ok
  obtain ⟨⟨h1, h2⟩, h3⟩ := ok
  have hz : d.shown.length ≤ sizeLine := by
    rw [sizeLine_eq]
    have : bigLine = 16000000 := rfl
    omega
  have big : ∀ {u : Value} {as : List Addr}, Reads s.heap u d as → sysModules ∉ as → (∃ a, u = .ref a) → wpAny (model X.prog X.w) X.A (call (.builtin "repr") [u]) (EP X pins σ Q) X.xe s := by
    rintro u as hr hn ⟨a, rfl⟩
    exact repr_of_reads' (h₀ := s.heap) hr h1 (fun _ => hn) hg (by omega) (fun _ _ e => e) (fun h' u tk hk => ⟨.str d.shown, H, I.kept hk, ⟨_, rfl⟩, q⟩) hz
  cases p with
  | non => cases ru; exact PySem.P.repr_of_none ⟨.str _, H, I.tok _, ⟨_, rfl⟩, q⟩
  | bl b => cases ru; exact PySem.P.repr_of_bool ⟨.str _, H, I.tok _, ⟨_, rfl⟩, q⟩
  | int i =>
    obtain ⟨t, rfl⟩ := ru
    have hi : i.natAbs.log2 < 1920 := by simpa [PyData.showable] using h1
    exact PySem.P.repr_of_int hi ⟨.str _, H, I.tok _, ⟨_, rfl⟩, q⟩
  | str x =>
    obtain ⟨t, rfl⟩ := ru
    exact PySem.P.repr_of_str ⟨.str _, H, I.tok _, ⟨_, rfl⟩, q⟩ hz
  | lst _ _ _ => cases ru; exact big hr hn ⟨_, rfl⟩
  | tup _ _ => cases ru; exact big hr hn ⟨_, rfl⟩
  | dct _ _ _ => cases ru; exact big hr hn ⟨_, rfl⟩
theorem ok_repr {K : PySem.W.Frag} {mg : Str → Option Value} : CallOk K mg (rRepr K) (on1 dRepr) := by
  intro R H st vs ds Q W S hd h
  obtain ⟨v, d, rfl, rfl, h1, h⟩ := ok1 hd h
  unfold dRepr at h
  split at h
  · rename_i x z
    split at h
    · rename_i hk
      exact ⟨v, x, rfl, h1.data S z, hk, h.okR S (Dv.str _)⟩
    · exact h.elim
  · exact h.elim
end Ev
set_option Elab.async false
set_option linter.all false
set_option maxRecDepth 100000
set_option maxHeartbeats 4000000
/-! Ev5: isinstance, statements, loops, comprehensions. -/
namespace Ev
open PySem PySem.Spec PyProof.Rows L2

/-! ### isinstance of data -/
@[simp] def tyOf : PyData → Ty
  | .none => .none
  | .bool _ => .bool
  | .int _ => .int
  | .str _ => .str
  | .list _ => .list
  | .tuple _ => .tuple
  | .dict _ => .dict
@[simp] def isi : Ty → Ty → Bool
  | .bool, .int => true
  | a, b => decide (a = b)
theorem kit_isi (a b : Ty) : kitB a.name b.name = some (isi a b) := by
  cases a <;> cases b <;> decide +kernel
def dIsi (d e : D) : M D := fun st =>
  match e with
  | .ty t => match dataOf d st with
    | some x => .ok (.dat (.bool (isi (tyOf x) t))) st
    | none => .bad
  | _ => .bad
theorem Pd.tyX {K : PySem.W.Frag} {H : Hp} {v : V} {d : PyData} (h : Pd K NoU H v d) : TyX K H v (.type (tyOf d).name) := by
  cases h with
  | non => exact .base .non
  | bl b => exact .base (.bl b)
  | int i => exact .base (.int i)
  | str x => exact .base (.str x)
  | lst h _ _ => exact .base (.lst h)
  | tup h _ =>
    rcases h with ⟨h | ⟨o, h⟩, _⟩ | ⟨o, its, n, h1, h2, _⟩
    · exact .base (.tup h)
    · exact .fTuple h
    · exact .kTuple h1 h2
  | dct h _ _ => exact .base (.dK h)
theorem ok_isi {K : PySem.W.Frag} {mg : Str → Option Value} : CallOk K mg (rIsi K) (on2 dIsi) := by
  intro R H st vs ds Q W S hd h
  obtain ⟨v, w, d, e, rfl, rfl, h1, h2, h⟩ := ok2 hd h
  unfold dIsi at h
  cases e with
  | ty t =>
    cases z : dataOf d st with
    | none =>
      simp only [z] at h
      exact h.elim
    | some x =>
      simp only [z] at h
      have e2 : w = .ty t.name := h2
      subst e2
      exact ⟨v, _, _, .type t.name, _, rfl, ⟨.ty _, (h1.data S z).tyX, kit_ty (kit_isi _ _), h.okR S (Dv.bl _)⟩⟩
  | _ => exact h.elim

/-! ### statements -/
inductive SRes where
  | nx (ρ : Env) (st : Sto)
  | rt (d : D) (st : Sto)
  | bk (ρ : Env) (st : Sto)
  | ct (ρ : Env) (st : Sto)
  | exc (x : Exc) (ρ : Env) (st : Sto)
  | bad
abbrev SM := Env → Sto → SRes
section
variable (K : PySem.W.Frag) (mg : Str → Option Value)
def PostS (R : Rg) (H : Hp) (st : Sto) (r : SRes) (D : Ends) (W : WX) : Prop :=
  match r with
  | .nx ρ' st' => ∀ σ' R' H', Ext R H st R' H' st' → Sim K R' H' st' → EnvR K mg R' st' H' σ' ρ' → D.nx σ' H'
  | .rt d st' => ∀ v R' H', Ext R H st R' H' st' → Sim K R' H' st' → Dv K mg R' st' H' v d → D.rt v H'
  | .bk ρ' st' => ∀ σ' R' H', Ext R H st R' H' st' → Sim K R' H' st' → EnvR K mg R' st' H' σ' ρ' → D.bk σ' H'
  | .ct ρ' st' => ∀ σ' R' H', Ext R H st R' H' st' → Sim K R' H' st' → EnvR K mg R' st' H' σ' ρ' → D.ct σ' H'
  | .exc x ρ' st' => ∀ σ' R' H' cls dx, Ext R H st R' H' st' → Sim K R' H' st' → EnvR K mg R' st' H' σ' ρ' → ExcR K mg (Own R' st') H' x cls dx → W cls dx σ' H'
  | .bad => False
def tS (W : WX) (m : SM) : TS := fun D σ H => ∃ R ρ st, Sim K R H st ∧ EnvR K mg R st H σ ρ ∧ PostS K mg R H st (m ρ st) D W
end
structure EVS (X : Cx) (W : WX) (s : Stmt) (m : SM) : Prop where
  ps : PS X s (tS X.K X.mg W m)
structure EVSs (X : Cx) (W : WX) (s : List Stmt) (m : SM) : Prop where
  ps : PSs X s (tS X.K X.mg W m)
theorem PS.imp {X : Cx} {s : Stmt} {t u : TS} (h : PS X s t) (q : ∀ D σ H, u D σ H → t D σ H) : PS X s u := ⟨fun pins s σ H D I z => h.run pins s σ H D I (q D σ H z)⟩
theorem PSs.imp {X : Cx} {s : List Stmt} {t u : TS} (h : PSs X s t) (q : ∀ D σ H, u D σ H → t D σ H) : PSs X s u := ⟨fun pins s σ H D I z => h.run pins s σ H D I (q D σ H z)⟩
section
variable {K : PySem.W.Frag} {mg : Str → Option Value} {R R1 : Rg} {H H1 : Hp} {st st1 : Sto} {W : WX}
theorem PostS.shift {r : SRes} {D : Ends} (S1 : Sim K R1 H1 st1) (e : Ext R H st R1 H1 st1) (h : PostS K mg R H st r D W) : PostS K mg R1 H1 st1 r D W := by
  cases r with
  | nx ρ st' => exact fun σ' R' H' e' s' q => h σ' R' H' (e.trans S1 e') s' q
  | rt d st' => exact fun σ' R' H' e' s' q => h σ' R' H' (e.trans S1 e') s' q
  | bk ρ st' => exact fun σ' R' H' e' s' q => h σ' R' H' (e.trans S1 e') s' q
  | ct ρ st' => exact fun σ' R' H' e' s' q => h σ' R' H' (e.trans S1 e') s' q
  | exc x ρ st' => exact fun σ' R' H' cls dx e' s' q => h σ' R' H' cls dx (e.trans S1 e') s' q
  | bad => exact h
/-- an expression ahead of the rest of a statement -/
def sBind {α : Type} (m : Env → M α) (f : α → SM) : SM := fun ρ st =>
  match m ρ st with
  | .ok a st' => f a ρ st'
  | .exc x st' => .exc x ρ st'
  | .bad => .bad
theorem PostS.bind {α β : Type} {Rel : RelT α β} {m : Env → M α} {f : α → SM} {D : Ends} {σ : L2.St} {ρ : Env} (E : EnvR K mg R st H σ ρ) (h : PostS K mg R H st (sBind m f ρ st) D W) :
    Post K mg Rel R H st (m ρ st) (fun b H1 => ∃ R1 st1 a, Sim K R1 H1 st1 ∧ EnvR K mg R1 st1 H1 σ ρ ∧ Rel R1 st1 H1 b a ∧ PostS K mg R1 H1 st1 (f a ρ st1) D W) (fun c d H' => W c d σ H') := by
  unfold sBind at h
  cases e : m ρ st with
  | ok a st' =>
    rw [e] at h
    exact fun b R' H' e' s' q => ⟨R', st', a, s', E.ext e', q, PostS.shift s' e' h⟩
  | exc x st' =>
    rw [e] at h
    exact fun R' H' cls dx e' s' q => h σ R' H' cls dx e' s' (E.ext e') q
  | bad =>
    rw [e] at h
    exact h
def sNil : SM := fun ρ st => .nx ρ st
def sSeq (m n : SM) : SM := fun ρ st =>
  match m ρ st with
  | .nx ρ' st' => n ρ' st'
  | r => r
end
section
variable {X : Cx} {W : WX} {s : Stmt} {rest a b : List Stmt} {m n : SM} {c e : Expr} {mc : Env → M Bool} {me : Env → M D} {pos : Pos}
theorem evs_nil : EVSs X W [] sNil := by
  refine ⟨PSs.imp pss_nil fun D σ H h => ?_⟩
  obtain ⟨R, ρ, st, S, E, h⟩ := h
  exact h σ R H .refl S E
theorem evs_cons (h1 : EVS X W s m) (h2 : EVSs X W rest n) : EVSs X W (s :: rest) (sSeq m n) := by
  refine ⟨PSs.imp (pss_cons h1.ps h2.ps) fun D σ H h => ?_⟩
  obtain ⟨R, ρ, st, S, E, h⟩ := h
  refine ⟨R, ρ, st, S, E, ?_⟩
  unfold sSeq at h
  cases z : m ρ st with
  | nx ρ' st' =>
    rw [z] at h
    exact fun σ' R' H' e' s' q => ⟨R', ρ', st', s', q, PostS.shift s' e' h⟩
  | rt d st' => rw [z] at h; exact h
  | bk ρ' st' => rw [z] at h; exact h
  | ct ρ' st' => rw [z] at h; exact h
  | exc x ρ' st' => rw [z] at h; exact h
  | bad => rw [z] at h; exact h
theorem evs_one (h1 : EVS X W s m) : EVSs X W [s] m := ⟨pss_one h1.ps⟩
def sRet (m : Env → M D) : SM := sBind m fun d _ st => .rt d st
theorem evs_ret (he : EV X W e me) : EVS X W (.Return (some e) pos) (sRet me) := by
  refine ⟨PS.imp (ps_ret he.pe) fun D σ H h => ?_⟩
  obtain ⟨R, ρ, st, S, E, h⟩ := h
  exact ⟨R, ρ, st, S, E, (PostS.bind (Rel := Dv X.K X.mg) E h).monoQ fun v H1 ⟨R1, st1, d, S1, E1, D1, h1⟩ => h1 v R1 H1 .refl S1 D1⟩
def sRetN : SM := fun _ st => .rt (.dat .none) st
theorem evs_retN : EVS X W (.Return none pos) sRetN := by
  refine ⟨PS.imp ps_retN fun D σ H h => ?_⟩
  obtain ⟨R, ρ, st, S, E, h⟩ := h
  exact h _ R H .refl S Dv.non
def sIf (c : Env → M Bool) (m n : SM) : SM := sBind c fun b => if b = true then m else n
theorem evs_if (hc : EVT X W c mc) (ha : EVSs X W a m) (hb : EVSs X W b n) : EVS X W (.If c a b pos) (sIf mc m n) := by
  refine ⟨PS.imp (ps_if hc.pt ha.ps hb.ps) fun D σ H h => ?_⟩
  obtain ⟨R, ρ, st, S, E, h⟩ := h
  refine ⟨R, ρ, st, S, E, (PostS.bind (Rel := RelB) E h).monoQ fun k H1 ⟨R1, st1, d, S1, E1, D1, h1⟩ => ?_⟩
  obtain rfl : k = d := D1
  cases k with
  | true => exact ⟨R1, ρ, st1, S1, E1, h1⟩
  | false => exact ⟨R1, ρ, st1, S1, E1, h1⟩
def sDrop (m : Env → M D) : SM := sBind m fun _ ρ st => .nx ρ st
theorem evs_expr (he : EV X W e me) (hs : swapsWith e none pos.line X.env = pure false := by rfl) : EVS X W (.Expr e pos) (sDrop me) := by
  refine ⟨PS.imp (ps_expr he.pe hs) fun D σ H h => ?_⟩
  obtain ⟨R, ρ, st, S, E, h⟩ := h
  exact ⟨R, ρ, st, S, E, (PostS.bind (Rel := Dv X.K X.mg) E h).monoQ fun v H1 ⟨R1, st1, d, S1, E1, D1, h1⟩ => h1 σ R1 H1 .refl S1 E1⟩
def sSet (i : Nat) (m : Env → M D) : SM := sBind m fun d ρ st => .nx (ρ.set i (some d)) st
theorem tAsg_of {i : Nat} {D : Ends} {σ : L2.St} {H : Hp} (h : tS X.K X.mg W (sSet i me) D σ H) : tM X.K X.mg W me σ H (fun x H1 => gName i x σ H1 D.nx) := by
  obtain ⟨R, ρ, st, S, E, h⟩ := h
  exact ⟨R, ρ, st, S, E, (PostS.bind (Rel := Dv X.K X.mg) E h).monoQ fun v H1 ⟨R1, st1, d, S1, E1, D1, h1⟩ => h1 _ R1 H1 .refl S1 (E1.set i D1)⟩
theorem evs_set {i : Nat} {x : Str} {pos' : Pos} (hN : X.N.Nodup) (hi : X.N[i]? = some x) (hx : Loc X.env.scope x) (he : EV X W e me) (hs : swapsWith e (some (.Name x pos')) pos.line X.env = pure false := by rfl)
    (hf : X.fn x = true ∨ X.env.scope.names.lookup x = some .local := by first | exact .inl rfl | exact .inr rfl | assumption) : EVS X W (.Assign [.Name x pos'] e pos) (sSet i me) :=
  ⟨PS.imp (ps_set hN hi hx he.pe hs hf) fun D σ H h => tAsg_of h⟩
def sPass : SM := fun ρ st => .nx ρ st
def sBrk : SM := fun ρ st => .bk ρ st
def sCnt : SM := fun ρ st => .ct ρ st
theorem evs_pass : EVS X W (.Pass pos) sPass := by
  refine ⟨PS.imp ps_pass fun D σ H h => ?_⟩
  obtain ⟨R, ρ, st, S, E, h⟩ := h
  exact h σ R H .refl S E
theorem evs_break : EVS X W (.Break pos) sBrk := by
  refine ⟨PS.imp ps_break fun D σ H h => ?_⟩
  obtain ⟨R, ρ, st, S, E, h⟩ := h
  exact h σ R H .refl S E
theorem evs_continue : EVS X W (.Continue pos) sCnt := by
  refine ⟨PS.imp ps_continue fun D σ H h => ?_⟩
  obtain ⟨R, ρ, st, S, E, h⟩ := h
  exact h σ R H .refl S E
/-- x += e of ints -/
def sAug (i : Nat) (f : D → D → M D) (m : Env → M D) : SM := fun ρ st =>
  match ρ[i]? with
  | some (some x) => sBind m (fun y ρ st => match f x y st with | .ok z st' => .nx (ρ.set i (some z)) st' | _ => .bad) ρ st
  | _ => .bad
end

/-! ### a list of the store is written -/
section
variable {K : PySem.W.Frag} {mg : Str → Option Value} {R : Rg} {H : Hp} {st : Sto} {n : Nat} {a : Addr} {vs : List V} {xs ys : List PyData}
theorem own_set (h1 : R.r[n]? = some a) (h2 : st[n]? = some (Cell.lst xs)) (b : Addr) : Own R (st.set n (.lst ys)) b ↔ Own R st b := by
  constructor
  · rintro (⟨m, zs, e1, e2⟩ | h)
    · by_cases hm : n = m
      · subst hm
        rw [h1] at e1; cases e1
        exact .inl ⟨n, xs, h1, h2⟩
      · rw [List.getElem?_set_ne hm] at e2
        exact .inl ⟨m, zs, e1, e2⟩
    · exact .inr h
  · rintro (⟨m, zs, e1, e2⟩ | h)
    · by_cases hm : n = m
      · subst hm
        rw [h1] at e1; cases e1
        exact .inl ⟨n, ys, h1, by rw [List.getElem?_set_self (List.getElem?_eq_some_iff.mp h2).1]⟩
      · exact .inl ⟨m, zs, e1, by rw [List.getElem?_set_ne hm]; exact e2⟩
    · exact .inr h
theorem ext_set (S : Sim K R H st) (h1 : R.r[n]? = some a) (h2 : st[n]? = some (Cell.lst xs)) (q : PdA K (Own R st) H vs ys) :
    Ext R H st R (upd H a (.lst vs)) (st.set n (.lst ys)) ∧ Sim K R (upd H a (.lst vs)) (st.set n (.lst ys)) := by
  have oa : Own R st a := .inl ⟨n, xs, h1, h2⟩
  have E : Ext R H st R (upd H a (.lst vs)) (st.set n (.lst ys)) := by
    refine ⟨⟨[], by simp, fun _ h => by cases h⟩, rfl, fun b hb o e => ?_, ⟨fun b o e hb => ?_, fun b z => .inl ((own_set h1 h2 b).mp z)⟩⟩
    · have ne : b ≠ a := fun z => S.nr a (List.mem_of_getElem? h1) (z ▸ hb)
      rw [upd_ne ne]; exact e
    · have ne : b ≠ a := fun z => hb (z ▸ oa)
      rw [upd_ne ne]; exact e
  refine ⟨E, by simp [S.len], S.nd, S.nr, fun b hb => ?_, fun m b zs e1 e2 => ?_⟩
  · by_cases ne : b = a
    · rw [ne, upd_same]; simp
    · rw [upd_ne ne]; exact S.trk b hb
  · by_cases hm : n = m
    · subst hm
      rw [h1] at e1; cases e1
      rw [List.getElem?_set_self (List.getElem?_eq_some_iff.mp h2).1] at e2
      cases e2
      exact ⟨vs, upd_same, q.stays E.stays⟩
    · rw [List.getElem?_set_ne hm] at e2
      obtain ⟨ws, e, w⟩ := S.at_ m b zs e1 e2
      have ne : b ≠ a := fun z => by
        subst z
        have i1 := (List.getElem?_eq_some_iff.mp h1)
        have i2 := (List.getElem?_eq_some_iff.mp e1)
        obtain ⟨l1, g1⟩ := i1
        obtain ⟨l2, g2⟩ := i2
        exact hm ((List.getElem_inj S.nd).mp (g1.trans g2.symm))
      exact ⟨ws, by rw [upd_ne ne]; exact e, w.stays E.stays⟩
end
/-- a list of the store, changed -/
def onLoc (f : List PyData → Option (List PyData × PyData)) (d : D) : M D := fun st =>
  match d with
  | .loc n => match st[n]? with
    | some (.lst xs) => match f xs with
      | some (ys, r) => .ok (.dat r) (st.set n (.lst ys))
      | none => .bad
    | _ => .bad
  | _ => .bad
section
variable {X : Cx} {W : WX} {pos : Pos} {o i e : Expr} {mo mi me : Env → M D}
/-- xs[i] = e -/
def setAt (k : Int) (y : PyData) (xs : List PyData) : Option (List PyData × PyData) := (ixN xs.length k).map fun j => (xs.set j y, .none)
def sSetIx (mo mi me : Env → M D) : SM := sBind me fun y => sBind mo fun l => sBind mi fun k => sBind (fun _ => match k, y with | .dat (.int k), .dat y => onLoc (setAt k y) l | _, _ => M.bad) fun _ ρ st => .nx ρ st
theorem evs_setix {pos' : Pos} (ho : EV X W o mo) (hi : EV X W i mi) (he : EV X W e me)
    (ha : ∀ v, assign (.Subscript o i pos') X.env v = (do
      let ov ← holding [v] (eval o X.env)
      let iv ← holding [v, ov] (eval i X.env)
      standAt pos'
      holding [v, ov, iv] (setItem ov iv v)
      release [v, ov, iv] []) := by intro _; rfl)
    (hs : swapsWithSole [.Subscript o i pos'] e pos.line X.env = pure false := by rfl) (hw : swappedStores [.Subscript o i pos'] e X.env = pure none := by rfl)
    (h1 : (assignEach [.Subscript o i pos'] X.env).map (·.2) = [assign (.Subscript o i pos') X.env] := by rfl) : EVS X W (.Assign [.Subscript o i pos'] e pos) (sSetIx mo mi me) := by
  refine ⟨PS.imp (ps_asg he.pe (pg_sub ho.pe hi.pe set_list ha) hs hw h1) fun D σ H h => ?_⟩
  obtain ⟨R, ρ, st, S, E, h⟩ := h
  refine ⟨R, ρ, st, S, E, (PostS.bind (Rel := Dv X.K X.mg) E h).monoQ fun v H1 ⟨R1, st1, y, S1, E1, D1, h1⟩ => ?_⟩
  refine ⟨R1, ρ, st1, S1, E1, ?_⟩
  have h1' := PostS.bind (Rel := fun R st H (b : V) d => Dv X.K X.mg R st H v y ∧ Dv X.K X.mg R st H b d) E1 h1
  revert h1'
  cases z1 : mo ρ st1 with
  | bad => exact fun q => q
  | exc x st' => exact fun q => q
  | ok d2 st2 =>
    intro h1' ov R2 H2 x2 S2 D2
    obtain ⟨R2', st2', l, S2', E2, ⟨D1', D2'⟩, h2⟩ := h1' ov R2 H2 x2 S2 ⟨D1.ext x2, D2⟩
    refine ⟨R2', ρ, st2', S2', E2, ?_⟩
    have h2' := PostS.bind (Rel := fun R st H (b : V) d => Dv X.K X.mg R st H v y ∧ Dv X.K X.mg R st H ov l ∧ Dv X.K X.mg R st H b d) E2 h2
    revert h2'
    cases z2 : mi ρ st2' with
    | bad => exact fun q => q
    | exc x st' => exact fun q => q
    | ok d3 st3 =>
      intro h2' iv R3 H3 x3 S3 D3
      obtain ⟨R3', st3', k, S3', E3, ⟨D1'', D2'', D3'⟩, h3⟩ := h2' iv R3 H3 x3 S3 ⟨D1'.ext x3, D2'.ext x3, D3⟩
      unfold sBind at h3
      dsimp only at h3
      cases k with
      | dat kd =>
        cases kd with
        | int k =>
          cases y with
          | dat y =>
            dsimp only at h3
            unfold onLoc at h3
            cases l with
            | loc n =>
              dsimp only at h3
              cases z3 : st3'[n]? with
              | none => rw [z3] at h3; exact h3.elim
              | some c =>
                rw [z3] at h3
                cases c with
                | dead => exact h3.elim
                | lst xs =>
                  dsimp only at h3
                  unfold setAt at h3
                  cases z4 : ixN xs.length k with
                  | none => rw [z4] at h3; exact h3.elim
                  | some j =>
                    rw [z4] at h3
                    obtain ⟨a, ha', rfl⟩ := D2''
                    cases D3'
                    obtain ⟨vs, e1, e2⟩ := S3'.at_ n a xs ha' z3
                    obtain ⟨E4, S4⟩ := ext_set S3' ha' z3 (e2.set D1'' j)
                    exact ⟨a, vs, k, j, rfl, rfl, e1, by rw [e2.len]; exact z4, h3 σ R3' _ E4 S4 (E3.ext E4)⟩
            | _ => exact h3.elim
          | _ => exact h3.elim
        | _ => cases y <;> exact h3.elim
      | _ => cases y <;> exact h3.elim
end
end Ev
set_option Elab.async false
set_option linter.all false
set_option maxRecDepth 100000
set_option maxHeartbeats 4000000
/-! Ev6: what is walked, loops, comprehensions. -/
namespace Ev
open PySem PySem.Spec PyProof.Rows L2
open Classical

/-! ### targets -/
abbrev Tg := D → Env → Option Env
abbrev Tgs := List PyData → Env → Option Env
structure EVG (X : Cx) (tg : Expr) (g : TG) (t : Tg) (sl : List Nat) : Prop where
  pg : PG X tg g
  ok : ∀ (R : Rg) (st : Sto) (H : Hp) (σ : L2.St) (v : V) (d : D) (ρ ρ' : Env) (Q : L2.St → Hp → Prop), EnvR X.K X.mg R st H σ ρ → Dv X.K X.mg R st H v d → t d ρ = some ρ' →
    (∀ σ', EnvR X.K X.mg R st H σ' ρ' → (∀ vs, (∀ i ∈ sl, i ∈ vs) → wipe σ' vs = wipe σ vs) → Q σ' H) → g v σ H Q
structure EVGs (X : Cx) (tg : List Expr) (g : TGs) (t : Tgs) (n : Nat) (sl : List Nat) : Prop where
  pg : PGs X tg g
  len : ∀ (ds : List PyData) (ρ ρ' : Env), t ds ρ = some ρ' → ds.length = n
  ok : ∀ (R : Rg) (st : Sto) (H : Hp) (σ : L2.St) (vs : List V) (ds : List PyData) (ρ ρ' : Env) (Q : L2.St → Hp → Prop), EnvR X.K X.mg R st H σ ρ → PdA X.K (Own R st) H vs ds → t ds ρ = some ρ' →
    (∀ σ', EnvR X.K X.mg R st H σ' ρ' → (∀ vs, (∀ i ∈ sl, i ∈ vs) → wipe σ' vs = wipe σ vs) → Q σ' H) → g vs σ H Q
def tgName (i : Nat) : Tg := fun d ρ => some (ρ.set i (some d))
def tgNil : Tgs := fun ds ρ => match ds with | [] => some ρ | _ => none
def tgCons (t : Tg) (u : Tgs) : Tgs := fun ds ρ => match ds with | d :: r => (t (.dat d) ρ).bind (u r) | [] => none
def tgTup (u : Tgs) : Tg := fun d ρ => match d with | .dat (.tuple ds) => u ds ρ | _ => none
theorem wipe_set (σ : L2.St) (i : Nat) (x : Option V) : ∀ vs : List Nat, i ∈ vs → wipe (σ.set i x) vs = wipe σ vs
  | [], h => by cases h
  | v :: vs, h => by
    show (wipe (σ.set i x) vs).set v none = (wipe σ vs).set v none
    by_cases hv : i ∈ vs
    · rw [wipe_set σ i x vs hv]
    · have e : i = v := by
        rcases List.mem_cons.mp h with e | e
        · exact e
        · exact absurd e hv
      have com : ∀ ws : List Nat, i ∉ ws → wipe (σ.set i x) ws = (wipe σ ws).set i x := fun ws => by
        induction ws with
        | nil => intro _; rfl
        | cons w ws ih =>
          intro hw
          have h1 : i ≠ w := fun z => hw (by rw [z]; exact List.mem_cons_self)
          show (wipe (σ.set i x) ws).set w none = ((wipe σ ws).set w none).set i x
          rw [ih fun z => hw (List.mem_cons_of_mem _ z), List.set_comm _ _ h1]
      rw [com vs hv, ← e, List.set_set]
theorem eg_name {X : Cx} {i : Nat} {x : Str} {pos : Pos} (hN : X.N.Nodup) (hi : X.N[i]? = some x) (hx : Loc X.env.scope x) (hf : X.fn x = true ∨ X.env.scope.names.lookup x = some .local := by first | exact .inl rfl | exact .inr rfl | assumption) :
    EVG X (.Name x pos) (gName i) (tgName i) [i] := by
  refine ⟨pg_name hN hi hx hf, fun R st H σ v d ρ ρ' Q E D1 e q => ?_⟩
  cases e
  exact q _ (E.set i D1) fun vs hv => wipe_set σ i _ vs (hv i (by simp))
theorem eg_nil {X : Cx} : EVGs X [] gNil tgNil 0 [] := by
  refine ⟨pgs_nil, fun ds ρ ρ' e => ?_, fun R st H σ vs ds ρ ρ' Q E p e q => ?_⟩
  · cases ds with
    | nil => rfl
    | cons _ _ => cases e
  · cases p with
    | nil => cases e; exact ⟨rfl, q σ E fun _ _ => rfl⟩
    | cons _ _ => cases e
theorem tgCons_some {t : Tg} {u : Tgs} {d : PyData} {ds : List PyData} {ρ ρ' : Env} (e : tgCons t u (d :: ds) ρ = some ρ') : ∃ ρ1, t (.dat d) ρ = some ρ1 ∧ u ds ρ1 = some ρ' := by
  have e' : (t (.dat d) ρ).bind (u ds) = some ρ' := e
  cases z : t (.dat d) ρ with
  | none => rw [z] at e'; cases e'
  | some ρ1 => rw [z] at e'; exact ⟨ρ1, rfl, e'⟩
theorem eg_cons {X : Cx} {e : Expr} {es : List Expr} {g : TG} {gs : TGs} {t : Tg} {u : Tgs} {n : Nat} {sl sl' : List Nat} (h1 : EVG X e g t sl) (h2 : EVGs X es gs u n sl')
    (hs : (assignEach (e :: es) X.env).map (·.2) = assign e X.env :: (assignEach es X.env).map (·.2) := by rfl) : EVGs X (e :: es) (gCons g gs) (tgCons t u) (n + 1) (sl ++ sl') := by
  refine ⟨pgs_cons h1.pg h2.pg hs, fun ds ρ ρ' e => ?_, fun R st H σ vs ds ρ ρ' Q E p e q => ?_⟩
  · cases ds with
    | nil => cases e
    | cons d ds =>
      obtain ⟨ρ1, e1, e2⟩ := tgCons_some e
      rw [List.length_cons, h2.len ds ρ1 ρ' e2]
  · cases p with
    | nil => cases e
    | @cons v vs d ds hd p =>
      obtain ⟨ρ1, e1, e2⟩ := tgCons_some e
      refine ⟨v, vs, rfl, h1.ok R st H σ v (.dat d) ρ ρ1 _ E hd e1 fun σ1 E1 w1 => ?_⟩
      refine h2.ok R st H σ1 vs ds ρ1 ρ' Q E1 p e2 fun σ' E' w2 => q σ' E' fun ws hw => ?_
      rw [w2 ws fun i hi => hw i (List.mem_append_right _ hi), w1 ws fun i hi => hw i (List.mem_append_left _ hi)]
theorem eg_tup {X : Cx} {es : List Expr} {k : Nat} {pos : Pos} {gs : TGs} {u : Tgs} {n : Nat} {sl : List Nat} (hc : X.calm = true) (h : EVGs X es gs u n sl) (hn : (assignEach es X.env).length = n := by rfl) (hst : (assignEach es X.env).findIdx? (·.1) = none := by rfl) :
    EVG X (.Tuple es k pos) (gTup X.K n gs) (tgTup u) sl := by
  refine ⟨pg_tup hc h.pg hn hst, fun R st H σ v d ρ ρ' Q E D1 e q => ?_⟩
  unfold tgTup at e
  split at e
  · rename_i ds
    have D2 : Pd X.K (Own R st) H v (.tuple ds) := D1
    cases D2 with
    | tup ta pa => exact ⟨_, _, rfl, ta.seq, by rw [pa.len]; exact h.len ds ρ ρ' e, h.ok R st H σ _ ds ρ ρ' Q E pa e q⟩
  · cases e

/-! ### what is walked -/
structure Src where
  items : List D
  ok : Sto → Prop
/-- later: the store's lists where they were, what may not change as it was -/
structure Lat (R : Rg) (H : Hp) (st : Sto) (R' : Rg) (H' : Hp) (st' : Sto) : Prop where
  at_ : ∀ (n : Nat) (a : Addr), R.r[n]? = some a → R'.r[n]? = some a
  stays : Stays (Own R st) (Own R' st') H H'
theorem Ext.lat {R R' : Rg} {H H' : Hp} {st st' : Sto} (e : Ext R H st R' H' st') : Lat R H st R' H' st' := ⟨fun _ _ h => e.at_ h, e.stays⟩
structure Wk (K : PySem.W.Frag) (mg : Str → Option Value) (R : Rg) (st : Sto) (H : Hp) (J : It) (s : Src) : Prop where
  go : ∀ i R' H' st', i < s.items.length → Lat R H st R' H' st' → Sim K R' H' st' → s.ok st' → J.go i H'
  stop : ∀ R' H' st', Lat R H st R' H' st' → Sim K R' H' st' → s.ok st' → J.stop s.items.length H'
  yld : ∀ i R' H' st' x H2, i < s.items.length → Lat R H st R' H' st' → Sim K R' H' st' → s.ok st' → J.yld i H' x H2 → Ext R' H' st' R' H2 st' ∧ Sim K R' H2 st' ∧ ∃ d, s.items[i]? = some d ∧ Dv K mg R' st' H2 x d
def RelI (K : PySem.W.Frag) (mg : Str → Option Value) : RelT Src It := fun R st H J s => Wk K mg R st H J s
def tMI (K : PySem.W.Frag) (mg : Str → Option Value) (W : WX) (m : Env → M Src) : TI := fun σ H Q => ∃ R ρ st, Sim K R H st ∧ EnvR K mg R st H σ ρ ∧ Post K mg (RelI K mg) R H st (m ρ st) Q (fun c d H' => W c d σ H')
structure EVI (X : Cx) (W : WX) (tg iter : Expr) (m : Env → M Src) : Prop where
  pi : PI X tg iter (tMI X.K X.mg W m)
theorem PI.imp {X : Cx} {tg e : Expr} {t u : TI} (h : PI X tg e t) (q : ∀ σ H Q, u σ H Q → t σ H Q) : PI X tg e u := ⟨fun pins s σ H Q I z => h.run pins s σ H Q I (q σ H Q z)⟩
def Src.data (xs : List PyData) : Src := ⟨xs.map D.dat, fun _ => True⟩
def srcOf (d : D) : M Src := fun st =>
  match d with
  | .fz xs => .ok (.data xs) st
  | .loc n => match st[n]? with
    | some (.lst xs) => .ok ⟨xs.map D.dat, fun st' => st'[n]? = some (.lst xs)⟩ st
    | _ => .bad
  | .dat (.list xs) => .ok (.data xs) st
  | .dat (.tuple xs) => .ok (.data xs) st
  | _ => .bad
section
variable {K : PySem.W.Frag} {mg : Str → Option Value} {R : Rg} {H : Hp} {st : Sto} {a : Addr} {vs : List V} {xs : List PyData}
theorem wk_list {s : Src} (hs : s.items = xs.map D.dat) (q : ∀ R' H' st', Lat R H st R' H' st' → Sim K R' H' st' → s.ok st' → ∃ vs, SqL K H' a vs ∧ PdA K (Own R' st') H' vs xs) : Wk K mg R st H (Itl K a) s := by
  have hl : s.items.length = xs.length := by rw [hs, List.length_map]
  refine ⟨fun i R' H' st' hi E S o => ?_, fun R' H' st' E S o => ?_, fun i R' H' st' x H2 hi E S o y => ?_⟩
  · obtain ⟨vs, h1, h2⟩ := q R' H' st' E S o
    have hv : i < vs.length := by rw [h2.len]; omega
    exact ⟨vs, vs[i], h1, by simp [hv]⟩
  · obtain ⟨vs, h1, h2⟩ := q R' H' st' E S o
    exact ⟨vs, h1, by rw [h2.len, hl]; exact Nat.le_refl _⟩
  · obtain ⟨vs, h1, h2⟩ := q R' H' st' E S o
    obtain ⟨rfl, y⟩ := y
    have hx : i < xs.length := by omega
    obtain ⟨v, e1, e2⟩ := h2.at_ (i := i) (d := xs[i]) (by simp [hx])
    have e3 := y vs h1
    rw [e1] at e3
    cases e3
    exact ⟨.refl, S, .dat xs[i], by rw [hs, List.getElem?_map]; simp [hx], e2⟩
theorem wk_tup {s : Src} (hs : s.items = xs.map D.dat) (q : ∀ R' H' st', Lat R H st R' H' st' → Sim K R' H' st' → s.ok st' → ∃ vs, SqT K H' a vs ∧ PdA K (Own R' st') H' vs xs) : Wk K mg R st H (Itt K a) s := by
  have hl : s.items.length = xs.length := by rw [hs, List.length_map]
  refine ⟨fun i R' H' st' hi E S o => ?_, fun R' H' st' E S o => ?_, fun i R' H' st' x H2 hi E S o y => ?_⟩
  · obtain ⟨vs, h1, h2⟩ := q R' H' st' E S o
    have hv : i < vs.length := by rw [h2.len]; omega
    exact ⟨vs, vs[i], h1, by simp [hv]⟩
  · obtain ⟨vs, h1, h2⟩ := q R' H' st' E S o
    exact ⟨vs, h1, by rw [h2.len, hl]; exact Nat.le_refl _⟩
  · obtain ⟨vs, h1, h2⟩ := q R' H' st' E S o
    obtain ⟨rfl, y⟩ := y
    have hx : i < xs.length := by omega
    obtain ⟨v, e1, e2⟩ := h2.at_ (i := i) (d := xs[i]) (by simp [hx])
    have e3 := y vs h1
    rw [e1] at e3
    cases e3
    exact ⟨.refl, S, .dat xs[i], by rw [hs, List.getElem?_map]; simp [hx], e2⟩
/-- which walk a value has -/
theorem srcOf_wk {v : V} {d : D} {Q : It → Hp → Prop} {W : XK} (S : Sim K R H st) (D1 : Dv K mg R st H v d) (h : Post K mg (RelI K mg) R H st (srcOf d st) Q W) :
    ∃ a, v = .ref a ∧ ((∃ ws, SqL K H a ws) ∧ Q (Itl K a) H ∨ (∃ ws, SqT K H a ws) ∧ Q (Itt K a) H) := by
  unfold srcOf at h
  split at h
  · obtain ⟨a, ws, rfl, hl, pa⟩ := D1
    exact ⟨a, rfl, .inl ⟨⟨ws, hl.seq⟩, h.okR S (wk_list rfl fun R' H' st' E _ _ => ⟨ws, (hl.stays E.stays).seq, pa.stays E.stays⟩)⟩⟩
  · rename_i n
    obtain ⟨a, ha, rfl⟩ := D1
    split at h
    · rename_i xs z
      obtain ⟨ws, e1, e2⟩ := S.at_ n a xs ha z
      exact ⟨a, rfl, .inl ⟨⟨ws, .inl (.inl e1)⟩, h.okR S (wk_list rfl fun R' H' st' E S' o => by
        obtain ⟨ws', e3, e4⟩ := S'.at_ n a xs (E.at_ n a ha) o
        exact ⟨ws', .inl (.inl e3), e4⟩)⟩⟩
    · exact h.elim
  · have D2 : Pd K (Own R st) H v (.list _) := D1
    cases D2 with
    | lst h1 h2 h3 => exact ⟨_, rfl, .inl ⟨⟨_, .inl (.inl h1)⟩, h.okR S (wk_list rfl fun R' H' st' E _ _ => ⟨_, .inl (.inl (E.stays.keep _ _ h1 h2)), h3.stays E.stays⟩)⟩⟩
  · have D2 : Pd K (Own R st) H v (.tuple _) := D1
    cases D2 with
    | tup h1 h3 => exact ⟨_, rfl, .inr ⟨⟨_, h1.seq⟩, h.okR S (wk_tup rfl fun R' H' st' E _ _ => ⟨_, (h1.stays E.stays).seq, h3.stays E.stays⟩)⟩⟩
  · exact h.elim
end
section
variable {X : Cx} {W : WX} {tg l e : Expr} {m : Env → M D} {ms : Env → M (List D)} {p pos : Pos}
def mSeq (m : Env → M D) : Env → M Src := fun ρ => M.bind (m ρ) srcOf
/-- a list or a tuple is walked -/
theorem evi_seq (h : EV X W l m) : EVI X W tg l (mSeq m) := by
  refine ⟨⟨fun pins s σ H Rr I hh => ?_⟩⟩
  obtain ⟨R, ρ, st, S, E, hh⟩ := hh
  refine thn (h.pe.run pins s σ H (fun v H1 => ∃ a, v = .ref a ∧ ((∃ ws, SqL X.K H1 a ws) ∧ Rr (Itl X.K a) H1 ∨ (∃ ws, SqT X.K H1 a ws) ∧ Rr (Itt X.K a) H1)) I
    ⟨R, ρ, st, S, E, (Post.bind (Rel := Dv X.K X.mg) (Rel2 := RelI X.K X.mg) hh).monoQ fun v H1 ⟨R1, st1, d, x1, S1, D1, h1⟩ => srcOf_wk S1 D1 h1⟩) fun v s1 ⟨x, H1, I1, r1, a, ex, q⟩ => ?_
  subst ex
  cases r1
  rcases q with ⟨⟨ws, hq⟩, q⟩ | ⟨⟨ws, hq⟩, q⟩
  · obtain ⟨its, rv, pl, hz⟩ := I1.list hq
    refine wpAny_pyIter_list pl.isList ⟨s1.heap.objs.size, [s1.heap.objs.size], _, _, H1, rfl, ?_, turn_list a _, ?_, fun b hb => ?_, q⟩
    · exact I1.kept (t' := s1.toks) fun b o z => Heap.get?_push_of_some _ z
    · exact ⟨_, Heap.get?_push_size _ rfl, rfl, rfl⟩
    · obtain rfl : b = s1.heap.objs.size := List.mem_singleton.mp hb
      exact I1.fpOk (Nat.le_refl _) (I1.hok.fresh (Nat.le_refl _))
  · obtain ⟨its, rv, pt, hz⟩ := I1.tuple hq
    refine wpAny_pyIter_tuple (show s1.heap.IsTuple a its.toArray from pt) ⟨s1.heap.objs.size, [s1.heap.objs.size], _, _, H1, rfl, ?_, turn_tuple a _, ?_, fun b hb => ?_, q⟩
    · exact I1.kept (t' := s1.toks) fun b o z => Heap.get?_push_of_some _ z
    · exact ⟨_, Heap.get?_push_size _ rfl, rfl, rfl⟩
    · obtain rfl : b = s1.heap.objs.size := List.mem_singleton.mp hb
      exact I1.fpOk (Nat.le_refl _) (I1.hok.fresh (Nat.le_refl _))
/-- lo, lo + 1, .., so many -/
def rangeD (lo : Int) (n : Nat) : Src := ⟨(List.range n).map fun k : Nat => D.dat (.int (lo + (k : Int))), fun _ => True⟩
def rng1 : List D → M Src
  | [.dat (.int j)] => if -(2 ^ 62) ≤ j ∧ j < 2 ^ 62 then M.pure (rangeD 0 j.toNat) else M.bad
  | _ => M.bad
def rng2 : List D → M Src
  | [.dat (.int i), .dat (.int j)] => if -(2 ^ 62) ≤ i ∧ i < 2 ^ 62 ∧ -(2 ^ 62) ≤ j ∧ j < 2 ^ 62 then M.pure (rangeD i (j - i).toNat) else M.bad
  | _ => M.bad
def mRng1 (m : Env → M (List D)) : Env → M Src := fun ρ => M.bind (m ρ) rng1
def mRng2 (m : Env → M (List D)) : Env → M Src := fun ρ => M.bind (m ρ) rng2
theorem wk_range {K : PySem.W.Frag} {mg : Str → Option Value} {R : Rg} {H : Hp} {st : Sto} {lo : Int} {n : Nat} : Wk K mg R st H (Itr lo n) (rangeD lo n) := by
  have hl : (rangeD lo n).items.length = n := by simp [rangeD]
  refine ⟨fun i R' H' st' hi E S o => ?_, fun R' H' st' E S o => ?_, fun i R' H' st' x H2 hi E S o y => ?_⟩
  · rw [hl] at hi; exact hi
  · rw [hl]; exact Nat.le_refl _
  · obtain ⟨rfl, rfl⟩ := y
    rw [hl] at hi
    exact ⟨.refl, S, _, by simp [rangeD, hi], Dv.int _⟩
theorem evi_range1 (hg : Gl X "range") (hm : X.mg "range" = none) (ha : EVA X W [e] ms) (hs : starEach [e] X.env = [(false, eval e X.env)] := by rfl) : EVI X W tg (.Call (.Name "range" p) [e] [] pos) (mRng1 ms) := by
  refine ⟨PI.imp (pi_range1 hg hm ha.pa hs) fun σ H Q h => ?_⟩
  obtain ⟨R, ρ, st, S, E, h⟩ := h
  refine ⟨R, ρ, st, S, E, (Post.bind (Rel := DvA X.K X.mg) (Rel2 := RelI X.K X.mg) h).monoQ fun vs H1 ⟨R1, st1, ds, x1, S1, D1, h1⟩ => ?_⟩
  unfold rng1 at h1
  split at h1
  · cases D1 with
    | cons a b =>
      cases b
      cases a
      split at h1
      · rename_i hc
        exact ⟨_, rfl, hc.1, hc.2, h1.okR S1 wk_range⟩
      · exact h1.elim
  · exact h1.elim
theorem evi_range2 {e2 : Expr} (hg : Gl X "range") (hm : X.mg "range" = none) (ha : EVA X W [e, e2] ms) (hs : starEach [e, e2] X.env = [(false, eval e X.env), (false, eval e2 X.env)] := by rfl) (hs2 : starEach [e2] X.env = [(false, eval e2 X.env)] := by rfl) :
    EVI X W tg (.Call (.Name "range" p) [e, e2] [] pos) (mRng2 ms) := by
  refine ⟨PI.imp (pi_range2 hg hm ha.pa hs hs2) fun σ H Q h => ?_⟩
  obtain ⟨R, ρ, st, S, E, h⟩ := h
  refine ⟨R, ρ, st, S, E, (Post.bind (Rel := DvA X.K X.mg) (Rel2 := RelI X.K X.mg) h).monoQ fun vs H1 ⟨R1, st1, ds, x1, S1, D1, h1⟩ => ?_⟩
  unfold rng2 at h1
  split at h1
  · cases D1 with
    | cons a b =>
      cases b with
      | cons b c =>
        cases c
        cases a
        cases b
        split at h1
        · rename_i hc
          exact ⟨_, _, rfl, hc, h1.okR S1 wk_range⟩
        · exact h1.elim
  · exact h1.elim

/-! ### for -/
noncomputable def loopS (ok : Sto → Prop) (t : Tg) (body : SM) : List D → SM
  | [], ρ, st => if ok st then .nx ρ st else .bad
  | d :: ds, ρ, st => if ok st then match t d ρ with
      | some ρ1 => match body ρ1 st with
        | .nx ρ2 st2 => loopS ok t body ds ρ2 st2
        | .ct ρ2 st2 => loopS ok t body ds ρ2 st2
        | .bk ρ2 st2 => .nx ρ2 st2
        | r => r
      | none => .bad
    else .bad
noncomputable def sFor (src : Env → M Src) (t : Tg) (body : SM) : SM := sBind src fun s => loopS s.ok t body s.items
theorem loopS_ok {ok : Sto → Prop} {t : Tg} {body : SM} {ds : List D} {ρ : Env} {st : Sto} (h : loopS ok t body ds ρ st ≠ .bad) : ok st := by
  by_cases z : ok st
  · exact z
  · cases ds with
    | nil => exact absurd (by simp [loopS, z]) h
    | cons d ds => exact absurd (by simp [loopS, z]) h
theorem PostS.nb {K : PySem.W.Frag} {mg : Str → Option Value} {R : Rg} {H : Hp} {st : Sto} {r : SRes} {D : Ends} (h : PostS K mg R H st r D W) : r ≠ .bad := fun e => by rw [e] at h; exact h
theorem evs_for {iter : Expr} {body : List Stmt} {g : TG} {t : Tg} {sl : List Nat} {src : Env → M Src} {mb : SM} (hp : PassesOwn (model X.prog X.w) X.A X.env X.xe) (hc : X.calm = true) (hi : EVI X W tg iter src) (hg : EVG X tg g t sl) (hb : EVSs X W body mb)
    (hs : ∀ x, foldedSetIterable iter X.env x = pure x := by intro _; rfl) : EVS X W (.For tg iter body [] pos) (sFor src t mb) := by
  refine ⟨PS.imp (ps_for hp hc hi.pi hg.pg hb.ps hs) fun Dn σ H h => ?_⟩
  obtain ⟨R, ρ, st, S, E, h⟩ := h
  refine ⟨R, ρ, st, S, E, ?_⟩
  have hb' := PostS.bind (Rel := fun R' st' H' (J : It) (s : Src) => RelI X.K X.mg R' st' H' J s) E h
  refine hb'.monoQ fun J H1 ⟨R1, st1, s, S1, E1, wk, h1⟩ => ?_
  -- the turns: the loop that is left tells what is wanted
  refine ⟨fun i m σ' H' => m = s.items.length - i ∧ i ≤ s.items.length ∧ ∃ R' ρ' st', Ext R1 H1 st1 R' H' st' ∧ Sim X.K R' H' st' ∧ EnvR X.K X.mg R' st' H' σ' ρ' ∧ PostS X.K X.mg R' H' st' (loopS s.ok t mb (s.items.drop i) ρ' st') Dn W,
    ⟨s.items.length, by simp, Nat.zero_le _, R1, _, st1, .refl, S1, E1, h1⟩, ?_⟩
  rintro i m σ' H' ⟨rfl, hi, R', ρ', st', x', S', E', h'⟩
  have okk := loopS_ok h'.nb
  by_cases hlt : i < s.items.length
  · refine .inr ⟨wk.go i R' H' st' hlt x'.lat S' okk, fun σ'' H'' => ∃ R'' ρ'' st'', Ext R1 H1 st1 R'' H'' st'' ∧ Sim X.K R'' H'' st'' ∧ EnvR X.K X.mg R'' st'' H'' σ'' ρ'' ∧ PostS X.K X.mg R'' H'' st'' (loopS s.ok t mb (s.items.drop (i + 1)) ρ'' st'') Dn W,
      fun σ'' H'' ⟨R'', ρ'', st'', a1, a2, a3, a4⟩ => ⟨s.items.length - (i + 1), by omega, rfl, hlt, R'', ρ'', st'', a1, a2, a3, a4⟩, fun x H2 y => ?_⟩
    obtain ⟨x2, S2, d, ed, D2⟩ := wk.yld i R' H' st' x H2 hlt x'.lat S' okk y
    have dr : s.items.drop i = d :: s.items.drop (i + 1) := by
      rw [List.drop_eq_getElem_cons hlt]
      congr 1
      rw [List.getElem?_eq_getElem hlt] at ed
      exact Option.some.inj ed
    rw [dr] at h'
    unfold loopS at h'
    rw [if_pos okk] at h'
    cases z : t d ρ' with
    | none => rw [z] at h'; exact h'.elim
    | some ρ1 =>
      rw [z] at h'
      dsimp only at h'
      refine hg.ok R' st' H2 σ' x d ρ' ρ1 _ (E'.ext x2) D2 z fun σ1 E1' _ => ?_
      refine ⟨R', ρ1, st', S2, E1', ?_⟩
      have h2 := PostS.shift S2 x2 h'
      have xx := x'.trans S' x2
      cases zb : mb ρ1 st' with
      | nx ρ2 st2 =>
        rw [zb] at h2
        exact fun σ3 R3 H3 e3 s3 q3 => ⟨R3, ρ2, st2, xx.trans S2 e3, s3, q3, PostS.shift s3 e3 h2⟩
      | ct ρ2 st2 =>
        rw [zb] at h2
        exact fun σ3 R3 H3 e3 s3 q3 => ⟨R3, ρ2, st2, xx.trans S2 e3, s3, q3, PostS.shift s3 e3 h2⟩
      | bk ρ2 st2 => rw [zb] at h2; exact h2
      | rt d2 st2 => rw [zb] at h2; exact h2
      | exc x2 ρ2 st2 => rw [zb] at h2; exact h2
      | bad => rw [zb] at h2; exact h2
  · have e : i = s.items.length := by omega
    subst e
    refine .inl ⟨wk.stop R' H' st' x'.lat S' okk, ?_⟩
    rw [List.drop_length] at h'
    unfold loopS at h'
    rw [if_pos okk] at h'
    exact h' σ' R' H' .refl S' E'
end
end Ev
set_option Elab.async false
set_option linter.all false
set_option maxRecDepth 100000
set_option maxHeartbeats 4000000
/-! Ev7: comprehensions; methods of lists; x op= e. -/
namespace Ev
open PySem PySem.Spec PyProof.Rows L2
open Classical

/-! ### a comprehension's own list: private while it runs -/
def Rg.hide (R : Rg) (p : Addr) : Rg := ⟨R.r, p :: R.p⟩
def Rg.back (R0 R : Rg) : Rg := ⟨R.r, R0.p⟩
section
variable {K : PySem.W.Frag} {mg : Str → Option Value} {R R' : Rg} {H H' : Hp} {st st' : Sto} {p : Addr} {vs : List V} {xs : List PyData} {o o' : HO}
theorem own_hide {a : Addr} : Own (R.hide p) st a ↔ Own R st a ∨ a = p := by
  unfold Own Rg.hide
  dsimp only
  rw [List.mem_cons]
  constructor
  · rintro (h | h | h)
    · exact .inl (.inl h)
    · exact .inr h
    · exact .inl (.inr h)
  · rintro ((h | h) | h)
    · exact .inl h
    · exact .inr (.inr h)
    · exact .inr (.inl h)
theorem sim_hide (S : Sim K R H st) (hp : H p = none) : Sim K (R.hide p) (upd H p o) st := by
  have S' := S.new (o := o) hp
  refine ⟨S.len, S.nd, fun a ha z => ?_, fun a ha => ?_, fun n a xs h1 h2 => ?_⟩
  · rcases List.mem_cons.mp z with z | z
    · exact S.fresh hp (z ▸ ha)
    · exact S.nr a ha z
  · rcases ha with h | h
    · exact S'.trk a (.inl h)
    · rcases List.mem_cons.mp h with h | h
      · rw [h, upd_same]; simp
      · exact S'.trk a (.inr h)
  · obtain ⟨ws, e1, e2⟩ := S.at_ n a xs h1 h2
    refine ⟨ws, by rw [upd_ne (ne_of_none e1 hp)]; exact e1, e2.stays ⟨fun b u e _ => by rw [upd_ne (ne_of_none e hp)]; exact e, fun b z => ?_⟩⟩
    rcases own_hide.mp z with z | z
    · exact .inl z
    · exact .inr (z ▸ hp)
/-- the private list changes: nothing else hangs on it -/
theorem sim_prv (S : Sim K R H st) (hp : p ∈ R.p) : Sim K R (upd H p o) st := by
  have st0 : Stays (Own R st) (Own R st) H (upd H p o) := ⟨fun b u e n => by rw [upd_ne (show b ≠ p from fun z => n (.inr (z ▸ hp)))]; exact e, fun b z => .inl z⟩
  refine ⟨S.len, S.nd, S.nr, fun a ha => ?_, fun n a xs h1 h2 => ?_⟩
  · by_cases e : a = p
    · rw [e, upd_same]; simp
    · rw [upd_ne e]; exact S.trk a ha
  · obtain ⟨ws, e1, e2⟩ := S.at_ n a xs h1 h2
    have ne : a ≠ p := fun z => S.nr a (List.mem_of_getElem? h1) (z ▸ hp)
    exact ⟨ws, by rw [upd_ne ne]; exact e1, e2.stays st0⟩
theorem ext_prv (hp : p ∈ R.p) (e : Ext R (upd H p o) st R' H' st') : Ext R (upd H p o') st R' (upd H' p o') st' := by
  obtain ⟨⟨S, e1, e2⟩, e3, e4, e5⟩ := e
  refine ⟨⟨S, e1, fun a ha => ?_⟩, e3, fun a ha u z => ?_, ⟨fun a u z n => ?_, fun a z => ?_⟩⟩
  · have q := e2 a ha
    by_cases h : a = p
    · rw [h, upd_same] at q; cases q
    · rw [upd_ne h] at q ⊢; exact q
  · by_cases h : a = p
    · rw [h, upd_same] at z ⊢; exact z
    · rw [upd_ne h] at z ⊢
      exact e4 a ha u (by rw [upd_ne h]; exact z)
  · have h : a ≠ p := fun y => n (.inr (y ▸ hp))
    rw [upd_ne h] at z ⊢
    exact e5.keep a u (by rw [upd_ne h]; exact z) n
  · rcases e5.own a z with q | q
    · exact .inl q
    · right
      by_cases h : a = p
      · rw [h, upd_same] at q; cases q
      · rw [upd_ne h] at q ⊢; exact q
theorem ext_back (hp : H p = none) (e : Ext (R.hide p) (upd H p o) st R' H' st') : Ext R H st (R.back R') H' st' := by
  obtain ⟨⟨S, e1, e2⟩, e3, e4, e5⟩ := e
  have low : ∀ a u, H a = some u → upd H p o a = some u := fun a u z => by rw [upd_ne (ne_of_none z hp)]; exact z
  have non : ∀ a, upd H p o a = none → H a = none := fun a q => by
    by_cases h : a = p
    · rw [h, upd_same] at q; cases q
    · rw [upd_ne h] at q; exact q
  refine ⟨⟨S, e1, fun a ha => non a (e2 a ha)⟩, rfl, fun a ha u z => e4 a (List.mem_cons_of_mem _ ha) u (low a u z), ⟨fun a u z n => ?_, fun a z => ?_⟩⟩
  · refine e5.keep a u (low a u z) fun y => ?_
    rcases own_hide.mp y with y | y
    · exact n y
    · rw [y, hp] at z; cases z
  · have z' : Own R' st' a := by
      rcases z with z | z
      · exact .inl z
      · exact .inr (by rw [e3]; exact List.mem_cons_of_mem _ z)
    rcases e5.own a z' with q | q
    · rcases own_hide.mp q with q | q
      · exact .inl q
      · exact .inr (q ▸ hp)
    · exact .inr (non a q)
theorem sim_back (e3 : R'.p = p :: R.p) (S : Sim K R' H' st') : Sim K (R.back R') H' st' := by
  refine ⟨S.len, S.nd, fun a ha z => S.nr a ha (by rw [e3]; exact List.mem_cons_of_mem _ z), fun a ha => S.trk a ?_, fun n a xs h1 h2 => ?_⟩
  · rcases ha with h | h
    · exact .inl h
    · exact .inr (by rw [e3]; exact List.mem_cons_of_mem _ h)
  · obtain ⟨ws, e1, e2⟩ := S.at_ n a xs h1 h2
    refine ⟨ws, e1, e2.stays (Stays.weak fun b z => ?_)⟩
    rcases z with z | z
    · exact .inl z
    · exact .inr (by rw [e3]; exact List.mem_cons_of_mem _ z)
end
/-- the slots of the block's own names forgotten -/
def wipeE (ρ : Env) : List Nat → Env
  | [] => ρ
  | v :: vs => (wipeE ρ vs).set v none
theorem EnvR.wipe {K : PySem.W.Frag} {mg : Str → Option Value} {R : Rg} {H : Hp} {st : Sto} {σ : L2.St} {ρ : Env} (E : EnvR K mg R st H σ ρ) : ∀ vs : List Nat, EnvR K mg R st H (L2.wipe σ vs) (wipeE ρ vs)
  | [] => E
  | v :: vs => (EnvR.wipe E vs).unset v
/-- the turns: acc is what is made so far -/
noncomputable def loopC (ok : Sto → Prop) (t : Tg) (test : Env → M Bool) (elt : Env → M D) (ρ : Env) : List D → List PyData → Sto → Res D
  | [], acc, st => if ok st then .ok (.dat (.list acc)) st else .bad
  | d :: ds, acc, st => if ok st ∧ acc.length ≤ 100000 then match t d ρ with
      | some ρ1 => match test ρ1 st with
        | .ok true st1 => match elt ρ1 st1 with
          | .ok (.dat y) st2 => loopC ok t test elt ρ ds (acc ++ [y]) st2
          | _ => .bad
        | .ok false st1 => loopC ok t test elt ρ ds acc st1
        | _ => .bad
      | none => .bad
    else .bad
noncomputable def mLc (src : Env → M Src) (own : List Nat) (t : Tg) (test : Env → M Bool) (elt : Env → M D) : Env → M D := fun ρ => M.bind (src ρ) fun s => fun st => loopC s.ok t test elt (wipeE ρ own) s.items [] st
def mYes : Env → M Bool := fun _ => M.pure true
def W0 : WX := fun _ _ _ _ => False
structure EVTs (X : Cx) (W : WX) (es : List Expr) (m : Env → M Bool) : Prop where
  pts : PTs X es (tMB X.K X.mg W m)
theorem evts_nil {X : Cx} {W : WX} : EVTs X W [] mYes := by
  refine ⟨⟨fun pins s σ H Q I h => ?_⟩⟩
  obtain ⟨R, ρ, st, S, E, h⟩ := h
  exact pts_nil.run pins s σ H Q I (h.okR S rfl)
theorem evts_one {X : Cx} {W : WX} {c : Expr} {m : Env → M Bool} (h : EVT X W c m) : EVTs X W [c] m := ⟨pts_one h.pt⟩
theorem loopC_ok {ok : Sto → Prop} {t : Tg} {test : Env → M Bool} {elt : Env → M D} {ρ : Env} {ds : List D} {acc : List PyData} {st : Sto} (h : loopC ok t test elt ρ ds acc st ≠ .bad) : ok st := by
  by_cases z : ok st
  · exact z
  · cases ds with
    | nil => exact absurd (by simp [loopC, z]) h
    | cons d ds => exact absurd (by simp [loopC, z]) h
theorem Post.nb {K : PySem.W.Frag} {mg : Str → Option Value} {α β : Type} {Rel : RelT α β} {R : Rg} {H : Hp} {st : Sto} {r : Res α} {Q : β → Hp → Prop} {W : XK} (h : Post K mg Rel R H st r Q W) : r ≠ .bad := fun e => by rw [e] at h; exact h
section
variable {X : Cx} {W : WX} {elt tg iter : Expr} {ifs : List Expr} {scope : Scope} {own : List (Str × Nat)} {pos : Pos} {src : Env → M Src} {g : TG} {t : Tg} {sl : List Nat} {mt : Env → M Bool} {me : Env → M D}
theorem tLc_of (hg : ∀ (R : Rg) (st : Sto) (H : Hp) (σ : L2.St) (v : V) (d : D) (ρ ρ' : Env) (Q : L2.St → Hp → Prop), EnvR X.K X.mg R st H σ ρ → Dv X.K X.mg R st H v d → t d ρ = some ρ' →
      (∀ σ', EnvR X.K X.mg R st H σ' ρ' → (∀ vs, (∀ i ∈ sl, i ∈ vs) → wipe σ' vs = wipe σ vs) → Q σ' H) → g v σ H Q) (hsl : ∀ i ∈ sl, i ∈ own.map (·.2)) {σ : L2.St} {H : Hp} {Q : VK}
    (h : tM X.K X.mg W (mLc src (own.map (·.2)) t mt me) σ H Q) :
    tLc (tMI X.K X.mg W src) g (tMB X.K X.mg W0 mt) (tM X.K X.mg W0 me) (own.map (·.2)) σ H Q := by
  obtain ⟨R, ρ, st, S, E, h⟩ := h
  refine ⟨R, ρ, st, S, E, ?_⟩
  have hb := Post.bind (Rel := RelI X.K X.mg) (Rel2 := Dv X.K X.mg) h
  refine hb.monoQ fun J H1 ⟨R1, st1, s, x1, S1, wk, h1⟩ => fun D hD => ?_
  have E1 := E.ext x1
  -- Pv: the turns left tell what is wanted
  let Pv : Nat → Hp → Prop := fun i H' => ∃ R' st' acc vs, Ext (R1.hide D) (upd H1 D (.lst vs)) st1 R' H' st' ∧ Sim X.K R' H' st' ∧ H' D = some (.lst vs) ∧ PdA X.K (Own R' st') H' vs acc ∧
    Post X.K X.mg (Dv X.K X.mg) R1 H1 st1 (loopC s.ok t mt me (wipeE ρ (own.map (·.2))) (s.items.drop i) acc st') Q (fun c d H' => W c d σ H')
  refine ⟨fun i m H' => m = s.items.length - i ∧ i ≤ s.items.length ∧ Pv i H', ⟨s.items.length, by simp, Nat.zero_le _, R1.hide D, st1, [], [], .refl, sim_hide S1 hD, upd_same, .nil, h1⟩, ?_⟩
  rintro i m H' ⟨rfl, hi, R', st', acc, vs, xe, S', eD, pa, h'⟩
  have okk := loopC_ok h'.nb
  have eb := ext_back hD xe
  have e3 : R'.p = D :: R1.p := xe.pe
  have Sb : Sim X.K (R1.back R') H' st' := sim_back e3 S'
  have latR : Lat R1 H1 st1 R' H' st' := by
    refine ⟨fun n a h => eb.at_ h, ⟨fun a u z n => eb.stays.keep a u z n, fun a z => ?_⟩⟩
    by_cases h : a = D
    · exact .inr (h ▸ hD)
    · refine eb.stays.own a ?_
      rcases z with z | z
      · exact .inl z
      · rw [e3] at z
        rcases List.mem_cons.mp z with z | z
        · exact absurd z h
        · exact .inr z
  have hDp : D ∈ R'.p := by rw [e3]; exact List.mem_cons_self
  by_cases hlt : i < s.items.length
  · refine .inr ⟨wk.go i R' H' st' hlt latR S' okk, Pv (i + 1), fun H'' z => ⟨s.items.length - (i + 1), by omega, rfl, hlt, z⟩, fun x H2 y => ?_⟩
    obtain ⟨d0, ed0, dr⟩ : ∃ d, s.items[i]? = some d ∧ s.items.drop i = d :: s.items.drop (i + 1) := ⟨s.items[i], by simp [hlt], List.drop_eq_getElem_cons hlt⟩
    obtain ⟨x2, S2, d, ed, D2⟩ := wk.yld i R' H' st' x H2 hlt latR S' okk y
    rw [ed0] at ed
    obtain rfl : d0 = d := Option.some.inj ed
    rw [dr] at h'
    unfold loopC at h'
    have lena : acc.length ≤ 100000 := by
      by_cases q : acc.length ≤ 100000
      · exact q
      · rw [if_neg (fun z => q z.2)] at h'; exact h'.elim
    rw [if_pos ⟨okk, lena⟩] at h'
    have E0 : EnvR X.K X.mg R' st' H' (wipe σ (own.map (·.2))) (wipeE ρ (own.map (·.2))) := by
      refine EnvR.wipe ⟨E1.len, fun j e q => ?_⟩ _
      obtain ⟨v, q1, q2⟩ := E1.at_ j e q
      refine ⟨v, q1, ?_⟩
      cases e with
      | dat e => exact Pd.stays latR.stays q2
      | loc n => obtain ⟨a, h1, h2⟩ := q2; exact ⟨a, latR.at_ n a h1, h2⟩
      | glob x => exact q2
      | fz ds => obtain ⟨a, xs, h1, h2, h3⟩ := q2; exact ⟨a, xs, h1, h2.stays latR.stays, h3.stays latR.stays⟩
      | ty t => exact q2
      | raw t => exact q2
      | err u cls d x => exact ⟨q2.1, q2.2.stays latR.stays⟩
    cases z : t d0 (wipeE ρ (own.map (·.2))) with
    | none => rw [z] at h'; exact h'.elim
    | some ρ1 =>
      rw [z] at h'
      dsimp only at h'
      refine hg R' st' H2 _ x d0 _ ρ1 _ (E0.ext x2) D2 z fun σ1 E1' w1 => ⟨?_, ?_⟩
      · have a1 := w1 (own.map (·.2)) hsl
        rw [a1]
        have ww : ∀ (vs ws : List Nat), (∀ i ∈ vs, i ∈ ws) → wipe (wipe σ ws) vs = wipe σ ws := fun vs => by
          induction vs with
          | nil => intro _ _; rfl
          | cons v vs ih =>
            intro ws hw
            show (wipe (wipe σ ws) vs).set v none = wipe σ ws
            rw [ih ws fun i hi => hw i (List.mem_cons_of_mem _ hi)]
            have hv := hw v List.mem_cons_self
            refine List.ext_getElem? fun j => ?_
            by_cases hj : v = j
            · subst hj
              by_cases hl : v < (wipe σ ws).length
              · rw [List.getElem?_set_self hl]
                cases q : (wipe σ ws)[v]? with
                | none => rw [List.getElem?_eq_none_iff] at q; omega
                | some u =>
                  cases u with
                  | none => rfl
                  | some u => exact absurd hv (wipe_some q).2
              · rw [List.getElem?_eq_none (by simpa using hl), List.getElem?_eq_none (by simpa using hl)]
            · rw [List.getElem?_set_ne hj]
        exact ww _ _ fun _ h => h
      · have eD2 : H2 D = some (.lst vs) := x2.prv D hDp _ eD
        have pa2 : PdA X.K (Own R' st') H2 vs acc := pa.stays x2.stays
        have xe2 := xe.trans S' x2
        refine ⟨R', ρ1, st', S2, E1', ?_⟩
        cases zt : mt ρ1 st' with
        | bad => rw [zt] at h'; exact h'
        | exc _ _ => rw [zt] at h'; exact h'.elim
        | ok b st2 =>
          rw [zt] at h'
          intro b' R3 H3 x3 S3 eb3
          obtain rfl : b' = b := eb3
          have eD3 : H3 D = some (.lst vs) := x3.prv D hDp _ eD2
          have pa3 : PdA X.K (Own R3 st2) H3 vs acc := pa2.stays x3.stays
          have xe3 := xe2.trans S2 x3
          cases b' with
          | false =>
            rw [if_neg Bool.false_ne_true]
            exact ⟨R3, st2, acc, vs, xe3, S3, eD3, pa3, h'⟩
          | true =>
            rw [if_pos rfl]
            refine ⟨R3, ρ1, st2, S3, E1'.ext x3, ?_⟩
            dsimp only at h'
            cases zm : me ρ1 st2 with
            | bad => rw [zm] at h'; exact h'
            | exc _ _ => rw [zm] at h'; exact h'.elim
            | ok y3 st3 =>
              rw [zm] at h'
              cases y3 with
              | dat yd =>
                intro yv R4 H4 x4 S4 D4
                have e4 : R4.p = D :: R1.p := by rw [x4.pe, x3.pe, e3]
                have hD4 : D ∈ R4.p := by rw [e4]; exact List.mem_cons_self
                have hD3 : D ∈ R3.p := by rw [x3.pe]; exact hDp
                have eD4 : H4 D = some (.lst vs) := x4.prv D hD3 _ eD3
                have pa4 : PdA X.K (Own R4 st3) H4 (vs ++ [yv]) (acc ++ [yd]) := (pa3.stays x4.stays).snoc D4
                have xe4 := xe3.trans S3 x4
                refine ⟨vs, eD4, by rw [pa.len, sizeLine_eq]; omega, R4, st3, acc ++ [yd], vs ++ [yv], ?_, sim_prv S4 hD4, upd_same, ?_, h'⟩
                · have q := ext_prv (o' := .lst (vs ++ [yv])) (show D ∈ (R1.hide D).p from List.mem_cons_self) xe4
                  exact q
                · exact pa4.stays ⟨fun b u e n => by rw [upd_ne (show b ≠ D from fun z => n (.inr (z ▸ hD4)))]; exact e, fun b z => .inl z⟩
              | loc _ => exact h'.elim
              | glob _ => exact h'.elim
              | fz _ => exact h'.elim
              | ty _ => exact h'.elim
              | raw _ => exact h'.elim
              | err _ _ _ _ => exact h'.elim
  · have e : i = s.items.length := by omega
    subst e
    refine .inl ⟨wk.stop R' H' st' latR S' okk, ?_⟩
    rw [List.drop_length] at h'
    unfold loopC at h'
    rw [if_pos okk] at h'
    refine h' _ _ H' eb Sb ?_
    refine Pd.lst eD (fun z => ?_) (pa.stays (Stays.weak fun b z => ?_))
    · rcases z with ⟨n, ys, z1, _⟩ | z
      · exact S'.nr D (List.mem_of_getElem? z1) hDp
      · exact S1.freshP hD z
    · rcases z with z | z
      · exact .inl z
      · exact .inr (by rw [e3]; exact List.mem_cons_of_mem _ z)
theorem ev_lc (hc : X.calm = true) (hN : X.N.Nodup) (hi : EVI X W tg iter src) (ok : BlkOk X.N X.env.scope scope own)
    (hg : ∀ (s : Shared) (H : Hp) (C : Addr) (cl : List (Str × Addr)) (fp : List Addr), EVG (X.blk s H scope (compEnvC scope cl C X.env) fp) tg g t sl) (hsl : ∀ i ∈ sl, i ∈ own.map (·.2))
    (ht : ∀ (s : Shared) (H : Hp) (C : Addr) (cl : List (Str × Addr)) (fp : List Addr), EVTs (X.blk s H scope (compEnvC scope cl C X.env) fp) W0 ifs mt)
    (he : ∀ (s : Shared) (H : Hp) (C : Addr) (cl : List (Str × Addr)) (fp : List Addr), EV (X.blk s H scope (compEnvC scope cl C X.env) fp) W0 elt me) (hs : ∀ x, foldedSetIterable iter X.env x = pure x := by intro _; rfl) :
    EV X W (.ListComp elt [⟨tg, iter, ifs, 0⟩] scope pos) (mLc src (own.map (·.2)) t mt me) :=
  ⟨⟨fun pins s σ H Q I h => (pe_lc hc hN hi.pi ok (fun s H C cl fp => (hg s H C cl fp).pg) (fun s H C cl fp => (ht s H C cl fp).pts) (fun s H C cl fp => (he s H C cl fp).pe) hs).run pins s σ H Q I
    (tLc_of (hg s H 0 [] []).ok hsl h)⟩⟩
theorem evs_setLc {i : Nat} {y : Str} {py spos : Pos} (hc : X.calm = true) (hN : X.N.Nodup) (hy : X.N[i]? = some y) (hyl : X.env.scope.names.lookup y = some .local)
    (hsw : swapsWith (.ListComp elt [⟨tg, iter, ifs, 0⟩] scope pos) (some (.Name y py)) spos.line X.env = pure true) (hi : EVI X W tg iter src) (ok : BlkOk X.N X.env.scope scope own)
    (hg : ∀ (s : Shared) (H : Hp) (C : Addr) (cl : List (Str × Addr)) (fp : List Addr), EVG (X.blk s H scope (compEnvC scope cl C X.env) fp) tg g t sl) (hsl : ∀ i ∈ sl, i ∈ own.map (·.2))
    (ht : ∀ (s : Shared) (H : Hp) (C : Addr) (cl : List (Str × Addr)) (fp : List Addr), EVTs (X.blk s H scope (compEnvC scope cl C X.env) fp) W0 ifs mt)
    (he : ∀ (s : Shared) (H : Hp) (C : Addr) (cl : List (Str × Addr)) (fp : List Addr), EV (X.blk s H scope (compEnvC scope cl C X.env) fp) W0 elt me) (hs : ∀ x, foldedSetIterable iter X.env x = pure x := by intro _; rfl) :
    EVS X W (.Assign [.Name y py] (.ListComp elt [⟨tg, iter, ifs, 0⟩] scope pos) spos) (sSet i (mLc src (own.map (·.2)) t mt me)) :=
  ⟨⟨fun pins s σ H Dn I h => (ps_setLc hc hN hy hyl hsw hi.pi ok (fun s H C cl fp => (hg s H C cl fp).pg) (fun s H C cl fp => (ht s H C cl fp).pts) (fun s H C cl fp => (he s H C cl fp).pe) hs).run pins s σ H Dn I
    (tLc_of (W := W) (Q := fun x H1 => gName i x σ H1 Dn.nx) (hg s H 0 [] []).ok hsl (tAsg_of h))⟩⟩
end
end Ev
set_option Elab.async false
set_option linter.all false
set_option maxRecDepth 100000
set_option maxHeartbeats 4000000
/-! Ev8: methods of lists, x op= e, defs and their calls. -/
namespace Ev
open PySem PySem.Spec PyProof.Rows L2
open Classical

/-! ### methods of a list of the store -/
def MtOk (K : PySem.W.Frag) (mg : Str → Option Value) (T : String) (r : V → List V → Hp → VK → Prop) (f : D → List D → M D) : Prop :=
  (∀ (R : Rg) (H : Hp) (st : Sto) (v : V) (d : D) (ds : List D), Sim K R H st → Dv K mg R st H v d → f d ds st ≠ .bad → tyV K T v H) ∧
  ∀ (R : Rg) (H : Hp) (st : Sto) (v : V) (vs : List V) (d : D) (ds : List D) (Q : VK) (W : XK), Sim K R H st → Dv K mg R st H v d → DvA K mg R st H vs ds → Post K mg (Dv K mg) R H st (f d ds st) Q W → r v vs H Q
/-- the receiver must be there ahead of the arguments: a list of the store -/
def isLoc (d : D) : M D := fun st =>
  match d with
  | .loc n => match st[n]? with
    | some (.lst _) => .ok d st
    | _ => .bad
  | _ => .bad
def mMt (f : D → List D → M D) (mo : Env → M D) (ms : Env → M (List D)) : Env → M D := fun ρ => M.bind (mo ρ) fun o => M.bind (isLoc o) fun o => M.bind (ms ρ) fun ds => f o ds
def dAppend (o : D) (ds : List D) : M D := match ds with
  | [.dat y] => onLoc (fun xs => if xs.length ≤ 100000 then some (xs ++ [y], .none) else none) o
  | _ => M.bad
def dExtend (o : D) (ds : List D) : M D := match ds with
  | [d] => fun st => match dataOf d st with
    | some (.list ys) => onLoc (fun xs => if xs.length + ys.length ≤ 100000 then some (xs ++ ys, .none) else none) o st
    | _ => .bad
  | _ => M.bad
def dPopAt (o : D) (ds : List D) : M D := match ds with
  | [.dat (.int i)] => onLoc (fun xs => if xs.length ≤ 100000 then (match ixN xs.length i with
    | some k => (match xs[k]? with
      | some y => some (xs.eraseIdx k, y)
      | none => none)
    | none => none) else none) o
  | _ => M.bad
theorem PdA.erase {K : PySem.W.Frag} {U : Addr → Prop} {H : Hp} : ∀ {ds : List PyData} {vs : List V} (i : Nat), PdA K U H vs ds → PdA K U H (vs.eraseIdx i) (ds.eraseIdx i)
  | _, _, _, .nil => .nil
  | _, _, 0, .cons _ q => q
  | _, _, i + 1, .cons p q => .cons p (PdA.erase i q)
section
variable {K : PySem.W.Frag} {mg : Str → Option Value} {R : Rg} {H : Hp} {st : Sto} {v : V} {d : D} {Q : VK} {W : XK}
theorem okLoc {f : List PyData → Option (List PyData × PyData)} (S : Sim K R H st) (D1 : Dv K mg R st H v d) (h : Post K mg (Dv K mg) R H st (onLoc f d st) Q W) :
    ∃ n a xs ys r vs, d = .loc n ∧ v = .ref a ∧ R.r[n]? = some a ∧ st[n]? = some (Cell.lst xs) ∧ f xs = some (ys, r) ∧ H a = some (.lst vs) ∧ PdA K (Own R st) H vs xs ∧ Post K mg (Dv K mg) R H st (.ok (.dat r) (st.set n (.lst ys))) Q W := by
  unfold onLoc at h
  cases d with
  | loc n =>
    dsimp only at h
    obtain ⟨a, ha, rfl⟩ := D1
    cases z : st[n]? with
    | none => rw [z] at h; exact h.elim
    | some c =>
      rw [z] at h
      cases c with
      | dead => exact h.elim
      | lst xs =>
        dsimp only at h
        cases z2 : f xs with
        | none => rw [z2] at h; exact h.elim
        | some p =>
          obtain ⟨ys, r⟩ := p
          rw [z2] at h
          obtain ⟨vs, e1, e2⟩ := S.at_ n a xs ha z
          exact ⟨n, a, xs, ys, r, vs, rfl, rfl, ha, z, z2, e1, e2, h⟩
  | _ => exact h.elim
theorem ok_append : ∀ (R : Rg) (H : Hp) (st : Sto) (v : V) (vs : List V) (d : D) (ds : List D) (Q : VK) (W : XK), Sim K R H st → Dv K mg R st H v d → DvA K mg R st H vs ds → Post K mg (Dv K mg) R H st (dAppend d ds st) Q W → rAppend v vs H Q := by
  intro R H st v vs d ds Q W S D1 DA h
  unfold dAppend at h
  split at h
  · cases DA with
    | cons b c =>
      cases c
      obtain ⟨n, a, xs, ys, r, ws, rfl, rfl, ha, z, e, e1, e2, h⟩ := okLoc S D1 h
      split at e
      · rename_i hl
        cases e
        obtain ⟨x2, S2⟩ := ext_set S ha z (e2.snoc b)
        exact ⟨a, ws, _, rfl, rfl, e1, by rw [e2.len, sizeLine_eq]; omega, h _ _ _ x2 S2 Pd.non⟩
      · cases e
  · exact h.elim
theorem ok_extend : ∀ (R : Rg) (H : Hp) (st : Sto) (v : V) (vs : List V) (d : D) (ds : List D) (Q : VK) (W : XK), Sim K R H st → Dv K mg R st H v d → DvA K mg R st H vs ds → Post K mg (Dv K mg) R H st (dExtend d ds st) Q W → rExtend v vs H Q := by
  intro R H st v vs d ds Q W S D1 DA h
  unfold dExtend at h
  split at h
  · cases DA with
    | cons b c =>
      cases c
      split at h
      · rename_i ys0 z0
        obtain ⟨b', us, rfl, eb, pb⟩ := b.dataL S z0
        obtain ⟨n, a, xs, ys, r, ws, rfl, rfl, ha, z, e, e1, e2, h⟩ := okLoc S D1 h
        split at e
        · rename_i hl
          cases e
          obtain ⟨x2, S2⟩ := ext_set S ha z (e2.app pb)
          exact ⟨a, b', ws, us, rfl, rfl, e1, eb, small5 (by rw [e2.len, pb.len]; exact hl), h _ _ _ x2 S2 Pd.non⟩
        · cases e
      · exact h.elim
  · exact h.elim
theorem ok_popAt : ∀ (R : Rg) (H : Hp) (st : Sto) (v : V) (vs : List V) (d : D) (ds : List D) (Q : VK) (W : XK), Sim K R H st → Dv K mg R st H v d → DvA K mg R st H vs ds → Post K mg (Dv K mg) R H st (dPopAt d ds st) Q W → rPopAt v vs H Q := by
  intro R H st v vs d ds Q W S D1 DA h
  unfold dPopAt at h
  split at h
  · cases DA with
    | cons b c =>
      cases c
      cases b
      obtain ⟨n, a, xs, ys, r, ws, rfl, rfl, ha, z, e, e1, e2, h⟩ := okLoc S D1 h
      split at e
      · rename_i hl
        split at e
        · rename_i k z1
          split at e
          · rename_i y z2
            cases e
            obtain ⟨g1, g2, g3, g4⟩ := ixN_seq z1
            obtain ⟨u, eu, pu⟩ := e2.at_ z2
            obtain ⟨x2, S2⟩ := ext_set S ha z (e2.erase k)
            exact ⟨a, ws, _, k, u, rfl, rfl, e1, by omega, by omega, by rw [e2.len]; exact g1, eu, h _ _ _ x2 S2 (pu.stays x2.stays)⟩
          · cases e
        · cases e
      · cases e
  · exact h.elim
end
section
variable {X : Cx} {W : WX} {o e : Expr} {es : List Expr} {mo : Env → M D} {ms : Env → M (List D)} {name : Str} {apos cpos : Pos} {bid : String} {r : V → List V → Hp → VK → Prop} {f : D → List D → M D}
theorem ev_mt (pa : PlainAttrs "list") (slot : Slot "list" name bid) (hty : typeOf (.builtin bid) = pure (.type "method_descriptor")) (hm : MtR X bid r)
    (hf : ∀ (R : Rg) (H : Hp) (st : Sto) (v : V) (vs : List V) (d : D) (ds : List D) (Q : VK) (W : XK), Sim X.K R H st → Dv X.K X.mg R st H v d → DvA X.K X.mg R st H vs ds → Post X.K X.mg (Dv X.K X.mg) R H st (f d ds st) Q W → r v vs H Q)
    (ho : EV X W o mo) (ha : EVA X W (e :: es) ms)
    (hbase : attributeBase o name X.env (eval o X.env) = eval o X.env := by rfl)
    (hfew : ((backTo cpos (starEach (e :: es) X.env)).all (fun x => !x.1) && (backToKw cpos (keywordEach [] X.env)).all (fun x => x.1.isSome)
      && decide ((e :: es).length + ([] : List Keyword).length + (if ([] : List Keyword).isEmpty then 0 else 1) < 30)) = true := by rfl)
    (hline : (apos.endLine == cpos.line) = true := by rfl) (hs : starEach (e :: es) X.env = (false, eval e X.env) :: starEach es X.env := by rfl) (hplain : (backTo cpos (starEach es X.env)).any (·.1) = false := by rfl) :
    EV X W (.Call (.Attribute o name apos) (e :: es) [] cpos) (mMt f mo ms) := by
  refine ⟨PE.imp (pe_bm pa slot hty hm ho.pe ha.pa hbase hfew hline hs hplain) fun σ H Q h => ?_⟩
  obtain ⟨R, ρ, st, S, E, h⟩ := h
  refine ⟨R, ρ, st, S, E, (Post.bind (Rel := Dv X.K X.mg) (Rel2 := Dv X.K X.mg) h).monoQ fun v H1 ⟨R1, st1, d, x1, S1, D1, h1⟩ => ?_⟩
  unfold M.bind at h1
  cases d with
  | loc n =>
    unfold isLoc at h1
    dsimp only at h1
    cases z : st1[n]? with
    | none => rw [z] at h1; exact h1.elim
    | some c =>
      rw [z] at h1
      cases c with
      | dead => exact h1.elim
      | lst xs =>
        dsimp only at h1
        obtain ⟨a, ha', rfl⟩ := id D1
        obtain ⟨vs, e1, e2⟩ := S1.at_ n a xs ha' z
        refine ⟨.inl ⟨rfl, vs, .inl (.inl e1)⟩, R1, ρ, st1, S1, E.ext x1, ?_⟩
        have h2 : Post X.K X.mg (Dv X.K X.mg) R1 H1 st1 (M.bind (ms ρ) (fun ds => f (.loc n) ds) st1) Q (fun c d H' => W c d σ H') := h1
        exact (Post.bind (Rel := DvA X.K X.mg) (Rel2 := Dv X.K X.mg) h2).monoQ fun ws H2 ⟨R2, st2, ds, x2, S2, D2, h3⟩ => hf R2 H2 st2 _ ws _ ds Q _ S2 (Dv.ext x2 D1) D2 h3
  | _ => exact h1.elim
/-- x op= e: the operation by its function -/
theorem evs_aug {i : Nat} {x : Str} {op : Operator} {ti : TIp} {f : D → D → M D} {pos pos' : Pos} {me : Env → M D} (hN : X.N.Nodup) (hi : X.N[i]? = some x) (hx : Loc X.env.scope x) (he : EV X W e me) (ho : PIp X op ti)
    (hf : OpOk X.K X.mg ti f) (hf' : X.fn x = true ∨ X.env.scope.names.lookup x = some .local := by first | exact .inl rfl | exact .inr rfl | assumption) :
    EVS X W (.AugAssign (.Name x pos') op e pos) (sBind (vr i) fun y => sBind me fun z => sBind (fun _ => f y z) fun w ρ st => .nx (ρ.set i (some w)) st) := by
  refine ⟨PS.imp (ps_aug hN hi hx he.pe ho hf') fun Dn σ H h => ?_⟩
  obtain ⟨R, ρ, st, S, E, h⟩ := h
  unfold sBind at h
  dsimp only at h
  unfold vr at h
  cases q : ρ[i]? with
  | none => rw [q] at h; exact h.elim
  | some y =>
    rw [q] at h
    cases y with
    | none => exact h.elim
    | some y =>
      dsimp only at h
      obtain ⟨v, h1, h2⟩ := E.at_ i y q
      have h' : PostS X.K X.mg R H st (sBind me (fun z => sBind (fun _ => f y z) fun w ρ st => .nx (ρ.set i (some w)) st) ρ st) Dn W := h
      refine ⟨v, h1, R, ρ, st, S, E, ?_⟩
      refine (PostS.bind (Rel := fun R st H (b : V) d => Dv X.K X.mg R st H v y ∧ Dv X.K X.mg R st H b d) E h') |> fun k => ?_
      revert k
      cases zz : me ρ st with
      | bad => exact fun q => q
      | exc x st' => exact fun q => q
      | ok d2 st2 =>
        intro k w R2 H2 x2 S2 D2
        obtain ⟨R2', st2', d, S2', E2, ⟨D1', D2'⟩, h3⟩ := k w R2 H2 x2 S2 ⟨h2.ext x2, D2⟩
        have h4 := PostS.bind (Rel := Dv X.K X.mg) E2 h3
        exact hf R2' H2 st2' v w y d _ _ S2' D1' D2' (h4.monoQ fun b H3 ⟨R3, st3, d3, S3, E3, D3, h5⟩ => h5 _ R3 H3 .refl S3 (E3.set i D3))
end

/-! ### defs -/
def startE (n : Nat) (ds : List D) : Env := ds.map some ++ List.replicate (n - ds.length) none
/-- what is handed back: a list of the def's own is frozen, the store is as long as before -/
def giveD (n0 : Nat) (d : D) (st : Sto) : Res D :=
  match d with
  | .loc m => if m < n0 then .ok (.loc m) (st.take n0) else match st[m]? with
    | some (.lst xs) => .ok (.dat (.list xs)) (st.take n0)
    | _ => .bad
  | d => .ok d (st.take n0)
/-- the same of a def that makes a list that is to change -/
def giveL (n0 : Nat) (d : D) (st : Sto) : Res D :=
  match d with
  | .loc m => if m < n0 then .bad else match st[m]? with
    | some (.lst xs) => .ok (.loc n0) (st.take n0 ++ [.lst xs])
    | _ => .bad
  | _ => .bad
def runBody (give : Nat → D → Sto → Res D) (n np : Nat) (body : SM) (ds : List D) : M D := fun st =>
  if ds.length = np then match body (startE n ds) st with
    | .nx _ st' => give st.length (.dat .none) st'
    | .rt d st' => give st.length d st'
    | .exc x _ st' => .exc x (st'.take st.length)
    | _ => .bad
  else .bad
abbrev runB := runBody giveD
abbrev runL := runBody giveL
def SpF (K : PySem.W.Frag) (mg : Str → Option Value) (F : List D → M D) : Sp := fun vs H Q E => ∃ R st ds, Sim K R H st ∧ DvA K mg R st H vs ds ∧ Post K mg (Dv K mg) R H st (F ds st) Q E
/-- what stands around: no guards; sys.modules lies below -/
def Gd (A : Around) (base : Heap) : Prop := A.guards = some [] ∧ ∃ o, base.get? sysModules = some o
structure FnG (P : Program) (w : World) (K : PySem.W.Frag) (mg : Str → Option Value) (base : Heap) (k : Nat) (f : Addr) (fd : FuncData) (ps : List Str) (F : List D → M D) : Prop where
  ar : ∀ ds st, ds.length ≠ ps.length → F ds st = .bad
  run : ∀ (A : Around) (outer : List PySem.Env) (s : Shared) (H : Hp) (args : Args) (us : List Value) (vs : List V) (Q : VK) (E : XK), Room k A → Gd A base → Env0 P w K mg base A outer s H → BindsTo s fd args (ps.zip us) → Vals vs us → SpF K mg F vs H Q E →
    codeAny (model P w) A (.call (.ref f) args) (CR (L2.CX P w) outer P w H s Q E) s
theorem FnG.mono {P : Program} {w : World} {K : PySem.W.Frag} {mg : Str → Option Value} {base : Heap} {j k : Nat} {f : Addr} {fd : FuncData} {ps : List Str} {F : List D → M D} (G : FnG P w K mg base j f fd ps F) (h : j ≤ k) : FnG P w K mg base k f fd ps F :=
  ⟨G.ar, fun A outer s H args us vs Q E hr => G.run A outer s H args us vs Q E (hr.mono h)⟩
section
variable {K : PySem.W.Frag} {mg : Str → Option Value} {R R' : Rg} {H H' : Hp} {st st' : Sto}
theorem own_take {a : Addr} (e : Ext R H st R' H' st') (S : Sim K R H st) (h : Own R (st'.take st.length) a) : Own R' st' a := by
  rcases h with ⟨n, xs, h1, h2⟩ | h
  · refine .inl ⟨n, xs, e.at_ h1, ?_⟩
    have hn : n < st.length := by rw [← S.len]; exact (List.getElem?_eq_some_iff.mp h1).1
    rw [List.getElem?_take_of_lt hn] at h2
    exact h2
  · exact .inr (by rw [e.pe]; exact h)
theorem len_take (e : Ext R H st R' H' st') (S : Sim K R H st) (S' : Sim K R' H' st') : (st'.take st.length).length = st.length := by
  obtain ⟨Z, e1, _⟩ := e.pre
  have h1 := S'.len
  rw [e1, List.length_append, S.len] at h1
  rw [List.length_take]
  omega
/-- behind a call: what the def made for itself is forgotten -/
theorem ext_take (e : Ext R H st R' H' st') (S : Sim K R H st) (S' : Sim K R' H' st') : Ext R H st R H' (st'.take st.length) ∧ Sim K R H' (st'.take st.length) := by
  refine ⟨⟨⟨[], by simp, fun _ h => by cases h⟩, rfl, e.prv, ⟨e.stays.keep, fun a z => e.stays.own a (own_take e S z)⟩⟩, ⟨by rw [len_take e S S', S.len], S.nd, S.nr, fun a ha => ?_, fun n a xs h1 h2 => ?_⟩⟩
  · refine S'.trk a ?_
    rcases ha with h | h
    · obtain ⟨Z, e1, _⟩ := e.pre
      exact .inl (by rw [e1]; exact List.mem_append_left _ h)
    · exact .inr (by rw [e.pe]; exact h)
  · have hn : n < st.length := by rw [← S.len]; exact (List.getElem?_eq_some_iff.mp h1).1
    rw [List.getElem?_take_of_lt hn] at h2
    obtain ⟨vs, e1, e2⟩ := S'.at_ n a xs (e.at_ h1) h2
    exact ⟨vs, e1, e2.stays (Stays.weak fun b z => own_take e S z)⟩
def GiveOk (give : Nat → D → Sto → Res D) : Prop :=
  ∀ (K : PySem.W.Frag) (mg : Str → Option Value) (R R' : Rg) (H H' : Hp) (st st' : Sto) (v : V) (d : D) (Q : VK) (W : XK), Sim K R H st → Ext R H st R' H' st' → Sim K R' H' st' → Dv K mg R' st' H' v d → Post K mg (Dv K mg) R H st (give st.length d st') Q W → Q v H'
theorem giveD_ok : GiveOk giveD := by
  intro K mg R R' H H' st st' v d Q W S e S' D1 h
  obtain ⟨x, Sx⟩ := ext_take e S S'
  unfold giveD at h
  cases d with
  | loc m =>
    dsimp only at h
    obtain ⟨a, ha, rfl⟩ := D1
    by_cases hm : m < st.length
    · rw [if_pos hm] at h
      refine h _ _ _ x Sx ⟨a, ?_, rfl⟩
      obtain ⟨Z, e1, _⟩ := e.pre
      rw [e1, List.getElem?_append_left (by rw [S.len]; exact hm)] at ha
      exact ha
    · rw [if_neg hm] at h
      cases z : st'[m]? with
      | none => rw [z] at h; exact h.elim
      | some c =>
        rw [z] at h
        cases c with
        | dead => exact h.elim
        | lst xs =>
          obtain ⟨vs, e1, e2⟩ := S'.at_ m a xs ha z
          refine h _ _ _ x Sx (Pd.lst e1 (fun o => ?_) (e2.stays (Stays.weak fun b z => own_take e S z)))
          rcases o with ⟨n, ys, h1, h2⟩ | o
          · have h1' := e.at_ h1
            obtain ⟨l1, g1⟩ := List.getElem?_eq_some_iff.mp h1'
            obtain ⟨l2, g2⟩ := List.getElem?_eq_some_iff.mp ha
            have en := (List.getElem_inj S'.nd).mp (g1.trans g2.symm)
            have hn : n < st.length := by rw [← S.len]; exact (List.getElem?_eq_some_iff.mp h1).1
            omega
          · exact S'.nr a (List.mem_of_getElem? ha) (by rw [e.pe]; exact o)
  | dat y => exact h _ _ _ x Sx (Pd.stays (Stays.weak fun b z => own_take e S z) D1)
  | glob y => exact h _ _ _ x Sx D1
  | fz ds =>
    obtain ⟨a, xs, h1, h2, h3⟩ := D1
    have st0 : Stays (Own R' st') (Own R (st'.take st.length)) H' H' := Stays.weak fun b z => own_take e S z
    exact h _ _ _ x Sx ⟨a, xs, h1, h2.stays st0, h3.stays st0⟩
  | ty t => exact h _ _ _ x Sx D1
  | raw t => exact h _ _ _ x Sx D1
  | err u cls dd y => exact h _ _ _ x Sx ⟨D1.1, D1.2.stays (Stays.weak fun b z => own_take e S z)⟩
theorem giveL_ok : GiveOk giveL := by
  intro K mg R R' H H' st st' v d Q W S e S' D1 h
  obtain ⟨x, Sx⟩ := ext_take e S S'
  unfold giveL at h
  cases d with
  | loc m =>
    dsimp only at h
    obtain ⟨a, ha, rfl⟩ := D1
    by_cases hm : m < st.length
    · rw [if_pos hm] at h; exact h.elim
    · rw [if_neg hm] at h
      cases z : st'[m]? with
      | none => rw [z] at h; exact h.elim
      | some c =>
        rw [z] at h
        cases c with
        | dead => exact h.elim
        | lst xs =>
          dsimp only at h
          obtain ⟨vs, e1, e2⟩ := S'.at_ m a xs ha z
          have lt := len_take e S S'
          have aR : a ∉ R.r := fun q => by
            obtain ⟨n, hn⟩ := List.mem_iff_getElem?.mp q
            have h1' := e.at_ hn
            obtain ⟨l1, g1⟩ := List.getElem?_eq_some_iff.mp h1'
            obtain ⟨l2, g2⟩ := List.getElem?_eq_some_iff.mp ha
            have en := (List.getElem_inj S'.nd).mp (g1.trans g2.symm)
            have hn2 : n < st.length := by rw [← S.len]; exact (List.getElem?_eq_some_iff.mp hn).1
            omega
          have aP : a ∉ R.p := fun q => S'.nr a (List.mem_of_getElem? ha) (by rw [e.pe]; exact q)
          have own : ∀ b, Own (R.put a) (st'.take st.length ++ [.lst xs]) b → Own R (st'.take st.length) b ∨ b = a := by
            rintro b (⟨n, ys, h1, h2⟩ | o)
            · unfold Rg.put at h1
              dsimp only at h1
              by_cases hn : n < R.r.length
              · rw [List.getElem?_append_left hn] at h1
                rw [List.getElem?_append_left (by rw [lt, ← S.len]; exact hn)] at h2
                exact .inl (.inl ⟨n, ys, h1, h2⟩)
              · right
                rw [List.getElem?_append_right (by omega)] at h1
                have := List.mem_of_getElem? h1
                simpa using this
            · exact .inl (.inr o)
          have own' : ∀ b, Own (R.put a) (st'.take st.length ++ [.lst xs]) b → Own R' st' b := fun b z2 => by
            rcases own b z2 with q | q
            · exact own_take e S q
            · exact .inl ⟨m, xs, by rw [q]; exact ha, z⟩
          have Ha : H a = none := by
            obtain ⟨Z, z1, z2⟩ := e.pre
            refine z2 a ?_
            have q := List.mem_of_getElem? ha
            rw [z1] at q
            rcases List.mem_append.mp q with q | q
            · exact absurd q aR
            · exact q
          refine h (.ref a) (R.put a) H' ⟨⟨[a], rfl, fun b hb => by rw [List.mem_singleton.mp hb]; exact Ha⟩, rfl, e.prv, ⟨e.stays.keep, fun b z2 => ?_⟩⟩ ⟨?_, ?_, ?_, ?_, ?_⟩ ?_
          · exact e.stays.own b (own' b z2)
          · unfold Rg.put; simp only [List.length_append, List.length_singleton]; rw [lt, S.len]
          · exact List.nodup_append.mpr ⟨S.nd, by simp, fun b hb c hc => by rw [List.mem_singleton.mp hc]; exact fun q => aR (q ▸ hb)⟩
          · intro b hb
            rcases List.mem_append.mp hb with q | q
            · exact S.nr b q
            · rw [List.mem_singleton.mp q]; exact aP
          · intro b hb
            rcases hb with q | q
            · rcases List.mem_append.mp q with q | q
              · exact Sx.trk b (.inl q)
              · rw [List.mem_singleton.mp q, e1]; simp
            · exact Sx.trk b (.inr q)
          · intro n b ys h1 h2
            have st0 : Stays (Own R' st') (Own (R.put a) (st'.take st.length ++ [.lst xs])) H' H' := Stays.weak own'
            unfold Rg.put at h1
            dsimp only at h1
            by_cases hn : n < R.r.length
            · rw [List.getElem?_append_left hn] at h1
              rw [List.getElem?_append_left (by rw [lt, ← S.len]; exact hn), List.getElem?_take_of_lt (by rw [← S.len]; exact hn)] at h2
              obtain ⟨ws, w1, w2⟩ := S'.at_ n b ys (e.at_ h1) h2
              exact ⟨ws, w1, w2.stays st0⟩
            · rw [List.getElem?_append_right (by omega)] at h1
              rw [List.getElem?_append_right (by rw [lt, ← S.len]; omega)] at h2
              have q1 : b = a := by
                have := List.mem_of_getElem? h1
                simpa using this
              have q2 : Cell.lst ys = Cell.lst xs := by
                have := List.mem_of_getElem? h2
                simpa using this
              cases q2
              exact ⟨vs, by rw [q1]; exact e1, e2.stays st0⟩
          · refine ⟨a, ?_, rfl⟩
            unfold Rg.put
            dsimp only
            rw [← S.len, List.getElem?_append_right (Nat.le_refl _), Nat.sub_self]
            rfl
  | _ => exact h.elim
end
theorem start_env {K : PySem.W.Frag} {mg : Str → Option Value} {R : Rg} {H : Hp} {st : Sto} {N : List Str} {vs : List V} {ds : List D} (DA : DvA K mg R st H vs ds) : EnvR K mg R st H (L2.start N vs) (startE N.length ds) := by
  have hl := DA.len
  refine ⟨by unfold L2.start startE; simp [hl], fun i d q => ?_⟩
  unfold startE at q
  by_cases hi : i < ds.length
  · rw [List.getElem?_append_left (by simpa using hi), List.getElem?_map] at q
    cases e : ds[i]? with
    | none => rw [e] at q; cases q
    | some x =>
      rw [e] at q
      cases q
      obtain ⟨v, h1, h2⟩ := DA.at_ e
      refine ⟨v, ?_, h2⟩
      unfold L2.start
      rw [List.getElem?_append_left (by simpa [hl] using hi), List.getElem?_map, h1]
      rfl
  · rw [List.getElem?_append_right (by simpa using hi), List.getElem?_replicate] at q
    split at q <;> cases q
/-- THE RULE for a def -/
theorem fnG_of {P : Program} {w : World} {K : PySem.W.Frag} {mg : Str → Option Value} {base : Heap} {x qual : Str} {st : Stmt} {f : Addr} {fd : FuncData} {N ps : List Str} {k : Nat} {body : SM} {give : Nat → D → Sto → Res D} (hgive : GiveOk give)
    (F : Fun K x qual st f fd) (S : FnScope N ps (defScope st))
    (hb : ∀ (cdv : Value) (A : Around) (outer : List PySem.Env) (s : Shared) (H : Hp) (E : XK), Room k (A.deeper (envOfC qual (defScope st) s.heap.objs.size f cdv)) → Gd A base →
      EVSs (cxOf (L2.CX P w) P w K mg base N qual (defScope st) f cdv A outer s H E) (fun c d _ H' => E c d H') (defBody st) body) :
    FnG P w K mg base (k + 1) f fd ps (runBody give N.length ps.length body) := by
  refine ⟨fun ds st h => by unfold runBody; rw [if_neg h], fun A outer s H args us vs Q E hr hgd e0 hbd rv hsp => ?_⟩
  obtain ⟨oc, od, kV, doc, pm, an, cdv, ct, osl, rfl, lk, hcd⟩ := F.ex
  obtain ⟨R, sto, ds, Sm, DA, hp⟩ := hsp
  have hlen : ds.length = ps.length := by
    by_cases q : ds.length = ps.length
    · exact q
    · unfold runBody at hp
      rw [if_neg q] at hp
      exact hp.elim
  have hl : vs.length = ps.length := by rw [DA.len]; exact hlen
  have KX : K.In s.heap := e0.mod.kin.keeps fun b o e => (e0.bs b o e).1
  have lim : s.heap.NoLimit := e0.mod.nolimit.keeps fun b o e => (e0.bs b o e).1
  have kinds : ∀ y ∈ ps.zip us, (defScope st).names.lookup y.1 = some .local ∨ ((defScope st).names.lookup y.1 = some .cell ∧ ((cellsFrom (s.heap.objs.size + 1) (defScope st).names []).lookup y.1).isSome = true) := by
    rintro ⟨n, v⟩ hy
    rcases S.par n (List.of_mem_zip hy).1 with q | q
    · exact .inl q
    · exact .inr ⟨q, PySem.W.cellsFrom_some _ _ _ (.inl q)⟩
  refine codeAny_call_function hr.depth (KX _ _ lk) rfl S.co S.gen rfl (PySem.W.codeRec_of KX hcd) (hbd _ _ _ _ (wpAny_newFunctionEnv_cells S.kind kinds fun env he s1 xc => ?_))
  subst he
  refine ⟨lim.keeps xc.toInCall.keep, codeAny_func ?_⟩
  have I := inv_start (CX := L2.CX P w) (E := E) S hr.hd e0 hl rv xc
  refine wpAny_mono ((hb cdv A outer s H E (hr.deeper _) hgd).ps.run [] s1 (L2.start N vs) H { nx := fun _ H' => Q .non H', rt := Q } I ⟨R, startE N.length ds, sto, Sm, start_env DA, ?_⟩) (fun fl s' hs => ?_) fun e s' hs => hs
  · unfold runBody at hp
    rw [if_pos hlen] at hp
    cases z : body (startE N.length ds) sto with
    | nx ρ' st' =>
      rw [z] at hp
      exact fun σ' R' H' e' s' q => hgive K mg R R' H H' sto st' .non _ Q E Sm e' s' Dv.non hp
    | rt d st' =>
      rw [z] at hp
      exact fun v R' H' e' s' q => hgive K mg R R' H H' sto st' v d Q E Sm e' s' q hp
    | bk ρ' st' => rw [z] at hp; exact hp.elim
    | ct ρ' st' => rw [z] at hp; exact hp.elim
    | exc y ρ' st' =>
      rw [z] at hp
      intro σ' R' H' cls dx e' s' q ex
      obtain ⟨x2, S2⟩ := ext_take e' Sm s'
      exact hp _ _ cls dx x2 S2 (ex.stays (Stays.weak fun b z => own_take e' Sm z))
    | bad => rw [z] at hp; exact hp.elim
  · have fin : ∀ {σ' : L2.St} {H' : Hp} {v : V} {u : Value}, L2.Inv (cxOf (L2.CX P w) P w K mg base N qual (defScope st) f cdv A outer s H E) [] σ' H' s' → RelV v u → Q v H' → CE outer P w H s Q u s' :=
      fun {σ' H' v u} J rv q => ⟨v, H', J.os, J.bare, J.base, J.hok, rv, q⟩
    cases fl with
    | ret u =>
      obtain ⟨v, σ', H', J, rv, q⟩ := hs
      exact fin J rv q
    | next =>
      obtain ⟨σ', H', J, q⟩ := hs
      exact fin (v := V.non) (u := Value.none) J rfl q
    | brk =>
      obtain ⟨_, _, _, q⟩ := hs
      exact q.elim
    | cont =>
      obtain ⟨_, _, _, q⟩ := hs
      exact q.elim

/-! ### calls -/
/-- what stands around a piece of code -/
structure GC (X : Cx) (W : WX) (k : Nat) : Prop where
  room : Room k X.A
  gd : Gd X.A X.base
  tk : Takes X W
theorem runG {X : Cx} {W : WX} {k : Nat} {f : Addr} {fd : FuncData} {ps : List Str} {F : List D → M D} {args : Args} {us : List Value} {vs : List V} {pins : List (Addr × Obj)} {σ : L2.St} {H : Hp} {s : Shared} {Q : VK}
    (G : FnG X.prog X.w X.K X.mg X.base k f fd ps F) (C : GC X W k) (I : L2.Inv X pins σ H s) (hb : BindsTo s fd args (ps.zip us)) (r : Vals vs us) (h : SpF X.K X.mg F vs H Q (fun c d H' => W c d σ H')) :
    codeAny (model X.prog X.w) X.A (.call (.ref f) args) (fun r s' => match r with | .ok (.ret u) => EP X pins σ Q u s' | .ok _ => False | .error e => X.xe e s') s := by
  refine codeAny_mono (G.run X.A X.stack s H args us vs Q _ C.room C.gd I.env0 hb r h) fun r s' hq => ?_
  cases r with
  | error e => exact passAt C.tk σ pins H s e s' I hq
  | ok fl =>
    cases fl with
    | ret u => exact I.after hq
    | next => exact hq.elim
    | brk => exact hq.elim
    | cont => exact hq.elim
section
variable {X : Cx} {W : WX} {k : Nat} {f : Addr} {fd : FuncData} {ps : List Str} {F : List D → M D} {x : Str} {p pos : Pos} {e : Expr} {es : List Expr} {ms : Env → M (List D)}
/-- f(e, ..), every parameter given by its place -/
theorem ev_call (G : FnG X.prog X.w X.K X.mg X.base k f fd ps F) (C : GC X W k) (hg : Gl X x) (hm : X.mg x = some (.ref f)) (hk : PySem.W.keepIn X.K (.ref f) = true) (hb : Binds X.K fd ps []) (ha : EVA X W (e :: es) ms)
    (hdb : (x == ("__debug__" : Str)) = false := by decide) (he : starEach (e :: es) X.env = (false, eval e X.env) :: starEach es X.env := by rfl) (hpl : (backTo pos (starEach es X.env)).any (·.1) = false := by rfl) :
    EV X W (.Call (.Name x p) (e :: es) [] pos) (mC F ms) := by
  refine ⟨⟨fun pins s σ H Q I h => ?_⟩⟩
  refine wpAny_Call_Name_kw (ld_glob I hg hm ?_ hdb)
  obtain ⟨R, ρ, st, S, E, h⟩ := tA_of (β := V) h
  refine PySem.W.callWith_K (h₀ := X.base) I.ok.mod.kin hk (thn (ha.pa.run pos pins s σ H (fun vs H1 => SpF X.K X.mg F vs H1 Q (fun c d H' => W c d σ H')) I
    ⟨R, ρ, st, S, E, h.monoQ fun vs H1 ⟨R1, st1, ds, S1, D1, h2⟩ => ⟨R1, st1, ds, S1, D1, h2⟩⟩) fun us s1 ⟨vs, H1, I1, r, q⟩ => ⟨I1.kIn, ?_⟩) he hpl
  have hl : us.length = ps.length := by
    obtain ⟨R1, st1, ds, S1, D1, h2⟩ := id q
    rw [← r.length, D1.len]
    by_cases z : ds.length = ps.length
    · exact z
    · rw [G.ar ds st1 z] at h2
      exact h2.elim
  have b := hb s1 us I1.kIn (by rw [List.append_nil]; exact hl)
  rw [List.append_nil] at b
  refine wpAny_call (codeAny_mono (runG G C I1 b r q) fun r s' hq => ?_)
  cases r with
  | error e => exact hq
  | ok fl =>
    cases fl with
    | ret u => exact hq
    | next => exact hq.elim
    | brk => exact hq.elim
    | cont => exact hq.elim
end
end Ev
set_option Elab.async false
set_option linter.all false
set_option maxRecDepth 100000
set_option maxHeartbeats 4000000
/-! Ev9: a law's end, by its def's rule. -/
namespace Ev
open PySem PySem.Spec PyProof.Rows L2
open Classical

theorem pdA_ints {K : PySem.W.Frag} {U : Addr → Prop} {H : Hp} : ∀ ns : List Int, PdA K U H (ns.map V.int) (ns.map PyData.int)
  | [] => .nil
  | n :: r => .cons (.int n) (pdA_ints r)
section
variable {P : Program} {w : World} {K : PySem.W.Frag} {mg mb : Str → Option Value} {k : Nat} {fa ad : Addr} {fd : FuncData} {x : Str} {F : List D → M D} {s : Shared} {us : List Value} {ns : List Int}
theorem _root_.PyProof.Rows.Top.sysm {p : Program} {loose : List Str} {mean : ExcName → Option Value} {mg mb : Str → Option Value} {h : Heap} (T : Top p loose mean mg mb h) (hi : importsNone p = true) : ∃ o es ep, h.get? sysModules = some o ∧ o.data = .dict es ep :=
  let ⟨_, ⟨o, es, ep, a, b, _⟩, _⟩ := (T.seer hi).mods; ⟨o, es, ep, a, b⟩
/-- what the judge of a call wants -/
def Told (s : Shared) : Result → Shared → Prop := fun r s' => r = .ok (.ret (.bool true)) ∧ OldK s.heap s'.heap ∧ s'.os = s.os ∧ AllBare s'.gens
/-- over a heap in which nothing but the script may be tracked -/
theorem end_core {G : Hp} (kin : K.In s.heap) (ng : s.heap.Ns mainGlobals mg) (nb : s.heap.Ns builtinsNs mb) (bb : ∀ y : Str, y ≠ "__name__" → mb y = bootBuiltins y) (nl : s.heap.NoLimit) (sy : ∃ o es ep, s.heap.get? sysModules = some o ∧ o.data = .dict es ep) (gn : s.gens = #[])
    (hz : ∀ b, G b ≠ none → b = ad) (only : ∀ b, G b = none ∨ ∃ o xs, G b = some (.frz o (.lst xs))) (noD : ∀ o es ep, s.heap.get? ad = some o → o.data ≠ .dict es ep) (noK : G ad ≠ none → K.lookup ad = none)
    (hk : HOk P w G s.heap) (rm : Room k callerA) (Fn : ∀ bs : Heap, K.In bs → bs.Ns mainGlobals mg → FnG P w K mg bs k fa fd [x] F) (bd : BindsTo s fd ⟨[.ref ad], []⟩ [(x, .ref ad)])
    (hL : LstAt K (fun _ => False) G ad (ns.map V.int)) (hv : ∃ st', F [.fz (ns.map PyData.int)] [] = .ok (.dat (.bool true)) st') :
    codeAny (model P w) callerA (.call (.ref fa) ⟨[.ref ad], []⟩) (Told s) s := by
  have keepN : ∀ {b : Addr} {m : Str → Option Value}, s.heap.Ns b m → (hidT s.heap G).Ns b m := fun {b m} ⟨o, es, ep, e, dd, rr⟩ => by
    refine ⟨o, es, ep, hidT_get e ?_, dd, rr⟩
    cases q : G b with
    | none => rfl
    | some u =>
      obtain rfl := hz b (by rw [q]; exact Option.some_ne_none u)
      exact absurd dd (noD o es ep e)
  have kin2 : K.In (hidT s.heap G) := fun b o e => by
    refine hidT_get (kin b o e) ?_
    cases q : G b with
    | none => rfl
    | some u =>
      obtain rfl := hz b (by rw [q]; exact Option.some_ne_none u)
      rw [noK (by rw [q]; exact Option.some_ne_none u)] at e
      cases e
  obtain ⟨mc, l1, l2⟩ := nl
  have md : Mod K mg (hidT s.heap G) := { kin := kin2, glob := keepN ng, blt := ⟨mb, keepN nb, bb⟩, nolimit := ⟨mc, keepN l1, l2⟩ }
  have sy2 : ∃ o, (hidT s.heap G).get? sysModules = some o := by
    obtain ⟨o, es, ep, e, dd⟩ := sy
    refine ⟨o, hidT_get e ?_⟩
    cases q : G sysModules with
    | none => rfl
    | some u =>
      obtain z := hz _ (by rw [q]; exact Option.some_ne_none u)
      rw [z] at e
      exact absurd dd (noD o es ep e)
  have ev : Env0 P w K mg (hidT s.heap G) callerA [] s G :=
    { frames := rfl, mod := md, bs := fun b o e => of_hidT e, bsz := Nat.le_of_eq (hidT_size _ _), funs := trivial, frf := fun b hb => (List.not_mem_nil hb).elim, hok := hk, bare := .of_eq gn }
  obtain ⟨st', hv⟩ := hv
  have own0 : ∀ b, Own ⟨[], []⟩ [] b → False := fun b z => by
    rcases z with ⟨n, xs, z1, _⟩ | z1
    · cases z1
    · cases z1
  have sm : Sim K ⟨[], []⟩ G [] := { len := rfl, nd := List.nodup_nil, nr := (fun a h => by cases h), trk := (fun a h => by rcases h with h | h <;> cases h), at_ := (fun n a xs h => by cases h) }
  have stz : Stays (fun _ => False) (Own ⟨[], []⟩ []) G G := Stays.weak own0
  have spf : SpF K mg F [.ref ad] G (fun v _ => v = .bl true) (fun _ _ _ => False) := by
    refine ⟨⟨[], []⟩, [], [.fz (ns.map PyData.int)], sm, .cons ⟨ad, _, rfl, hL.stays stz, pdA_ints ns⟩ .nil, ?_⟩
    rw [hv]
    intro v R' H' _ _ q
    cases q
    rfl
  refine codeAny_mono ((Fn _ kin2 (keepN ng)).run callerA [] s G ⟨[.ref ad], []⟩ [.ref ad] [.ref ad] _ _ rm ⟨rfl, sy2⟩ ev bd (.cons rfl .nil) spf) fun r s' hr => ?_
  cases r with
  | error e =>
    obtain ⟨_, _, _, _, _, _, _, _, _, _, _, _, no⟩ := hr
    exact no.elim
  | ok fl =>
    cases fl with
    | ret u =>
      obtain ⟨v, H', os, bare, un, hk', rv, rfl⟩ := hr
      obtain rfl : u = Value.bool true := rv
      refine ⟨rfl, OldK.of_keep fun b o e => ?_, os, bare⟩
      rcases only b with q | ⟨ob, xs, q⟩
      · exact un.keep b o e q List.not_mem_nil List.not_mem_nil
      · obtain ⟨g1, _⟩ := hk b _ q
        obtain ⟨g2, _⟩ := hk' b _ (un.frzs b ob _ q)
        rw [e] at g1
        cases g1
        exact g2
    | next => exact hr.elim
    | brk => exact hr.elim
    | cont => exact hr.elim
/-- the law's call -/
theorem end_call (kin : K.In s.heap) (ng : s.heap.Ns mainGlobals mg) (nb : s.heap.Ns builtinsNs mb) (bb : ∀ y : Str, y ≠ "__name__" → mb y = bootBuiltins y) (nl : s.heap.NoLimit) (sy : ∃ o es ep, s.heap.get? sysModules = some o ∧ o.data = .dict es ep) (gn : s.gens = #[])
    (ho : s.heap.get? ad = some { cls := .type "list", data := .seq us.toArray }) (hi : IntsAre us ns) (hl : ns.length ≤ sizeLine) (rm : Room k callerA)
    (Fn : ∀ bs : Heap, K.In bs → bs.Ns mainGlobals mg → FnG P w K mg bs k fa fd [x] F) (bd : BindsTo s fd ⟨[.ref ad], []⟩ [(x, .ref ad)]) (hv : ∃ st', F [.fz (ns.map PyData.int)] [] = .ok (.dat (.bool true)) st') :
    codeAny (model P w) callerA (.call (.ref fa) ⟨[.ref ad], []⟩) (Told s) s := by
  have vi := vals_ints hi
  have noD : ∀ o es ep, s.heap.get? ad = some o → o.data ≠ .dict es ep := fun o es ep e z => by
    rw [ho] at e
    cases e
    cases (show Data.seq us.toArray _ = Data.dict es ep from z)
  cases q : K.lookup ad with
  | some o =>
    have e := kin ad o q
    rw [ho] at e
    cases e
    refine end_core (G := fun _ => none) kin ng nb bb nl sy gn (fun b z => absurd rfl z) (fun b => .inl rfl) noD (fun z => absurd rfl z) (fun b o z => by cases (show (none : Option HO) = some o from z)) rm Fn bd (.inr ⟨_, us.toArray, _, q, rfl, rfl, rfl, ?_, by simpa using vi⟩) hv
    rw [List.size_toArray, hi.length]
    exact hl
  | none =>
    let Z : HO := .frz { cls := .type "list", data := .seq us.toArray } (.lst (ns.map V.int))
    have z1 : (fun b => if b = ad then some Z else none) ad = some Z := if_pos rfl
    refine end_core (G := fun b => if b = ad then some Z else none) kin ng nb bb nl sy gn (fun b z => ?_) (fun b => ?_) noD (fun _ => q) (fun b o z => ?_) rm Fn bd (.inl ⟨.inr ⟨_, z1⟩, id⟩) hv
    · by_cases c : b = ad
      · exact c
      · exact absurd (if_neg c) z
    · by_cases c : b = ad
      · exact .inr ⟨_, _, if_pos c⟩
      · exact .inl (if_neg c)
    · by_cases c : b = ad
      · have e := (if_pos c).symm.trans z
        cases e
        subst c
        exact ⟨ho, by rw [List.length_map]; exact hl, us, _, vi, ho⟩
      · cases (if_neg c).symm.trans z
end
/-- the goal behind the head -/
theorem end_law {l : PySem.W.OpenLaw} {n k : Nat} {q : Program} {loose : List Str} {XP : (Str → Option Value) → Heap → Prop} {YP : World → Heap → Prop} {d : DefRec} {x : Str} {F : List D → M D}
    (hn : l.most = some n) (hn2 : n ≤ sizeLine) (hdf : d.params.defaults = []) (hi : importsNone q = true) (rm : Room k callerA)
    (Fn : ∀ (w : World) (mg : Str → Option Value) (fa : Addr) (h : Heap), YP w h → h.Ns mainGlobals mg → mg d.name = some (.ref fa) →
      ∃ (K : PySem.W.Frag) (fd : FuncData), K.In h ∧ (∀ (s : Shared) (u : Value), BindsTo s fd ⟨[u], []⟩ [(x, u)]) ∧
        ∀ bs : Heap, K.In bs → bs.Ns mainGlobals mg → FnG l.prog w K mg bs k fa fd [x] F)
    (hv : ∀ ns : List Int, ns.length ≤ n → (∀ i ∈ ns, Builtin.Int.intBits i ≤ 1048576) → ∃ st', F [.fz (ns.map PyData.int)] [] = .ok (.dat (.bool true)) st') :
    PySem.W.WalkO q loose XP YP l.row.toRowW d [] (fun f vs => PySem.call f vs) := by
  refine Att.attach_callB hn hdf fun w s0 s1 mg mb fa o pm cd doc ad us ns G Y _ _ _ hmg hobj hints hlen hbits hgen => ?_
  obtain ⟨K, fd, kin, bd, hF⟩ := Fn w mg fa _ Y G.T.g hmg
  exact end_call kin G.T.g G.T.b G.T.builtins G.T.nolimit (G.T.sysm hi) hgen hobj hints (Nat.le_trans hlen hn2) rm hF (bd _ _) (hv ns hlen hbits)
end Ev
set_option Elab.async false
set_option linter.all false
set_option maxRecDepth 100000
set_option maxHeartbeats 4000000
/-! Ev10: short words for derivations. -/
namespace Ev
open PySem PySem.Spec PyProof.Rows L2
open Classical

section
variable {X : Cx} {W : WX} {pos : Pos}
/-- int, bool, tuple .. as a value -/
theorem ev_tyn {x : Str} {t : Ty} (hg : Gl X x) (hm : X.mg x = none) (hv : bootBuiltins x = some (.type t.name)) (hn : x ≠ "__name__" := by decide) (hd : (x == ("__debug__" : Str)) = false := by decide) : EV X W (.Name x pos) (ct (.ty t)) :=
  ⟨PE.imp (pe_bltn hg hm hv (v := .ty t.name) rfl hn hd) fun _ _ _ h => tC_of (X := X) (d := .ty t) (fun _ _ _ => rfl) h⟩
/-- a def of the module as a value -/
theorem ev_gfun {x : Str} {f : Addr} (hg : Gl X x) (hm : X.mg x = some (.ref f)) (hd : (x == ("__debug__" : Str)) = false := by decide) : EV X W (.Name x pos) (ct (.glob x)) :=
  ⟨PE.imp (pe_glob hg hm (v := .ref f) rfl hd) fun _ _ _ h => tC_of (X := X) (d := .glob x) (fun _ _ _ => ⟨f, hm, rfl⟩) h⟩
end
/-! ### dicts written out, keys constants -/
abbrev RelL (K : PySem.W.Frag) (n : Nat) : RelT (List PyData) (List V) := fun R st H b a => PdA K (Own R st) H b a ∧ a.length = n
structure EVD (X : Cx) (W : WX) (pos : Pos) (keys : List (Option Expr)) (values : List Expr) (ks : List Key) (m : Env → M (List PyData)) : Prop where
  ex : ∃ trs, PPs X pos keys values trs ∧ ∀ (σ : L2.St) (H : Hp) (Q : List V → Hp → Prop) (Q2 : List (V × V) → Hp → Prop) (R : Rg) (ρ : Env) (st : Sto), Sim X.K R H st → EnvR X.K X.mg R st H σ ρ →
    (∀ vs H', vs.length = ks.length → Q vs H' → Q2 ((ks.zip vs).map fun kv => (kV kv.1, kv.2)) H') →
    Post X.K X.mg (RelL X.K ks.length) R H st (m ρ st) Q (fun c d H' => W c d σ H') → tPairs trs σ H Q2
def dNil : Env → M (List PyData) := fun _ => M.pure []
def asDat : D → M PyData
  | .dat y => M.pure y
  | _ => M.bad
def dCons (m : Env → M D) (r : Env → M (List PyData)) : Env → M (List PyData) := fun ρ => M.bind (m ρ) fun x => M.bind (asDat x) fun y => M.bind (r ρ) fun ys => M.pure (y :: ys)
section
variable {X : Cx} {W : WX} {pos : Pos} {keys : List (Option Expr)} {values : List Expr} {k v : Expr} {ks : List Key} {a : Key} {m : Env → M (List PyData)} {mv : Env → M D}
theorem evd_nil : EVD X W pos [] [] [] dNil := by
  refine ⟨[], pps_nil, fun σ H Q Q2 R ρ st S E q h => ?_⟩
  exact q [] H rfl (h.okR S ⟨.nil, rfl⟩)
theorem evd_cons (hk : PE X k (tC (kV a))) (hv : EV X W v mv) (hr : EVD X W pos keys values ks m) : EVD X W pos (some k :: keys) (v :: values) (a :: ks) (dCons mv m) := by
  obtain ⟨trs, p, im⟩ := hr.ex
  refine ⟨(tC (kV a), tM X.K X.mg W mv) :: trs, pps_cons hk hv.pe p, fun σ H Q Q2 R ρ st S E q h => ?_⟩
  have h1 := Post.bind (Rel := Dv X.K X.mg) (Rel2 := RelL X.K (a :: ks).length) h
  refine ⟨R, ρ, st, S, E, h1.monoQ fun x H1 ⟨R1, st1, d, x1, S1, D1, h2⟩ => ?_⟩
  cases d with
  | dat y =>
    have h3 := Post.bind (Rel := RelL X.K ks.length) (Rel2 := RelL X.K (a :: ks).length) (m := m ρ) (f := fun ys => M.pure (y :: ys)) h2
    refine im σ H1 _ _ R1 ρ st1 S1 (E.ext x1) (fun vs H2 l2 ⟨R2, st2, ys, x2, S2, ⟨p2, l3⟩, h5⟩ => ?_) h3
    have D2 : Pd X.K (Own R2 st2) H2 x y := Dv.ext (d := .dat y) x2 D1
    refine q (x :: vs) H2 (by rw [List.length_cons, List.length_cons, l2]) ?_
    exact Post.okR (Rel := RelL X.K (a :: ks).length) S2 ⟨.cons D2 p2, by rw [List.length_cons, List.length_cons, l3]⟩ h5
  | _ => exact h2.elim
theorem merge_new {κ : Type} [DecidableEq κ] : ∀ (more kvs : List (κ × V)), ((kvs ++ more).map (·.1)).Nodup → more.foldl (fun acc kv => putK acc kv.1 kv.2) kvs = kvs ++ more
  | [], kvs, _ => by simp
  | p :: r, kvs, h => by
    have h1 : putK kvs p.1 p.2 = kvs ++ [p] := by
      unfold putK
      rw [if_neg]
      intro z
      rw [List.any_eq_true] at z
      obtain ⟨q, hq, e⟩ := z
      have e' : q.1 = p.1 := by simpa using e
      rw [List.map_append, List.nodup_append] at h
      exact h.2.2 _ (List.mem_map_of_mem hq) p.1 (by simp) e'
    rw [List.foldl_cons, h1, merge_new r (kvs ++ [p]) (by simpa using h)]
    simp
theorem pdK_zip {K : PySem.W.Frag} {U : Addr → Prop} {H : Hp} : ∀ {ks : List Key} {vs : List V} {ds : List PyData}, PdA K U H vs ds → PdK K U H (ks.zip vs) ((ks.map keyD).zip ds)
  | [], _, _, _ => by simp only [List.zip_nil_left, List.map_nil]; exact .nil
  | k :: ks, _, _, .nil => by simp only [List.zip_nil_right]; exact .nil
  | k :: ks, _, _, .cons p q => .cons p (pdK_zip q)
def mDct (ks : List Key) (m : Env → M (List PyData)) : Env → M D := fun ρ => M.bind (m ρ) fun ys => M.pure (.dat (.dict ((ks.map keyD).zip ys)))
theorem ev_dct (h : EVD X W pos keys values ks m) (hd : ks.Nodup) (h15 : keys.length ≤ 15) (hall : keys.all (·.isSome) = true := by rfl) (hl : keys.length = values.length := by rfl) (h0 : keys ≠ [] := by simp) (hkl : ks.length = keys.length := by rfl) :
    EV X W (.Dict keys values pos) (mDct ks m) := by
  obtain ⟨trs, p, im⟩ := h.ex
  refine ⟨PE.imp (pe_disp p hall hl h0 h15) fun σ H Q h => ?_⟩
  obtain ⟨R, ρ, st, S, E, h⟩ := h
  intro ad hp
  have E1 : EnvR X.K X.mg (R.hide ad) st (upd H ad (.dK [])) σ ρ := by
    refine ⟨E.len, fun j e q => ?_⟩
    obtain ⟨v, q1, q2⟩ := E.at_ j e q
    refine ⟨v, q1, ?_⟩
    have ss : Stays (Own R st) (Own (R.hide ad) st) H (upd H ad (.dK [])) := ⟨fun b u e _ => by rw [upd_ne (ne_of_none e hp)]; exact e, fun b z => by
      rcases own_hide.mp z with z | z
      · exact .inl z
      · exact .inr (z ▸ hp)⟩
    cases e with
    | dat e => exact Pd.stays ss q2
    | loc n => exact q2
    | glob x => exact q2
    | fz ds => obtain ⟨a, xs, h1, h2, h3⟩ := q2; exact ⟨a, xs, h1, h2.stays ss, h3.stays ss⟩
    | ty t => exact q2
    | raw t => exact q2
    | err u cls d x => exact ⟨q2.1, q2.2.stays ss⟩
  refine im σ _ (fun vs H2 => ∃ R2 st2 ys, Ext (R.hide ad) (upd H ad (.dK [])) st R2 H2 st2 ∧ Sim X.K R2 H2 st2 ∧ RelL X.K ks.length R2 st2 H2 vs ys ∧
    Post X.K X.mg (Dv X.K X.mg) R H st (.ok (.dat (.dict ((ks.map keyD).zip ys))) st2) Q (fun c d H' => W c d σ H')) _ (R.hide ad) ρ st (sim_hide S hp) E1 (fun vs H2 l2 ⟨R1, st1, ys, x1, S1, ⟨p1, l1⟩, h3⟩ => ?_) ?_
  · have e2 : H2 ad = some (.dK []) := x1.prv ad (List.mem_cons_self) _ upd_same
    refine ⟨e2, ks.zip vs, rfl, by rw [List.length_zip, hkl]; exact Nat.le_trans (Nat.min_le_left _ _) h15, ?_⟩
    have mk : mergeK [] (ks.zip vs) = ks.zip vs := by
      unfold mergeK
      rw [merge_new _ _ (by
        rw [List.nil_append, List.map_fst_zip (by omega)]
        exact hd)]
      rfl
    rw [mk]
    have e3 : R1.p = ad :: R.p := x1.pe
    have inp : ad ∈ R1.p := by rw [e3]; exact List.mem_cons_self
    have xb := ext_back hp (ext_prv (o' := .dK (ks.zip vs)) (show ad ∈ (R.hide ad).p from List.mem_cons_self) x1)
    have S2 := sim_back e3 (sim_prv (o := .dK (ks.zip vs)) S1 inp)
    have weak : ∀ b, Own (R.back R1) st1 b → Own R1 st1 b := fun b z => by
      rcases z with z | z
      · exact .inl z
      · exact .inr (by rw [e3]; exact List.mem_cons_of_mem _ z)
    refine h3 _ _ _ xb S2 (Pd.dct upd_same (fun z => ?_) (PdK.stays ⟨fun b u e n => ?_, fun b z => .inl (weak b z)⟩ (pdK_zip p1)))
    · rcases z with ⟨n, zs, z1, _⟩ | z
      · exact S1.nr ad (List.mem_of_getElem? z1) inp
      · exact S.freshP hp z
    · rw [upd_ne (show b ≠ ad from fun z => n (.inr (z ▸ inp)))]
      exact e
  · have h' : Post X.K X.mg (Dv X.K X.mg) R H st (M.bind (m ρ) (fun ys => M.pure (.dat (.dict ((ks.map keyD).zip ys)))) st) Q (fun c d H' => W c d σ H') := h
    unfold M.bind at h'
    cases z : m ρ st with
    | ok ys st' =>
      rw [z] at h'
      exact fun vs R' H' e' s' q => ⟨R', st', ys, e', s', q, h'⟩
    | exc x st' =>
      rw [z] at h'
      intro R' H' cls dx e' s' q
      have e3 : R'.p = ad :: R.p := e'.pe
      refine h' (R.back R') H' cls dx (ext_back hp e') (sim_back e3 s') (q.stays (Stays.weak fun b z => ?_))
      rcases z with z | z
      · exact .inl z
      · exact .inr (by rw [e3]; exact List.mem_cons_of_mem _ z)
    | bad => rw [z] at h'; exact h'
/-- {} -/
def mDct0 : Env → M D := fun _ => M.pure (.dat (.dict []))
theorem ev_dct0 : EV X W (.Dict [] [] pos) mDct0 := by
  refine ⟨PE.imp pe_dnewK fun σ H Q h => ?_⟩
  obtain ⟨R, ρ, st, S, E, h⟩ := h
  exact fun p hp => h.okN S hp (Pd.dct upd_same (S.notOwn hp) .nil)
end
end Ev
set_option Elab.async false
set_option linter.all false
set_option maxRecDepth 100000
set_option maxHeartbeats 4000000
/-! Ev11: defs by their names. -/
namespace Ev
open PySem PySem.Spec PyProof.Rows L2
open Classical

/-- the def st of the text stands under its name -/
def Df (K : PySem.W.Frag) (mg : Str → Option Value) (x : Str) (st : Stmt) (ps : List Str) : Prop :=
  ∃ (f : Addr) (fd : FuncData), Fun K x x st f fd ∧ mg x = some (.ref f) ∧ Binds K fd ps []
/-- .. and keeps what its function tells -/
def FnN (P : Program) (w : World) (K : PySem.W.Frag) (mg : Str → Option Value) (base : Heap) (k : Nat) (x : Str) (ps : List Str) (F : List D → M D) : Prop :=
  ∃ (f : Addr) (fd : FuncData), FnG P w K mg base k f fd ps F ∧ mg x = some (.ref f) ∧ PySem.W.keepIn K (.ref f) = true ∧ Binds K fd ps [] ∧ ∃ oc od osl, K.lookup f = some ⟨oc, od, .func fd, osl⟩
theorem df_mk {K : PySem.W.Frag} {h : Heap} {mg : Str → Option Value} (X : K.In h) (G : h.Ns mainGlobals mg) {x : Str} {st : Stmt} {ps : List Str} {f : Addr} {oc : Value} {od an : Option Addr} {osl : Array (Option Value)} {kV doc pm cdv ct : Value}
    (a : PySem.W.nsIn K mainGlobals x = some (some (.ref f))) (l : K.lookup f = some ⟨oc, od, .func (PySem.W.fnOf x x (defArgs st) (defBody st) (defScope st) .none kV doc pm an cdv ct), osl⟩) (c : PySem.W.codeIn K cdv x = true) (k : PySem.W.keepIn K (.ref f) = true)
    (hb : ∀ (kV doc pm : Value) (an : Option Addr) (cdv ct : Value) (us : List Value), us.length = ps.length → bindArgs (PySem.W.fnOf x x (defArgs st) (defBody st) (defScope st) .none kV doc pm an cdv ct) ⟨us, []⟩ = pure (ps.zip us)) : Df K mg x st ps := by
  have F := fun_mk l c k
  exact ⟨f, _, F, PySem.W.mg_of X G a, F.binds hb⟩
section
variable {P : Program} {w : World} {K : PySem.W.Frag} {mg : Str → Option Value} {base : Heap} {x : Str} {st : Stmt} {N ps : List Str} {k : Nat} {body : SM}
theorem FnN.mono {j : Nat} {F : List D → M D} (G : FnN P w K mg base j x ps F) (h : j ≤ k) : FnN P w K mg base k x ps F :=
  let ⟨f, fd, a, b⟩ := G
  ⟨f, fd, a.mono h, b⟩
theorem fnN_of {give : Nat → D → Sto → Res D} (hgive : GiveOk give) (D1 : Df K mg x st ps) (S : FnScope N ps (defScope st))
    (hb : ∀ (f : Addr) (cdv : Value) (A : Around) (outer : List PySem.Env) (s : Shared) (H : Hp) (E : XK), GC (cxOf (L2.CX P w) P w K mg base N x (defScope st) f cdv A outer s H E) (fun c d _ H' => E c d H') k →
      EVSs (cxOf (L2.CX P w) P w K mg base N x (defScope st) f cdv A outer s H E) (fun c d _ H' => E c d H') (defBody st) body) :
    FnN P w K mg base (k + 1) x ps (runBody give N.length ps.length body) := by
  obtain ⟨f, fd, F, hm, b⟩ := D1
  refine ⟨f, fd, fnG_of hgive F S (fun cdv A outer s H E hr hg => hb f cdv A outer s H E ⟨hr, hg, ?_⟩), hm, F.kp, b, ?_⟩
  · exact takes_of rfl rfl rfl rfl
  · obtain ⟨oc, od, kV, doc, pm, an, cdv, ct, osl, _, lk, _⟩ := F.ex
    exact ⟨oc, od, osl, lk⟩
end
section
variable {X : Cx} {W : WX} {k j : Nat} {ps : List Str} {F : List D → M D} {x : Str} {p pos : Pos} {e : Expr} {es : List Expr} {ms : Env → M (List D)}
theorem GC.mono (C : GC X W k) (h : j ≤ k) : GC X W j := ⟨C.room.mono h, C.gd, C.tk⟩
theorem GC.u64 (C : GC X W k) : X.A.units + 64 < cLine := by have := C.room.un; omega
theorem GC.u128 (C : GC X W k) : X.A.units + 128 < cLine := by have := C.room.un; omega
theorem GC.blk {s : Shared} {H : Hp} {scope : Scope} {cenv : PySem.Env} {fp : List Addr} (C : GC X W k) : GC (X.blk s H scope cenv fp) W0 k :=
  ⟨C.room, C.gd, fun u s' ⟨_, _, _, _, _, _, _, _, _, _, _, _, _, _, _, _, w⟩ => w.elim⟩
theorem ev_callN (G : FnN X.prog X.w X.K X.mg X.base j x ps F) (C : GC X W k) (h : j ≤ k) (hg : Gl X x) (ha : EVA X W (e :: es) ms)
    (hdb : (x == ("__debug__" : Str)) = false := by decide) (he : starEach (e :: es) X.env = (false, eval e X.env) :: starEach es X.env := by rfl) (hpl : (backTo pos (starEach es X.env)).any (·.1) = false := by rfl) :
    EV X W (.Call (.Name x p) (e :: es) [] pos) (mC F ms) := by
  obtain ⟨f, fd, a, b, c, d, _⟩ := G
  exact ev_call a (C.mono h) hg b c d ha hdb he hpl
end
section
variable {P : Program} {w : World} {K : PySem.W.Frag} {mg : Str → Option Value} {base : Heap} {N : List Str} {qual : Str} {scope : Scope} {f : Addr} {cd : Value} {A : Around} {outer : List PySem.Env} {s : Shared} {H : Hp} {E : XK}
theorem passes_cx : PassesOwn (model P w) (cxOf (L2.CX P w) P w K mg base N qual scope f cd A outer s H E).A (cxOf (L2.CX P w) P w K mg base N qual scope f cd A outer s H E).env (cxOf (L2.CX P w) P w K mg base N qual scope f cd A outer s H E).xe := passes_of rfl
end
/-- the end of a law, by its def's name -/
theorem end_lawN {l : PySem.W.OpenLaw} {n k : Nat} {q : Program} {loose : List Str} {XP : (Str → Option Value) → Heap → Prop} {YP : World → Heap → Prop} {d : DefRec} {x : Str} {F : List D → M D}
    (hn : l.most = some n) (hn2 : n ≤ sizeLine) (hdf : d.params.defaults = []) (hi : importsNone q = true) (rm : Room k callerA)
    (Fn : ∀ (w : World) (mg : Str → Option Value) (h : Heap), YP w h → XP mg h → h.Ns mainGlobals mg → ∃ K : PySem.W.Frag, K.In h ∧ ∀ bs : Heap, FnN l.prog w K mg bs k d.name [x] F)
    (hv : ∀ ns : List Int, ns.length ≤ n → (∀ i ∈ ns, Builtin.Int.intBits i ≤ 1048576) → ∃ st', F [.fz (ns.map PyData.int)] [] = .ok (.dat (.bool true)) st') :
    PySem.W.WalkO q loose XP YP l.row.toRowW d [] (fun f vs => PySem.call f vs) := by
  refine Att.attach_callB hn hdf fun w s0 s1 mg mb fa o pm cd doc ad us ns G Y _ _ _ hmg hobj hints hlen hbits hgen => ?_
  obtain ⟨K, kin, hF⟩ := Fn w mg _ Y G.X G.T.g
  obtain ⟨f, fd, g0, m0, k0, b0, oc, od, osl, l0⟩ := hF s1.heap
  rw [hmg] at m0
  cases m0
  have bd := b0 s1 [.ref ad] kin rfl
  rw [List.append_nil] at bd
  refine end_call kin G.T.g G.T.b G.T.builtins G.T.nolimit (G.T.sysm hi) hgen hobj hints (Nat.le_trans hlen hn2) rm (fun bs _ _ => ?_) bd (hv ns hlen hbits)
  obtain ⟨f2, fd2, g2, m2, k2, b2, oc2, od2, osl2, l2⟩ := hF bs
  rw [hmg] at m2
  cases m2
  rw [l0] at l2
  cases l2
  exact g2
end Ev
set_option Elab.async false
set_option linter.all false
set_option maxRecDepth 100000
set_option maxHeartbeats 4000000
/-! Ev12: the words of a derivation. -/
namespace Ev
open PySem PySem.Spec PyProof.Rows L2
open Classical

section
variable {K : PySem.W.Frag} {mg : Str → Option Value}
theorem ok_sub : OpOk K mg (rI0 fun i j => .int (i - j)) dSub := ok_rI0
theorem ok_lt : OpOk K mg (rI0 fun i j => .bl (decide (i < j))) dLt := ok_rB0
theorem ok_le : OpOk K mg (rI0 fun i j => .bl (decide (i ≤ j))) dLe := ok_rB0
theorem ok_gt : OpOk K mg (rI0 fun i j => .bl (decide (j < i))) dGt := ok_rB0
theorem ok_ge : OpOk K mg (rI0 fun i j => .bl (decide (j ≤ i))) dGe := ok_rB0
theorem ok_mod : OpOk K mg (rI (fun _ j => j ≠ 0) fun i j => .int (i.fmod j)) dMod := ok_rI fun _ _ h => h
theorem ok_fdiv : OpOk K mg (rI (fun _ j => 0 < j ∧ wideI j ∨ j ≠ 0 ∧ j.natAbs < 1073741824) fun i j => .int (i.fdiv j)) dFdiv := ok_rI fun _ _ h => h
theorem ok_pow : OpOk K mg (rI (fun i j => 0 ≤ j ∧ (Builtin.Int.intBits i : Int) * j ≤ 100000) fun i j => .int (i ^ j.toNat)) dPow := ok_rI fun _ _ h => h
end
theorem loose_int {lv : List (Str × PySem.W.WData)} {mg : Str → Option Value} {h : Heap} (L : PySem.W.LooseAre lv mg h) {x : Str} {i : Int} (m : (x, PySem.W.WData.int i) ∈ lv) : ∃ t, mg x = some (.int i t) := by
  obtain ⟨v, e, r⟩ := L.val _ m
  cases r
  exact ⟨_, e⟩
theorem const_int {K : PySem.W.Frag} {h : Heap} {mg : Str → Option Value} (X : K.In h) (G : h.Ns mainGlobals mg) {x : Str} {v : Value} {i : Int} (a : PySem.W.nsIn K mainGlobals x = some (some v)) (r : RelV (.int i) v) : ∃ t, mg x = some (.int i t) := by
  obtain ⟨t, rfl⟩ := r
  exact ⟨t, PySem.W.mg_of X G a⟩
section
variable {X : Cx} {W : WX} {k : Nat} {a b c e : Expr} {ma mb mc me : Env → M D} {ms : Env → M (List D)} {pos p : Pos}
theorem x_add (ha : EV X W a ma) (hb : EV X W b mb) : EV X W (.BinOp a .Add b pos) (m2 dAdd ma mb) := ev_bin op_addAll ok_addAll ha hb
theorem x_sub (ha : EV X W a ma) (hb : EV X W b mb) : EV X W (.BinOp a .Sub b pos) (m2 dSub ma mb) := ev_bin op_sub ok_sub ha hb
theorem x_mul (ha : EV X W a ma) (hb : EV X W b mb) : EV X W (.BinOp a .Mult b pos) (m2 dMul ma mb) := ev_bin op_mulAll ok_mulAll ha hb
theorem x_mod (ha : EV X W a ma) (hb : EV X W b mb) : EV X W (.BinOp a .Mod b pos) (m2 dMod ma mb) := ev_bin op_mod2 ok_mod ha hb
theorem x_fdiv (ha : EV X W a ma) (hb : EV X W b mb) : EV X W (.BinOp a .FloorDiv b pos) (m2 dFdiv ma mb) := ev_bin op_fdiv2 ok_fdiv ha hb
theorem x_pow (ha : EV X W a ma) (hb : EV X W b mb) : EV X W (.BinOp a .Pow b pos) (m2 dPow ma mb) := ev_bin op_pow2 ok_pow ha hb
theorem x_lt (ha : EV X W a ma) (hb : EV X W b mb) : EV X W (.Compare a [.Lt] [b] pos) (m2 dLt ma mb) := ev_cmp op_lt ok_lt (nomark _) ha hb
theorem t_lt (ha : EV X W a ma) (hb : EV X W b mb) : EVT X W (.Compare a [.Lt] [b] pos) (mT (m2 dLt ma mb)) := evt_cmp op_lt ok_lt (nomark _) ha hb
theorem x_le (ha : EV X W a ma) (hb : EV X W b mb) : EV X W (.Compare a [.LtE] [b] pos) (m2 dLe ma mb) := ev_cmp op_le ok_le (nomark _) ha hb
theorem t_le (ha : EV X W a ma) (hb : EV X W b mb) : EVT X W (.Compare a [.LtE] [b] pos) (mT (m2 dLe ma mb)) := evt_cmp op_le ok_le (nomark _) ha hb
theorem x_gt (ha : EV X W a ma) (hb : EV X W b mb) : EV X W (.Compare a [.Gt] [b] pos) (m2 dGt ma mb) := ev_cmp op_gt ok_gt (nomark _) ha hb
theorem t_gt (ha : EV X W a ma) (hb : EV X W b mb) : EVT X W (.Compare a [.Gt] [b] pos) (mT (m2 dGt ma mb)) := evt_cmp op_gt ok_gt (nomark _) ha hb
theorem x_ge (ha : EV X W a ma) (hb : EV X W b mb) : EV X W (.Compare a [.GtE] [b] pos) (m2 dGe ma mb) := ev_cmp op_ge ok_ge (nomark _) ha hb
theorem t_ge (ha : EV X W a ma) (hb : EV X W b mb) : EVT X W (.Compare a [.GtE] [b] pos) (mT (m2 dGe ma mb)) := evt_cmp op_ge ok_ge (nomark _) ha hb
theorem x_eq (C : GC X W k) (ha : EV X W a ma) (hb : EV X W b mb) : EV X W (.Compare a [.Eq] [b] pos) (m2 dEq ma mb) := ev_cmp (op_eqAll C.u64) ok_eqAll (nomark _) ha hb
theorem t_eq (C : GC X W k) (ha : EV X W a ma) (hb : EV X W b mb) : EVT X W (.Compare a [.Eq] [b] pos) (mT (m2 dEq ma mb)) := evt_cmp (op_eqAll C.u64) ok_eqAll (nomark _) ha hb
theorem x_ne (C : GC X W k) (ha : EV X W a ma) (hb : EV X W b mb) : EV X W (.Compare a [.NotEq] [b] pos) (m2 dNe ma mb) := ev_cmp (op_neAll C.u64) ok_neAll (nomark _) ha hb
theorem t_ne (C : GC X W k) (ha : EV X W a ma) (hb : EV X W b mb) : EVT X W (.Compare a [.NotEq] [b] pos) (mT (m2 dNe ma mb)) := evt_cmp (op_neAll C.u64) ok_neAll (nomark _) ha hb
theorem x_neg (ha : EV X W a ma) : EV X W (.UnaryOp .USub a pos) (m1 dNeg ma) := ev_un un_neg ok_neg ha
theorem x_ix (ha : EV X W a ma) (hb : EV X W b mb) (hs : PlainIx b := by exact fun _ _ => rfl) : EV X W (.Subscript a b pos) (m2 dIx ma mb) := ev_ix ix_seq ok_ix hs ha hb
theorem x_lele (ha : EV X W a ma) (hb : EV X W b mb) (hc : EV X W c mc) (hm : lastMarks [.LtE, .LtE] [b, c] = false := by rfl) : EV X W (.Compare a [.LtE, .LtE] [b, c] pos) (mChain dLe dLe ma mb mc) := ev_chain op_le ok_le op_le ok_le hm ha hb hc
theorem t_lele (ha : EV X W a ma) (hb : EV X W b mb) (hc : EV X W c mc) (hm : lastMarks [.LtE, .LtE] [b, c] = false := by rfl) : EVT X W (.Compare a [.LtE, .LtE] [b, c] pos) (mT (mChain dLe dLe ma mb mc)) := evt_chain op_le ok_le op_le ok_le hm ha hb hc
theorem x_lelt (ha : EV X W a ma) (hb : EV X W b mb) (hc : EV X W c mc) (hm : lastMarks [.LtE, .Lt] [b, c] = false := by rfl) : EV X W (.Compare a [.LtE, .Lt] [b, c] pos) (mChain dLe dLt ma mb mc) := ev_chain op_le ok_le op_lt ok_lt hm ha hb hc
theorem t_lelt (ha : EV X W a ma) (hb : EV X W b mb) (hc : EV X W c mc) (hm : lastMarks [.LtE, .Lt] [b, c] = false := by rfl) : EVT X W (.Compare a [.LtE, .Lt] [b, c] pos) (mT (mChain dLe dLt ma mb mc)) := evt_chain op_le ok_le op_lt ok_lt hm ha hb hc
theorem x_ltle (ha : EV X W a ma) (hb : EV X W b mb) (hc : EV X W c mc) (hm : lastMarks [.Lt, .LtE] [b, c] = false := by rfl) : EV X W (.Compare a [.Lt, .LtE] [b, c] pos) (mChain dLt dLe ma mb mc) := ev_chain op_lt ok_lt op_le ok_le hm ha hb hc
theorem t_ltle (ha : EV X W a ma) (hb : EV X W b mb) (hc : EV X W c mc) (hm : lastMarks [.Lt, .LtE] [b, c] = false := by rfl) : EVT X W (.Compare a [.Lt, .LtE] [b, c] pos) (mT (mChain dLt dLe ma mb mc)) := evt_chain op_lt ok_lt op_le ok_le hm ha hb hc
theorem x_ltlt (ha : EV X W a ma) (hb : EV X W b mb) (hc : EV X W c mc) (hm : lastMarks [.Lt, .Lt] [b, c] = false := by rfl) : EV X W (.Compare a [.Lt, .Lt] [b, c] pos) (mChain dLt dLt ma mb mc) := ev_chain op_lt ok_lt op_lt ok_lt hm ha hb hc
theorem t_ltlt (ha : EV X W a ma) (hb : EV X W b mb) (hc : EV X W c mc) (hm : lastMarks [.Lt, .Lt] [b, c] = false := by rfl) : EVT X W (.Compare a [.Lt, .Lt] [b, c] pos) (mT (mChain dLt dLt ma mb mc)) := evt_chain op_lt ok_lt op_lt ok_lt hm ha hb hc
variable {es : List Expr} {x : Str}
theorem n_len (hm : X.mg "len" = none) (ha : EVA X W (e :: es) ms) (hg : Gl X "len" := by exact rfl) (he : starEach (e :: es) X.env = (false, eval e X.env) :: starEach es X.env := by rfl) (hpl : (backTo pos (starEach es X.env)).any (·.1) = false := by rfl) : EV X W (.Call (.Name "len" p) (e :: es) [] pos) (mC (on1 dLen) ms) := ev_callB call_lenAll ok_len hg hm boot_len ha (by decide) (by decide) he hpl
theorem n_isinstance (hm : X.mg "isinstance" = none) (ha : EVA X W (e :: es) ms) (hg : Gl X "isinstance" := by exact rfl) (he : starEach (e :: es) X.env = (false, eval e X.env) :: starEach es X.env := by rfl) (hpl : (backTo pos (starEach es X.env)).any (·.1) = false := by rfl) : EV X W (.Call (.Name "isinstance" p) (e :: es) [] pos) (mC (on2 dIsi) ms) := ev_callB call_isi ok_isi hg hm boot_isinstance ha (by decide) (by decide) he hpl
theorem n_all (hc : X.calm = true) (hm : X.mg "all" = none) (ha : EVA X W (e :: es) ms) (hg : Gl X "all" := by exact rfl) (he : starEach (e :: es) X.env = (false, eval e X.env) :: starEach es X.env := by rfl) (hpl : (backTo pos (starEach es X.env)).any (·.1) = false := by rfl) : EV X W (.Call (.Name "all" p) (e :: es) [] pos) (mC (on1 dAll) ms) := ev_callB (cr_all hc) ok_all hg hm boot_all ha (by decide) (by decide) he hpl
theorem n_any (hc : X.calm = true) (hm : X.mg "any" = none) (ha : EVA X W (e :: es) ms) (hg : Gl X "any" := by exact rfl) (he : starEach (e :: es) X.env = (false, eval e X.env) :: starEach es X.env := by rfl) (hpl : (backTo pos (starEach es X.env)).any (·.1) = false := by rfl) : EV X W (.Call (.Name "any" p) (e :: es) [] pos) (mC (on1 dAny) ms) := ev_callB (cr_any hc) ok_any hg hm boot_any ha (by decide) (by decide) he hpl
theorem n_abs (hm : X.mg "abs" = none) (ha : EVA X W (e :: es) ms) (hg : Gl X "abs" := by exact rfl) (he : starEach (e :: es) X.env = (false, eval e X.env) :: starEach es X.env := by rfl) (hpl : (backTo pos (starEach es X.env)).any (·.1) = false := by rfl) : EV X W (.Call (.Name "abs" p) (e :: es) [] pos) (mC (on1 dAbs) ms) := ev_callB call_abs ok_abs hg hm boot_abs ha (by decide) (by decide) he hpl
theorem n_max (hc : X.calm = true) (hm : X.mg "max" = none) (ha : EVA X W (e :: es) ms) (hg : Gl X "max" := by exact rfl) (he : starEach (e :: es) X.env = (false, eval e X.env) :: starEach es X.env := by rfl) (hpl : (backTo pos (starEach es X.env)).any (·.1) = false := by rfl) : EV X W (.Call (.Name "max" p) (e :: es) [] pos) (mC (on2 dMax2) ms) := ev_callB (call_max2 hc) ok_max2 hg hm boot_max ha (by decide) (by decide) he hpl
theorem n_min (hc : X.calm = true) (hm : X.mg "min" = none) (ha : EVA X W (e :: es) ms) (hg : Gl X "min" := by exact rfl) (he : starEach (e :: es) X.env = (false, eval e X.env) :: starEach es X.env := by rfl) (hpl : (backTo pos (starEach es X.env)).any (·.1) = false := by rfl) : EV X W (.Call (.Name "min" p) (e :: es) [] pos) (mC (on2 dMin2) ms) := ev_callB (call_min2 hc) ok_min2 hg hm boot_min ha (by decide) (by decide) he hpl
theorem n_sum (hc : X.calm = true) (hm : X.mg "sum" = none) (ha : EVA X W (e :: es) ms) (hg : Gl X "sum" := by exact rfl) (he : starEach (e :: es) X.env = (false, eval e X.env) :: starEach es X.env := by rfl) (hpl : (backTo pos (starEach es X.env)).any (·.1) = false := by rfl) : EV X W (.Call (.Name "sum" p) (e :: es) [] pos) (mC (on1 dSum) ms) := ev_callB (cr_sum hc) ok_sum hg hm boot_sum ha (by decide) (by decide) he hpl
theorem n_repr (C : GC X W k) (hm : X.mg "repr" = none) (ha : EVA X W (e :: es) ms) (hg : Gl X "repr" := by exact rfl) (he : starEach (e :: es) X.env = (false, eval e X.env) :: starEach es X.env := by rfl) (hpl : (backTo pos (starEach es X.env)).any (·.1) = false := by rfl) : EV X W (.Call (.Name "repr" p) (e :: es) [] pos) (mC (on1 dRepr) ms) := ev_callB (call_repr C.gd.1 C.gd.2 C.u128) ok_repr hg hm boot_repr ha (by decide) (by decide) he hpl
theorem n_int (hm : X.mg "int" = none) (ha : EVA X W (e :: es) ms) (hg : Gl X "int" := by exact rfl) (he : starEach (e :: es) X.env = (false, eval e X.env) :: starEach es X.env := by rfl) (hpl : (backTo pos (starEach es X.env)).any (·.1) = false := by rfl) : EV X W (.Call (.Name "int" p) (e :: es) [] pos) (mC (on1 dInt) ms) := ev_callTy call_int1 ok_int hg hm boot_int ha (by decide) (by decide) he hpl
theorem n_tuple (hm : X.mg "tuple" = none) (ha : EVA X W (e :: es) ms) (hg : Gl X "tuple" := by exact rfl) (he : starEach (e :: es) X.env = (false, eval e X.env) :: starEach es X.env := by rfl) (hpl : (backTo pos (starEach es X.env)).any (·.1) = false := by rfl) : EV X W (.Call (.Name "tuple" p) (e :: es) [] pos) (mC (on1 tupOf) ms) := ev_callTy call_tuple_of ok_tupOf hg hm boot_tuple ha (by decide) (by decide) he hpl
theorem n_list (hm : X.mg "list" = none) (ha : EVA X W (e :: es) ms) (hg : Gl X "list" := by exact rfl) (he : starEach (e :: es) X.env = (false, eval e X.env) :: starEach es X.env := by rfl) (hpl : (backTo pos (starEach es X.env)).any (·.1) = false := by rfl) : EV X W (.Call (.Name "list" p) (e :: es) [] pos) (mC (on1 lstOf) ms) := ev_callTy call_list_of ok_lstOf hg hm boot_list ha (by decide) (by decide) he hpl
theorem n_loc (hm : X.mg "list" = none) (ha : EVA X W (e :: es) ms) (hg : Gl X "list" := by exact rfl) (he : starEach (e :: es) X.env = (false, eval e X.env) :: starEach es X.env := by rfl) (hpl : (backTo pos (starEach es X.env)).any (·.1) = false := by rfl) : EV X W (.Call (.Name "list" p) (e :: es) [] pos) (mC (on1 locOf) ms) := ev_callTy call_list_of ok_locOf hg hm boot_list ha (by decide) (by decide) he hpl
end
end Ev
set_option Elab.async false
set_option linter.all false
set_option maxRecDepth 100000
set_option maxHeartbeats 4000000
/-! Ev13: raise, try. -/
namespace Ev
open PySem PySem.Spec PyProof.Rows L2
open Classical

/-- an own class of errors without an __init__ of its own -/
def ExN (K : PySem.W.Frag) (mg : Str → Option Value) (x : Str) : Prop :=
  ∃ (C : Addr) (bmB : List Value) (B newId initId : String), ExcBaseFacts B newId initId bmB ∧ PySem.W.excIn K C bmB newId = true ∧ mg x = some (.ref C) ∧ PySem.W.keepIn K (.ref C) = true ∧
    PySem.W.subIn K (.ref C) (.type "BaseException") = some true ∧ PySem.W.typeIn K (.ref C) = some (.type "type")
def sRaise (x : Str) : SM := fun ρ st => .exc ⟨x, []⟩ ρ st
section
variable {X : Cx} {W : WX} {k : Nat} {pos pos' p p2 : Pos}
theorem evs_raise {x m : Str} {j : Nat} (hc : X.calm = true) (C : GC X W k) (N : ExN X.K X.mg x) (hg : Gl X x) (hdb : (x == ("__debug__" : Str)) = false := by decide) :
    EVS X W (.Raise (some (.Call (.Name x p) [.Constant (.str m) j p2] [] pos)) none pos') (sRaise x) := by
  obtain ⟨c, bmB, B, n1, n2, F, q, gC, kC, b1, b2⟩ := N
  refine ⟨PS.imp (ps_raise hc C.tk (pmk_own F q gC kC (raises_own b1 b2) hg hdb)) fun D σ H h => ?_⟩
  obtain ⟨R, ρ, st, S, E, h⟩ := h
  exact h σ R H (.ref c) none .refl S E ⟨gC, .inl ⟨rfl, rfl⟩⟩
/-! ### try: .. except C as e: .. -/
def unI (i : Nat) : SRes → SRes
  | .nx ρ st => .nx (ρ.set i none) st
  | .rt d st => .rt d st
  | .bk ρ st => .bk (ρ.set i none) st
  | .ct ρ st => .ct (ρ.set i none) st
  | _ => .bad
/-- the suite told by where the error lies, its class, its dict: all that comes of it is the same wherever it lies -/
noncomputable def sTryAs (body : SM) (hit : Str → Option Bool) (i : Nat) (suite : Addr → Value → Option Addr → SM) : SM := fun ρ st =>
  match body ρ st with
  | .exc x ρ' st' => match hit x.cls with
    | some true => if h : ∃ r, ∀ a cls d, (x.flds = [] → d = none) → unI i (suite a cls d (ρ'.set i (some (.err (.ref a) cls d x))) st') = r then h.choose else .bad
    | some false => .exc x ρ' st'
    | none => .bad
  | r => r
theorem tryAs_exc {body : SM} {hit : Str → Option Bool} {i : Nat} {suite : Addr → Value → Option Addr → SM} {ρ ρ' : Env} {st st' : Sto} {x : Exc} {r : SRes} (h1 : body ρ st = .exc x ρ' st') (h2 : hit x.cls = some true)
    (h3 : ∀ a cls d, (x.flds = [] → d = none) → unI i (suite a cls d (ρ'.set i (some (.err (.ref a) cls d x))) st') = r) : sTryAs body hit i suite ρ st = r := by
  have h : ∃ r, ∀ a cls d, (x.flds = [] → d = none) → unI i (suite a cls d (ρ'.set i (some (.err (.ref a) cls d x))) st') = r := ⟨r, h3⟩
  unfold sTryAs
  rw [h1]
  dsimp only
  rw [h2]
  dsimp only
  rw [dif_pos h]
  exact (h.choose_spec 0 .none none fun _ => rfl).symm.trans (h3 0 .none none fun _ => rfl)
theorem tryAs_nx {body : SM} {hit : Str → Option Bool} {i : Nat} {suite : Addr → Value → Option Addr → SM} {ρ ρ' : Env} {st st' : Sto} (h1 : body ρ st = .nx ρ' st') : sTryAs body hit i suite ρ st = .nx ρ' st' := by
  unfold sTryAs
  rw [h1]
theorem tryAs_rt {body : SM} {hit : Str → Option Bool} {i : Nat} {suite : Addr → Value → Option Addr → SM} {ρ : Env} {st st' : Sto} {d : D} (h1 : body ρ st = .rt d st') : sTryAs body hit i suite ρ st = .rt d st' := by
  unfold sTryAs
  rw [h1]
theorem tryAs_pass {body : SM} {hit : Str → Option Bool} {i : Nat} {suite : Addr → Value → Option Addr → SM} {ρ ρ' : Env} {st st' : Sto} {x : Exc} (h1 : body ρ st = .exc x ρ' st') (h2 : hit x.cls = some false) : sTryAs body hit i suite ρ st = .exc x ρ' st' := by
  unfold sTryAs
  rw [h1]
  dsimp only
  rw [h2]
theorem PostS.unI {K : PySem.W.Frag} {mg : Str → Option Value} {R : Rg} {H : Hp} {st : Sto} {r : SRes} {i : Nat} {D : Ends} {W : WX} (h : PostS K mg R H st (unI i r) D W) :
    PostS K mg R H st r { nx := fun σ' H' => D.nx (σ'.set i none) H', rt := D.rt, bk := fun σ' H' => D.bk (σ'.set i none) H', ct := fun σ' H' => D.ct (σ'.set i none) H' } W0 := by
  cases r with
  | nx ρ st' => exact fun σ' R' H' e s q => h _ R' H' e s (q.unset i)
  | rt d st' => exact h
  | bk ρ st' => exact fun σ' R' H' e s q => h _ R' H' e s (q.unset i)
  | ct ρ st' => exact fun σ' R' H' e s q => h _ R' H' e s (q.unset i)
  | exc x ρ st' => exact h.elim
  | bad => exact h.elim
/-- which errors a clause's class catches -/
def Hits (K : PySem.W.Frag) (mg : Str → Option Value) (c : Value) (hit : Str → Option Bool) : Prop := ∀ x b cls, hit x = some b → mg x = some cls → PySem.W.exmOne K cls c = some b
theorem evs_tryAs {x n : Str} {c : Value} {i : Nat} {body suite : List Stmt} {b0 : Stmt} {np : Pos} {mb : SM} {hit : Str → Option Bool} {sm : Addr → Value → Option Addr → SM} (hs : X.stack = X.env :: X.outer) (hf : X.env.frame = some X.env.locals)
    (hN : X.N.Nodup) (hi : X.N[i]? = some n) (hln : X.env.kindOf n = some .local) (hc : Names X x c) (C : GC X W k) (hh : Hits X.K X.mg c hit)
    (hb : ∀ (W' : WX) (pn : List (Addr × Obj)) (xe : Value → Shared → Prop), GC (X.tr pn xe) W' k → PassesOwn (model X.prog X.w) X.A X.env xe → EVSs (X.tr pn xe) W' body mb)
    (hsu : ∀ (a : Addr) (oe : Obj) (cls : Value) (d : Option Addr) (pn : List (Addr × Obj)), Zc cls d oe → (∃ vs, oe.data = .fields vs) → EVSs (X.suite a ((a, oe) :: pn)) W0 (b0 :: suite) (sm a cls d)) :
    EVS X W (.Try body [.ExceptHandler (some (.Name x np)) (some n) (b0 :: suite) pos'] [] [] pos) (sTryAs mb hit i sm) := by
  refine ⟨PS.imp (ps_try_as (tb := fun W' => tS X.K X.mg W' mb) (ts := fun a cls d => tS X.K X.mg W0 (sm a cls d)) (Wout := W) hs hf hN hi hln hc C.tk
    (fun W' pn xe tk po => (hb W' pn xe ⟨C.room, C.gd, tk⟩ po).ps) (fun a oe cls d pn hz hv => (hsu a oe cls d pn hz hv).ps)) fun D σ H h => ?_⟩
  obtain ⟨R, ρ, st, S, E, h⟩ := h
  refine ⟨R, ρ, st, S, E, ?_⟩
  unfold sTryAs at h
  cases z : mb ρ st with
  | nx ρ' st' => rw [z] at h; exact h
  | rt d st' => rw [z] at h; exact h
  | bk ρ' st' => rw [z] at h; exact h
  | ct ρ' st' => rw [z] at h; exact h
  | bad => rw [z] at h; exact h
  | exc y ρ' st' =>
    rw [z] at h
    dsimp only at h
    intro σ' R' H' cls dx e' s' q ex
    cases hy : hit y.cls with
    | none => rw [hy] at h; exact h.elim
    | some b =>
      rw [hy] at h
      refine ⟨b, hh _ _ _ hy ex.1, fun hb1 a na => ?_, fun hb0 => ?_⟩
      · subst hb1
        dsimp only at h
        by_cases hr : ∃ r, ∀ a cls d, (y.flds = [] → d = none) → unI i (sm a cls d (ρ'.set i (some (.err (.ref a) cls d y))) st') = r
        · rw [dif_pos hr] at h
          have e := hr.choose_spec a cls dx fun z => by
            rcases ex.2 with ⟨_, q⟩ | ⟨_, _, nf, _⟩
            · exact q
            · exact absurd z nf
          rw [← e] at h
          exact ⟨R', _, st', s', q.set i (show Dv X.K X.mg R' st' H' (.ref a) (.err (.ref a) cls dx y) from ⟨rfl, ex⟩), PostS.unI (PostS.shift s' e' h)⟩
        · rw [dif_neg hr] at h
          exact h.elim
      · subst hb0
        exact h σ' R' H' cls dx e' s' q ex
/-! ### the caught error: isinstance, its fields -/
/-- a class as a value -/
def clsD (mg : Str → Option Value) : D → Value → Prop
  | .glob y, u => mg y = some u
  | .raw (.ty T), u => u = .type T
  | _, _ => False
noncomputable def dIsE (a : Addr) (cls : Value) (d : Option Addr) (isa : Str → D → Option Bool) : List D → M D
  | [.err v cls' d' x, c] => fun st => if v = .ref a ∧ cls' = cls ∧ d' = d ∧ d = none then match isa x.cls c with | some b => .ok (.dat (.bool b)) st | none => .bad else .bad
  | _ => M.bad
/-- what is known of the classes: isinstance(error of x, c) -/
def Isa (K : PySem.W.Frag) (mg : Str → Option Value) (isa : Str → D → Option Bool) : Prop :=
  ∀ x c b, isa x c = some b → ∃ (D0 : Addr) (cv : Value), mg x = some (.ref D0) ∧ ExcC K D0 ∧ PySem.W.kitOne K (.ref D0) cv = some b ∧ clsD mg c cv
theorem ev_isE {a : Addr} {oe : Obj} {cls : Value} {d : Option Addr} {pn : List (Addr × Obj)} {isa : Str → D → Option Bool} {e : Expr} {es : List Expr} {ms : Env → M (List D)} (hz : Zc cls d oe) (hf : ∃ vs, oe.data = .fields vs) (hi : Isa X.K X.mg isa) (hm : X.mg "isinstance" = none)
    (ha : EVA (X.suite a ((a, oe) :: pn)) W (e :: es) ms) (hg : Gl (X.suite a ((a, oe) :: pn)) "isinstance" := by exact rfl)
    (he : starEach (e :: es) X.env = (false, eval e X.env) :: starEach es X.env := by rfl) (hpl : (backTo pos (starEach es X.env)).any (·.1) = false := by rfl) :
    EV (X.suite a ((a, oe) :: pn)) W (.Call (.Name "isinstance" p) (e :: es) [] pos) (mC (dIsE a cls d isa) ms) := by
  have hcall : CallR (X.suite a ((a, oe) :: pn)) (.builtin "isinstance") (fun xs H Q => ∃ D0 : Addr, cls = .ref D0 ∧ ExcC X.K D0 ∧ d = none ∧ rIsE X.K D0 a xs H Q) := fun pins s σ H xs us Q I r ⟨D0, e1, EC, e2, h⟩ => by
    subst e1 e2
    exact call_isE EC hz hf pins s σ H xs us Q I r h
  refine ev_callB hcall (f := dIsE a cls d isa) (fun R H st vs ds Q W' S hD h => ?_) hg hm boot_isinstance ha (by decide) (by decide) he hpl
  unfold dIsE at h
  split at h
  · rename_i v cls' d' x c
    cases hD with
    | cons h1 hD =>
      cases hD with
      | cons h2 hD =>
        cases hD
        obtain ⟨rfl, ex⟩ := h1
        split at h
        · rename_i hc
          obtain ⟨rfl, rfl, e3, e4⟩ := hc
          cases hb : isa x.cls c with
          | none => rw [hb] at h; exact h.elim
          | some b =>
            rw [hb] at h
            obtain ⟨D1, cv, m1, EC, k1, cd⟩ := hi _ _ _ hb
            have q : X.mg x.cls = some cls' := ex.1
            have e5 : cls' = .ref D1 := by
              rw [m1] at q
              exact (Option.some.inj q).symm
            refine ⟨D1, e5, EC, e4, _, cv, b, rfl, fun u r => ?_, k1, h.okR S (Dv.bl b)⟩
            cases c with
            | glob y =>
              obtain ⟨a2, g2, e6⟩ := h2
              have g1 : X.mg y = some cv := cd
              have g2' : X.mg y = some (.ref a2) := g2
              rw [g1] at g2'
              cases g2'
              rw [e6] at r
              exact r
            | raw t =>
              have e6 : _ = t := h2
              rw [e6] at r
              cases t with
              | ty T =>
                have e2 : cv = .type T := cd
                rw [e2]
                exact r
              | _ => exact cd.elim
            | _ => exact cd.elim
        · exact h.elim
  · exact h.elim
end
end Ev
set_option Elab.async false
set_option linter.all false
set_option maxRecDepth 100000
set_option maxHeartbeats 4000000
/-! Ev14: targets, defs that call themselves, methods as statements. -/
namespace Ev
open PySem PySem.Spec PyProof.Rows L2
open Classical

/-! ### target = value -/
def sAsg (t : Tg) (m : Env → M D) : SM := sBind m fun d ρ st => match t d ρ with | some ρ' => .nx ρ' st | none => .bad
section
variable {X : Cx} {W : WX} {k : Nat} {pos : Pos} {e : Expr} {me : Env → M D}
theorem evs_asg {tg : Expr} {g : TG} {t : Tg} {sl : List Nat} (hg : EVG X tg g t sl) (he : EV X W e me) (hs : swapsWithSole [tg] e pos.line X.env = pure false := by rfl) (hw : swappedStores [tg] e X.env = pure none := by rfl)
    (h1 : (assignEach [tg] X.env).map (·.2) = [assign tg X.env] := by rfl) : EVS X W (.Assign [tg] e pos) (sAsg t me) := by
  refine ⟨PS.imp (ps_asg he.pe hg.pg hs hw h1) fun D σ H h => ?_⟩
  obtain ⟨R, ρ, st, S, E, h⟩ := h
  refine ⟨R, ρ, st, S, E, (PostS.bind (Rel := Dv X.K X.mg) E h).monoQ fun v H1 ⟨R1, st1, d, S1, E1, D1, h1⟩ => ?_⟩
  cases z : t d ρ with
  | none => rw [z] at h1; exact h1.elim
  | some ρ' =>
    rw [z] at h1
    exact hg.ok R1 st1 H1 σ v d ρ ρ' _ E1 D1 z fun σ' E' _ => h1 σ' R1 H1 .refl S1 E'
/-- a, b = x, y with plain names -/
def sPar (i j : Nat) (ms : Env → M (List D)) : SM := sBind ms fun ds ρ st => match ds with
  | [x, y] => .nx ((ρ.set i (some x)).set j (some y)) st
  | _ => .bad
theorem evs_par {i j : Nat} {x y : Str} {a b : Expr} {ms : Env → M (List D)} {px py pt : Pos} {kt k2 pt2} (hc : X.calm = true) (hN : X.N.Nodup) (hi : X.N[i]? = some x) (hj : X.N[j]? = some y) (hij : i ≠ j)
    (hx : X.env.scope.names.lookup x = some .local) (hy : X.env.scope.names.lookup y = some .local) (ha : EVA X W [a, b] ms)
    (hw : swappedStores [.Tuple [.Name x px, .Name y py] kt pt] (.Tuple [a, b] k2 pt2) X.env = pure (some [x, y]) := by rfl)
    (hs : swapsWithSole [.Tuple [.Name x px, .Name y py] kt pt] (.Tuple [a, b] k2 pt2) pos.line X.env = pure false := by rfl) :
    EVS X W (.Assign [.Tuple [.Name x px, .Name y py] kt pt] (.Tuple [a, b] k2 pt2) pos) (sPar i j ms) := by
  refine ⟨PS.imp (ps_par hc hN hi hj hij hx hy ha.pa hw hs) fun D σ H h => ?_⟩
  obtain ⟨R, ρ, st, S, E, h⟩ := h
  refine ⟨R, ρ, st, S, E, (PostS.bind (Rel := DvA X.K X.mg) E h).monoQ fun vs H1 ⟨R1, st1, ds, S1, E1, D1, h1⟩ => ?_⟩
  cases D1 with
  | nil => exact h1.elim
  | cons p q =>
    cases q with
    | nil => exact h1.elim
    | cons p2 q =>
      cases q with
      | nil => exact ⟨_, _, rfl, h1 _ R1 H1 .refl S1 ((E1.set i p).set j p2)⟩
      | cons _ _ => exact h1.elim
end
/-! ### a def that calls itself: so many times at most -/
noncomputable def recB (give : Nat → D → Sto → Res D) (n np : Nat) (body : (List D → M D) → SM) : Nat → List D → M D
  | 0 => fun _ => M.bad
  | k + 1 => runBody give n np (body (recB give n np body k))
theorem fnN_rec {P : Program} {w : World} {K : PySem.W.Frag} {mg : Str → Option Value} {base : Heap} {x : Str} {st : Stmt} {N ps : List Str} {j : Nat} {body : (List D → M D) → SM} {give : Nat → D → Sto → Res D} (hgive : GiveOk give) (D1 : Df K mg x st ps) (S : FnScope N ps (defScope st))
    (hb : ∀ (k : Nat) (F : List D → M D), FnN P w K mg base (j + k) x ps F → ∀ (f : Addr) (cdv : Value) (A : Around) (outer : List PySem.Env) (s : Shared) (H : Hp) (E : XK), GC (cxOf (L2.CX P w) P w K mg base N x (defScope st) f cdv A outer s H E) (fun c d _ H' => E c d H') (j + k) →
      EVSs (cxOf (L2.CX P w) P w K mg base N x (defScope st) f cdv A outer s H E) (fun c d _ H' => E c d H') (defBody st) (body F)) :
    ∀ k : Nat, FnN P w K mg base (j + k) x ps (recB give N.length ps.length body k)
  | 0 => by
    obtain ⟨f, fd, F, hm, b⟩ := D1
    refine ⟨f, fd, ⟨fun ds st _ => rfl, fun A outer s H args us vs Q E _ _ _ _ _ hsp => ?_⟩, hm, F.kp, b, ?_⟩
    · obtain ⟨R, sto, ds, _, _, hp⟩ := hsp
      exact hp.elim
    · obtain ⟨oc, od, kV, doc, pm, an, cdv, ct, osl, _, lk, _⟩ := F.ex
      exact ⟨oc, od, osl, lk⟩
  | k + 1 => fnN_of hgive D1 S fun f cdv A outer s H E C => hb k _ (fnN_rec hgive D1 S hb k) f cdv A outer s H E C
/-! ### in, not in -/
def inD (b : Bool) : PyData → PyData → M D
  | d, .list ds => if SeqAt.shaped d = true ∧ SeqAt.shaped (.list ds) = true then retB (b != ds.any fun z => PyData.eqv z d) else M.bad
  | d, .tuple ds => if SeqAt.shaped d = true ∧ SeqAt.shaped (.tuple ds) = true then retB (b != ds.any fun z => PyData.eqv z d) else M.bad
  | _, _ => M.bad
def dIn : D → D → M D := asData (inD false)
def dNin : D → D → M D := asData (inD true)
def rInA (K : PySem.W.Frag) (b : Bool) : R2 := fun x y H Q => ∃ d c ds, (c = .list ds ∨ c = .tuple ds) ∧ Dp K H x d ∧ Dp K H y c ∧ SeqAt.shaped d = true ∧ SeqAt.shaped c = true ∧ Q (.bl (b != ds.any fun z => PyData.eqv z d)) H
theorem room_in {A : Around} {d : PyData} {n : Nat} (sd : SeqAt.shaped d = true) (hu : A.units + 128 < cLine) : A.units + 1 + min n d.depth < cLine := by
  have h1 := SeqAt.depth_of_shaped sd
  have h2 : min n d.depth ≤ d.depth := Nat.min_le_right _ _
  omega
theorem op_inA {X : Cx} (hu : X.A.units + 128 < cLine) : OpR X (compareOp .In) (rInA X.K false) := by
  intro pins s σ H x y v u Q I rx ry h
  obtain ⟨d, c, ds, hc, hd, he, sd, se, q⟩ := h
  obtain ⟨as, r1⟩ := Dp.reads I d x v hd rx
  obtain ⟨bs, r2⟩ := Dp.reads I c y u he ry
  rw [Bool.false_bne] at q
  rcases hc with rfl | rfl
  · exact SeqAt.in_list_reads r2 r1 (SeqAt.canLay_of_shaped se) (SeqAt.canLay_of_shaped sd) (room_in sd hu) ⟨.bl _, H, I, rfl, q⟩
  · exact SeqAt.in_tuple_reads r2 r1 (SeqAt.canLay_of_shaped se) (SeqAt.canLay_of_shaped sd) (room_in sd hu) ⟨.bl _, H, I, rfl, q⟩
theorem op_ninA {X : Cx} (hu : X.A.units + 128 < cLine) : OpR X (compareOp .NotIn) (rInA X.K true) := by
  intro pins s σ H x y v u Q I rx ry h
  obtain ⟨d, c, ds, hc, hd, he, sd, se, q⟩ := h
  obtain ⟨as, r1⟩ := Dp.reads I d x v hd rx
  obtain ⟨bs, r2⟩ := Dp.reads I c y u he ry
  rw [Bool.true_bne] at q
  rcases hc with rfl | rfl
  · exact SeqAt.notIn_list_reads r2 r1 (SeqAt.canLay_of_shaped se) (SeqAt.canLay_of_shaped sd) (room_in sd hu) ⟨.bl _, H, I, rfl, q⟩
  · exact SeqAt.notIn_tuple_reads r2 r1 (SeqAt.canLay_of_shaped se) (SeqAt.canLay_of_shaped sd) (room_in sd hu) ⟨.bl _, H, I, rfl, q⟩
theorem ok_inA {K : PySem.W.Frag} {mg : Str → Option Value} (b : Bool) : OpOk K mg (rInA K b) (asData (inD b)) := by
  intro R H st v w d e Q W S h1 h2 h
  obtain ⟨x, y, e1, e2, h⟩ := okA h
  unfold inD at h
  split at h
  · split at h
    · rename_i z
      exact ⟨x, _, _, .inl rfl, (h1.data S e1).dp (SeqAt.canLay_of_shaped z.1), (h2.data S e2).dp (SeqAt.canLay_of_shaped z.2), z.1, z.2, h.okR S (Dv.bl _)⟩
    · exact h.elim
  · split at h
    · rename_i z
      exact ⟨x, _, _, .inr rfl, (h1.data S e1).dp (SeqAt.canLay_of_shaped z.1), (h2.data S e2).dp (SeqAt.canLay_of_shaped z.2), z.1, z.2, h.okR S (Dv.bl _)⟩
    · exact h.elim
  · exact h.elim
section
variable {X : Cx} {W : WX} {k : Nat} {pos : Pos} {a b : Expr} {ma mb : Env → M D}
theorem x_in (C : GC X W k) (ha : EV X W a ma) (hb : EV X W b mb) (hm : behindInMarks .In b = false := by rfl) : EV X W (.Compare a [.In] [b] pos) (m2 dIn ma mb) := ev_cmp (op_inA C.u128) (ok_inA false) hm ha hb
theorem x_nin (C : GC X W k) (ha : EV X W a ma) (hb : EV X W b mb) (hm : behindInMarks .NotIn b = false := by rfl) : EV X W (.Compare a [.NotIn] [b] pos) (m2 dNin ma mb) := ev_cmp (op_ninA C.u128) (ok_inA true) hm ha hb
theorem t_in (C : GC X W k) (ha : EV X W a ma) (hb : EV X W b mb) (hm : behindInMarks .In b = false := by rfl) : EVT X W (.Compare a [.In] [b] pos) (mT (m2 dIn ma mb)) := evt_cmp (op_inA C.u128) (ok_inA false) hm ha hb
theorem t_nin (C : GC X W k) (ha : EV X W a ma) (hb : EV X W b mb) (hm : behindInMarks .NotIn b = false := by rfl) : EVT X W (.Compare a [.NotIn] [b] pos) (mT (m2 dNin ma mb)) := evt_cmp (op_ninA C.u128) (ok_inA true) hm ha hb
theorem x_isN (ha : EV X W a ma) (hb : EV X W b mb) : EV X W (.Compare a [.Is] [b] pos) (m2 isN ma mb) := ev_cmp op_isA ok_isN (nomark _) ha hb
theorem t_isN (ha : EV X W a ma) (hb : EV X W b mb) : EVT X W (.Compare a [.Is] [b] pos) (mT (m2 isN ma mb)) := evt_cmp op_isA ok_isN (nomark _) ha hb
theorem x_isNotN (ha : EV X W a ma) (hb : EV X W b mb) : EV X W (.Compare a [.IsNot] [b] pos) (m2 isNotN ma mb) := ev_cmp op_notA ok_isNotN (nomark _) ha hb
theorem t_isNotN (ha : EV X W a ma) (hb : EV X W b mb) : EVT X W (.Compare a [.IsNot] [b] pos) (mT (m2 isNotN ma mb)) := evt_cmp op_notA ok_isNotN (nomark _) ha hb
/-- a tuple that stands at the module's top -/
def KTup (K : PySem.W.Frag) (mg : Str → Option Value) (x : Str) (ds : List PyData) : Prop := ∃ a, mg x = some (.ref a) ∧ ∀ U H, Pd K U H (.ref a) (.tuple ds)
theorem ev_gtup {x : Str} {ds : List PyData} (hg : Gl X x) (T : KTup X.K X.mg x ds) (hd : (x == ("__debug__" : Str)) = false := by decide) : EV X W (.Name x pos) (ct (.dat (.tuple ds))) := by
  obtain ⟨a, hm, p⟩ := T
  exact ⟨PE.imp (pe_glob hg hm (v := .ref a) rfl hd) fun _ _ _ h => tC_of (X := X) (d := .dat (.tuple ds)) (fun R st H => p _ _) h⟩
end
section
variable {X : Cx} {W : WX} {o e : Expr} {es : List Expr} {mo : Env → M D} {ms : Env → M (List D)} {apos cpos : Pos}
theorem m_append (ho : EV X W o mo) (ha : EVA X W (e :: es) ms)
    (hbase : attributeBase o "append" X.env (eval o X.env) = eval o X.env := by rfl)
    (hfew : ((backTo cpos (starEach (e :: es) X.env)).all (fun x => !x.1) && (backToKw cpos (keywordEach [] X.env)).all (fun x => x.1.isSome)
      && decide ((e :: es).length + ([] : List Keyword).length + (if ([] : List Keyword).isEmpty then 0 else 1) < 30)) = true := by rfl)
    (hline : (apos.endLine == cpos.line) = true := by rfl) (hs : starEach (e :: es) X.env = (false, eval e X.env) :: starEach es X.env := by rfl) (hplain : (backTo cpos (starEach es X.env)).any (·.1) = false := by rfl) :
    EV X W (.Call (.Attribute o "append" apos) (e :: es) [] cpos) (mMt dAppend mo ms) := ev_mt PySem.F.plainAttrs_list PySem.F.slot_list_append PySem.F.type_list_append mt_append ok_append ho ha hbase hfew hline hs hplain
theorem m_extend (ho : EV X W o mo) (ha : EVA X W (e :: es) ms)
    (hbase : attributeBase o "extend" X.env (eval o X.env) = eval o X.env := by rfl)
    (hfew : ((backTo cpos (starEach (e :: es) X.env)).all (fun x => !x.1) && (backToKw cpos (keywordEach [] X.env)).all (fun x => x.1.isSome)
      && decide ((e :: es).length + ([] : List Keyword).length + (if ([] : List Keyword).isEmpty then 0 else 1) < 30)) = true := by rfl)
    (hline : (apos.endLine == cpos.line) = true := by rfl) (hs : starEach (e :: es) X.env = (false, eval e X.env) :: starEach es X.env := by rfl) (hplain : (backTo cpos (starEach es X.env)).any (·.1) = false := by rfl) :
    EV X W (.Call (.Attribute o "extend" apos) (e :: es) [] cpos) (mMt dExtend mo ms) := ev_mt PySem.F.plainAttrs_list PySem.F.slot_list_extend PySem.F.type_list_extend mt_extend ok_extend ho ha hbase hfew hline hs hplain
end
/-! ### bool(x) -/
def dBool : D → M D
  | .dat (.int i) => retB (i != 0)
  | .dat (.bool b) => retB b
  | _ => M.bad
theorem ok_bool {K : PySem.W.Frag} {mg : Str → Option Value} : CallOk K mg (fun xs H Q => (∃ i, xs = [.int i] ∧ Q (.bl (i != 0)) H) ∨ ∃ k, xs = [.bl k] ∧ Q (.bl k) H) (on1 dBool) := by
  intro R H st vs ds Q W S hd h
  obtain ⟨v, d, rfl, rfl, h1, h⟩ := ok1 hd h
  unfold dBool at h
  split at h
  · cases h1
    exact .inl ⟨_, rfl, h.okR S (Dv.bl _)⟩
  · cases h1
    exact .inr ⟨_, rfl, h.okR S (Dv.bl _)⟩
  · exact h.elim
section
variable {X : Cx} {W : WX} {e : Expr} {es : List Expr} {ms : Env → M (List D)} {pos p : Pos}
theorem n_bool (hm : X.mg "bool" = none) (ha : EVA X W (e :: es) ms) (hg : Gl X "bool" := by exact rfl) (he : starEach (e :: es) X.env = (false, eval e X.env) :: starEach es X.env := by rfl) (hpl : (backTo pos (starEach es X.env)).any (·.1) = false := by rfl) :
    EV X W (.Call (.Name "bool" p) (e :: es) [] pos) (mC (on1 dBool) ms) := ev_callTy call_bool1 ok_bool hg hm boot_bool ha (by decide) (by decide) he hpl
end
end Ev
set_option Elab.async false
set_option linter.all false
set_option maxRecDepth 100000
set_option maxHeartbeats 4000000
/-! Ev15: defs with parameters by name, with defaults. -/
namespace Ev
open PySem PySem.Spec PyProof.Rows L2
open Classical

/-- the def st stands under its name (nothing said of how its arguments bind) -/
def DfV (K : PySem.W.Frag) (mg : Str → Option Value) (x : Str) (st : Stmt) : Prop := ∃ (f : Addr) (fd : FuncData), Fun K x x st f fd ∧ mg x = some (.ref f)
def FnV (P : Program) (w : World) (K : PySem.W.Frag) (mg : Str → Option Value) (base : Heap) (k : Nat) (x : Str) (ps : List Str) (F : List D → M D) : Prop :=
  ∃ (f : Addr) (fd : FuncData), FnG P w K mg base k f fd ps F ∧ mg x = some (.ref f) ∧ PySem.W.keepIn K (.ref f) = true ∧ ∃ oc od osl, K.lookup f = some ⟨oc, od, .func fd, osl⟩
/-- n values by their places, ks by their names: how they bind -/
def Bn (K : PySem.W.Frag) (mg : Str → Option Value) (x : Str) (ps : List Str) (n : Nat) (ks : List Str) (gV : List V → List V → List V) : Prop :=
  ∀ (f : Addr) (fd : FuncData) (oc : Value) (od : Option Addr) (osl : Array (Option Value)), mg x = some (.ref f) → K.lookup f = some ⟨oc, od, .func fd, osl⟩ → ∃ g, KBn K fd ps n ks g gV
/-- the same of what the values stand for -/
def BnD (n m : Nat) (gV : List V → List V → List V) (gD : List D → List D → List D) : Prop :=
  ∀ (K : PySem.W.Frag) (mg : Str → Option Value) (R : Rg) (st : Sto) (H : Hp) (vs zs : List V) (ds es : List D), vs.length = n → zs.length = m → DvA K mg R st H vs ds → DvA K mg R st H zs es → DvA K mg R st H (gV vs zs) (gD ds es)
section
variable {P : Program} {w : World} {K : PySem.W.Frag} {mg : Str → Option Value} {base : Heap} {x : Str} {st : Stmt} {N ps : List Str} {k : Nat} {body : SM}
theorem fnV_of {give : Nat → D → Sto → Res D} (hgive : GiveOk give) (D1 : DfV K mg x st) (S : FnScope N ps (defScope st))
    (hb : ∀ (f : Addr) (cdv : Value) (A : Around) (outer : List PySem.Env) (s : Shared) (H : Hp) (E : XK), GC (cxOf (L2.CX P w) P w K mg base N x (defScope st) f cdv A outer s H E) (fun c d _ H' => E c d H') k →
      EVSs (cxOf (L2.CX P w) P w K mg base N x (defScope st) f cdv A outer s H E) (fun c d _ H' => E c d H') (defBody st) body) :
    FnV P w K mg base (k + 1) x ps (runBody give N.length ps.length body) := by
  obtain ⟨f, fd, F, hm⟩ := D1
  refine ⟨f, fd, fnG_of hgive F S (fun cdv A outer s H E hr hg => hb f cdv A outer s H E ⟨hr, hg, ?_⟩), hm, F.kp, ?_⟩
  · exact takes_of rfl rfl rfl rfl
  · obtain ⟨oc, od, kV, doc, pm, an, cdv, ct, osl, _, lk, _⟩ := F.ex
    exact ⟨oc, od, osl, lk⟩
theorem FnN.v {F : List D → M D} (G : FnN P w K mg base k x ps F) : FnV P w K mg base k x ps F :=
  let ⟨f, fd, a, b, c, _, e⟩ := G
  ⟨f, fd, a, b, c, e⟩
end
def mK (F : List D → M D) (gD : List D → List D → List D) (ms mk : Env → M (List D)) : Env → M D := fun ρ => M.bind (ms ρ) fun ds => M.bind (mk ρ) fun es => F (gD ds es)
structure EVK (X : Cx) (W : WX) (kws : List Keyword) (m : Env → M (List D)) : Prop where
  pk : PK X kws (tMA X.K X.mg W m)
section
variable {X : Cx} {W : WX} {k j n : Nat} {ps ks : List Str} {F : List D → M D} {x : Str} {p pos : Pos} {e : Expr} {es : List Expr} {kws : List Keyword} {ms mk : Env → M (List D)} {gV : List V → List V → List V} {gD : List D → List D → List D}
/-- f(e, .., k = v, ..) -/
theorem ev_callK (G : FnV X.prog X.w X.K X.mg X.base j x ps F) (B : Bn X.K X.mg x ps n ks gV) (BD : BnD n ks.length gV gD) (C : GC X W k) (h : j ≤ k) (hg : Gl X x) (hna : ∀ ρ st ds st', ms ρ st = .ok ds st' → ds.length = n) (hnk : ∀ ρ st ds st', mk ρ st = .ok ds st' → ds.length = ks.length)
    (ha : EVA X W (e :: es) ms) (hkw : EVK X W kws mk) (hall : (backToKw pos (keywordEach kws X.env)).all (·.1.isSome) = true := by rfl) (hks : (backToKw pos (keywordEach kws X.env)).filterMap (·.1) = ks := by rfl)
    (hdb : (x == ("__debug__" : Str)) = false := by decide) (he : starEach (e :: es) X.env = (false, eval e X.env) :: starEach es X.env := by rfl)
    (hpl : ((backTo pos (starEach (e :: es) X.env)).any (·.1) || (backToKw pos (keywordEach kws X.env)).any (·.1.isNone)) = false := by rfl) :
    EV X W (.Call (.Name x p) (e :: es) kws pos) (mK F gD ms mk) := by
  obtain ⟨f, fd, a, hm, hk, oc, od, osl, lk⟩ := G
  obtain ⟨g, hb⟩ := B f fd oc od osl hm lk
  refine ⟨⟨fun pins s σ H Q I h0 => ?_⟩⟩
  refine wpAny_Call_Name_kw (ld_glob I hg hm ?_ hdb)
  obtain ⟨R, ρ, st, S, E, h0⟩ := h0
  have h1 := Post.bind (Rel := DvA X.K X.mg) (Rel2 := Dv X.K X.mg) h0
  -- the values by their places, then those by their names
  refine PySem.W.callWith_KW (h₀ := X.base) I.ok.mod.kin hk hall (thn (ha.pa.run pos pins s σ H (fun vs H1 => tMA X.K X.mg W mk σ H1 fun zs H2 => vs.length = n ∧ zs.length = ks.length ∧ SpF X.K X.mg F (gV vs zs) H2 Q (fun c d H' => W c d σ H')) I ⟨R, ρ, st, S, E, ?_⟩) fun us s1 ⟨vs, H1, I1, r, q⟩ => ?_) hpl he
  · cases z : ms ρ st with
    | bad => rw [z] at h1; exact h1
    | exc y st' => rw [z] at h1; exact h1
    | ok ds st1 =>
      have ld := hna _ _ _ _ z
      rw [z] at h1
      intro vs R1 H1 x1 S1 D1
      obtain ⟨R1', st1', ds', x1', S1', D1', h2⟩ := h1 vs R1 H1 x1 S1 D1
      have h3 := Post.bind (Rel := DvA X.K X.mg) (Rel2 := Dv X.K X.mg) h2
      refine ⟨R1', ρ, st1', S1', E.ext x1', ?_⟩
      cases z2 : mk ρ st1' with
      | bad => rw [z2] at h3; exact h3
      | exc y st' => rw [z2] at h3; exact h3
      | ok es2 st2 =>
        have lk2 := hnk _ _ _ _ z2
        rw [z2] at h3
        intro zs R2 H2 x2 S2 D2
        obtain ⟨R2', st2', es', x2', S2', D2', h4⟩ := h3 zs R2 H2 x2 S2 D2
        have lv : vs.length = n := by rw [D1.len]; exact ld
        have lz : zs.length = ks.length := by rw [D2.len]; exact lk2
        exact ⟨lv, lz, R2', st2', _, S2', BD _ _ _ _ _ _ _ _ _ lv lz (D1'.ext x2') D2', h4⟩
  · refine thn (hkw.pk.run pos pins s1 σ H1 _ I1 q) fun ws s2 ⟨zs, H2, I2, rz, l1, l2, q2⟩ => ⟨I2.kIn, ?_⟩
    rw [hks]
    have r2 := hb.rel r rz
    refine wpAny_call (codeAny_mono (runG a (C.mono h) I2 (hb.to s2 us ws I2.kIn (r.length.symm.trans l1) (rz.length.symm.trans l2)) r2 q2) fun r s' hq => ?_)
    cases r with
    | error e => exact hq
    | ok fl =>
      cases fl with
      | ret u => exact hq
      | next => exact hq.elim
      | brk => exact hq.elim
      | cont => exact hq.elim
end
/-- how many values a list of arguments gives -/
def AL (ms : Env → M (List D)) (n : Nat) : Prop := ∀ ρ st ds st', ms ρ st = .ok ds st' → ds.length = n
theorem al_nil : AL aNil 0 := fun ρ st ds st' h => by
  cases h
  rfl
theorem al_cons {m : Env → M D} {r : Env → M (List D)} {n : Nat} (h : AL r n) : AL (aCons m r) (n + 1) := fun ρ st ds st' e => by
  unfold aCons M.bind at e
  cases z : m ρ st with
  | bad => rw [z] at e; cases e
  | exc x s1 => rw [z] at e; cases e
  | ok d s1 =>
    rw [z] at e
    dsimp only at e
    cases z2 : r ρ s1 with
    | bad => rw [z2] at e; cases e
    | exc x s2 => rw [z2] at e; cases e
    | ok es s2 =>
      rw [z2] at e
      cases e
      rw [List.length_cons, h _ _ _ _ z2]
section
variable {X : Cx} {W : WX} {nm : Option Str} {kpos : Pos} {e : Expr} {kws : List Keyword} {me : Env → M D} {ms : Env → M (List D)}
theorem PK.imp {t u : TA} (h : PK X kws t) (q : ∀ σ H Q, u σ H Q → t σ H Q) : PK X kws u := ⟨fun pos pins s σ H Q I z => h.run pos pins s σ H Q I (q σ H Q z)⟩
theorem ek_nil : EVK X W [] aNil := by
  refine ⟨PK.imp pk_nil fun σ H Q h => ?_⟩
  obtain ⟨R, ρ, st, S, E, h⟩ := h
  exact h.okR S .nil
theorem ek_cons (ha : EV X W e me) (hr : EVK X W kws ms) : EVK X W (⟨nm, e, kpos⟩ :: kws) (aCons me ms) := by
  refine ⟨PK.imp (pk_cons ha.pe hr.pk) fun σ H Q h => ?_⟩
  obtain ⟨R, ρ, st, S, E, h⟩ := h
  refine ⟨R, ρ, st, S, E, (Post.bind (Rel := Dv X.K X.mg) (Rel2 := DvA X.K X.mg) h).monoQ fun v1 H1 ⟨R1, st1, d1, x1, S1, D1, h2⟩ => ?_⟩
  refine ⟨R1, ρ, st1, S1, E.ext x1, (Post.bind (Rel := DvA X.K X.mg) (Rel2 := DvA X.K X.mg) h2).monoQ fun vs H2 ⟨R2, st2, ds, x2, S2, D2, h4⟩ => ?_⟩
  exact h4.okR S2 (.cons (D1.ext x2) D2)
end
end Ev
set_option Elab.async false
set_option linter.all false
set_option maxRecDepth 100000
set_option maxHeartbeats 4000000
/-! Ev16: short words for try. -/
namespace Ev
open PySem PySem.Spec PyProof.Rows L2
open Classical
/-- the class x of the module catches just what hit tells -/
def Catch (K : PySem.W.Frag) (mg : Str → Option Value) (x : Str) (hit : Str → Option Bool) : Prop := ∃ c, mg x = some c ∧ Hits K mg c hit
section
variable {X : Cx} {W : WX} {k : Nat} {pos pos' p : Pos}
theorem evs_try1 {x n : Str} {i : Nat} {body suite : List Stmt} {b0 : Stmt} {np : Pos} {mb : SM} {hit : Str → Option Bool} {sm : Addr → Value → Option Addr → SM} (hs : X.stack = X.env :: X.outer) (hf : X.env.frame = some X.env.locals)
    (hN : X.N.Nodup) (hi : X.N[i]? = some n) (hln : X.env.kindOf n = some .local) (T : Catch X.K X.mg x hit) (hg : Gl X x) (C : GC X W k)
    (hb : ∀ (W' : WX) (pn : List (Addr × Obj)) (xe : Value → Shared → Prop), GC (X.tr pn xe) W' k → PassesOwn (model X.prog X.w) X.A X.env xe → EVSs (X.tr pn xe) W' body mb)
    (hsu : ∀ (a : Addr) (oe : Obj) (cls : Value) (d : Option Addr) (pn : List (Addr × Obj)), Zc cls d oe → (∃ vs, oe.data = .fields vs) → EVSs (X.suite a ((a, oe) :: pn)) W0 (b0 :: suite) (sm a cls d)) (hdb : (x == ("__debug__" : Str)) = false := by decide) :
    EVS X W (.Try body [.ExceptHandler (some (.Name x np)) (some n) (b0 :: suite) pos'] [] [] pos) (sTryAs mb hit i sm) := by
  obtain ⟨c, hm, hh⟩ := T
  exact evs_tryAs hs hf hN hi hln ⟨hg, hdb, .inl hm⟩ C hh hb hsu
/-- a class of Python's own, as a value -/
theorem ev_rawty {x : Str} {T : String} (hg : Gl X x) (hm : X.mg x = none) (hv : bootBuiltins x = some (.type T)) (hn : x ≠ "__name__" := by decide) (hd : (x == ("__debug__" : Str)) = false := by decide) : EV X W (.Name x pos) (ct (.raw (.ty T))) :=
  ⟨PE.imp (pe_bltn hg hm hv (v := .ty T) rfl hn hd) fun _ _ _ h => tC_of (X := X) (d := .raw (.ty T)) (fun _ _ _ => rfl) h⟩
/-- a class of the module, as a value -/
theorem ev_gcls {x : Str} (hg : Gl X x) (hm : ∃ f : Addr, X.mg x = some (.ref f)) (hd : (x == ("__debug__" : Str)) = false := by decide) : EV X W (.Name x pos) (ct (.glob x)) := by
  obtain ⟨f, hf⟩ := hm
  exact ev_gfun hg hf hd
end
@[simp] theorem dIsE_ap (a : Addr) (cls : Value) (isa : Str → D → Option Bool) (x : Exc) (c : D) (b : Bool) (st : Sto) (h : isa x.cls c = some b) : dIsE a cls none isa [.err (.ref a) cls none x, c] st = .ok (.dat (.bool b)) st := by
  show (if V.ref a = V.ref a ∧ cls = cls ∧ (none : Option Addr) = none ∧ (none : Option Addr) = none then _ else _) = _
  rw [if_pos ⟨rfl, rfl, rfl, rfl⟩, h]
theorem DvA.app {K : PySem.W.Frag} {mg : Str → Option Value} {R : Rg} {H : Hp} {st : Sto} : ∀ {vs : List V} {ds : List D} {ws : List V} {es : List D}, DvA K mg R st H vs ds → DvA K mg R st H ws es → DvA K mg R st H (vs ++ ws) (ds ++ es)
  | _, _, _, _, .nil, q => q
  | _, _, _, _, .cons p r, q => .cons p (DvA.app r q)
end Ev
set_option Elab.async false
set_option linter.all false
set_option maxRecDepth 100000
set_option maxHeartbeats 4000000
/-! Ev17: what the top has written: classes, tuples, defaults. -/
namespace Ev
open PySem PySem.Spec PyProof.Rows L2
open Classical
section
variable {K : PySem.W.Frag} {mg : Str → Option Value} {h : Heap}
def flatV : PyData → V
  | .int i => .int i
  | .str x => .str x
  | .bool b => .bl b
  | _ => .non
def flat : PyData → Bool
  | .int _ | .str _ | .bool _ | .none => true
  | _ => false
theorem flat_pd {U : Addr → Prop} {H : Hp} : ∀ {d : PyData}, flat d = true → Pd K U H (flatV d) d
  | .none, _ => .non
  | .bool b, _ => .bl b
  | .int i, _ => .int i
  | .str x, _ => .str x
theorem flat_pdA {U : Addr → Prop} {H : Hp} : ∀ {ds : List PyData}, ds.all flat = true → PdA K U H (ds.map flatV) ds
  | [], _ => .nil
  | d :: r, e => by
    rw [List.all_cons, Bool.and_eq_true] at e
    exact .cons (flat_pd e.1) (flat_pdA e.2)
theorem ktup_mk (X : K.In h) (G : h.Ns mainGlobals mg) {x : Str} {ds : List PyData} {ad : Addr} {dd : Option Addr} {its : Array Value} {n : Nat} {sl : Array (Option Value)} (a : PySem.W.nsIn K mainGlobals x = some (some (.ref ad)))
    (l : K.lookup ad = some ⟨.type "tuple", dd, .seq its n, sl⟩) (v : Vals (ds.map flatV) its.toList) (hz : its.size ≤ sizeLine) (hf : ds.all flat = true) : KTup K mg x ds :=
  ⟨ad, PySem.W.mg_of X G a, fun U H => .tup (.inr ⟨_, its, n, l, rfl, rfl, hz, v⟩) (flat_pdA hf)⟩
theorem hits_nil {c : Value} : Hits K mg c (fun _ => none) := fun x b cls e _ => by cases e
theorem hits_cons {c : Value} {hit : Str → Option Bool} {y : Str} {b : Bool} {A : Addr} (m : mg y = some (.ref A)) (e : PySem.W.exmOne K (.ref A) c = some b) (r : Hits K mg c hit) : Hits K mg c (fun x => if x = y then some b else hit x) := fun x b' cls hx hm => by
  by_cases q : x = y
  · subst q
    have hx' : (if x = x then some b else hit x) = some b' := hx
    rw [if_pos rfl] at hx'
    cases hx'
    rw [m] at hm
    cases hm
    exact e
  · have hx' : (if x = y then some b else hit x) = some b' := hx
    rw [if_neg q] at hx'
    exact r x b' cls hx' hm
theorem exn_mk (X : K.In h) (G : h.Ns mainGlobals mg) {x : Str} {C : Addr} {bmB : List Value} {B newId initId : String} (F : ExcBaseFacts B newId initId bmB) (a : PySem.W.nsIn K mainGlobals x = some (some (.ref C))) (q : PySem.W.excIn K C bmB newId = true)
    (k : PySem.W.keepIn K (.ref C) = true) (b : PySem.W.subIn K (.ref C) (.type "BaseException") = some true) (t : PySem.W.typeIn K (.ref C) = some (.type "type")) : ExN K mg x := ⟨C, bmB, B, newId, initId, F, q, PySem.W.mg_of X G a, k, b, t⟩
theorem cls_mk (X : K.In h) (G : h.Ns mainGlobals mg) {x : Str} {C : Addr} (a : PySem.W.nsIn K mainGlobals x = some (some (.ref C))) : ∃ f : Addr, mg x = some (.ref f) := ⟨C, PySem.W.mg_of X G a⟩
def IsaAt (K : PySem.W.Frag) (mg : Str → Option Value) (x : Str) (c : D) (b : Bool) : Prop := ∃ (D0 : Addr) (cv : Value), mg x = some (.ref D0) ∧ ExcC K D0 ∧ PySem.W.kitOne K (.ref D0) cv = some b ∧ clsD mg c cv
theorem kit_ref {D0 C : Addr} {b : Bool} (h1 : PySem.W.isClsIn K C = true) (h2 : PySem.W.typeIn K (.ref C) = some (.type "type")) (h3 : PySem.W.subIn K (.ref D0) (.ref C) = some b) (h4 : D0 = C → b = true) : PySem.W.kitOne K (.ref D0) (.ref C) = some b := by
  unfold PySem.W.kitOne
  by_cases e : D0 = C
  · subst e
    rw [if_pos (beq_self_eq_true _), h4 rfl]
  · rw [if_neg (fun z => e (Value.ref.inj (beq_iff_eq.mp z)))]
    have h1' : (PySem.W.clsIn K C).isSome = true := h1
    show (if ((PySem.W.clsIn K C).isSome && PySem.W.typeIn K (.ref C) == some (.type "type")) = true then PySem.W.subIn K (.ref D0) (.ref C) else none) = some b
    rw [h1', h2, if_pos (by rfl)]
    exact h3
theorem kit_type {D0 : Addr} {T : String} {b : Bool} (h1 : PySem.W.kitMeta T = true) (h3 : PySem.W.subIn K (.ref D0) (.type T) = some b) : PySem.W.kitOne K (.ref D0) (.type T) = some b := by
  unfold PySem.W.kitOne
  rw [if_neg (fun z => by cases beq_iff_eq.mp z)]
  show (if PySem.W.kitMeta T = true then PySem.W.subIn K (.ref D0) (.type T) else none) = some b
  rw [if_pos h1]
  exact h3
theorem isa_own (X : K.In h) (G : h.Ns mainGlobals mg) {x y : Str} {b : Bool} {C D0 : Addr} (a : PySem.W.nsIn K mainGlobals x = some (some (.ref D0))) (E : ExcC K D0) (a2 : PySem.W.nsIn K mainGlobals y = some (some (.ref C))) (k : PySem.W.kitOne K (.ref D0) (.ref C) = some b) : IsaAt K mg x (.glob y) b :=
  ⟨D0, .ref C, PySem.W.mg_of X G a, E, k, PySem.W.mg_of X G a2⟩
theorem isa_ty (X : K.In h) (G : h.Ns mainGlobals mg) {x : Str} {T : String} {b : Bool} {D0 : Addr} (a : PySem.W.nsIn K mainGlobals x = some (some (.ref D0))) (E : ExcC K D0) (k : PySem.W.kitOne K (.ref D0) (.type T) = some b) : IsaAt K mg x (.raw (.ty T)) b :=
  ⟨D0, .type T, PySem.W.mg_of X G a, E, k, rfl⟩
/-- a def with one parameter by its name alone, left out -/
theorem bn0 (X : K.In h) (G : h.Ns mainGlobals mg) {x kn : Str} {ps : List Str} {n : Nat} {v : V} {f Dk : Addr} {u : Value} {oc : Value} {od : Option Addr} {sl : Array (Option Value)} {fd : FuncData} (a : PySem.W.nsIn K mainGlobals x = some (some (.ref f))) (l : K.lookup f = some ⟨oc, od, .func fd, sl⟩)
    (d : PySem.W.nsIn K Dk kn = some (some u)) (r : RelV v u) (hb : ∀ us : List Value, us.length = n → KwChain Dk [(kn, u)] (bindArgs fd ⟨us, []⟩) (ps.zip (us ++ [u]))) : Bn K mg x ps n [] (fun vs _ => vs ++ [v]) := by
  intro f2 fd2 oc2 od2 sl2 hm hl
  rw [PySem.W.mg_of X G a] at hm
  cases hm
  rw [l] at hl
  cases hl
  refine ⟨fun us _ => us ++ [u], ⟨fun s us ws Xs hu hw => ?_, fun {vs us zs ws} r1 _ => r1.append (.cons r .nil)⟩⟩
  exact BindsTo.of_looks fun M => KwChain.looks Xs (fun q hq => by rw [List.mem_singleton.mp hq]; exact d) (hb us hu)
/-- .. given -/
theorem bn1 (X : K.In h) (G : h.Ns mainGlobals mg) {x kn : Str} {ps : List Str} {n : Nat} {f : Addr} {oc : Value} {od : Option Addr} {sl : Array (Option Value)} {fd : FuncData} (a : PySem.W.nsIn K mainGlobals x = some (some (.ref f))) (l : K.lookup f = some ⟨oc, od, .func fd, sl⟩)
    (hb : ∀ (us : List Value) (w : Value), us.length = n → bindArgs fd ⟨us, [(kn, w)]⟩ = pure (ps.zip (us ++ [w]))) : Bn K mg x ps n [kn] (fun vs zs => vs ++ zs) := by
  intro f2 fd2 oc2 od2 sl2 hm hl
  rw [PySem.W.mg_of X G a] at hm
  cases hm
  rw [l] at hl
  cases hl
  refine ⟨fun us ws => us ++ ws, ⟨fun s us ws Xs hu hw => ?_, fun {vs us zs ws} r1 r2 => r1.append r2⟩⟩
  match ws, hw with
  | [w], _ => exact .of_eq (hb us w hu)
theorem bn0f (X : K.In h) (G : h.Ns mainGlobals mg) {x kn : Str} {st : Stmt} {ps : List Str} {n : Nat} {v : V} {f Dk : Addr} {u : Value} {oc : Value} {od an : Option Addr} {sl : Array (Option Value)} {doc pm cd ct : Value} (a : PySem.W.nsIn K mainGlobals x = some (some (.ref f)))
    (l : K.lookup f = some ⟨oc, od, .func (PySem.W.fnOf x x (defArgs st) (defBody st) (defScope st) .none (.ref Dk) doc pm an cd ct), sl⟩) (d : PySem.W.nsIn K Dk kn = some (some u)) (r : RelV v u)
    (hb : ∀ (Dk : Addr) (doc pm : Value) (an : Option Addr) (cd ct u : Value) (us : List Value), us.length = n → KwChain Dk [(kn, u)] (bindArgs (PySem.W.fnOf x x (defArgs st) (defBody st) (defScope st) .none (.ref Dk) doc pm an cd ct) ⟨us, []⟩) (ps.zip (us ++ [u]))) :
    Bn K mg x ps n [] (fun vs _ => vs ++ [v]) := bn0 X G a l d r fun us hu => hb Dk doc pm an cd ct u us hu
theorem bn1f (X : K.In h) (G : h.Ns mainGlobals mg) {x kn : Str} {st : Stmt} {ps : List Str} {n : Nat} {f : Addr} {oc : Value} {od an : Option Addr} {sl : Array (Option Value)} {kV doc pm cd ct : Value} (a : PySem.W.nsIn K mainGlobals x = some (some (.ref f)))
    (l : K.lookup f = some ⟨oc, od, .func (PySem.W.fnOf x x (defArgs st) (defBody st) (defScope st) .none kV doc pm an cd ct), sl⟩)
    (hb : ∀ (kV doc pm : Value) (an : Option Addr) (cd ct : Value) (us : List Value) (w : Value), us.length = n → bindArgs (PySem.W.fnOf x x (defArgs st) (defBody st) (defScope st) .none kV doc pm an cd ct) ⟨us, [(kn, w)]⟩ = pure (ps.zip (us ++ [w]))) :
    Bn K mg x ps n [kn] (fun vs zs => vs ++ zs) := bn1 X G a l fun us w hu => hb kV doc pm an cd ct us w hu
theorem dfv_mk (X : K.In h) (G : h.Ns mainGlobals mg) {x : Str} {st : Stmt} {f : Addr} {oc : Value} {od an : Option Addr} {osl : Array (Option Value)} {kV doc pm cdv ct : Value}
    (a : PySem.W.nsIn K mainGlobals x = some (some (.ref f))) (l : K.lookup f = some ⟨oc, od, .func (PySem.W.fnOf x x (defArgs st) (defBody st) (defScope st) .none kV doc pm an cdv ct), osl⟩) (c : PySem.W.codeIn K cdv x = true) (k : PySem.W.keepIn K (.ref f) = true) : DfV K mg x st := by
  have F := fun_mk l c k
  exact ⟨f, _, F, PySem.W.mg_of X G a⟩
end
end Ev
set_option Elab.async false
set_option linter.all false
set_option maxRecDepth 100000
set_option maxHeartbeats 4000000
/-! Pu: reckoning with the functions. -/
namespace Ev
open PySem PySem.Spec PyProof.Rows L2
open Classical
theorem boolsOf_map (g : PyData → Bool) : ∀ xs : List PyData, boolsOf (xs.map fun x => .bool (g x)) = some (xs.map g)
  | [] => rfl
  | x :: r => by
    rw [List.map_cons]
    unfold boolsOf
    rw [boolsOf_map g r]
    rfl
theorem intsOf_map : ∀ xs : List Int, intsOf (xs.map PyData.int) = some xs
  | [] => rfl
  | x :: r => by
    rw [List.map_cons]
    unfold intsOf
    rw [intsOf_map r]
    rfl
section
variable {α β : Type} (ρ : Env) (st : Sto)
@[simp] theorem pure_ap (a : α) : M.pure a st = .ok a st := rfl
@[simp] theorem bad_ap : (M.bad : M α) st = .bad := rfl
/-- what follows a result -/
def Res.then (r : Res α) (f : α → M β) : Res β :=
  match r with
  | .ok a st' => f a st'
  | .exc x st' => .exc x st'
  | .bad => .bad
@[simp] theorem then_ok (a : α) (f : α → M β) : (Res.ok a st).then f = f a st := rfl
@[simp] theorem then_bad (f : α → M β) : (Res.bad : Res α).then f = .bad := rfl
@[simp] theorem then_exc (x : Exc) (f : α → M β) : (Res.exc x st : Res α).then f = .exc x st := rfl
@[simp] theorem bind_ap (m : M α) (f : α → M β) : M.bind m f st = (m st).then f := rfl
@[simp] theorem m2_ap (f : D → D → M D) (a b : Env → M D) : m2 f a b ρ st = (a ρ st).then fun x => M.bind (b ρ) fun y => f x y := rfl
@[simp] theorem m1_ap (f : D → M D) (a : Env → M D) : m1 f a ρ st = (a ρ st).then f := rfl
@[simp] theorem mC_ap (f : List D → M D) (a : Env → M (List D)) : mC f a ρ st = (a ρ st).then f := rfl
@[simp] theorem ct_ap (d : D) : ct d ρ st = .ok d st := rfl
@[simp] theorem aNil_ap : aNil ρ st = .ok [] st := rfl
@[simp] theorem aCons_ap (m : Env → M D) (r : Env → M (List D)) : aCons m r ρ st = (m ρ st).then fun x => M.bind (r ρ) fun xs => M.pure (x :: xs) := rfl
@[simp] theorem asB_ap (b : Bool) : asB (.dat (.bool b)) st = .ok b st := rfl
@[simp] theorem mT_ap (a : Env → M D) : mT a ρ st = (a ρ st).then asB := rfl
@[simp] theorem mNot_ap (a : Env → M Bool) : mNot a ρ st = (a ρ st).then fun b => M.pure !b := rfl
@[simp] theorem mAnd_ap (m n : Env → M Bool) : mAnd m n ρ st = (m ρ st).then fun b => if b = true then n ρ else M.pure false := rfl
@[simp] theorem mOr_ap (m n : Env → M Bool) : mOr m n ρ st = (m ρ st).then fun b => if b = true then M.pure true else n ρ := rfl
@[simp] theorem mAndV_ap (m n : Env → M D) : mAndV m n ρ st = (m ρ st).then fun x => M.bind (asB x) fun b => if b = true then n ρ else M.pure (.dat (.bool false)) := rfl
@[simp] theorem mOrV_ap (m n : Env → M D) : mOrV m n ρ st = (m ρ st).then fun x => M.bind (asB x) fun b => if b = true then M.pure (.dat (.bool true)) else n ρ := rfl
@[simp] theorem mNotV_ap (m : Env → M D) : mNotV m ρ st = (m ρ st).then fun x => M.bind (asB x) fun b => M.pure (.dat (.bool !b)) := rfl
@[simp] theorem mIf_ap (t : Env → M Bool) (m n : Env → M D) : mIf t m n ρ st = (t ρ st).then fun k => if k = true then m ρ else n ρ := rfl
@[simp] theorem mChain_ap (f g : D → D → M D) (ma mb mc : Env → M D) : mChain f g ma mb mc ρ st = (ma ρ st).then fun x => M.bind (mb ρ) fun y => M.bind (f x y) fun z => M.bind (asB z) fun k => if k = true then M.bind (mc ρ) fun w => g y w else M.pure (.dat (.bool false)) := rfl
@[simp] theorem on1_ap (f : D → M D) (d : D) : on1 f [d] st = f d st := rfl
@[simp] theorem on2_ap (f : D → D → M D) (d e : D) : on2 f [d, e] st = f d e st := rfl
@[simp] theorem retI_ap (i : Int) : retI i st = .ok (.dat (.int i)) st := rfl
@[simp] theorem retB_ap (i : Bool) : retB i st = .ok (.dat (.bool i)) st := rfl
@[simp] theorem guardM_ap (c : Prop) [Decidable c] (m : M D) : guardM c m st = if c then m st else .bad := by unfold guardM; split <;> rfl
@[simp] theorem notM_ap (m : M D) : notM m st = (m st).then fun x => M.bind (asB x) fun b => retB (!b) := rfl
/-- what follows, of statements -/
def Res.thenS (r : Res α) (ρ : Env) (f : α → SM) : SRes :=
  match r with
  | .ok a st' => f a ρ st'
  | .exc x st' => .exc x ρ st'
  | .bad => .bad
@[simp] theorem thenS_ok (a : α) (f : α → SM) : (Res.ok a st).thenS ρ f = f a ρ st := rfl
@[simp] theorem thenS_bad (f : α → SM) : (Res.bad : Res α).thenS ρ f = .bad := rfl
@[simp] theorem thenS_exc (x : Exc) (f : α → SM) : (Res.exc x st : Res α).thenS ρ f = .exc x ρ st := rfl
@[simp] theorem sBind_ap (m : Env → M α) (f : α → SM) : sBind m f ρ st = (m ρ st).thenS ρ f := rfl
def SRes.then (r : SRes) (n : SM) : SRes :=
  match r with
  | .nx ρ' st' => n ρ' st'
  | r => r
@[simp] theorem sthen_nx (n : SM) : (SRes.nx ρ st).then n = n ρ st := rfl
@[simp] theorem sthen_rt (n : SM) (d : D) : (SRes.rt d st).then n = .rt d st := rfl
@[simp] theorem sthen_bk (n : SM) : (SRes.bk ρ st).then n = .bk ρ st := rfl
@[simp] theorem sthen_ct (n : SM) : (SRes.ct ρ st).then n = .ct ρ st := rfl
@[simp] theorem sthen_exc (n : SM) (x : Exc) : (SRes.exc x ρ st).then n = .exc x ρ st := rfl
@[simp] theorem sthen_bad (n : SM) : SRes.bad.then n = .bad := rfl
@[simp] theorem sSeq_ap (m n : SM) : sSeq m n ρ st = (m ρ st).then n := by
  unfold sSeq SRes.then
  cases m ρ st <;> rfl
@[simp] theorem sNil_ap : sNil ρ st = .nx ρ st := rfl
@[simp] theorem sRet_ap (m : Env → M D) : sRet m ρ st = (m ρ st).thenS ρ fun d _ st => .rt d st := rfl
@[simp] theorem sRetN_ap : sRetN ρ st = .rt (.dat .none) st := rfl
@[simp] theorem sIf_ap (c : Env → M Bool) (m n : SM) : sIf c m n ρ st = (c ρ st).thenS ρ fun b => if b = true then m else n := rfl
@[simp] theorem sDrop_ap (m : Env → M D) : sDrop m ρ st = (m ρ st).thenS ρ fun _ ρ st => .nx ρ st := rfl
@[simp] theorem sSet_ap (i : Nat) (m : Env → M D) : sSet i m ρ st = (m ρ st).thenS ρ fun d ρ st => .nx (ρ.set i (some d)) st := rfl
@[simp] theorem sPass_ap : sPass ρ st = .nx ρ st := rfl
@[simp] theorem sBrk_ap : sBrk ρ st = .bk ρ st := rfl
@[simp] theorem sCnt_ap : sCnt ρ st = .ct ρ st := rfl
@[simp] theorem mSeq_ap (m : Env → M D) : mSeq m ρ st = (m ρ st).then srcOf := rfl
@[simp] theorem mYes_ap : mYes ρ st = .ok true st := rfl
@[simp] theorem mNoPart_ap : mNoPart ρ st = .ok none st := rfl
@[simp] theorem mPart_ap (m : Env → M D) : mPart m ρ st = (m ρ st).then asPart := rfl
@[simp] theorem asPart_ap (i : Int) : asPart (.dat (.int i)) st = .ok (some i) st := rfl
@[simp] theorem mSl_ap (m : Env → M D) (l u : Env → M (Option Int)) : mSl m l u ρ st = (m ρ st).then fun x => M.bind (l ρ) fun i => M.bind (u ρ) fun j => dSl x i j := rfl
@[simp] theorem mLc_ap (src : Env → M Src) (own : List Nat) (t : Tg) (test : Env → M Bool) (elt : Env → M D) : mLc src own t test elt ρ st = (src ρ st).then fun s => fun st => loopC s.ok t test elt (wipeE ρ own) s.items [] st := rfl
@[simp] theorem sFor_ap (src : Env → M Src) (t : Tg) (b : SM) : sFor src t b ρ st = (src ρ st).thenS ρ fun s => loopS s.ok t b s.items := rfl
@[simp] theorem mRng1_ap (m : Env → M (List D)) : mRng1 m ρ st = (m ρ st).then rng1 := rfl
@[simp] theorem mRng2_ap (m : Env → M (List D)) : mRng2 m ρ st = (m ρ st).then rng2 := rfl
@[simp] theorem dNil_ap : dNil ρ st = .ok [] st := rfl
@[simp] theorem dCons_ap (m : Env → M D) (r : Env → M (List PyData)) : dCons m r ρ st = (m ρ st).then fun x => M.bind (asDat x) fun y => M.bind (r ρ) fun ys => M.pure (y :: ys) := rfl
@[simp] theorem asDat_ap (y : PyData) : asDat (.dat y) st = .ok y st := rfl
@[simp] theorem mDct_ap (ks : List Key) (m : Env → M (List PyData)) : mDct ks m ρ st = (m ρ st).then fun ys => M.pure (.dat (.dict ((ks.map keyD).zip ys))) := rfl
@[simp] theorem mDct0_ap : mDct0 ρ st = .ok (.dat (.dict [])) st := rfl
/-- the end of a def -/
def SRes.fin (give : Nat → D → Sto → Res D) (n : Nat) (r : SRes) : Res D :=
  match r with
  | .nx _ st' => give n (.dat .none) st'
  | .rt d st' => give n d st'
  | .exc x _ st' => .exc x (st'.take n)
  | _ => .bad
@[simp] theorem fin_nx (give : Nat → D → Sto → Res D) (n : Nat) : (SRes.nx ρ st).fin give n = give n (.dat .none) st := rfl
@[simp] theorem fin_rt (give : Nat → D → Sto → Res D) (n : Nat) (d : D) : (SRes.rt d st).fin give n = give n d st := rfl
@[simp] theorem fin_exc (give : Nat → D → Sto → Res D) (n : Nat) (x : Exc) : (SRes.exc x ρ st).fin give n = .exc x (st.take n) := rfl
@[simp] theorem fin_bad (give : Nat → D → Sto → Res D) (n : Nat) : SRes.bad.fin give n = .bad := rfl
theorem run_ap (give : Nat → D → Sto → Res D) (n : Nat) (b : SM) (ds : List D) : runBody give n ds.length b ds st = (b (startE n ds) st).fin give st.length := by
  unfold runBody SRes.fin
  rw [if_pos rfl] <;> (cases b (startE n ds) st <;> rfl)
@[simp] theorem run1 (give : Nat → D → Sto → Res D) (n : Nat) (b : SM) (d1 : D) : runBody give n 1 b [d1] st = (b (startE n [d1]) st).fin give st.length := run_ap st give n b [d1]
@[simp] theorem run2 (give : Nat → D → Sto → Res D) (n : Nat) (b : SM) (d1 d2 : D) : runBody give n 2 b [d1, d2] st = (b (startE n [d1, d2]) st).fin give st.length := run_ap st give n b [d1, d2]
@[simp] theorem run3 (give : Nat → D → Sto → Res D) (n : Nat) (b : SM) (d1 d2 d3 : D) : runBody give n 3 b [d1, d2, d3] st = (b (startE n [d1, d2, d3]) st).fin give st.length := run_ap st give n b [d1, d2, d3]
@[simp] theorem run4 (give : Nat → D → Sto → Res D) (n : Nat) (b : SM) (d1 d2 d3 d4 : D) : runBody give n 4 b [d1, d2, d3, d4] st = (b (startE n [d1, d2, d3, d4]) st).fin give st.length := run_ap st give n b [d1, d2, d3, d4]
@[simp] theorem run5 (give : Nat → D → Sto → Res D) (n : Nat) (b : SM) (d1 d2 d3 d4 d5 : D) : runBody give n 5 b [d1, d2, d3, d4, d5] st = (b (startE n [d1, d2, d3, d4, d5]) st).fin give st.length := run_ap st give n b [d1, d2, d3, d4, d5]
end
@[simp] theorem startE_ap (n : Nat) (ds : List D) : startE n ds = ds.map some ++ List.replicate (n - ds.length) none := rfl
@[simp] theorem tgName_ap (i : Nat) (d : D) (ρ : Env) : tgName i d ρ = some (ρ.set i (some d)) := rfl
/-! operations on data -/
section
variable (st : Sto) (i j : Int)
@[simp] theorem dSub_ap : dSub (.dat (.int i)) (.dat (.int j)) st = .ok (.dat (.int (i - j))) st := rfl
@[simp] theorem dLt_ap : dLt (.dat (.int i)) (.dat (.int j)) st = .ok (.dat (.bool (decide (i < j)))) st := rfl
@[simp] theorem dLe_ap : dLe (.dat (.int i)) (.dat (.int j)) st = .ok (.dat (.bool (decide (i ≤ j)))) st := rfl
@[simp] theorem dGt_ap : dGt (.dat (.int i)) (.dat (.int j)) st = .ok (.dat (.bool (decide (j < i)))) st := rfl
@[simp] theorem dGe_ap : dGe (.dat (.int i)) (.dat (.int j)) st = .ok (.dat (.bool (decide (j ≤ i)))) st := rfl
theorem guard_ok {c : Prop} [Decidable c] {m : M D} {st : Sto} (h : c) : guardM c m st = m st := by
  unfold guardM
  rw [if_pos h]
theorem dMod_ap (h : j ≠ 0) : dMod (.dat (.int i)) (.dat (.int j)) st = .ok (.dat (.int (i.fmod j))) st := guard_ok (m := retI (i.fmod j)) h
theorem dFdiv_ap (h : 0 < j ∧ wideI j ∨ j ≠ 0 ∧ j.natAbs < 1073741824) : dFdiv (.dat (.int i)) (.dat (.int j)) st = .ok (.dat (.int (i.fdiv j))) st := guard_ok (m := retI (i.fdiv j)) h
theorem dPow_ap (h : 0 ≤ j ∧ (Builtin.Int.intBits i : Int) * j ≤ 100000) : dPow (.dat (.int i)) (.dat (.int j)) st = .ok (.dat (.int (i ^ j.toNat))) st := guard_ok (m := retI (i ^ j.toNat)) h
theorem dMul_ap (h : wideI i ∧ wideI j) : dMul (.dat (.int i)) (.dat (.int j)) st = .ok (.dat (.int (i * j))) st := guard_ok (m := retI (i * j)) h
@[simp] theorem dAdd_ap : dAdd (.dat (.int i)) (.dat (.int j)) st = .ok (.dat (.int (i + j))) st := rfl
@[simp] theorem dNeg_ap : dNeg (.dat (.int i)) st = .ok (.dat (.int (-i))) st := rfl
@[simp] theorem dAbs_ap : dAbs (.dat (.int i)) st = .ok (.dat (.int (iAbs i))) st := rfl
@[simp] theorem dMax_ap : dMax2 (.dat (.int i)) (.dat (.int j)) st = .ok (.dat (.int (iMax i j))) st := rfl
@[simp] theorem dMin_ap : dMin2 (.dat (.int i)) (.dat (.int j)) st = .ok (.dat (.int (iMin i j))) st := rfl
@[simp] theorem dInt_ap : dInt (.dat (.int i)) st = .ok (.dat (.int i)) st := rfl
@[simp] theorem dIntB_ap (b : Bool) : dInt (.dat (.bool b)) st = .ok (.dat (.int (if b then 1 else 0))) st := rfl
@[simp] theorem dIsi_ap (x : PyData) (t : Ty) : dIsi (.dat x) (.ty t) st = .ok (.dat (.bool (isi (tyOf x) t))) st := rfl
@[simp] theorem dLen_list (xs : List PyData) : dLen (.dat (.list xs)) st = .ok (.dat (.int xs.length)) st := rfl
@[simp] theorem dLen_tuple (xs : List PyData) : dLen (.dat (.tuple xs)) st = .ok (.dat (.int xs.length)) st := rfl
@[simp] theorem dLen_fz (xs : List PyData) : dLen (.fz xs) st = .ok (.dat (.int xs.length)) st := rfl
theorem dAdd_list {xs ys : List PyData} (h : xs.length + ys.length ≤ 100000) : dAdd (.dat (.list xs)) (.dat (.list ys)) st = .ok (.dat (.list (xs ++ ys))) st := by
  show ifLen _ _ st = _
  unfold ifLen
  rw [if_pos h]
  rfl
@[simp] theorem tupOf_list (xs : List PyData) : tupOf (.dat (.list xs)) st = .ok (.dat (.tuple xs)) st := rfl
@[simp] theorem tupOf_tuple (xs : List PyData) : tupOf (.dat (.tuple xs)) st = .ok (.dat (.tuple xs)) st := rfl
@[simp] theorem lstOf_list (xs : List PyData) : lstOf (.dat (.list xs)) st = .ok (.dat (.list xs)) st := rfl
@[simp] theorem lstOf_tuple (xs : List PyData) : lstOf (.dat (.tuple xs)) st = .ok (.dat (.list xs)) st := rfl
@[simp] theorem dSl_list (xs : List PyData) (lo hi : Option Int) : dSl (.dat (.list xs)) lo hi st = .ok (.dat (.list (cutD xs lo hi))) st := rfl
@[simp] theorem dSl_tuple (xs : List PyData) (lo hi : Option Int) : dSl (.dat (.tuple xs)) lo hi st = .ok (.dat (.tuple (cutD xs lo hi))) st := rfl
@[simp] theorem src_list (xs : List PyData) : srcOf (.dat (.list xs)) st = .ok (.data xs) st := rfl
@[simp] theorem src_tuple (xs : List PyData) : srcOf (.dat (.tuple xs)) st = .ok (.data xs) st := rfl
@[simp] theorem src_fz (xs : List PyData) : srcOf (.fz xs) st = .ok (.data xs) st := rfl
@[simp] theorem datas_nil : datas [] = some [] := rfl
@[simp] theorem datas_cons (x : PyData) (r : List D) : datas (.dat x :: r) = (datas r).map (x :: ·) := rfl
theorem mkTup_ap {ds : List D} {xs : List PyData} (h : datas ds = some xs) (hl : xs.length ≤ 100000) : mkTup ds st = .ok (.dat (.tuple xs)) st := by
  unfold mkTup
  rw [h]
  exact if_pos hl
theorem mkLst_ap {ds : List D} {xs : List PyData} (h : datas ds = some xs) (hl : xs.length ≤ 100000) : mkLst ds st = .ok (.dat (.list xs)) st := by
  unfold mkLst
  rw [h]
  exact if_pos hl
theorem mkLoc_ap {ds : List D} {xs : List PyData} (h : datas ds = some xs) (hl : xs.length ≤ 100000) : mkLoc ds st = .ok (.loc st.length) (st ++ [.lst xs]) := by
  unfold mkLoc
  rw [h]
  exact if_pos hl
theorem repr_ap {x : PyData} (h : reprOk x = true) : dRepr (.dat x) st = .ok (.dat (.str x.shown)) st := if_pos h
@[simp] theorem dEq_str (x y : Str) : dEq (.dat (.str x)) (.dat (.str y)) st = .ok (.dat (.bool (decide (x = y)))) st := rfl
@[simp] theorem dEq_bool (x y : Bool) : dEq (.dat (.bool x)) (.dat (.bool y)) st = .ok (.dat (.bool (x == y))) st := by cases x <;> cases y <;> rfl
@[simp] theorem dataOf_dat (x : PyData) : dataOf (.dat x) st = some x := rfl
@[simp] theorem dataOf_fz (x : List PyData) : dataOf (.fz x) st = none := rfl
@[simp] theorem dataOf_ty (x : Ty) : dataOf (.ty x) st = none := rfl
theorem all_ap (g : PyData → Bool) (xs : List PyData) : dAll (.dat (.list (xs.map fun x => .bool (g x)))) st = .ok (.dat (.bool (xs.all g))) st := by
  show onBools _ _ st = _
  unfold onBools
  rw [boolsOf_map]
  simp
theorem any_ap (g : PyData → Bool) (xs : List PyData) : dAny (.dat (.list (xs.map fun x => .bool (g x)))) st = .ok (.dat (.bool (xs.any g))) st := by
  show onBools _ _ st = _
  unfold onBools
  rw [boolsOf_map]
  simp
end
@[simp] theorem giveD_dat (n : Nat) (x : PyData) (st : Sto) : giveD n (.dat x) st = .ok (.dat x) (st.take n) := rfl
@[simp] theorem vr_zero (d : D) (ρ : Env) (st : Sto) : vr 0 (some d :: ρ) st = .ok d st := rfl
@[simp] theorem vr_succ (i : Nat) (d : Option D) (ρ : Env) (st : Sto) : vr (i + 1) (d :: ρ) st = vr i ρ st := by simp [vr]
@[simp] theorem ite_st {α : Type} (c : Prop) [Decidable c] (a b : M α) (st : Sto) : (if c then a else b) st = if c then a st else b st := by split <;> rfl
@[simp] theorem ite_sm (c : Prop) [Decidable c] (a b : SM) (ρ : Env) (st : Sto) : (if c then a else b) ρ st = if c then a ρ st else b ρ st := by split <;> rfl
@[simp] theorem ite_em {α : Type} (c : Prop) [Decidable c] (a b : Env → M α) (ρ : Env) : (if c then a else b) ρ = if c then a ρ else b ρ := by split <;> rfl
/-! ### loops -/
theorem loopC_ind {ok : Sto → Prop} {t : Tg} {test : Env → M Bool} {elt : Env → M D} {ρ : Env} (P : List D → List PyData → Sto → Prop) (Q : Res D → Prop)
    (h0 : ∀ acc st, P [] acc st → ok st ∧ Q (.ok (.dat (.list acc)) st))
    (h1 : ∀ d ds acc st, P (d :: ds) acc st → ok st ∧ acc.length ≤ 100000 ∧ ∃ ρ1 b st1, t d ρ = some ρ1 ∧ test ρ1 st = .ok b st1 ∧ (b = false → P ds acc st1) ∧ (b = true → ∃ y st2, elt ρ1 st1 = .ok (.dat y) st2 ∧ P ds (acc ++ [y]) st2)) :
    ∀ ds acc st, P ds acc st → Q (loopC ok t test elt ρ ds acc st)
  | [], acc, st, h => by
    obtain ⟨a, b⟩ := h0 acc st h
    unfold loopC
    rw [if_pos a]
    exact b
  | d :: ds, acc, st, h => by
    obtain ⟨a, l, ρ1, b, st1, e1, e2, f, g⟩ := h1 d ds acc st h
    unfold loopC
    rw [if_pos ⟨a, l⟩, e1]
    dsimp only
    rw [e2]
    cases b with
    | false => exact loopC_ind P Q h0 h1 ds acc st1 (f rfl)
    | true =>
      obtain ⟨y, st2, e3, p⟩ := g rfl
      dsimp only
      rw [e3]
      exact loopC_ind P Q h0 h1 ds (acc ++ [y]) st2 p
/-- nothing changes: the items by a function, those that a test lets by -/
theorem loopC_fm {ok : Sto → Prop} {t : Tg} {test : Env → M Bool} {elt : Env → M D} {ρ : Env} {st : Sto} (g : D → Bool) (f : D → PyData) (hok : ok st) (ds : List D) (acc : List PyData) (hl : acc.length + ds.length ≤ 100001)
    (h : ∀ d ∈ ds, ∃ ρ1, t d ρ = some ρ1 ∧ test ρ1 st = .ok (g d) st ∧ (g d = true → elt ρ1 st = .ok (.dat (f d)) st)) :
    loopC ok t test elt ρ ds acc st = .ok (.dat (.list (acc ++ (ds.filter g).map f))) st := by
  refine loopC_ind (fun ds' acc' st' => st' = st ∧ acc'.length + ds'.length ≤ 100001 ∧ (∀ d ∈ ds', d ∈ ds) ∧ acc' ++ (ds'.filter g).map f = acc ++ (ds.filter g).map f) (fun r => r = _) (fun acc' st' ⟨e, _, _, p⟩ => ?_) (fun d ds' acc' st' ⟨e, l, m, p⟩ => ?_) ds acc st ⟨rfl, hl, fun _ h => h, rfl⟩
  · subst e
    refine ⟨hok, ?_⟩
    rw [← p]
    simp
  · subst e
    obtain ⟨ρ1, e1, e2, e3⟩ := h d (m d (List.mem_cons_self))
    rw [List.length_cons] at l
    refine ⟨hok, by omega, ρ1, g d, st', e1, e2, fun z => ⟨rfl, by omega, fun x hx => m x (List.mem_cons_of_mem _ hx), ?_⟩, fun z => ⟨f d, st', e3 z, rfl, by simp; omega, fun x hx => m x (List.mem_cons_of_mem _ hx), ?_⟩⟩
    · rw [← p, List.filter_cons, if_neg (by rw [z]; exact Bool.false_ne_true)]
    · rw [← p, List.filter_cons, if_pos z, List.map_cons, List.append_assoc]
      rfl
theorem loopC_map {ok : Sto → Prop} {t : Tg} {elt : Env → M D} {ρ : Env} {st : Sto} (f : D → PyData) (hok : ok st) (ds : List D) (hl : ds.length ≤ 100001)
    (h : ∀ d ∈ ds, ∃ ρ1, t d ρ = some ρ1 ∧ elt ρ1 st = .ok (.dat (f d)) st) : loopC ok t mYes elt ρ ds [] st = .ok (.dat (.list (ds.map f))) st := by
  rw [loopC_fm (test := mYes) (fun _ => true) f hok ds [] (by simpa using hl) fun d hd => let ⟨ρ1, a, b⟩ := h d hd; ⟨ρ1, a, rfl, fun _ => b⟩]
  rw [List.nil_append, List.filter_eq_self.mpr (fun _ _ => rfl)]
theorem loopS_ind {ok : Sto → Prop} {t : Tg} {body : SM} (P : List D → Env → Sto → Prop) (Q : SRes → Prop) (h0 : ∀ ρ st, P [] ρ st → ok st ∧ Q (.nx ρ st))
    (h1 : ∀ d ds ρ st, P (d :: ds) ρ st → ok st ∧ ∃ ρ1, t d ρ = some ρ1 ∧ ((∃ ρ2 st2, (body ρ1 st = .nx ρ2 st2 ∨ body ρ1 st = .ct ρ2 st2) ∧ P ds ρ2 st2) ∨ (∃ ρ2 st2, body ρ1 st = .bk ρ2 st2 ∧ Q (.nx ρ2 st2)) ∨ (∃ d2 st2, body ρ1 st = .rt d2 st2 ∧ Q (.rt d2 st2)) ∨ ∃ x ρ2 st2, body ρ1 st = .exc x ρ2 st2 ∧ Q (.exc x ρ2 st2))) :
    ∀ ds ρ st, P ds ρ st → Q (loopS ok t body ds ρ st)
  | [], ρ, st, h => by
    obtain ⟨a, b⟩ := h0 ρ st h
    unfold loopS
    rw [if_pos a]
    exact b
  | d :: ds, ρ, st, h => by
    obtain ⟨a, ρ1, e1, e⟩ := h1 d ds ρ st h
    unfold loopS
    rw [if_pos a, e1]
    dsimp only
    rcases e with ⟨ρ2, st2, e | e, p⟩ | ⟨ρ2, st2, e, p⟩ | ⟨d2, st2, e, p⟩ | ⟨x, ρ2, st2, e, p⟩
    · rw [e]; exact loopS_ind P Q h0 h1 ds ρ2 st2 p
    · rw [e]; exact loopS_ind P Q h0 h1 ds ρ2 st2 p
    · rw [e]; exact p
    · rw [e]; exact p
    · rw [e]; exact p
end Ev
set_option Elab.async false
set_option linter.all false
set_option maxRecDepth 100000
set_option maxHeartbeats 4000000
/-! Pu2: how long a shown thing is at most; lists as data. -/
namespace Ev
open PySem PySem.Spec PyProof.Rows L2 PyProof
open Classical
mutual
def cost : PyData → Nat
  | .none => 4
  | .bool _ => 5
  | .int _ => 1922
  | .str x => (reprText x).length
  | .list xs => 2 + costA xs
  | .tuple xs => 4 + costA xs
  | .dict kvs => 2 + costK kvs
def costA : List PyData → Nat
  | [] => 0
  | x :: r => (cost x + 2) + costA r
def costK : List (PyData × PyData) → Nat
  | [] => 0
  | (k, v) :: r => (cost k + 2 + cost v + 2) + costK r
end
theorem textFrom_up : ∀ (ts : List Str) (k : Nat) (acc : Str), (textFrom k acc ts).length ≤ acc.length + piled ts
  | [], k, acc => by show acc.length ≤ acc.length + 0; omega
  | t :: r, k, acc => by
    have h := textFrom_up r (k + 1) (acc ++ (if k > 0 then ", " else "" : String) ++ t)
    have e : (acc ++ (if k > 0 then ", " else "" : String) ++ t).length = acc.length + (if k > 0 then 2 else 0) + t.length := by
      rw [strLen_append, strLen_append]
      congr 2
      split <;> rfl
    have e2 : (if k > 0 then 2 else 0 : Nat) ≤ 2 := by split <;> decide
    show (textFrom (k + 1) _ r).length ≤ _
    rw [piled_cons]
    omega
theorem join_up (ts : List Str) : (Str.join ", " ts).length ≤ piled ts := by
  cases ts with
  | nil => exact Nat.zero_le _
  | cons t r => have := join_length_add (t :: r) (by simp); omega
mutual
theorem shown_le : ∀ d : PyData, d.showable = true → d.shown.length ≤ cost d
  | .none, _ => by decide
  | .bool b, _ => by cases b <;> decide
  | .int i, h => by
    have h' : i.natAbs.log2 < 1920 := by simpa [PyData.showable] using h
    have := int_text_length_le (a := i) (k := 1920) (by decide) h'
    have e : (PyData.int i).shown.length = (toString i).length := by
      show (Str.ofString (toString i)).length = _
      exact PySem.ofString_length _
    rw [e]
    show _ ≤ 1922
    omega
  | .str x, _ => Nat.le_refl _
  | .list xs, h => by
    have q := shownA_le xs (by simpa [PyData.showable] using h)
    show (listText (PyData.shownAll xs)).length ≤ 2 + costA xs
    unfold listText
    rw [strLen_append]
    have := textFrom_up (PyData.shownAll xs) 0 "["
    have e1 : (("[" : String) : Str).length = 1 := rfl
    have e2 : (("]" : String) : Str).length = 1 := rfl
    omega
  | .tuple xs, h => by
    have q := shownA_le xs (by simpa [PyData.showable] using h)
    show (tupleText (PyData.shownAll xs)).length ≤ 4 + costA xs
    unfold tupleText
    rw [strLen_append, strLen_append]
    have := join_up (PyData.shownAll xs)
    have e1 : (("(" : String) : Str).length = 1 := rfl
    have e3 : (((if (PyData.shownAll xs).length == 1 then ",)" else ")" : String) : Str)).length ≤ 2 := by split <;> decide
    omega
  | .dict kvs, h => by
    have q := shownK_le kvs (by simpa [PyData.showable] using h)
    show (dictText (PyData.shownKv kvs)).length ≤ 2 + costK kvs
    unfold dictText
    rw [strLen_append, strLen_append]
    have := join_up (PyData.shownKv kvs)
    have e1 : (("{" : String) : Str).length = 1 := rfl
    have e2 : (("}" : String) : Str).length = 1 := rfl
    omega
theorem shownA_le : ∀ xs : List PyData, PyData.showableAll xs = true → piled (PyData.shownAll xs) ≤ costA xs
  | [], _ => Nat.zero_le _
  | x :: r, h => by
    simp only [PyData.showableAll, Bool.and_eq_true] at h
    have a := shown_le x h.1
    have b := shownA_le r h.2
    show piled (x.shown :: PyData.shownAll r) ≤ (cost x + 2) + costA r
    rw [piled_cons]
    omega
theorem shownK_le : ∀ xs : List (PyData × PyData), PyData.showableKv xs = true → piled (PyData.shownKv xs) ≤ costK xs
  | [], _ => Nat.zero_le _
  | (k, v) :: r, h => by
    simp only [PyData.showableKv, Bool.and_eq_true] at h
    have a := shown_le k h.1.1
    have a2 := shown_le v h.1.2
    have b := shownK_le r h.2
    show piled ((k.shown ++ ": " ++ v.shown) :: PyData.shownKv r) ≤ (cost k + 2 + cost v + 2) + costK r
    rw [piled_cons, strLen_append, strLen_append]
    have e1 : ((": " : String) : Str).length = 2 := rfl
    omega
end
/-- small: to be shown, so deep, so long; without dicts or without lists -/
structure Sm (dp c : Nat) (nd nl : Bool) (d : PyData) : Prop where
  sh : d.showable = true
  dp : d.depth ≤ dp
  co : cost d ≤ c
  nd : nd = true → d.hasDict = false
  nl : nl = true → noList d = true
theorem Sm.repr {dp c : Nat} {nd nl : Bool} {d : PyData} (h : Sm dp c nd nl d) (h1 : dp ≤ 64) (h2 : c ≤ 16000000) (h3 : nd = true ∨ nl = true) : reprOk d = true := by
  unfold reprOk
  rw [Bool.and_eq_true, Bool.and_eq_true]
  exact ⟨⟨h.sh, decide_eq_true (Nat.le_trans h.dp h1)⟩, decide_eq_true (Nat.le_trans (shown_le d h.sh) (Nat.le_trans h.co h2))⟩
theorem reprOk_of {d : PyData} {dp c : Nat} (sh : d.showable = true) (h1 : d.depth ≤ dp) (h2 : cost d ≤ c) (h3 : dp ≤ 64) (h4 : c ≤ 16000000) : reprOk d = true := by
  unfold reprOk
  rw [Bool.and_eq_true, Bool.and_eq_true]
  exact ⟨⟨sh, decide_eq_true (Nat.le_trans h1 h3)⟩, decide_eq_true (Nat.le_trans (shown_le d sh) (Nat.le_trans h2 h4))⟩
theorem Sm.mono {dp c dp' c' : Nat} {nd nl nd' nl' : Bool} {d : PyData} (h : Sm dp c nd nl d) (h1 : dp ≤ dp') (h2 : c ≤ c') (h3 : nd' = true → nd = true) (h4 : nl' = true → nl = true) : Sm dp' c' nd' nl' d :=
  ⟨h.sh, Nat.le_trans h.dp h1, Nat.le_trans h.co h2, fun z => h.nd (h3 z), fun z => h.nl (h4 z)⟩
theorem smA {dp c : Nat} {nd nl : Bool} : ∀ {xs : List PyData}, (∀ x ∈ xs, Sm dp c nd nl x) → PyData.showableAll xs = true ∧ PyData.depthAll xs ≤ dp ∧ costA xs ≤ (c + 2) * xs.length ∧ (nd = true → PyData.hasDictAll xs = false) ∧ (nl = true → noListA xs = true)
  | [], _ => ⟨rfl, Nat.zero_le _, Nat.zero_le _, fun _ => rfl, fun _ => rfl⟩
  | x :: r, h => by
    have a := h x List.mem_cons_self
    obtain ⟨b1, b2, b3, b4, b5⟩ := smA (xs := r) fun y hy => h y (List.mem_cons_of_mem _ hy)
    refine ⟨?_, ?_, ?_, fun z => ?_, fun z => ?_⟩
    · show (x.showable && PyData.showableAll r) = true
      rw [a.sh, b1] <;> rfl
    · show max x.depth (PyData.depthAll r) ≤ dp
      exact Nat.max_le.mpr ⟨a.dp, b2⟩
    · show (cost x + 2) + costA r ≤ (c + 2) * (r.length + 1)
      have := a.co
      rw [Nat.mul_add, Nat.mul_one]
      omega
    · show (x.hasDict || PyData.hasDictAll r) = false
      rw [a.nd z, b4 z] <;> rfl
    · show (noList x && noListA r) = true
      rw [a.nl z, b5 z] <;> rfl
theorem Sm.tuple {dp c n : Nat} {nd nl : Bool} {xs : List PyData} (h : ∀ x ∈ xs, Sm dp c nd nl x) (hn : xs.length ≤ n) : Sm (dp + 1) (4 + (c + 2) * n) nd nl (.tuple xs) := by
  obtain ⟨b1, b2, b3, b4, b5⟩ := smA h
  have := Nat.mul_le_mul_left (c + 2) hn
  exact ⟨b1, by show _ + 1 ≤ _; omega, by show 4 + _ ≤ _; omega, b4, b5⟩
theorem Sm.list {dp c n : Nat} {nd nl : Bool} {xs : List PyData} (h : ∀ x ∈ xs, Sm dp c nd nl x) (hn : xs.length ≤ n) : Sm (dp + 1) (4 + (c + 2) * n) nd false (.list xs) := by
  obtain ⟨b1, b2, b3, b4, b5⟩ := smA h
  have := Nat.mul_le_mul_left (c + 2) hn
  exact ⟨b1, by show _ + 1 ≤ _; omega, by show 2 + _ ≤ _; omega, b4, fun z => by cases z⟩
theorem Sm.int {i : Int} (h : i.natAbs.log2 < 1920) : Sm 0 1922 true true (.int i) := ⟨by simpa [PyData.showable] using h, Nat.le_refl _, Nat.le_refl _, fun _ => rfl, fun _ => rfl⟩
theorem log_small {i : Int} {k : Nat} (hk : k ≤ 1920) (h0 : 0 < k) (h : i.natAbs < 2 ^ k) : i.natAbs.log2 < 1920 :=
  Nat.lt_of_lt_of_le (PySem.Flt.log2_lt_of h0 h) hk
/-! ### == of a list and [] -/
theorem eqD_list (xs ys : List PyData) : eqD (.list xs) (.list ys) = if SeqAt.shaped (.list xs) = true ∧ SeqAt.shaped (.list ys) = true then retB (PyData.eqv (.list xs) (.list ys)) else if lenDiff (.list xs) (.list ys) = true then retB false else M.bad := rfl
theorem dEq_nil (ys : List PyData) (st : Sto) : dEq (.dat (.list ys)) (.dat (.list [])) st = .ok (.dat (.bool ys.isEmpty)) st := by
  show eqD (.list ys) (.list []) st = _
  rw [eqD_list]
  cases ys with
  | nil => rw [if_pos ⟨by decide, by decide⟩] <;> rfl
  | cons y r =>
    by_cases h : SeqAt.shaped (.list (y :: r)) = true ∧ SeqAt.shaped (.list []) = true
    · rw [if_pos h] <;> rfl
    · rw [if_neg h, if_pos (by rfl)] <;> rfl
/-- lists of what may lie in a text of data: by its own == -/
theorem eq_shaped {xs ys : List PyData} (h1 : SeqAt.shaped (.list xs) = true) (h2 : SeqAt.shaped (.list ys) = true) (st : Sto) : dEq (.dat (.list xs)) (.dat (.list ys)) st = .ok (.dat (.bool (PyData.eqvAll xs ys))) st := by
  show eqD (.list xs) (.list ys) st = _
  rw [eqD_list, if_pos ⟨h1, h2⟩]
  rfl
theorem ne_shaped {xs ys : List PyData} (h1 : SeqAt.shaped (.list xs) = true) (h2 : SeqAt.shaped (.list ys) = true) (st : Sto) : dNe (.dat (.list xs)) (.dat (.list ys)) st = .ok (.dat (.bool (!PyData.eqvAll xs ys))) st := by
  show notM (eqD (.list xs) (.list ys)) st = _
  rw [eqD_list, if_pos ⟨h1, h2⟩]
  rfl
theorem dEq_int (i j : Int) (st : Sto) : dEq (.dat (.int i)) (.dat (.int j)) st = .ok (.dat (.bool (i == j))) st := by
  have e : eqD (.int i) (.int j) = if SeqAt.shaped (.int i) = true ∧ SeqAt.shaped (.int j) = true then retB (PyData.eqv (.int i) (.int j)) else if lenDiff (.int i) (.int j) = true then retB false else M.bad := rfl
  show eqD (.int i) (.int j) st = _
  rw [e, if_pos ⟨by rfl, by rfl⟩]
  rfl
theorem ix_list {xs : List PyData} {i : Int} {d : PyData} (h : atI xs i = some d) (st : Sto) : dIx (.dat (.list xs)) (.dat (.int i)) st = .ok (.dat d) st := by
  show (match atI xs i with | some d => Res.ok (D.dat d) st | none => .bad) = _
  rw [h]
theorem ix_tuple {xs : List PyData} {i : Int} {d : PyData} (h : atI xs i = some d) (st : Sto) : dIx (.dat (.tuple xs)) (.dat (.int i)) st = .ok (.dat d) st := by
  show (match atI xs i with | some d => Res.ok (D.dat d) st | none => .bad) = _
  rw [h]
theorem ix_fz {xs : List PyData} {i : Int} {d : PyData} (h : atI xs i = some d) (st : Sto) : dIx (.fz xs) (.dat (.int i)) st = .ok (.dat d) st := by
  show (match atI xs i with | some d => Res.ok (D.dat d) st | none => .bad) = _
  rw [h]
theorem ix_loc {n : Nat} {xs : List PyData} {i : Int} {d : PyData} {st : Sto} (e : st[n]? = some (.lst xs)) (h : atI xs i = some d) : dIx (.loc n) (.dat (.int i)) st = .ok (.dat d) st := by
  show (match dataOf (.loc n) st with | some x => ixD i x st | none => .bad) = _
  unfold dataOf
  dsimp only
  rw [e]
  show (match atI xs i with | some d => Res.ok (D.dat d) st | none => .bad) = _
  rw [h]
/-- xs[i] = y, xs a list of the store -/
theorem setix_ap {mo mi me : Env → M D} {ρ : Env} {st : Sto} {n j : Nat} {k : Int} {xs : List PyData} {y : PyData} {st1 st2 st3 : Sto} (h1 : me ρ st = .ok (.dat y) st1) (h2 : mo ρ st1 = .ok (.loc n) st2) (h3 : mi ρ st2 = .ok (.dat (.int k)) st3) (e : st3[n]? = some (.lst xs)) (hj : ixN xs.length k = some j) :
    sSetIx mo mi me ρ st = .nx ρ (st3.set n (.lst (xs.set j y))) := by
  unfold sSetIx
  rw [sBind_ap, h1, thenS_ok, sBind_ap, h2, thenS_ok, sBind_ap, h3, thenS_ok, sBind_ap]
  have q : (onLoc (setAt k y) (.loc n) : M D) st3 = .ok (.dat .none) (st3.set n (.lst (xs.set j y))) := by
    unfold onLoc
    dsimp only
    rw [e]
    dsimp only
    unfold setAt
    rw [hj]
    rfl
  dsimp only
  rw [q]
  rfl
theorem mul_list {xs : List PyData} {k : Int} (h : k ≤ 1000 ∧ -1000 ≤ k ∧ xs.length ≤ 100) (st : Sto) : dMul (.dat (.list xs)) (.dat (.int k)) st = .ok (.dat (.list (repD k.toNat xs))) st := by
  show guardM (k ≤ 1000 ∧ -1000 ≤ k ∧ xs.length ≤ 100) (M.pure (.dat (.list (repD k.toNat xs)))) st = _
  rw [guard_ok h]
  rfl
theorem mul_tuple {xs : List PyData} {k : Int} (h : -1000 ≤ k ∧ k ≤ 1000 ∧ xs.length ≤ 100) (st : Sto) : dMul (.dat (.tuple xs)) (.dat (.int k)) st = .ok (.dat (.tuple (repD k.toNat xs))) st := by
  show guardM (-1000 ≤ k ∧ k ≤ 1000 ∧ xs.length ≤ 100) (M.pure (.dat (.tuple (repD k.toNat xs)))) st = _
  rw [guard_ok h]
  rfl
theorem loopS_nx {ok : Sto → Prop} {t : Tg} {body : SM} {d : D} {ds : List D} {ρ ρ1 ρ2 : Env} {st st2 : Sto} (h : ok st) (e1 : t d ρ = some ρ1) (e2 : body ρ1 st = .nx ρ2 st2) : loopS ok t body (d :: ds) ρ st = loopS ok t body ds ρ2 st2 := by
  rw [loopS]
  rw [if_pos h, e1]
  dsimp only
  rw [e2]
end Ev
set_option Elab.async false
set_option linter.all false
set_option maxRecDepth 100000
set_option maxHeartbeats 4000000
set_option exponentiation.threshold 5000
/-! Sack: the drawn numbers of the laws. -/
namespace Ev
open PySem PySem.Spec PyProof.Rows L2 PyProof
open Classical
theorem wide_of {i : Int} (k : Nat) (hk : k ≤ 4000) (h : i.natAbs < 2 ^ k) : wideI i := by
  unfold wideI
  exact Nat.lt_of_lt_of_le h (Nat.pow_le_pow_right (by decide) hk)
theorem wide64 {i : Int} (h1 : -18446744073709551616 < i) (h2 : i < 18446744073709551616) : wideI i := wide_of 64 (by decide) (by omega)
theorem bits10 : Builtin.Int.intBits 10 = 4 := by decide
def sackB : SM :=
    (sSeq (sSet 2 (m2 dAdd (m2 dMul (ct (.dat (.int 3))) (vr 1)) (ct (.dat (.int 1)))))
    (sSeq (sIf (mT (m2 dLt (vr 1) (mC (on1 dLen) (aCons (vr 0) aNil)))) (sSet 2 (m2 dIx (vr 0) (vr 1))) sNil)
    (sSeq (sSet 3 (m2 dMod (mC (on1 dAbs) (aCons (vr 2) aNil)) (m2 dPow (m2 dPow (ct (.dat (.int 10))) (ct (.dat (.int 60)))) (ct (.dat (.int 12))))))
    (sRet (mC mkLoc (aCons (mC (on2 dMax2) (aCons (ct (.dat (.int 0))) (aCons (m2 dSub (vr 3) (m2 dPow (ct (.dat (.int 10))) (ct (.dat (.int 16))))) aNil))) (aCons (m2 dMod (m2 dAdd (m2 dAdd (m2 dAdd (m2 dMul (vr 3) (ct (.dat (.int 6700417)))) (m2 dMul (ct (.dat (.int 524287))) (vr 1))) (m2 dMul (ct (.dat (.int 2))) (mC (on1 dInt) (aCons (m2 dLt (vr 2) (ct (.dat (.int 0)))) aNil)))) (ct (.dat (.int 11)))) (ct (.dat (.int 2147483647)))) (aCons (ct (.dat (.int 0))) aNil))))))))
def drawB : SM :=
    (sSeq (sIf (mT (m2 dGt (m2 dIx (vr 0) (ct (.dat (.int 0)))) (ct (.dat (.int 0))))) (sSeq (sSet 2 (m2 dMod (m2 dIx (vr 0) (ct (.dat (.int 0)))) (vr 1)))
    (sSeq (sSetIx (vr 0) (ct (.dat (.int 0))) (m2 dFdiv (m2 dIx (vr 0) (ct (.dat (.int 0)))) (vr 1)))
    (sRet (vr 2)))) sNil)
    (sSeq (sSetIx (vr 0) (ct (.dat (.int 2))) (m2 dAdd (m2 dIx (vr 0) (ct (.dat (.int 2)))) (ct (.dat (.int 1)))))
    (sSeq (sSet 3 (m2 dMod (m2 dAdd (m2 dIx (vr 0) (ct (.dat (.int 1)))) (m2 dMul (ct (.dat (.int 1299709))) (m2 dIx (vr 0) (ct (.dat (.int 2)))))) (ct (.dat (.int 2147483629)))))
    (sSeq (sSet 4 (m2 dAdd (m2 dMul (m2 dMod (m2 dMul (vr 3) (vr 3)) (ct (.dat (.int 2147483587)))) (vr 3)) (m2 dMul (ct (.dat (.int 7919))) (m2 dIx (vr 0) (ct (.dat (.int 2)))))))
    (sSeq (sSet 5 (m2 dMod (m2 dAdd (vr 4) (m2 dMod (m2 dIx (vr 0) (ct (.dat (.int 1)))) (ct (.dat (.int 65521))))) (ct (.dat (.int 2147483563)))))
    (sSeq (sSet 2 (m2 dAdd (m2 dFdiv (m2 dMod (m2 dMul (vr 5) (vr 5)) (ct (.dat (.int 2147483549)))) (ct (.dat (.int 32)))) (m2 dMul (m2 dMul (ct (.dat (.int 2147483563))) (vr 3)) (mC (on1 dInt) (aCons (m2 dGt (vr 1) (m2 dPow (ct (.dat (.int 10))) (ct (.dat (.int 6))))) aNil)))))
    (sRet (m2 dMod (vr 2) (vr 1)))))))))
abbrev topS : Int := 10 ^ 720
/-- a sack in the n-th cell of the store, drawn from m times without its first number at most -/
def SackAt (st : Sto) (n m : Nat) : Prop := ∃ a b c : Int, st[n]? = some (.lst [.int a, .int b, .int c]) ∧ 0 ≤ a ∧ a < topS ∧ 0 ≤ b ∧ b < 2147483648 ∧ 0 ≤ c ∧ c ≤ m
theorem SackAt.mono {st : Sto} {n m m' : Nat} (h : SackAt st n m) (hm : m ≤ m') : SackAt st n m' := by
  obtain ⟨a, b, c, h1, h2, h3, h4, h5, h6, h7⟩ := h
  exact ⟨a, b, c, h1, h2, h3, h4, h5, h6, by omega⟩
/-- the n-th cell alone is another one -/
def SameBut (n : Nat) (st st' : Sto) : Prop := ∃ c, st' = st.set n c
theorem SameBut.len {n : Nat} {st st' : Sto} (h : SameBut n st st') : st'.length = st.length := by
  obtain ⟨c, rfl⟩ := h
  simp
theorem SameBut.trans {n : Nat} {st st' st2 : Sto} (h : SameBut n st st') (h2 : SameBut n st' st2) : SameBut n st st2 := by
  obtain ⟨c, rfl⟩ := h
  obtain ⟨d, rfl⟩ := h2
  exact ⟨d, by rw [List.set_set]⟩
theorem SameBut.refl {n : Nat} {st : Sto} (h : n < st.length) : SameBut n st st := ⟨st[n], by simp⟩
theorem at3 (a b c : PyData) : atI [a, b, c] 0 = some a ∧ atI [a, b, c] 1 = some b ∧ atI [a, b, c] 2 = some c := ⟨rfl, rfl, rfl⟩
theorem fmod_bounds (i : Int) {j : Int} (h : 0 < j) : 0 ≤ i.fmod j ∧ i.fmod j < j := by
  rw [Int.fmod_eq_emod_of_nonneg _ (Int.le_of_lt h)]
  exact ⟨Int.emod_nonneg _ (by omega), Int.emod_lt_of_pos _ h⟩
theorem ten6 (st : Sto) : dPow (.dat (.int 10)) (.dat (.int 6)) st = .ok (.dat (.int 1000000)) st := by
  rw [dPow_ap _ _ _ (by rw [bits10]; decide)] <;> rfl
theorem draw_ok {st : Sto} {n m : Nat} (S : SackAt st n m) {many : Int} (h0 : 0 < many) (h1 : many < 18446744073709551616) (hm : m ≤ 1000000) :
    ∃ r st', runB 6 2 drawB [.loc n, .dat (.int many)] st = .ok (.dat (.int r)) st' ∧ 0 ≤ r ∧ r < many ∧ SameBut n st st' ∧ SackAt st' n (m + 1) := by
  obtain ⟨a, b, c, e, a0, a1, b0, b1, c0, c1⟩ := S
  have ln : n < st.length := (List.getElem?_eq_some_iff.mp e).1
  obtain ⟨i0, i1, i2⟩ := at3 (.int a) (.int b) (.int c)
  by_cases ha : 0 < a
  · have mo := fmod_bounds a h0
    have q := setix_ap (mo := vr 0) (mi := ct (.dat (.int 0))) (me := m2 dFdiv (m2 dIx (vr 0) (ct (.dat (.int 0)))) (vr 1)) (ρ := [some (.loc n), some (.dat (.int many)), some (.dat (.int (a.fmod many))), none, none, none]) (st := st) (k := 0) (j := 0) (n := n) (xs := [.int a, .int b, .int c]) (y := .int (a.fdiv many)) (st1 := st) (st2 := st) (st3 := st)
      (by simp [ix_loc e i0, dFdiv_ap st a many (.inl ⟨h0, wide64 (by omega) h1⟩)]) (by simp) (by simp) e (by rfl)
    refine ⟨a.fmod many, st.set n (.lst [.int (a.fdiv many), .int b, .int c]), ?_, mo.1, mo.2, ⟨_, rfl⟩, a.fdiv many, b, c, by rw [List.getElem?_set_self ln], ?_, ?_, b0, b1, c0, by omega⟩
    · simp [drawB, ix_loc e i0, ha, dMod_ap st a many (by omega), q, List.take_of_length_le]
    · rw [Int.fdiv_eq_ediv_of_nonneg _ (Int.le_of_lt h0)]
      exact Int.ediv_nonneg a0 (Int.le_of_lt h0)
    · rw [Int.fdiv_eq_ediv_of_nonneg _ (Int.le_of_lt h0)]
      exact Int.lt_of_le_of_lt (Int.ediv_le_self _ a0) a1
  · have e1 : (st.set n (.lst [.int a, .int b, .int (c + 1)]))[n]? = some (Cell.lst [.int a, .int b, .int (c + 1)]) := by rw [List.getElem?_set_self ln]
    obtain ⟨j0, j1, j2⟩ := at3 (.int a) (.int b) (.int (c + 1))
    have q := setix_ap (mo := vr 0) (mi := ct (.dat (.int 2))) (me := m2 dAdd (m2 dIx (vr 0) (ct (.dat (.int 2)))) (ct (.dat (.int 1)))) (ρ := [some (.loc n), some (.dat (.int many)), none, none, none, none]) (st := st) (k := 2) (j := 2) (n := n) (xs := [.int a, .int b, .int c]) (y := .int (c + 1)) (st1 := st) (st2 := st) (st3 := st)
      (by simp [ix_loc e i2]) (by simp) (by simp) e (by rfl)
    have q' : sSetIx (vr 0) (ct (.dat (.int 2))) (m2 dAdd (m2 dIx (vr 0) (ct (.dat (.int 2)))) (ct (.dat (.int 1)))) [some (.loc n), some (.dat (.int many)), none, none, none, none] st = .nx [some (.loc n), some (.dat (.int many)), none, none, none, none] (st.set n (.lst [.int a, .int b, .int (c + 1)])) := q
    generalize hs : st.set n (.lst [.int a, .int b, .int (c + 1)]) = st1 at e1 q'
    obtain ⟨one, ho⟩ : ∃ x, x = (b + 1299709 * (c + 1)).fmod 2147483629 := ⟨_, rfl⟩
    have bo := fmod_bounds (b + 1299709 * (c + 1)) (j := 2147483629) (by decide)
    rw [← ho] at bo
    obtain ⟨sq, hq⟩ : ∃ x, x = (one * one).fmod 2147483587 := ⟨_, rfl⟩
    have bq := fmod_bounds (one * one) (j := 2147483587) (by decide)
    rw [← hq] at bq
    obtain ⟨two, ht⟩ : ∃ x, x = (sq * one + 7919 * (c + 1) + b.fmod 65521).fmod 2147483563 := ⟨_, rfl⟩
    have bt := fmod_bounds (sq * one + 7919 * (c + 1) + b.fmod 65521) (j := 2147483563) (by decide)
    rw [← ht] at bt
    have w1 : wideI one := wide64 (by omega) (by omega)
    have w2 : wideI sq := wide64 (by omega) (by omega)
    have w3 : wideI two := wide64 (by omega) (by omega)
    have wc : wideI (c + 1) := wide64 (by omega) (by omega)
    have wk : ∀ k : Int, -1000000000000 < k → k < 1000000000000 → wideI k := fun k h1 h2 => wide64 (by omega) (by omega)
    have d1 := dMul_ap st1 1299709 (c + 1) ⟨wk _ (by decide) (by decide), wc⟩
    have d2 := dMul_ap st1 one one ⟨w1, w1⟩
    have d3 := dMul_ap st1 sq one ⟨w2, w1⟩
    have d4 := dMul_ap st1 7919 (c + 1) ⟨wk _ (by decide) (by decide), wc⟩
    have d5 := dMul_ap st1 two two ⟨w3, w3⟩
    have d6 := dMul_ap st1 2147483563 one ⟨wk _ (by decide) (by decide), w1⟩
    have d7 : ∀ k : Bool, dMul (.dat (.int (2147483563 * one))) (.dat (.int (if k then 1 else 0))) st1 = .ok (.dat (.int (2147483563 * one * (if k then 1 else 0)))) st1 := fun k => dMul_ap st1 _ _ ⟨wide64 (by omega) (by omega), by cases k <;> exact wk _ (by decide) (by decide)⟩
    have f1 := dMod_ap st1 (b + 1299709 * (c + 1)) 2147483629 (by decide)
    have f2 := dMod_ap st1 (one * one) 2147483587 (by decide)
    have f3 := dMod_ap st1 b 65521 (by decide)
    have f4 := dMod_ap st1 (sq * one + 7919 * (c + 1) + b.fmod 65521) 2147483563 (by decide)
    have f5 := dMod_ap st1 (two * two) 2147483549 (by decide)
    have f6 := dFdiv_ap st1 ((two * two).fmod 2147483549) 32 (.inr ⟨by decide, by decide⟩)
    rw [← ho] at f1
    rw [← hq] at f2
    rw [← ht] at f4
    obtain ⟨fo, hf⟩ : ∃ x, x = ((two * two).fmod 2147483549).fdiv 32 + 2147483563 * one * (if decide (1000000 < many) = true then 1 else 0) := ⟨_, rfl⟩
    have f7 := dMod_ap st1 fo many (by omega)
    have bf := fmod_bounds fo h0
    have x0 := ix_loc e i0
    have y1 := ix_loc e1 j1
    have y2 := ix_loc e1 j2
    have d7' := d7 (decide (1000000 < many))
    refine ⟨fo.fmod many, st1, ?_, bf.1, bf.2, ⟨_, hs.symm⟩, a, b, c + 1, e1, a0, a1, b0, b1, by omega, by omega⟩
    have l1 : st1.length = st.length := by rw [← hs]; simp
    have fin : giveD st.length (.dat (.int (fo.fmod many))) st1 = .ok (.dat (.int (fo.fmod many))) st1 := by
      show Res.ok _ (st1.take st.length) = _
      rw [← l1, List.take_length]
    simp only [drawB, run2, startE_ap, List.map_cons, List.map_nil, List.length_cons, List.length_nil, List.replicate, List.cons_append, List.nil_append, sSeq_ap, sIf_ap, mT_ap, m2_ap, vr_zero, vr_succ, ct_ap, then_ok, bind_ap, x0, dGt_ap, asB_ap, decide_eq_false ha, thenS_ok, ite_sm, Bool.false_eq_true, if_false, sNil_ap, sthen_nx, q']
    have p6 := ten6 st1
    simp only [sSeq_ap, sSet_ap, m2_ap, mC_ap, aCons_ap, aNil_ap, on1_ap, pure_ap, vr_zero, vr_succ, ct_ap, then_ok, bind_ap, thenS_ok, sthen_nx, y1, y2, d1, d2, d3, d4, d5, d6, f1, f2, f3, f4, f5, f6, dAdd_ap, dGt_ap, dIntB_ap, p6, d7', ← hf, f7, List.set_cons_succ, List.set_cons_zero, sRet_ap, fin_rt, fin]
theorem atI_nat {α : Type} {xs : List α} {k : Nat} {x : α} (h : xs[k]? = some x) : atI xs (k : Int) = some x := by
  have hk := (List.getElem?_eq_some_iff.mp h).1
  unfold atI ixN
  simp [hk]
  exact (List.getElem?_eq_some_iff.mp h).2
theorem top_pow : ((10 : Int) ^ 60) ^ 12 = topS := by decide +kernel
theorem p60 (st : Sto) : dPow (.dat (.int 10)) (.dat (.int 60)) st = .ok (.dat (.int (10 ^ 60))) st := by
  rw [dPow_ap _ _ _ (by rw [bits10]; decide)] <;> rfl
theorem bits60 : Builtin.Int.intBits (10 ^ 60) = 200 := by decide +kernel
theorem p12 (st : Sto) : dPow (.dat (.int (10 ^ 60))) (.dat (.int 12)) st = .ok (.dat (.int topS)) st := by
  rw [dPow_ap _ _ _ (by rw [bits60]; decide), ← top_pow] <;> rfl
theorem p16 (st : Sto) : dPow (.dat (.int 10)) (.dat (.int 16)) st = .ok (.dat (.int 10000000000000000)) st := by
  rw [dPow_ap _ _ _ (by rw [bits10]; decide)] <;> rfl
theorem wide_top {i : Int} (h0 : 0 ≤ i) (h : i < topS) : wideI i := by
  refine wide_of 2400 (by decide) ?_
  have : (topS : Int) ≤ ((2 ^ 2400 : Nat) : Int) := by decide +kernel
  omega
theorem giveL_new (st : Sto) (xs : List PyData) : giveL st.length (.loc st.length) (st ++ [.lst xs]) = .ok (.loc st.length) (st ++ [.lst xs]) := by
  unfold giveL
  dsimp only
  rw [if_neg (Nat.lt_irrefl _), List.getElem?_append_right (Nat.le_refl _), Nat.sub_self]
  simp
/-- the sack that a script's number makes -/
theorem sack_ok (ns : List Int) {k : Nat} (hk : k < 1000) (st : Sto) :
    ∃ xs, runL 4 2 sackB [.fz (ns.map PyData.int), .dat (.int k)] st = .ok (.loc st.length) (st ++ [.lst xs]) ∧ SackAt (st ++ [.lst xs]) st.length 0 := by
  have main : ∀ cell : Int, ∃ xs, ((sSeq (sSet 3 (m2 dMod (mC (on1 dAbs) (aCons (vr 2) aNil)) (m2 dPow (m2 dPow (ct (.dat (.int 10))) (ct (.dat (.int 60)))) (ct (.dat (.int 12))))))
      (sRet (mC mkLoc (aCons (mC (on2 dMax2) (aCons (ct (.dat (.int 0))) (aCons (m2 dSub (vr 3) (m2 dPow (ct (.dat (.int 10))) (ct (.dat (.int 16))))) aNil))) (aCons (m2 dMod (m2 dAdd (m2 dAdd (m2 dAdd (m2 dMul (vr 3) (ct (.dat (.int 6700417)))) (m2 dMul (ct (.dat (.int 524287))) (vr 1))) (m2 dMul (ct (.dat (.int 2))) (mC (on1 dInt) (aCons (m2 dLt (vr 2) (ct (.dat (.int 0)))) aNil)))) (ct (.dat (.int 11)))) (ct (.dat (.int 2147483647)))) (aCons (ct (.dat (.int 0))) aNil))))))
      [some (.fz (ns.map PyData.int)), some (.dat (.int k)), some (.dat (.int cell)), none] st).fin giveL st.length = .ok (.loc st.length) (st ++ [.lst xs]) ∧ SackAt (st ++ [.lst xs]) st.length 0 := fun cell => by
    obtain ⟨g, hg⟩ : ∃ x, x = (iAbs cell).fmod topS := ⟨_, rfl⟩
    have bg := fmod_bounds (iAbs cell) (j := topS) (by decide +kernel)
    rw [← hg] at bg
    have f1 := dMod_ap st (iAbs cell) topS (by decide +kernel)
    rw [← hg] at f1
    have wk : ∀ k : Int, -1000000000000 < k → k < 1000000000000 → wideI k := fun k h1 h2 => wide64 (by omega) (by omega)
    have d1 := dMul_ap st g 6700417 ⟨wide_top bg.1 bg.2, wk _ (by decide) (by decide)⟩
    have d2 := dMul_ap st 524287 k ⟨wk _ (by decide) (by decide), wk _ (by omega) (by omega)⟩
    have d3 := dMul_ap st 2 (if decide (cell < 0) = true then 1 else 0) ⟨wk _ (by decide) (by decide), by split <;> exact wk _ (by decide) (by decide)⟩
    obtain ⟨s, hs⟩ : ∃ x, x = (g * 6700417 + 524287 * k + 2 * (if decide (cell < 0) = true then 1 else 0) + 11).fmod 2147483647 := ⟨_, rfl⟩
    have bs := fmod_bounds (g * 6700417 + 524287 * k + 2 * (if decide (cell < 0) = true then 1 else 0) + 11) (j := 2147483647) (by decide)
    rw [← hs] at bs
    have f2 := dMod_ap st (g * 6700417 + 524287 * k + 2 * (if decide (cell < 0) = true then 1 else 0) + 11) 2147483647 (by decide)
    rw [← hs] at f2
    have a1 := p60 st
    have a2 := p12 st
    have a3 := p16 st
    have mk : mkLoc [.dat (.int (iMax 0 (g - 10000000000000000))), .dat (.int s), .dat (.int 0)] st = .ok (.loc st.length) (st ++ [.lst [.int (iMax 0 (g - 10000000000000000)), .int s, .int 0]]) := mkLoc_ap st (by rfl) (by simp)
    refine ⟨[.int (iMax 0 (g - 10000000000000000)), .int s, .int 0], ?_, _, _, _, by rw [List.getElem?_append_right (Nat.le_refl _), Nat.sub_self]; rfl, ?_, ?_, bs.1, by omega, Int.le_refl _, by decide⟩
    · simp only [sSeq_ap, sSet_ap, m2_ap, mC_ap, aCons_ap, aNil_ap, on1_ap, on2_ap, pure_ap, vr_zero, vr_succ, ct_ap, then_ok, bind_ap, thenS_ok, sthen_nx, a1, a2, a3, f1, f2, d1, d2, d3, dAdd_ap, dSub_ap, dAbs_ap, dMax_ap, dLt_ap, dIntB_ap, List.set_cons_succ, List.set_cons_zero, sRet_ap, fin_rt, mk, giveL_new]
    · unfold iMax; split <;> omega
    · unfold iMax
      have : (0 : Int) < topS := by decide +kernel
      split <;> omega
  have wk : ∀ k : Int, -1000000000000 < k → k < 1000000000000 → wideI k := fun k h1 h2 => wide64 (by omega) (by omega)
  have d0 := dMul_ap st 3 k ⟨wk _ (by decide) (by decide), wk _ (by omega) (by omega)⟩
  by_cases h : k < ns.length
  · obtain ⟨xs, e, S⟩ := main ns[k]
    refine ⟨xs, ?_, S⟩
    rw [← e]
    have i1 : dIx (.fz (ns.map PyData.int)) (.dat (.int k)) st = .ok (.dat (.int ns[k])) st := ix_fz (atI_nat (by rw [List.getElem?_map, List.getElem?_eq_getElem h]; rfl)) st
    have hlt : decide ((k : Int) < ((ns.map PyData.int).length : Int)) = true := by simp; exact h
    simp only [sackB, run2, startE_ap, List.map_cons, List.map_nil, List.length_cons, List.length_nil, List.replicate, List.cons_append, List.nil_append, sSeq_ap, sSet_ap, sIf_ap, mT_ap, m2_ap, mC_ap, aCons_ap, aNil_ap, on1_ap, pure_ap, vr_zero, vr_succ, ct_ap, then_ok, bind_ap, thenS_ok, sthen_nx, d0, dAdd_ap, dLen_fz, dLt_ap, asB_ap, hlt, ite_sm, if_true, i1, List.set_cons_succ, List.set_cons_zero]
  · obtain ⟨xs, e, S⟩ := main (3 * k + 1)
    refine ⟨xs, ?_, S⟩
    rw [← e]
    have hlt : decide ((k : Int) < ((ns.map PyData.int).length : Int)) = false := by simp; omega
    simp only [sackB, run2, startE_ap, List.map_cons, List.map_nil, List.length_cons, List.length_nil, List.replicate, List.cons_append, List.nil_append, sSeq_ap, sSet_ap, sIf_ap, mT_ap, m2_ap, mC_ap, aCons_ap, aNil_ap, on1_ap, pure_ap, vr_zero, vr_succ, ct_ap, then_ok, bind_ap, thenS_ok, sthen_nx, d0, dAdd_ap, dLen_fz, dLt_ap, asB_ap, hlt, ite_sm, Bool.false_eq_true, if_false, sNil_ap, List.set_cons_succ, List.set_cons_zero]
end Ev
namespace Ev
open PySem PySem.Spec PyProof.Rows L2 PyProof
open Classical
theorem giveD_same {n : Nat} {st : Sto} (h : st.length = n) (x : PyData) : giveD n (.dat x) st = .ok (.dat x) st := by
  show Res.ok _ (st.take n) = _
  rw [← h, List.take_length]
theorem atI_mem {α : Type} {xs : List α} {r : Int} (h0 : 0 ≤ r) (h1 : r < xs.length) : ∃ x, x ∈ xs ∧ atI xs r = some x := by
  obtain ⟨k, rfl⟩ := Int.eq_ofNat_of_zero_le h0
  have hk : k < xs.length := by omega
  exact ⟨xs[k], List.getElem_mem hk, atI_nat (List.getElem?_eq_getElem hk)⟩
theorem bits2 : Builtin.Int.intBits 2 = 2 := by decide
theorem pow10 (k : Nat) (st : Sto) (h : k ≤ 20000 := by decide) : dPow (.dat (.int 10)) (.dat (.int k)) st = .ok (.dat (.int (10 ^ k))) st := by
  rw [dPow_ap _ _ _ (by rw [bits10]; omega)] <;> rfl
theorem pow2 (k : Nat) (st : Sto) (h : k ≤ 20000 := by decide) : dPow (.dat (.int 2)) (.dat (.int k)) st = .ok (.dat (.int (2 ^ k))) st := by
  rw [dPow_ap _ _ _ (by rw [bits2]; omega)] <;> rfl
/-- what a draw leaves -/
structure Dn (n m : Nat) (st st' : Sto) : Prop where
  but : SameBut n st st'
  sack : SackAt st' n m
theorem Dn.len {n m : Nat} {st st' : Sto} (h : Dn n m st st') : st'.length = st.length := h.but.len
theorem Dn.trans {n m m' : Nat} {st st' st2 : Sto} (h : Dn n m st st') (h2 : Dn n m' st' st2) : Dn n m' st st2 := ⟨h.but.trans h2.but, h2.sack⟩
theorem Dn.mono {n m m' : Nat} {st st' : Sto} (h : Dn n m st st') (hm : m ≤ m') : Dn n m' st st' := ⟨h.but, h.sack.mono hm⟩
theorem draw_dn {st : Sto} {n m : Nat} (S : SackAt st n m) {many : Int} (h0 : 0 < many) (h1 : many < 18446744073709551616) (hm : m ≤ 1000000) :
    ∃ r st', runB 6 2 drawB [.loc n, .dat (.int many)] st = .ok (.dat (.int r)) st' ∧ 0 ≤ r ∧ r < many ∧ Dn n (m + 1) st st' := by
  obtain ⟨r, st', e, a, b, c, d⟩ := draw_ok S h0 h1 hm
  exact ⟨r, st', e, a, b, c, d⟩
end Ev
set_option Elab.async false
set_option linter.all false
set_option maxRecDepth 100000
set_option maxHeartbeats 4000000
/-! Pu3: more words for reckoning: == of truths, tuples put together, appends, loops over a range. -/
namespace Ev
open PySem PySem.Spec PyProof.Rows L2
open Classical
theorem dAdd_tuple {xs ys : List PyData} (h : xs.length + ys.length ≤ 100000) (st : Sto) : dAdd (.dat (.tuple xs)) (.dat (.tuple ys)) st = .ok (.dat (.tuple (xs ++ ys))) st := by
  show ifLen _ _ st = _
  unfold ifLen
  rw [if_pos h] <;> rfl
theorem dNe_bool (a b : Bool) (st : Sto) : dNe (.dat (.bool a)) (.dat (.bool b)) st = .ok (.dat (.bool (a != b))) st := by
  cases a <;> cases b <;> rfl
theorem dNe_str (x y : Str) (st : Sto) : dNe (.dat (.str x)) (.dat (.str y)) st = .ok (.dat (.bool (!decide (x = y)))) st := rfl
theorem dNe_int' (i j : Int) (st : Sto) : dNe (.dat (.int i)) (.dat (.int j)) st = .ok (.dat (.bool (!(i == j)))) st := by
  show notM (eqD (.int i) (.int j)) st = _
  have e : eqD (.int i) (.int j) st = .ok (.dat (.bool (i == j))) st := dEq_int i j st
  rw [notM_ap, e] <;> rfl
theorem append_ap {mo : Env → M D} {ms : Env → M (List D)} {ρ : Env} {st st1 st2 : Sto} {n : Nat} {xs zs : List PyData} {y : PyData} (h1 : mo ρ st = .ok (.loc n) st1) (h2 : st1[n]? = some (.lst zs)) (h3 : ms ρ st1 = .ok [.dat y] st2) (e : st2[n]? = some (.lst xs)) (hl : xs.length ≤ 100000) :
    mMt dAppend mo ms ρ st = .ok (.dat .none) (st2.set n (.lst (xs ++ [y]))) := by
  unfold mMt
  rw [bind_ap, h1, then_ok, bind_ap]
  have q : isLoc (.loc n) st1 = .ok (.loc n) st1 := by
    unfold isLoc
    dsimp only
    rw [h2]
  rw [q, then_ok, bind_ap, h3, then_ok]
  show onLoc _ (.loc n) st2 = _
  unfold onLoc
  dsimp only
  rw [e]
  dsimp only
  rw [if_pos hl]
theorem sPar_ap {i j : Nat} {ms : Env → M (List D)} {ρ : Env} {st st1 : Sto} {x y : D} (h : ms ρ st = .ok [x, y] st1) : sPar i j ms ρ st = .nx ((ρ.set i (some x)).set j (some y)) st1 := by
  unfold sPar
  rw [sBind_ap, h] <;> rfl
@[simp] theorem mK_ap (F : List D → M D) (g : List D → List D → List D) (ms mk : Env → M (List D)) (ρ : Env) (st : Sto) : mK F g ms mk ρ st = (ms ρ st).then fun ds => M.bind (mk ρ) fun es => F (g ds es) := rfl
theorem rng_ap {k : Int} (h0 : 0 ≤ k) (h1 : k < 1000) (st : Sto) : rng1 [.dat (.int k)] st = .ok (rangeD 0 k.toNat) st := by
  show (if -(2 ^ 62) ≤ k ∧ k < 2 ^ 62 then M.pure (rangeD 0 k.toNat) else M.bad) st = _
  rw [if_pos ⟨by omega, by omega⟩]
  rfl
theorem rng_items (k : Nat) : (rangeD 0 k).items = (List.range k).map (fun i : Nat => D.dat (.int (0 + (i : Int)))) := rfl
theorem rng_ok (k : Nat) : (rangeD 0 k).ok = fun _ => True := rfl
theorem data_items (xs : List PyData) : (Src.data xs).items = xs.map D.dat := rfl
theorem data_ok (xs : List PyData) : (Src.data xs).ok = fun _ => True := rfl
theorem loopS_end {t : Tg} {body : SM} {ρ : Env} {st : Sto} : loopS (fun _ => True) t body [] ρ st = .nx ρ st := by
  rw [loopS, if_pos trivial]
/-- a loop whose turns change the slots from 1 on in any way, the store in any way -/
theorem loop_any {t : Tg} {body : SM} {x : Option D} {N : Nat} (ds : List D) (h : ∀ d ∈ ds, ∀ (ρ : Env) (st : Sto), ρ.length = N → ∃ ρ1, t d (x :: ρ) = some ρ1 ∧ ∃ ρ2 st2, body ρ1 st = .nx (x :: ρ2) st2 ∧ ρ2.length = N) :
    ∀ (ρ : Env) (st : Sto), ρ.length = N → ∃ ρ2 st2, loopS (fun _ => True) t body ds (x :: ρ) st = .nx (x :: ρ2) st2 ∧ ρ2.length = N := by
  induction ds with
  | nil => intro ρ st hl; exact ⟨ρ, st, loopS_end, hl⟩
  | cons d r ih =>
    intro ρ st hl
    obtain ⟨ρ1, e1, ρ2, st2, e2, l2⟩ := h d List.mem_cons_self ρ st hl
    obtain ⟨ρ3, st3, e3, l3⟩ := ih (fun y hy => h y (List.mem_cons_of_mem _ hy)) ρ2 st2 l2
    exact ⟨ρ3, st3, by rw [loopS_nx trivial e1 e2, e3], l3⟩
/-- slots, one by one -/
theorem env1 {ρ : Env} {n : Nat} (h : ρ.length = n + 1) : ∃ a r, ρ = a :: r ∧ r.length = n := by
  cases ρ with
  | nil => cases h
  | cons a r => exact ⟨a, r, rfl, by simpa using h⟩
theorem env0 {ρ : Env} (h : ρ.length = 0) : ρ = [] := List.length_eq_zero_iff.mp h
end Ev
set_option Elab.async false
set_option linter.all false
set_option maxRecDepth 100000
set_option maxHeartbeats 4000000
/-! printed by gen.py: the functions of the defs, and that the text keeps them. -/
namespace K02
open PySem PySem.Spec PyProof.Rows L2 Ev
open Classical
def top (i : Nat) : Stmt := PySem.Challenge.pw_rowhaul_k02_what_is_an_expression.main.body.getD i (.Pass ⟨0, 0, 0, 0⟩)
def hit_NoNumber (x : Str) : Option Bool :=
  if x = "NoNumber" then some true else
  if x = "RowsError" then some false else
  none
def isa (x : Str) : D → Option Bool
  | .glob y =>
    if x = "NoNumber" ∧ y = "Falls" then some false else
    if x = "NoNumber" ∧ y = "RowsError" then some true else
    if x = "RowsError" ∧ y = "Falls" then some false else
    if x = "RowsError" ∧ y = "RowsError" then some true else
    none
  | .raw (.ty y) =>
    if x = "NoNumber" ∧ y = "ValueError" then some true else
    if x = "RowsError" ∧ y = "ValueError" then some true else
    none
  | _ => none
structure Bt (K : PySem.W.Frag) (mg : Str → Option Value) : Prop where
  b_ValueError : mg "ValueError" = none
  b_abs : mg "abs" = none
  b_bool : mg "bool" = none
  b_int : mg "int" = none
  b_isinstance : mg "isinstance" = none
  b_len : mg "len" = none
  b_max : mg "max" = none
  b_min : mg "min" = none
  b_range : mg "range" = none
  b_repr : mg "repr" = none
  b_str : mg "str" = none
  b_tuple : mg "tuple" = none
  c_LEAST_WORD : ∃ t, mg "LEAST_WORD" = some (.int (-1000000000) t)
  c_MOST_OPS : ∃ t, mg "MOST_OPS" = some (.int 4 t)
  c_MOST_WORD : ∃ t, mg "MOST_WORD" = some (.int 1000000000 t)
  c__MOST_COLUMNS : ∃ t, mg "_MOST_COLUMNS" = some (.int 9 t)
  t__OPS : KTup K mg "_OPS" [.str "plus", .str "minus", .str "times", .str "over", .str "rest", .str "less", .str "same"]
  x_NoNumber : ExN K mg "NoNumber"
  h_NoNumber : Catch K mg "NoNumber" hit_NoNumber
  m_Falls : ∃ f : Addr, mg "Falls" = some (.ref f)
  m_RowsError : ∃ f : Addr, mg "RowsError" = some (.ref f)
  isa : Isa K mg isa
  k0_is_expr : Bn K mg "is_expr" ["thing", "width", "carried"] 2 [] (fun vs _ => vs ++ [.bl false])
  k1_is_expr : Bn K mg "is_expr" ["thing", "width", "carried"] 2 ["carried"] (fun vs zs => vs ++ zs)


/-! is_whole -/
abbrev s_is_whole : Stmt := top 5
abbrev N_is_whole : List Str := ["thing"]
noncomputable def b_is_whole : SM :=
    (sRet (mAndV (mC (on2 dIsi) (aCons (vr 0) (aCons (ct (.ty .int)) aNil))) (mNotV (mC (on2 dIsi) (aCons (vr 0) (aCons (ct (.ty .bool)) aNil))))))
noncomputable def F_is_whole : List D → M D := runB 1 1 b_is_whole
theorem sc_is_whole : FnScope N_is_whole ["thing"] (defScope s_is_whole) := ⟨rfl, rfl, rfl, by decide +kernel, rfl, by decide +kernel, by decide +kernel⟩
theorem g_is_whole {P : Program} {w : World} {K : PySem.W.Frag} {mg : Str → Option Value} {base : Heap} (B : Bt K mg) (d : Df K mg "is_whole" s_is_whole ["thing"]) :
    FnN P w K mg base 1 "is_whole" ["thing"] F_is_whole := by
  refine fnN_of (N := N_is_whole) (body := b_is_whole) giveD_ok d sc_is_whole fun f cdv A outer s H E C => ?_
  exact (evs_one (evs_ret (ev_and (n_isinstance B.b_isinstance (ea_cons (ev_vr 0) (ea_cons (ev_tyn (t := .int) (by rfl) B.b_int boot_int) ea_nil))) (ev_one (ev_not (n_isinstance B.b_isinstance (ea_cons (ev_vr 0) (ea_cons (ev_tyn (t := .bool) (by rfl) B.b_bool boot_bool) ea_nil))))))))


/-! is_from -/
abbrev s_is_from : Stmt := top 6
abbrev N_is_from : List Str := ["thing", "low", "high"]
noncomputable def b_is_from : SM :=
    (sRet (mAndV (mC F_is_whole (aCons (vr 0) aNil)) (mChain dLe dLe (vr 1) (vr 0) (vr 2))))
noncomputable def F_is_from : List D → M D := runB 3 3 b_is_from
theorem sc_is_from : FnScope N_is_from ["thing", "low", "high"] (defScope s_is_from) := ⟨rfl, rfl, rfl, by decide +kernel, rfl, by decide +kernel, by decide +kernel⟩
theorem g_is_from {P : Program} {w : World} {K : PySem.W.Frag} {mg : Str → Option Value} {base : Heap} (B : Bt K mg) (d : Df K mg "is_from" s_is_from ["thing", "low", "high"]) (G_is_whole : FnN P w K mg base 1 "is_whole" ["thing"] F_is_whole) :
    FnN P w K mg base 2 "is_from" ["thing", "low", "high"] F_is_from := by
  refine fnN_of (N := N_is_from) (body := b_is_from) giveD_ok d sc_is_from fun f cdv A outer s H E C => ?_
  exact (evs_one (evs_ret (ev_and (ev_callN G_is_whole C (by decide) (by rfl) (ea_cons (ev_vr 0) ea_nil)) (ev_one (x_lele (ev_vr 1) (ev_vr 0) (ev_vr 2))))))


/-! check_from -/
abbrev s_check_from : Stmt := top 7
abbrev N_check_from : List Str := ["thing", "low", "high"]
noncomputable def b_check_from : SM :=
    (sIf (mNot (mT (mC F_is_from (aCons (vr 0) (aCons (vr 1) (aCons (vr 2) aNil)))))) (sRaise "NoNumber") sNil)
noncomputable def F_check_from : List D → M D := runB 3 3 b_check_from
theorem sc_check_from : FnScope N_check_from ["thing", "low", "high"] (defScope s_check_from) := ⟨rfl, rfl, rfl, by decide +kernel, rfl, by decide +kernel, by decide +kernel⟩
theorem g_check_from {P : Program} {w : World} {K : PySem.W.Frag} {mg : Str → Option Value} {base : Heap} (B : Bt K mg) (d : Df K mg "check_from" s_check_from ["thing", "low", "high"]) (G_is_from : FnN P w K mg base 2 "is_from" ["thing", "low", "high"] F_is_from) :
    FnN P w K mg base 3 "check_from" ["thing", "low", "high"] F_check_from := by
  refine fnN_of (N := N_check_from) (body := b_check_from) giveD_ok d sc_check_from fun f cdv A outer s H E C => ?_
  exact (evs_one (evs_if (evt_not (evt_tru (ev_callN G_is_from C (by decide) (by rfl) (ea_cons (ev_vr 0) (ea_cons (ev_vr 1) (ea_cons (ev_vr 2) ea_nil)))))) (evs_one (evs_raise rfl C B.x_NoNumber (by rfl))) evs_nil))


/-! is_word -/
abbrev s_is_word : Stmt := top 14
abbrev N_is_word : List Str := ["thing"]
noncomputable def b_is_word : SM :=
    (sRet (mC F_is_from (aCons (vr 0) (aCons (ct (.dat (.int (-1000000000)))) (aCons (ct (.dat (.int 1000000000))) aNil)))))
noncomputable def F_is_word : List D → M D := runB 1 1 b_is_word
theorem sc_is_word : FnScope N_is_word ["thing"] (defScope s_is_word) := ⟨rfl, rfl, rfl, by decide +kernel, rfl, by decide +kernel, by decide +kernel⟩
theorem g_is_word {P : Program} {w : World} {K : PySem.W.Frag} {mg : Str → Option Value} {base : Heap} (B : Bt K mg) (d : Df K mg "is_word" s_is_word ["thing"]) (G_is_from : FnN P w K mg base 2 "is_from" ["thing", "low", "high"] F_is_from) :
    FnN P w K mg base 3 "is_word" ["thing"] F_is_word := by
  refine fnN_of (N := N_is_word) (body := b_is_word) giveD_ok d sc_is_word fun f cdv A outer s H E C => ?_
  exact (evs_one (evs_ret (ev_callN G_is_from C (by decide) (by rfl) (ea_cons (ev_vr 0) (ea_cons (ev_gint (by rfl) B.c_LEAST_WORD.choose_spec ⟨_, rfl⟩) (ea_cons (ev_gint (by rfl) B.c_MOST_WORD.choose_spec ⟨_, rfl⟩) ea_nil))))))


/-! _is_expr -/
abbrev s__is_expr : Stmt := top 16
abbrev N__is_expr : List Str := ["thing", "width", "carried", "ops"]
noncomputable def b__is_expr (F__self : List D → M D) : SM :=
    (sSeq (sIf (mNot (mT (mC (on2 dIsi) (aCons (vr 0) (aCons (ct (.ty .tuple)) aNil))))) (sRet (mC F_is_word (aCons (vr 0) aNil))) sNil)
    (sSeq (sIf (mT (m2 dEq (mC (on1 dLen) (aCons (vr 0) aNil)) (ct (.dat (.int 1))))) (sRet (mAndV (mC (on1 dBool) (aCons (vr 2) aNil)) (m2 dEq (m2 dIx (vr 0) (ct (.dat (.int 0)))) (ct (.dat (.str "was")))))) sNil)
    (sSeq (sIf (mT (m2 dEq (mC (on1 dLen) (aCons (vr 0) aNil)) (ct (.dat (.int 2))))) (sRet (mAndV (m2 dEq (m2 dIx (vr 0) (ct (.dat (.int 0)))) (ct (.dat (.str "at")))) (mC F_is_from (aCons (m2 dIx (vr 0) (ct (.dat (.int 1)))) (aCons (ct (.dat (.int 0))) (aCons (m2 dSub (vr 1) (ct (.dat (.int 1)))) aNil)))))) sNil)
    (sSeq (sIf (mOr (mT (m2 dNe (mC (on1 dLen) (aCons (vr 0) aNil)) (ct (.dat (.int 3))))) (mOr (mT (m2 dNin (m2 dIx (vr 0) (ct (.dat (.int 0)))) (ct (.dat (.tuple [.str "plus", .str "minus", .str "times", .str "over", .str "rest", .str "less", .str "same"]))))) (mT (m2 dEq (vr 3) (ct (.dat (.int 0))))))) (sRet (ct (.dat (.bool false)))) sNil)
    (sRet (mAndV (mC F__self (aCons (m2 dIx (vr 0) (ct (.dat (.int 1)))) (aCons (vr 1) (aCons (vr 2) (aCons (m2 dSub (vr 3) (ct (.dat (.int 1)))) aNil))))) (mC F__self (aCons (m2 dIx (vr 0) (ct (.dat (.int 2)))) (aCons (vr 1) (aCons (vr 2) (aCons (m2 dSub (vr 3) (ct (.dat (.int 1)))) aNil)))))))))))
noncomputable def F__is_expr : List D → M D := recB giveD 4 4 b__is_expr 24
theorem sc__is_expr : FnScope N__is_expr ["thing", "width", "carried", "ops"] (defScope s__is_expr) := ⟨rfl, rfl, rfl, by decide +kernel, rfl, by decide +kernel, by decide +kernel⟩
theorem g__is_expr {P : Program} {w : World} {K : PySem.W.Frag} {mg : Str → Option Value} {base : Heap} (B : Bt K mg) (d : Df K mg "_is_expr" s__is_expr ["thing", "width", "carried", "ops"]) (G_is_word : FnN P w K mg base 3 "is_word" ["thing"] F_is_word) (G_is_from : FnN P w K mg base 2 "is_from" ["thing", "low", "high"] F_is_from) :
    FnN P w K mg base 27 "_is_expr" ["thing", "width", "carried", "ops"] F__is_expr := by
  refine fnN_rec (j := 3) (N := N__is_expr) (body := b__is_expr) giveD_ok d sc__is_expr (fun k F__self G__self f cdv A outer s H E C => ?_) 24
  exact (evs_cons (evs_if (evt_not (evt_tru (n_isinstance B.b_isinstance (ea_cons (ev_vr 0) (ea_cons (ev_tyn (t := .tuple) (by rfl) B.b_tuple boot_tuple) ea_nil))))) (evs_one (evs_ret (ev_callN G_is_word C (by omega) (by rfl) (ea_cons (ev_vr 0) ea_nil)))) evs_nil)
    (evs_cons (evs_if (t_eq C (n_len B.b_len (ea_cons (ev_vr 0) ea_nil)) ev_int) (evs_one (evs_ret (ev_and (n_bool B.b_bool (ea_cons (ev_vr 2) ea_nil)) (ev_one (x_eq C (x_ix (ev_vr 0) ev_int) ev_str))))) evs_nil)
    (evs_cons (evs_if (t_eq C (n_len B.b_len (ea_cons (ev_vr 0) ea_nil)) ev_int) (evs_one (evs_ret (ev_and (x_eq C (x_ix (ev_vr 0) ev_int) ev_str) (ev_one (ev_callN G_is_from C (by omega) (by rfl) (ea_cons (x_ix (ev_vr 0) ev_int) (ea_cons ev_int (ea_cons (x_sub (ev_vr 1) ev_int) ea_nil)))))))) evs_nil)
    (evs_cons (evs_if (evt_w (evw_or (t_ne C (n_len B.b_len (ea_cons (ev_vr 0) ea_nil)) ev_int) (evw_or (t_nin C (x_ix (ev_vr 0) ev_int) (ev_gtup (by rfl) B.t__OPS)) (evw_or1 (t_eq C (ev_vr 3) ev_int))))) (evs_one (evs_ret ev_bl)) evs_nil)
    (evs_one (evs_ret (ev_and (ev_callN G__self C (Nat.le_refl _) (by rfl) (ea_cons (x_ix (ev_vr 0) ev_int) (ea_cons (ev_vr 1) (ea_cons (ev_vr 2) (ea_cons (x_sub (ev_vr 3) ev_int) ea_nil))))) (ev_one (ev_callN G__self C (Nat.le_refl _) (by rfl) (ea_cons (x_ix (ev_vr 0) ev_int) (ea_cons (ev_vr 1) (ea_cons (ev_vr 2) (ea_cons (x_sub (ev_vr 3) ev_int) ea_nil)))))))))))))


/-! is_expr -/
abbrev s_is_expr : Stmt := top 15
abbrev N_is_expr : List Str := ["thing", "width", "carried"]
noncomputable def b_is_expr : SM :=
    (sSeq (sDrop (mC F_check_from (aCons (vr 1) (aCons (ct (.dat (.int 0))) (aCons (ct (.dat (.int 9))) aNil)))))
    (sRet (mC F__is_expr (aCons (vr 0) (aCons (vr 1) (aCons (vr 2) (aCons (ct (.dat (.int 4))) aNil)))))))
noncomputable def F_is_expr : List D → M D := runB 3 3 b_is_expr
theorem sc_is_expr : FnScope N_is_expr ["thing", "width", "carried"] (defScope s_is_expr) := ⟨rfl, rfl, rfl, by decide +kernel, rfl, by decide +kernel, by decide +kernel⟩
theorem g_is_expr {P : Program} {w : World} {K : PySem.W.Frag} {mg : Str → Option Value} {base : Heap} (B : Bt K mg) (d : DfV K mg "is_expr" s_is_expr) (G_check_from : FnN P w K mg base 3 "check_from" ["thing", "low", "high"] F_check_from) (G__is_expr : FnN P w K mg base 27 "_is_expr" ["thing", "width", "carried", "ops"] F__is_expr) :
    FnV P w K mg base 28 "is_expr" ["thing", "width", "carried"] F_is_expr := by
  refine fnV_of (N := N_is_expr) (body := b_is_expr) giveD_ok d sc_is_expr fun f cdv A outer s H E C => ?_
  exact (evs_cons (evs_expr (ev_callN G_check_from C (by decide) (by rfl) (ea_cons (ev_vr 1) (ea_cons ev_int (ea_cons (ev_gint (by rfl) B.c__MOST_COLUMNS.choose_spec ⟨_, rfl⟩) ea_nil)))))
    (evs_one (evs_ret (ev_callN G__is_expr C (by decide) (by rfl) (ea_cons (ev_vr 0) (ea_cons (ev_vr 1) (ea_cons (ev_vr 2) (ea_cons (ev_gint (by rfl) B.c_MOST_OPS.choose_spec ⟨_, rfl⟩) ea_nil))))))))


/-! _law_sack -/
abbrev s__law_sack : Stmt := top 18
abbrev N__law_sack : List Str := ["script", "at", "cell", "great"]
noncomputable def b__law_sack : SM :=
    (sSeq (sSet 2 (m2 dAdd (m2 dMul (ct (.dat (.int 3))) (vr 1)) (ct (.dat (.int 1)))))
    (sSeq (sIf (mT (m2 dLt (vr 1) (mC (on1 dLen) (aCons (vr 0) aNil)))) (sSet 2 (m2 dIx (vr 0) (vr 1))) sNil)
    (sSeq (sSet 3 (m2 dMod (mC (on1 dAbs) (aCons (vr 2) aNil)) (m2 dPow (m2 dPow (ct (.dat (.int 10))) (ct (.dat (.int 60)))) (ct (.dat (.int 12))))))
    (sRet (mC mkLoc (aCons (mC (on2 dMax2) (aCons (ct (.dat (.int 0))) (aCons (m2 dSub (vr 3) (m2 dPow (ct (.dat (.int 10))) (ct (.dat (.int 16))))) aNil))) (aCons (m2 dMod (m2 dAdd (m2 dAdd (m2 dAdd (m2 dMul (vr 3) (ct (.dat (.int 6700417)))) (m2 dMul (ct (.dat (.int 524287))) (vr 1))) (m2 dMul (ct (.dat (.int 2))) (mC (on1 dInt) (aCons (m2 dLt (vr 2) (ct (.dat (.int 0)))) aNil)))) (ct (.dat (.int 11)))) (ct (.dat (.int 2147483647)))) (aCons (ct (.dat (.int 0))) aNil))))))))
noncomputable def F__law_sack : List D → M D := runL 4 2 b__law_sack
theorem sc__law_sack : FnScope N__law_sack ["script", "at"] (defScope s__law_sack) := ⟨rfl, rfl, rfl, by decide +kernel, rfl, by decide +kernel, by decide +kernel⟩
theorem g__law_sack {P : Program} {w : World} {K : PySem.W.Frag} {mg : Str → Option Value} {base : Heap} (B : Bt K mg) (d : Df K mg "_law_sack" s__law_sack ["script", "at"]) :
    FnN P w K mg base 1 "_law_sack" ["script", "at"] F__law_sack := by
  refine fnN_of (N := N__law_sack) (body := b__law_sack) giveL_ok d sc__law_sack fun f cdv A outer s H E C => ?_
  exact (evs_cons (evs_set (i := 2) sc__law_sack.nd rfl (Or.inl rfl) (x_add (x_mul ev_int (ev_vr 1)) ev_int))
    (evs_cons (evs_if (t_lt (ev_vr 1) (n_len B.b_len (ea_cons (ev_vr 0) ea_nil))) (evs_one (evs_set (i := 2) sc__law_sack.nd rfl (Or.inl rfl) (x_ix (ev_vr 0) (ev_vr 1)))) evs_nil)
    (evs_cons (evs_set (i := 3) sc__law_sack.nd rfl (Or.inl rfl) (x_mod (n_abs B.b_abs (ea_cons (ev_vr 2) ea_nil)) (x_pow (x_pow ev_int ev_int) ev_int)))
    (evs_one (evs_ret (ev_loc (ea_cons (n_max rfl B.b_max (ea_cons ev_int (ea_cons (x_sub (ev_vr 3) (x_pow ev_int ev_int)) ea_nil))) (ea_cons (x_mod (x_add (x_add (x_add (x_mul (ev_vr 3) ev_int) (x_mul ev_int (ev_vr 1))) (x_mul ev_int (n_int B.b_int (ea_cons (x_lt (ev_vr 2) ev_int) ea_nil)))) ev_int) ev_int) (ea_cons ev_int ea_nil)))))))))


/-! _law_draw -/
abbrev s__law_draw : Stmt := top 19
abbrev N__law_draw : List Str := ["sack", "many", "found", "one", "stir", "two"]
noncomputable def b__law_draw : SM :=
    (sSeq (sIf (mT (m2 dGt (m2 dIx (vr 0) (ct (.dat (.int 0)))) (ct (.dat (.int 0))))) (sSeq (sSet 2 (m2 dMod (m2 dIx (vr 0) (ct (.dat (.int 0)))) (vr 1)))
    (sSeq (sSetIx (vr 0) (ct (.dat (.int 0))) (m2 dFdiv (m2 dIx (vr 0) (ct (.dat (.int 0)))) (vr 1)))
    (sRet (vr 2)))) sNil)
    (sSeq (sSetIx (vr 0) (ct (.dat (.int 2))) (m2 dAdd (m2 dIx (vr 0) (ct (.dat (.int 2)))) (ct (.dat (.int 1)))))
    (sSeq (sSet 3 (m2 dMod (m2 dAdd (m2 dIx (vr 0) (ct (.dat (.int 1)))) (m2 dMul (ct (.dat (.int 1299709))) (m2 dIx (vr 0) (ct (.dat (.int 2)))))) (ct (.dat (.int 2147483629)))))
    (sSeq (sSet 4 (m2 dAdd (m2 dMul (m2 dMod (m2 dMul (vr 3) (vr 3)) (ct (.dat (.int 2147483587)))) (vr 3)) (m2 dMul (ct (.dat (.int 7919))) (m2 dIx (vr 0) (ct (.dat (.int 2)))))))
    (sSeq (sSet 5 (m2 dMod (m2 dAdd (vr 4) (m2 dMod (m2 dIx (vr 0) (ct (.dat (.int 1)))) (ct (.dat (.int 65521))))) (ct (.dat (.int 2147483563)))))
    (sSeq (sSet 2 (m2 dAdd (m2 dFdiv (m2 dMod (m2 dMul (vr 5) (vr 5)) (ct (.dat (.int 2147483549)))) (ct (.dat (.int 32)))) (m2 dMul (m2 dMul (ct (.dat (.int 2147483563))) (vr 3)) (mC (on1 dInt) (aCons (m2 dGt (vr 1) (m2 dPow (ct (.dat (.int 10))) (ct (.dat (.int 6))))) aNil)))))
    (sRet (m2 dMod (vr 2) (vr 1)))))))))
noncomputable def F__law_draw : List D → M D := runB 6 2 b__law_draw
theorem sc__law_draw : FnScope N__law_draw ["sack", "many"] (defScope s__law_draw) := ⟨rfl, rfl, rfl, by decide +kernel, rfl, by decide +kernel, by decide +kernel⟩
theorem g__law_draw {P : Program} {w : World} {K : PySem.W.Frag} {mg : Str → Option Value} {base : Heap} (B : Bt K mg) (d : Df K mg "_law_draw" s__law_draw ["sack", "many"]) :
    FnN P w K mg base 1 "_law_draw" ["sack", "many"] F__law_draw := by
  refine fnN_of (N := N__law_draw) (body := b__law_draw) giveD_ok d sc__law_draw fun f cdv A outer s H E C => ?_
  exact (evs_cons (evs_if (t_gt (x_ix (ev_vr 0) ev_int) ev_int) (evs_cons (evs_set (i := 2) sc__law_draw.nd rfl (Or.inl rfl) (x_mod (x_ix (ev_vr 0) ev_int) (ev_vr 1)))
    (evs_cons (evs_setix (ev_vr 0) ev_int (x_fdiv (x_ix (ev_vr 0) ev_int) (ev_vr 1)))
    (evs_one (evs_ret (ev_vr 2))))) evs_nil)
    (evs_cons (evs_setix (ev_vr 0) ev_int (x_add (x_ix (ev_vr 0) ev_int) ev_int))
    (evs_cons (evs_set (i := 3) sc__law_draw.nd rfl (Or.inl rfl) (x_mod (x_add (x_ix (ev_vr 0) ev_int) (x_mul ev_int (x_ix (ev_vr 0) ev_int))) ev_int))
    (evs_cons (evs_set (i := 4) sc__law_draw.nd rfl (Or.inl rfl) (x_add (x_mul (x_mod (x_mul (ev_vr 3) (ev_vr 3)) ev_int) (ev_vr 3)) (x_mul ev_int (x_ix (ev_vr 0) ev_int))))
    (evs_cons (evs_set (i := 5) sc__law_draw.nd rfl (Or.inl rfl) (x_mod (x_add (ev_vr 4) (x_mod (x_ix (ev_vr 0) ev_int) ev_int)) ev_int))
    (evs_cons (evs_set (i := 2) sc__law_draw.nd rfl (Or.inl rfl) (x_add (x_fdiv (x_mod (x_mul (ev_vr 5) (ev_vr 5)) ev_int) ev_int) (x_mul (x_mul ev_int (ev_vr 3)) (n_int B.b_int (ea_cons (x_gt (ev_vr 1) (x_pow ev_int ev_int)) ea_nil)))))
    (evs_one (evs_ret (x_mod (ev_vr 2) (ev_vr 1))))))))))


/-! _law_leaf -/
abbrev s__law_leaf : Stmt := top 20
abbrev N__law_leaf : List Str := ["sack", "wide", "led", "way"]
noncomputable def b__law_leaf : SM :=
    (sSeq (sSet 3 (mC F__law_draw (aCons (vr 0) (aCons (ct (.dat (.int 8))) aNil))))
    (sSeq (sIf (mAnd (mT (vr 2)) (mT (m2 dLt (vr 3) (ct (.dat (.int 3)))))) (sRet (mC mkTup (aCons (ct (.dat (.str "was"))) aNil))) sNil)
    (sSeq (sIf (mAnd (mT (m2 dGt (vr 1) (ct (.dat (.int 0))))) (mT (m2 dLt (vr 3) (ct (.dat (.int 6)))))) (sRet (mC mkTup (aCons (ct (.dat (.str "at"))) (aCons (mC F__law_draw (aCons (vr 0) (aCons (vr 1) aNil))) aNil)))) sNil)
    (sRet (m2 dIx (mC mkLst (aCons (ct (.dat (.int 0))) (aCons (ct (.dat (.int 1))) (aCons (ct (.dat (.int 2))) (aCons (m1 dNeg (ct (.dat (.int 1)))) (aCons (ct (.dat (.int 3))) (aCons (m2 dSub (mC F__law_draw (aCons (vr 0) (aCons (ct (.dat (.int 21))) aNil))) (ct (.dat (.int 10)))) (aCons (m2 dPow (ct (.dat (.int 10))) (ct (.dat (.int 9)))) (aCons (m1 dNeg (m2 dPow (ct (.dat (.int 10))) (ct (.dat (.int 9))))) aNil))))))))) (mC F__law_draw (aCons (vr 0) (aCons (ct (.dat (.int 8))) aNil))))))))
noncomputable def F__law_leaf : List D → M D := runB 4 3 b__law_leaf
theorem sc__law_leaf : FnScope N__law_leaf ["sack", "wide", "led"] (defScope s__law_leaf) := ⟨rfl, rfl, rfl, by decide +kernel, rfl, by decide +kernel, by decide +kernel⟩
theorem g__law_leaf {P : Program} {w : World} {K : PySem.W.Frag} {mg : Str → Option Value} {base : Heap} (B : Bt K mg) (d : Df K mg "_law_leaf" s__law_leaf ["sack", "wide", "led"]) (G__law_draw : FnN P w K mg base 1 "_law_draw" ["sack", "many"] F__law_draw) :
    FnN P w K mg base 2 "_law_leaf" ["sack", "wide", "led"] F__law_leaf := by
  refine fnN_of (N := N__law_leaf) (body := b__law_leaf) giveD_ok d sc__law_leaf fun f cdv A outer s H E C => ?_
  exact (evs_cons (evs_set (i := 3) sc__law_leaf.nd rfl (Or.inl rfl) (ev_callN G__law_draw C (by decide) (by rfl) (ea_cons (ev_vr 0) (ea_cons ev_int ea_nil))))
    (evs_cons (evs_if (evt_w (evw_and (evt_tru (ev_vr 2)) (evw_and1 (t_lt (ev_vr 3) ev_int)))) (evs_one (evs_ret (ev_tup (ea_cons ev_str ea_nil)))) evs_nil)
    (evs_cons (evs_if (evt_w (evw_and (t_gt (ev_vr 1) ev_int) (evw_and1 (t_lt (ev_vr 3) ev_int)))) (evs_one (evs_ret (ev_tup (ea_cons ev_str (ea_cons (ev_callN G__law_draw C (by decide) (by rfl) (ea_cons (ev_vr 0) (ea_cons (ev_vr 1) ea_nil))) ea_nil))))) evs_nil)
    (evs_one (evs_ret (x_ix (ev_lst (ea_cons ev_int (ea_cons ev_int (ea_cons ev_int (ea_cons (x_neg ev_int) (ea_cons ev_int (ea_cons (x_sub (ev_callN G__law_draw C (by decide) (by rfl) (ea_cons (ev_vr 0) (ea_cons ev_int ea_nil))) ev_int) (ea_cons (x_pow ev_int ev_int) (ea_cons (x_neg (x_pow ev_int ev_int)) ea_nil))))))))) (ev_callN G__law_draw C (by decide) (by rfl) (ea_cons (ev_vr 0) (ea_cons ev_int ea_nil)))))))))


/-! _law_tree -/
abbrev s__law_tree : Stmt := top 21
abbrev N__law_tree : List Str := ["sack", "wide", "deep", "led", "op", "one", "other"]
noncomputable def b__law_tree (F__self : List D → M D) : SM :=
    (sSeq (sIf (mT (m2 dLt (vr 2) (ct (.dat (.int 1))))) (sRet (mC F__law_leaf (aCons (vr 0) (aCons (vr 1) (aCons (vr 3) aNil))))) sNil)
    (sSeq (sSet 4 (m2 dIx (mC mkLst (aCons (ct (.dat (.str "plus"))) (aCons (ct (.dat (.str "minus"))) (aCons (ct (.dat (.str "times"))) (aCons (ct (.dat (.str "over"))) (aCons (ct (.dat (.str "rest"))) (aCons (ct (.dat (.str "less"))) (aCons (ct (.dat (.str "same"))) aNil)))))))) (mC F__law_draw (aCons (vr 0) (aCons (ct (.dat (.int 7))) aNil)))))
    (sSeq (sSet 5 (mC F__self (aCons (vr 0) (aCons (vr 1) (aCons (m2 dSub (vr 2) (ct (.dat (.int 1)))) (aCons (vr 3) aNil))))))
    (sSeq (sSet 6 (mC F__self (aCons (vr 0) (aCons (vr 1) (aCons (mC F__law_draw (aCons (vr 0) (aCons (mC (on2 dMin2) (aCons (vr 2) (aCons (ct (.dat (.int 2))) aNil))) aNil))) (aCons (vr 3) aNil))))))
    (sRet (m2 dIx (mC mkLst (aCons (mC mkTup (aCons (vr 4) (aCons (vr 5) (aCons (vr 6) aNil)))) (aCons (mC mkTup (aCons (vr 4) (aCons (vr 6) (aCons (vr 5) aNil)))) aNil))) (mC F__law_draw (aCons (vr 0) (aCons (ct (.dat (.int 2))) aNil)))))))))
noncomputable def F__law_tree : List D → M D := recB giveD 7 4 b__law_tree 24
theorem sc__law_tree : FnScope N__law_tree ["sack", "wide", "deep", "led"] (defScope s__law_tree) := ⟨rfl, rfl, rfl, by decide +kernel, rfl, by decide +kernel, by decide +kernel⟩
theorem g__law_tree {P : Program} {w : World} {K : PySem.W.Frag} {mg : Str → Option Value} {base : Heap} (B : Bt K mg) (d : Df K mg "_law_tree" s__law_tree ["sack", "wide", "deep", "led"]) (G__law_leaf : FnN P w K mg base 2 "_law_leaf" ["sack", "wide", "led"] F__law_leaf) (G__law_draw : FnN P w K mg base 1 "_law_draw" ["sack", "many"] F__law_draw) :
    FnN P w K mg base 26 "_law_tree" ["sack", "wide", "deep", "led"] F__law_tree := by
  refine fnN_rec (j := 2) (N := N__law_tree) (body := b__law_tree) giveD_ok d sc__law_tree (fun k F__self G__self f cdv A outer s H E C => ?_) 24
  exact (evs_cons (evs_if (t_lt (ev_vr 2) ev_int) (evs_one (evs_ret (ev_callN G__law_leaf C (by omega) (by rfl) (ea_cons (ev_vr 0) (ea_cons (ev_vr 1) (ea_cons (ev_vr 3) ea_nil)))))) evs_nil)
    (evs_cons (evs_set (i := 4) sc__law_tree.nd rfl (Or.inl rfl) (x_ix (ev_lst (ea_cons ev_str (ea_cons ev_str (ea_cons ev_str (ea_cons ev_str (ea_cons ev_str (ea_cons ev_str (ea_cons ev_str ea_nil)))))))) (ev_callN G__law_draw C (by omega) (by rfl) (ea_cons (ev_vr 0) (ea_cons ev_int ea_nil)))))
    (evs_cons (evs_set (i := 5) sc__law_tree.nd rfl (Or.inl rfl) (ev_callN G__self C (Nat.le_refl _) (by rfl) (ea_cons (ev_vr 0) (ea_cons (ev_vr 1) (ea_cons (x_sub (ev_vr 2) ev_int) (ea_cons (ev_vr 3) ea_nil))))))
    (evs_cons (evs_set (i := 6) sc__law_tree.nd rfl (Or.inl rfl) (ev_callN G__self C (Nat.le_refl _) (by rfl) (ea_cons (ev_vr 0) (ea_cons (ev_vr 1) (ea_cons (ev_callN G__law_draw C (by omega) (by rfl) (ea_cons (ev_vr 0) (ea_cons (n_min rfl B.b_min (ea_cons (ev_vr 2) (ea_cons ev_int ea_nil))) ea_nil))) (ea_cons (ev_vr 3) ea_nil))))))
    (evs_one (evs_ret (x_ix (ev_lst (ea_cons (ev_tup (ea_cons (ev_vr 4) (ea_cons (ev_vr 5) (ea_cons (ev_vr 6) ea_nil)))) (ea_cons (ev_tup (ea_cons (ev_vr 4) (ea_cons (ev_vr 6) (ea_cons (ev_vr 5) ea_nil)))) ea_nil))) (ev_callN G__law_draw C (by omega) (by rfl) (ea_cons (ev_vr 0) (ea_cons ev_int ea_nil))))))))))


/-! _law_is -/
abbrev s__law_is : Stmt := top 22
abbrev N__law_is : List Str := ["thing", "wide", "led", "left"]
noncomputable def b__law_is (F__self : List D → M D) : SM :=
    (sSeq (sIf (mT (mC (on2 dIsi) (aCons (vr 0) (aCons (ct (.ty .bool)) aNil)))) (sRet (ct (.dat (.bool false)))) sNil)
    (sSeq (sIf (mT (mC (on2 dIsi) (aCons (vr 0) (aCons (ct (.ty .int)) aNil)))) (sRet (m2 dLe (mC (on1 dAbs) (aCons (vr 0) aNil)) (m2 dPow (ct (.dat (.int 10))) (ct (.dat (.int 9)))))) sNil)
    (sSeq (sIf (mOr (mNot (mT (mC (on2 dIsi) (aCons (vr 0) (aCons (ct (.ty .tuple)) aNil))))) (mOr (mT (m2 dEq (vr 0) (mC mkTup aNil))) (mNot (mT (mC (on2 dIsi) (aCons (m2 dIx (vr 0) (ct (.dat (.int 0)))) (aCons (ct (.ty .str)) aNil))))))) (sRet (ct (.dat (.bool false)))) sNil)
    (sSeq (sIf (mT (m2 dEq (m2 dIx (vr 0) (ct (.dat (.int 0)))) (ct (.dat (.str "was"))))) (sRet (mAndV (vr 2) (m2 dEq (mC (on1 dLen) (aCons (vr 0) aNil)) (ct (.dat (.int 1)))))) sNil)
    (sSeq (sIf (mT (m2 dEq (m2 dIx (vr 0) (ct (.dat (.int 0)))) (ct (.dat (.str "at"))))) (sSeq (sIf (mOr (mT (m2 dNe (mC (on1 dLen) (aCons (vr 0) aNil)) (ct (.dat (.int 2))))) (mOr (mNot (mT (mC (on2 dIsi) (aCons (m2 dIx (vr 0) (ct (.dat (.int 1)))) (aCons (ct (.ty .int)) aNil))))) (mT (mC (on2 dIsi) (aCons (m2 dIx (vr 0) (ct (.dat (.int 1)))) (aCons (ct (.ty .bool)) aNil)))))) (sRet (ct (.dat (.bool false)))) sNil)
    (sRet (mChain dLe dLt (ct (.dat (.int 0))) (m2 dIx (vr 0) (ct (.dat (.int 1)))) (vr 1)))) sNil)
    (sSeq (sIf (mOr (mT (m2 dNin (m2 dIx (vr 0) (ct (.dat (.int 0)))) (mC mkTup (aCons (ct (.dat (.str "plus"))) (aCons (ct (.dat (.str "minus"))) (aCons (ct (.dat (.str "times"))) (aCons (ct (.dat (.str "over"))) (aCons (ct (.dat (.str "rest"))) (aCons (ct (.dat (.str "less"))) (aCons (ct (.dat (.str "same"))) aNil)))))))))) (mOr (mT (m2 dNe (mC (on1 dLen) (aCons (vr 0) aNil)) (ct (.dat (.int 3))))) (mT (m2 dLt (vr 3) (ct (.dat (.int 1))))))) (sRet (ct (.dat (.bool false)))) sNil)
    (sRet (mAndV (mC F__self (aCons (m2 dIx (vr 0) (ct (.dat (.int 1)))) (aCons (vr 1) (aCons (vr 2) (aCons (m2 dSub (vr 3) (ct (.dat (.int 1)))) aNil))))) (mC F__self (aCons (m2 dIx (vr 0) (ct (.dat (.int 2)))) (aCons (vr 1) (aCons (vr 2) (aCons (m2 dSub (vr 3) (ct (.dat (.int 1)))) aNil)))))))))))))
noncomputable def F__law_is : List D → M D := recB giveD 4 4 b__law_is 24
theorem sc__law_is : FnScope N__law_is ["thing", "wide", "led", "left"] (defScope s__law_is) := ⟨rfl, rfl, rfl, by decide +kernel, rfl, by decide +kernel, by decide +kernel⟩
theorem g__law_is {P : Program} {w : World} {K : PySem.W.Frag} {mg : Str → Option Value} {base : Heap} (B : Bt K mg) (d : Df K mg "_law_is" s__law_is ["thing", "wide", "led", "left"]) :
    FnN P w K mg base 24 "_law_is" ["thing", "wide", "led", "left"] F__law_is := by
  refine fnN_rec (j := 0) (N := N__law_is) (body := b__law_is) giveD_ok d sc__law_is (fun k F__self G__self f cdv A outer s H E C => ?_) 24
  exact (evs_cons (evs_if (evt_tru (n_isinstance B.b_isinstance (ea_cons (ev_vr 0) (ea_cons (ev_tyn (t := .bool) (by rfl) B.b_bool boot_bool) ea_nil)))) (evs_one (evs_ret ev_bl)) evs_nil)
    (evs_cons (evs_if (evt_tru (n_isinstance B.b_isinstance (ea_cons (ev_vr 0) (ea_cons (ev_tyn (t := .int) (by rfl) B.b_int boot_int) ea_nil)))) (evs_one (evs_ret (x_le (n_abs B.b_abs (ea_cons (ev_vr 0) ea_nil)) (x_pow ev_int ev_int)))) evs_nil)
    (evs_cons (evs_if (evt_w (evw_or (evt_not (evt_tru (n_isinstance B.b_isinstance (ea_cons (ev_vr 0) (ea_cons (ev_tyn (t := .tuple) (by rfl) B.b_tuple boot_tuple) ea_nil))))) (evw_or (t_eq C (ev_vr 0) (ev_tup ea_nil)) (evw_or1 (evt_not (evt_tru (n_isinstance B.b_isinstance (ea_cons (x_ix (ev_vr 0) ev_int) (ea_cons (ev_tyn (t := .str) (by rfl) B.b_str boot_str) ea_nil))))))))) (evs_one (evs_ret ev_bl)) evs_nil)
    (evs_cons (evs_if (t_eq C (x_ix (ev_vr 0) ev_int) ev_str) (evs_one (evs_ret (ev_and (ev_vr 2) (ev_one (x_eq C (n_len B.b_len (ea_cons (ev_vr 0) ea_nil)) ev_int))))) evs_nil)
    (evs_cons (evs_if (t_eq C (x_ix (ev_vr 0) ev_int) ev_str) (evs_cons (evs_if (evt_w (evw_or (t_ne C (n_len B.b_len (ea_cons (ev_vr 0) ea_nil)) ev_int) (evw_or (evt_not (evt_tru (n_isinstance B.b_isinstance (ea_cons (x_ix (ev_vr 0) ev_int) (ea_cons (ev_tyn (t := .int) (by rfl) B.b_int boot_int) ea_nil))))) (evw_or1 (evt_tru (n_isinstance B.b_isinstance (ea_cons (x_ix (ev_vr 0) ev_int) (ea_cons (ev_tyn (t := .bool) (by rfl) B.b_bool boot_bool) ea_nil)))))))) (evs_one (evs_ret ev_bl)) evs_nil)
    (evs_one (evs_ret (x_lelt ev_int (x_ix (ev_vr 0) ev_int) (ev_vr 1))))) evs_nil)
    (evs_cons (evs_if (evt_w (evw_or (t_nin C (x_ix (ev_vr 0) ev_int) (ev_tup (ea_cons ev_str (ea_cons ev_str (ea_cons ev_str (ea_cons ev_str (ea_cons ev_str (ea_cons ev_str (ea_cons ev_str ea_nil))))))))) (evw_or (t_ne C (n_len B.b_len (ea_cons (ev_vr 0) ea_nil)) ev_int) (evw_or1 (t_lt (ev_vr 3) ev_int))))) (evs_one (evs_ret ev_bl)) evs_nil)
    (evs_one (evs_ret (ev_and (ev_callN G__self C (Nat.le_refl _) (by rfl) (ea_cons (x_ix (ev_vr 0) ev_int) (ea_cons (ev_vr 1) (ea_cons (ev_vr 2) (ea_cons (x_sub (ev_vr 3) ev_int) ea_nil))))) (ev_one (ev_callN G__self C (Nat.le_refl _) (by rfl) (ea_cons (x_ix (ev_vr 0) ev_int) (ea_cons (ev_vr 1) (ea_cons (ev_vr 2) (ea_cons (x_sub (ev_vr 3) ev_int) ea_nil)))))))))))))))


/-! _law_spoilt -/
abbrev s__law_spoilt : Stmt := top 23
abbrev N__law_spoilt : List Str := ["sack", "thing", "wide", "spot", "part", "some"]
noncomputable def b__law_spoilt (F__self : List D → M D) : SM :=
    (sSeq (sIf (mAnd (mT (mC (on2 dIsi) (aCons (vr 1) (aCons (ct (.ty .tuple)) aNil)))) (mAnd (mT (m2 dEq (mC (on1 dLen) (aCons (vr 1) aNil)) (ct (.dat (.int 3))))) (mT (m2 dGt (mC F__law_draw (aCons (vr 0) (aCons (ct (.dat (.int 3))) aNil))) (ct (.dat (.int 0))))))) (sSeq (sSet 3 (m2 dAdd (ct (.dat (.int 1))) (mC F__law_draw (aCons (vr 0) (aCons (ct (.dat (.int 2))) aNil)))))
    (sRet (m2 dAdd (m2 dAdd (mSl (vr 1) mNoPart (mPart (vr 3))) (mC mkTup (aCons (mC F__self (aCons (vr 0) (aCons (m2 dIx (vr 1) (vr 3)) (aCons (vr 2) aNil)))) aNil))) (mSl (vr 1) (mPart (m2 dAdd (vr 3) (ct (.dat (.int 1))))) mNoPart)))) sNil)
    (sSeq (sSet 4 (mIf (mAnd (mT (mC (on2 dIsi) (aCons (vr 1) (aCons (ct (.ty .tuple)) aNil)))) (mT (m2 dGt (mC (on1 dLen) (aCons (vr 1) aNil)) (ct (.dat (.int 1)))))) (m2 dIx (vr 1) (ct (.dat (.int 1)))) (ct (.dat (.int 0)))))
    (sSeq (sSet 5 (mC mkLst (aCons (ct (.dat .none)) (aCons (ct (.dat (.bool true))) (aCons (ct (.dat (.str "at"))) (aCons (mC mkLst (aCons (vr 1) aNil)) (aCons (mC mkTup (aCons (ct (.dat (.str "at"))) aNil)) (aCons (mC mkTup (aCons (ct (.dat (.str "at"))) (aCons (vr 2) aNil))) (aCons (mC mkTup (aCons (ct (.dat (.str "at"))) (aCons (m1 dNeg (ct (.dat (.int 1)))) aNil))) (aCons (mC mkTup (aCons (ct (.dat (.str "at"))) (aCons (ct (.dat (.bool true))) aNil))) (aCons (mC mkTup (aCons (ct (.dat (.str "at"))) (aCons (ct (.dat (.str "0"))) aNil))) (aCons (mC mkTup (aCons (ct (.dat (.str "at"))) (aCons (ct (.dat (.int 0))) (aCons (ct (.dat (.int 0))) aNil)))) aNil))))))))))))
    (sSeq (sSet 5 (m2 dAdd (vr 5) (mC mkLst (aCons (mC mkTup (aCons (ct (.dat (.str "plus"))) (aCons (vr 4) aNil))) (aCons (mC mkTup (aCons (ct (.dat (.str "plus"))) (aCons (ct (.dat (.int 0))) (aCons (ct (.dat (.int 0))) (aCons (ct (.dat (.int 0))) aNil))))) (aCons (mC mkTup (aCons (ct (.dat (.str "+"))) (aCons (ct (.dat (.int 0))) (aCons (ct (.dat (.int 0))) aNil)))) (aCons (mC mkTup (aCons (ct (.dat (.str "was"))) (aCons (ct (.dat (.int 0))) aNil))) (aCons (mC mkTup (aCons (ct (.dat (.str "was"))) aNil)) (aCons (mC mkTup (aCons (ct (.dat (.str "plus"))) (aCons (mC mkLst (aCons (ct (.dat (.int 0))) aNil)) (aCons (ct (.dat (.int 0))) aNil)))) (aCons (mC mkTup aNil) (aCons (mC mkLst aNil) (aCons mDct0 aNil))))))))))))
    (sSeq (sSet 5 (m2 dAdd (vr 5) (mC mkLst (aCons (m2 dAdd (m2 dPow (ct (.dat (.int 10))) (ct (.dat (.int 9)))) (ct (.dat (.int 1)))) (aCons (m2 dSub (m1 dNeg (m2 dPow (ct (.dat (.int 10))) (ct (.dat (.int 9))))) (ct (.dat (.int 1)))) (aCons (mC mkTup (aCons (ct (.dat (.str "minus"))) (aCons (ct (.dat (.int 0))) (aCons (ct (.dat .none)) aNil)))) (aCons (mC mkTup (aCons (ct (.dat (.int 1))) (aCons (ct (.dat (.int 0))) (aCons (ct (.dat (.int 0))) aNil)))) (aCons (mC mkTup (aCons (mC mkTup (aCons (ct (.dat (.str "at"))) (aCons (ct (.dat (.int 0))) aNil))) aNil)) (aCons (mC mkLst (aCons (ct (.dat (.str "plus"))) (aCons (ct (.dat (.int 0))) (aCons (ct (.dat (.int 0))) aNil)))) (aCons (ct (.dat (.str "was"))) aNil))))))))))
    (sSeq (sSet 5 (m2 dAdd (vr 5) (mC mkLst (aCons (mC mkTup (aCons (ct (.dat (.str "least"))) (aCons (ct (.dat (.int 0))) (aCons (ct (.dat (.int 0))) aNil)))) (aCons (mC mkTup (aCons (ct (.dat .none)) (aCons (ct (.dat (.int 0))) (aCons (ct (.dat (.int 0))) aNil)))) (aCons (mC mkTup (aCons (mC mkTup aNil) (aCons (ct (.dat (.int 0))) (aCons (ct (.dat (.int 0))) aNil)))) (aCons (mC mkTup (aCons (ct (.dat (.str "at"))) (aCons (ct (.dat (.int 0))) aNil))) (aCons (m2 dPow (ct (.dat (.int 10))) (ct (.dat (.int 9)))) aNil))))))))
    (sRet (m2 dIx (vr 5) (mC F__law_draw (aCons (vr 0) (aCons (ct (.dat (.int 31))) aNil)))))))))))
noncomputable def F__law_spoilt : List D → M D := recB giveD 6 3 b__law_spoilt 24
theorem sc__law_spoilt : FnScope N__law_spoilt ["sack", "thing", "wide"] (defScope s__law_spoilt) := ⟨rfl, rfl, rfl, by decide +kernel, rfl, by decide +kernel, by decide +kernel⟩
theorem g__law_spoilt {P : Program} {w : World} {K : PySem.W.Frag} {mg : Str → Option Value} {base : Heap} (B : Bt K mg) (d : Df K mg "_law_spoilt" s__law_spoilt ["sack", "thing", "wide"]) (G__law_draw : FnN P w K mg base 1 "_law_draw" ["sack", "many"] F__law_draw) :
    FnN P w K mg base 25 "_law_spoilt" ["sack", "thing", "wide"] F__law_spoilt := by
  refine fnN_rec (j := 1) (N := N__law_spoilt) (body := b__law_spoilt) giveD_ok d sc__law_spoilt (fun k F__self G__self f cdv A outer s H E C => ?_) 24
  exact (evs_cons (evs_if (evt_w (evw_and (evt_tru (n_isinstance B.b_isinstance (ea_cons (ev_vr 1) (ea_cons (ev_tyn (t := .tuple) (by rfl) B.b_tuple boot_tuple) ea_nil)))) (evw_and (t_eq C (n_len B.b_len (ea_cons (ev_vr 1) ea_nil)) ev_int) (evw_and1 (t_gt (ev_callN G__law_draw C (by omega) (by rfl) (ea_cons (ev_vr 0) (ea_cons ev_int ea_nil))) ev_int))))) (evs_cons (evs_set (i := 3) sc__law_spoilt.nd rfl (Or.inl rfl) (x_add ev_int (ev_callN G__law_draw C (by omega) (by rfl) (ea_cons (ev_vr 0) (ea_cons ev_int ea_nil)))))
    (evs_one (evs_ret (x_add (x_add (ev_slice (ev_vr 1) evp_none (evp_some (ev_vr 3))) (ev_tup (ea_cons (ev_callN G__self C (Nat.le_refl _) (by rfl) (ea_cons (ev_vr 0) (ea_cons (x_ix (ev_vr 1) (ev_vr 3)) (ea_cons (ev_vr 2) ea_nil)))) ea_nil))) (ev_slice (ev_vr 1) (evp_some (x_add (ev_vr 3) ev_int)) evp_none))))) evs_nil)
    (evs_cons (evs_set (i := 4) sc__law_spoilt.nd rfl (Or.inl rfl) (ev_if (evt_w (evw_and (evt_tru (n_isinstance B.b_isinstance (ea_cons (ev_vr 1) (ea_cons (ev_tyn (t := .tuple) (by rfl) B.b_tuple boot_tuple) ea_nil)))) (evw_and1 (t_gt (n_len B.b_len (ea_cons (ev_vr 1) ea_nil)) ev_int)))) (x_ix (ev_vr 1) ev_int) ev_int))
    (evs_cons (evs_set (i := 5) sc__law_spoilt.nd rfl (Or.inl rfl) (ev_lst (ea_cons ev_non (ea_cons ev_bl (ea_cons ev_str (ea_cons (ev_lst (ea_cons (ev_vr 1) ea_nil)) (ea_cons (ev_tup (ea_cons ev_str ea_nil)) (ea_cons (ev_tup (ea_cons ev_str (ea_cons (ev_vr 2) ea_nil))) (ea_cons (ev_tup (ea_cons ev_str (ea_cons (x_neg ev_int) ea_nil))) (ea_cons (ev_tup (ea_cons ev_str (ea_cons ev_bl ea_nil))) (ea_cons (ev_tup (ea_cons ev_str (ea_cons ev_str ea_nil))) (ea_cons (ev_tup (ea_cons ev_str (ea_cons ev_int (ea_cons ev_int ea_nil)))) ea_nil))))))))))))
    (evs_cons (evs_set (i := 5) sc__law_spoilt.nd rfl (Or.inl rfl) (x_add (ev_vr 5) (ev_lst (ea_cons (ev_tup (ea_cons ev_str (ea_cons (ev_vr 4) ea_nil))) (ea_cons (ev_tup (ea_cons ev_str (ea_cons ev_int (ea_cons ev_int (ea_cons ev_int ea_nil))))) (ea_cons (ev_tup (ea_cons ev_str (ea_cons ev_int (ea_cons ev_int ea_nil)))) (ea_cons (ev_tup (ea_cons ev_str (ea_cons ev_int ea_nil))) (ea_cons (ev_tup (ea_cons ev_str ea_nil)) (ea_cons (ev_tup (ea_cons ev_str (ea_cons (ev_lst (ea_cons ev_int ea_nil)) (ea_cons ev_int ea_nil)))) (ea_cons (ev_tup ea_nil) (ea_cons (ev_lst ea_nil) (ea_cons ev_dct0 ea_nil))))))))))))
    (evs_cons (evs_set (i := 5) sc__law_spoilt.nd rfl (Or.inl rfl) (x_add (ev_vr 5) (ev_lst (ea_cons (x_add (x_pow ev_int ev_int) ev_int) (ea_cons (x_sub (x_neg (x_pow ev_int ev_int)) ev_int) (ea_cons (ev_tup (ea_cons ev_str (ea_cons ev_int (ea_cons ev_non ea_nil)))) (ea_cons (ev_tup (ea_cons ev_int (ea_cons ev_int (ea_cons ev_int ea_nil)))) (ea_cons (ev_tup (ea_cons (ev_tup (ea_cons ev_str (ea_cons ev_int ea_nil))) ea_nil)) (ea_cons (ev_lst (ea_cons ev_str (ea_cons ev_int (ea_cons ev_int ea_nil)))) (ea_cons ev_str ea_nil))))))))))
    (evs_cons (evs_set (i := 5) sc__law_spoilt.nd rfl (Or.inl rfl) (x_add (ev_vr 5) (ev_lst (ea_cons (ev_tup (ea_cons ev_str (ea_cons ev_int (ea_cons ev_int ea_nil)))) (ea_cons (ev_tup (ea_cons ev_non (ea_cons ev_int (ea_cons ev_int ea_nil)))) (ea_cons (ev_tup (ea_cons (ev_tup ea_nil) (ea_cons ev_int (ea_cons ev_int ea_nil)))) (ea_cons (ev_tup (ea_cons ev_str (ea_cons ev_int ea_nil))) (ea_cons (x_pow ev_int ev_int) ea_nil))))))))
    (evs_one (evs_ret (x_ix (ev_vr 5) (ev_callN G__law_draw C (by omega) (by rfl) (ea_cons (ev_vr 0) (ea_cons ev_int ea_nil))))))))))))


/-! _law_asked -/
abbrev s__law_asked : Stmt := top 24
abbrev N__law_asked : List Str := ["thing", "wide", "e"]
noncomputable def b__law_asked : SM :=
    (sSeq (sTryAs (sDrop (mK F_is_expr (fun ds _ => ds ++ [.dat (.bool false)]) (aCons (vr 0) (aCons (vr 1) aNil)) aNil)) hit_NoNumber 2 (fun a cls d => (sRet (mAndV (mC (dIsE a cls d isa) (aCons (vr 2) (aCons (ct (.glob "RowsError")) aNil))) (mAndV (mC (dIsE a cls d isa) (aCons (vr 2) (aCons (ct (.raw (.ty "ValueError"))) aNil))) (mNotV (mC (dIsE a cls d isa) (aCons (vr 2) (aCons (ct (.glob "Falls")) aNil)))))))))
    (sRet (ct (.dat (.bool false)))))
noncomputable def F__law_asked : List D → M D := runB 3 2 b__law_asked
theorem sc__law_asked : FnScope N__law_asked ["thing", "wide"] (defScope s__law_asked) := ⟨rfl, rfl, rfl, by decide +kernel, rfl, by decide +kernel, by decide +kernel⟩
theorem g__law_asked {P : Program} {w : World} {K : PySem.W.Frag} {mg : Str → Option Value} {base : Heap} (B : Bt K mg) (d : Df K mg "_law_asked" s__law_asked ["thing", "wide"]) (G_is_expr : FnV P w K mg base 28 "is_expr" ["thing", "width", "carried"] F_is_expr) :
    FnN P w K mg base 29 "_law_asked" ["thing", "wide"] F__law_asked := by
  refine fnN_of (N := N__law_asked) (body := b__law_asked) giveD_ok d sc__law_asked fun f cdv A outer s H E C => ?_
  exact (evs_cons (evs_try1 (i := 2) rfl rfl sc__law_asked.nd rfl rfl B.h_NoNumber (by rfl) C (fun W' pn xe C' po => (evs_one (evs_expr (ev_callK G_is_expr B.k0_is_expr (fun _ _ _ _ _ _ _ _ _ _ _ h1 _ => h1.app (.cons (Dv.bl false) .nil)) C' (by decide) (by rfl) (al_cons (al_cons al_nil)) al_nil (ea_cons (ev_vr 0) (ea_cons (ev_vr 1) ea_nil)) ek_nil)))) (fun a oe cls d pn hz hv => (evs_one (evs_ret (ev_and (ev_isE hz hv B.isa B.b_isinstance (ea_cons (ev_vr 2) (ea_cons (ev_gcls (by rfl) B.m_RowsError) ea_nil))) (ev_and (ev_isE hz hv B.isa B.b_isinstance (ea_cons (ev_vr 2) (ea_cons (ev_rawty (T := "ValueError") (by rfl) B.b_ValueError (by decide +kernel)) ea_nil))) (ev_one (ev_not (ev_isE hz hv B.isa B.b_isinstance (ea_cons (ev_vr 2) (ea_cons (ev_gcls (by rfl) B.m_Falls) ea_nil)))))))))))
    (evs_one (evs_ret ev_bl)))


/-! _law_right -/
abbrev s__law_right : Stmt := top 25
abbrev N__law_right : List Str := ["thing", "wide", "kept", "some", "plainly", "other", "due"]
noncomputable def l__law_right_1 : SM :=
    (sSeq (sPar 4 5 (aCons (mK F_is_expr (fun ds _ => ds ++ [.dat (.bool false)]) (aCons (vr 0) (aCons (vr 3) aNil)) aNil) (aCons (mK F_is_expr (fun ds es => ds ++ es) (aCons (vr 0) (aCons (vr 3) aNil)) (aCons (ct (.dat (.bool true))) aNil)) aNil)))
    (sSeq (sSet 6 (mC mkLst (aCons (mC F__law_is (aCons (vr 0) (aCons (vr 3) (aCons (ct (.dat (.bool false))) (aCons (ct (.dat (.int 4))) aNil))))) (aCons (mC F__law_is (aCons (vr 0) (aCons (vr 3) (aCons (ct (.dat (.bool true))) (aCons (ct (.dat (.int 4))) aNil))))) aNil))))
    (sIf (mOr (mT (m2 dNe (mC (on1 dRepr) (aCons (mC mkLst (aCons (vr 4) (aCons (vr 5) aNil))) aNil)) (mC (on1 dRepr) (aCons (vr 6) aNil)))) (mT (m2 dNe (mK F_is_expr (fun ds es => ds ++ es) (aCons (vr 0) (aCons (vr 3) aNil)) (aCons (ct (.dat (.bool false))) aNil)) (vr 4)))) (sRet (ct (.dat (.bool false)))) sNil)))
noncomputable def b__law_right : SM :=
    (sSeq (sSet 2 (mC (on1 dRepr) (aCons (vr 0) aNil)))
    (sSeq (sFor (mSeq (mC mkTup (aCons (vr 1) (aCons (ct (.dat (.int 9))) (aCons (ct (.dat (.int 0))) (aCons (ct (.dat (.int 3))) aNil)))))) (tgName 3) l__law_right_1)
    (sRet (m2 dEq (mC (on1 dRepr) (aCons (vr 0) aNil)) (vr 2)))))
noncomputable def F__law_right : List D → M D := runB 7 2 b__law_right
theorem sc__law_right : FnScope N__law_right ["thing", "wide"] (defScope s__law_right) := ⟨rfl, rfl, rfl, by decide +kernel, rfl, by decide +kernel, by decide +kernel⟩
theorem g__law_right {P : Program} {w : World} {K : PySem.W.Frag} {mg : Str → Option Value} {base : Heap} (B : Bt K mg) (d : Df K mg "_law_right" s__law_right ["thing", "wide"]) (G_is_expr : FnV P w K mg base 28 "is_expr" ["thing", "width", "carried"] F_is_expr) (G__law_is : FnN P w K mg base 24 "_law_is" ["thing", "wide", "led", "left"] F__law_is) :
    FnN P w K mg base 29 "_law_right" ["thing", "wide"] F__law_right := by
  refine fnN_of (N := N__law_right) (body := b__law_right) giveD_ok d sc__law_right fun f cdv A outer s H E C => ?_
  exact (evs_cons (evs_set (i := 2) sc__law_right.nd rfl (Or.inl rfl) (n_repr C B.b_repr (ea_cons (ev_vr 0) ea_nil)))
    (evs_cons (evs_for (mb := l__law_right_1) passes_cx rfl (evi_seq (ev_tup (ea_cons (ev_vr 1) (ea_cons ev_int (ea_cons ev_int (ea_cons ev_int ea_nil)))))) (eg_name (i := 3) sc__law_right.nd rfl (Or.inl rfl)) (evs_cons (evs_par (i := 4) (j := 5) rfl sc__law_right.nd rfl rfl (by decide) rfl rfl (ea_cons (ev_callK G_is_expr B.k0_is_expr (fun _ _ _ _ _ _ _ _ _ _ _ h1 _ => h1.app (.cons (Dv.bl false) .nil)) C (by decide) (by rfl) (al_cons (al_cons al_nil)) al_nil (ea_cons (ev_vr 0) (ea_cons (ev_vr 3) ea_nil)) ek_nil) (ea_cons (ev_callK G_is_expr B.k1_is_expr (fun _ _ _ _ _ _ _ _ _ _ _ h1 h2 => h1.app h2) C (by decide) (by rfl) (al_cons (al_cons al_nil)) (al_cons al_nil) (ea_cons (ev_vr 0) (ea_cons (ev_vr 3) ea_nil)) (ek_cons ev_bl ek_nil)) ea_nil)))
    (evs_cons (evs_set (i := 6) sc__law_right.nd rfl (Or.inl rfl) (ev_lst (ea_cons (ev_callN G__law_is C (by decide) (by rfl) (ea_cons (ev_vr 0) (ea_cons (ev_vr 3) (ea_cons ev_bl (ea_cons ev_int ea_nil))))) (ea_cons (ev_callN G__law_is C (by decide) (by rfl) (ea_cons (ev_vr 0) (ea_cons (ev_vr 3) (ea_cons ev_bl (ea_cons ev_int ea_nil))))) ea_nil))))
    (evs_one (evs_if (evt_w (evw_or (t_ne C (n_repr C B.b_repr (ea_cons (ev_lst (ea_cons (ev_vr 4) (ea_cons (ev_vr 5) ea_nil))) ea_nil)) (n_repr C B.b_repr (ea_cons (ev_vr 6) ea_nil))) (evw_or1 (t_ne C (ev_callK G_is_expr B.k1_is_expr (fun _ _ _ _ _ _ _ _ _ _ _ h1 h2 => h1.app h2) C (by decide) (by rfl) (al_cons (al_cons al_nil)) (al_cons al_nil) (ea_cons (ev_vr 0) (ea_cons (ev_vr 3) ea_nil)) (ek_cons ev_bl ek_nil)) (ev_vr 4))))) (evs_one (evs_ret ev_bl)) evs_nil)))))
    (evs_one (evs_ret (x_eq C (n_repr C B.b_repr (ea_cons (ev_vr 0) ea_nil)) (ev_vr 2))))))


/-! law -/
abbrev s_law : Stmt := top 26
abbrev N_law : List Str := ["script", "at", "sack", "wide", "led", "tree", "once", "some", "thing", "strange", "deep", "told", "turn"]
noncomputable def l_law_1 : SM :=
    (sIf (mNot (mT (mC F__law_right (aCons (vr 8) (aCons (vr 3) aNil))))) (sRet (ct (.dat (.bool false)))) sNil)
noncomputable def l_law_2 : SM :=
    (sSeq (sSet 2 (mC F__law_sack (aCons (vr 0) (aCons (vr 1) aNil))))
    (sSeq (sPar 3 4 (aCons (mC F__law_draw (aCons (vr 2) (aCons (ct (.dat (.int 10))) aNil))) (aCons (m2 dEq (mC F__law_draw (aCons (vr 2) (aCons (ct (.dat (.int 2))) aNil))) (ct (.dat (.int 0)))) aNil)))
    (sSeq (sSet 5 (mC F__law_tree (aCons (vr 2) (aCons (vr 3) (aCons (mC F__law_draw (aCons (vr 2) (aCons (ct (.dat (.int 6))) aNil))) (aCons (vr 4) aNil))))))
    (sSeq (sSet 6 (mC F__law_spoilt (aCons (vr 2) (aCons (vr 5) (aCons (vr 3) aNil)))))
    (sSeq (sSet 7 (mC mkLst (aCons (vr 5) (aCons (vr 6) (aCons (mC F__law_spoilt (aCons (vr 2) (aCons (vr 6) (aCons (vr 3) aNil)))) (aCons (mC mkTup (aCons (ct (.dat (.str "times"))) (aCons (vr 5) (aCons (vr 5) aNil)))) aNil))))))
    (sSeq (sSet 7 (m2 dAdd (vr 7) (mC mkLst (aCons (mC mkTup (aCons (ct (.dat (.str "same"))) (aCons (ct (.dat (.int 1))) (aCons (vr 6) aNil)))) (aCons (mC F__law_spoilt (aCons (vr 2) (aCons (vr 5) (aCons (ct (.dat (.int 9))) aNil)))) aNil)))))
    (sSeq (sFor (mSeq (vr 7)) (tgName 8) l_law_1)
    (sSeq (sSet 9 (m2 dIx (mC mkLst (aCons (m1 dNeg (ct (.dat (.int 1)))) (aCons (ct (.dat (.int 10))) (aCons (ct (.dat .none)) (aCons (ct (.dat (.bool true))) (aCons (ct (.dat (.str "3"))) (aCons (mC mkTup (aCons (ct (.dat (.int 3))) aNil)) (aCons (m2 dPow (ct (.dat (.int 10))) (ct (.dat (.int 30)))) (aCons (mC mkLst (aCons (ct (.dat (.int 3))) aNil)) aNil))))))))) (mC F__law_draw (aCons (vr 2) (aCons (ct (.dat (.int 8))) aNil)))))
    (sIf (mOr (mNot (mT (mC F__law_asked (aCons (vr 5) (aCons (vr 9) aNil))))) (mNot (mT (mC F__law_asked (aCons (ct (.dat .none)) (aCons (vr 9) aNil)))))) (sRet (ct (.dat (.bool false)))) sNil)))))))))
noncomputable def l_law_3 : SM :=
    (sSeq (sSet 10 (mC mkTup (aCons (ct (.dat (.str "plus"))) (aCons (ct (.dat (.int 1))) (aCons (vr 10) aNil)))))
    (sDrop (mMt dAppend (vr 11) (aCons (mK F_is_expr (fun ds _ => ds ++ [.dat (.bool false)]) (aCons (vr 10) (aCons (ct (.dat (.int 1))) aNil)) aNil) aNil))))
noncomputable def b_law : SM :=
    (sSeq (sFor (mRng1 (aCons (mC (on2 dMax2) (aCons (ct (.dat (.int 1))) (aCons (mC (on2 dMin2) (aCons (ct (.dat (.int 20))) (aCons (mC (on1 dLen) (aCons (vr 0) aNil)) aNil))) aNil))) aNil)) (tgName 1) l_law_2)
    (sSeq (sSet 10 (mC mkTup (aCons (ct (.dat (.str "at"))) (aCons (ct (.dat (.int 0))) aNil))))
    (sSeq (sSet 11 (mC mkLoc (aCons (mK F_is_expr (fun ds _ => ds ++ [.dat (.bool false)]) (aCons (vr 10) (aCons (ct (.dat (.int 1))) aNil)) aNil) aNil)))
    (sSeq (sFor (mRng1 (aCons (ct (.dat (.int 5))) aNil)) (tgName 12) l_law_3)
    (sSeq (sIf (mT (m2 dNe (vr 11) (m2 dAdd (m2 dMul (mC mkLst (aCons (ct (.dat (.bool true))) aNil)) (ct (.dat (.int 5)))) (mC mkLst (aCons (ct (.dat (.bool false))) aNil))))) (sRet (ct (.dat (.bool false)))) sNil)
    (sRet (mAndV (m2 isN (mK F_is_expr (fun ds _ => ds ++ [.dat (.bool false)]) (aCons (mC mkTup (aCons (ct (.dat (.str "was"))) aNil)) (aCons (ct (.dat (.int 0))) aNil)) aNil) (ct (.dat (.bool false)))) (m2 isN (mK F_is_expr (fun ds es => ds ++ es) (aCons (mC mkTup (aCons (ct (.dat (.str "was"))) aNil)) (aCons (ct (.dat (.int 0))) aNil)) (aCons (ct (.dat (.bool true))) aNil)) (ct (.dat (.bool true)))))))))))
noncomputable def F_law : List D → M D := runB 13 1 b_law
theorem sc_law : FnScope N_law ["script"] (defScope s_law) := ⟨rfl, rfl, rfl, by decide +kernel, rfl, by decide +kernel, by decide +kernel⟩
theorem g_law {P : Program} {w : World} {K : PySem.W.Frag} {mg : Str → Option Value} {base : Heap} (B : Bt K mg) (d : Df K mg "law" s_law ["script"]) (G__law_sack : FnN P w K mg base 1 "_law_sack" ["script", "at"] F__law_sack) (G__law_draw : FnN P w K mg base 1 "_law_draw" ["sack", "many"] F__law_draw) (G__law_tree : FnN P w K mg base 26 "_law_tree" ["sack", "wide", "deep", "led"] F__law_tree) (G__law_spoilt : FnN P w K mg base 25 "_law_spoilt" ["sack", "thing", "wide"] F__law_spoilt) (G__law_right : FnN P w K mg base 29 "_law_right" ["thing", "wide"] F__law_right) (G__law_asked : FnN P w K mg base 29 "_law_asked" ["thing", "wide"] F__law_asked) (G_is_expr : FnV P w K mg base 28 "is_expr" ["thing", "width", "carried"] F_is_expr) :
    FnN P w K mg base 30 "law" ["script"] F_law := by
  refine fnN_of (N := N_law) (body := b_law) giveD_ok d sc_law fun f cdv A outer s H E C => ?_
  exact (evs_cons (evs_for (mb := l_law_2) passes_cx rfl (evi_range1 (by rfl) B.b_range (ea_cons (n_max rfl B.b_max (ea_cons ev_int (ea_cons (n_min rfl B.b_min (ea_cons ev_int (ea_cons (n_len B.b_len (ea_cons (ev_vr 0) ea_nil)) ea_nil))) ea_nil))) ea_nil)) (eg_name (i := 1) sc_law.nd rfl (Or.inl rfl)) (evs_cons (evs_set (i := 2) sc_law.nd rfl (Or.inl rfl) (ev_callN G__law_sack C (by decide) (by rfl) (ea_cons (ev_vr 0) (ea_cons (ev_vr 1) ea_nil))))
    (evs_cons (evs_par (i := 3) (j := 4) rfl sc_law.nd rfl rfl (by decide) rfl rfl (ea_cons (ev_callN G__law_draw C (by decide) (by rfl) (ea_cons (ev_vr 2) (ea_cons ev_int ea_nil))) (ea_cons (x_eq C (ev_callN G__law_draw C (by decide) (by rfl) (ea_cons (ev_vr 2) (ea_cons ev_int ea_nil))) ev_int) ea_nil)))
    (evs_cons (evs_set (i := 5) sc_law.nd rfl (Or.inl rfl) (ev_callN G__law_tree C (by decide) (by rfl) (ea_cons (ev_vr 2) (ea_cons (ev_vr 3) (ea_cons (ev_callN G__law_draw C (by decide) (by rfl) (ea_cons (ev_vr 2) (ea_cons ev_int ea_nil))) (ea_cons (ev_vr 4) ea_nil))))))
    (evs_cons (evs_set (i := 6) sc_law.nd rfl (Or.inl rfl) (ev_callN G__law_spoilt C (by decide) (by rfl) (ea_cons (ev_vr 2) (ea_cons (ev_vr 5) (ea_cons (ev_vr 3) ea_nil)))))
    (evs_cons (evs_set (i := 7) sc_law.nd rfl (Or.inl rfl) (ev_lst (ea_cons (ev_vr 5) (ea_cons (ev_vr 6) (ea_cons (ev_callN G__law_spoilt C (by decide) (by rfl) (ea_cons (ev_vr 2) (ea_cons (ev_vr 6) (ea_cons (ev_vr 3) ea_nil)))) (ea_cons (ev_tup (ea_cons ev_str (ea_cons (ev_vr 5) (ea_cons (ev_vr 5) ea_nil)))) ea_nil))))))
    (evs_cons (evs_set (i := 7) sc_law.nd rfl (Or.inl rfl) (x_add (ev_vr 7) (ev_lst (ea_cons (ev_tup (ea_cons ev_str (ea_cons ev_int (ea_cons (ev_vr 6) ea_nil)))) (ea_cons (ev_callN G__law_spoilt C (by decide) (by rfl) (ea_cons (ev_vr 2) (ea_cons (ev_vr 5) (ea_cons ev_int ea_nil)))) ea_nil)))))
    (evs_cons (evs_for (mb := l_law_1) passes_cx rfl (evi_seq (ev_vr 7)) (eg_name (i := 8) sc_law.nd rfl (Or.inl rfl)) (evs_one (evs_if (evt_not (evt_tru (ev_callN G__law_right C (by decide) (by rfl) (ea_cons (ev_vr 8) (ea_cons (ev_vr 3) ea_nil))))) (evs_one (evs_ret ev_bl)) evs_nil)))
    (evs_cons (evs_set (i := 9) sc_law.nd rfl (Or.inl rfl) (x_ix (ev_lst (ea_cons (x_neg ev_int) (ea_cons ev_int (ea_cons ev_non (ea_cons ev_bl (ea_cons ev_str (ea_cons (ev_tup (ea_cons ev_int ea_nil)) (ea_cons (x_pow ev_int ev_int) (ea_cons (ev_lst (ea_cons ev_int ea_nil)) ea_nil))))))))) (ev_callN G__law_draw C (by decide) (by rfl) (ea_cons (ev_vr 2) (ea_cons ev_int ea_nil)))))
    (evs_one (evs_if (evt_w (evw_or (evt_not (evt_tru (ev_callN G__law_asked C (by decide) (by rfl) (ea_cons (ev_vr 5) (ea_cons (ev_vr 9) ea_nil))))) (evw_or1 (evt_not (evt_tru (ev_callN G__law_asked C (by decide) (by rfl) (ea_cons ev_non (ea_cons (ev_vr 9) ea_nil)))))))) (evs_one (evs_ret ev_bl)) evs_nil)))))))))))
    (evs_cons (evs_set (i := 10) sc_law.nd rfl (Or.inl rfl) (ev_tup (ea_cons ev_str (ea_cons ev_int ea_nil))))
    (evs_cons (evs_set (i := 11) sc_law.nd rfl (Or.inl rfl) (ev_loc (ea_cons (ev_callK G_is_expr B.k0_is_expr (fun _ _ _ _ _ _ _ _ _ _ _ h1 _ => h1.app (.cons (Dv.bl false) .nil)) C (by decide) (by rfl) (al_cons (al_cons al_nil)) al_nil (ea_cons (ev_vr 10) (ea_cons ev_int ea_nil)) ek_nil) ea_nil)))
    (evs_cons (evs_for (mb := l_law_3) passes_cx rfl (evi_range1 (by rfl) B.b_range (ea_cons ev_int ea_nil)) (eg_name (i := 12) sc_law.nd rfl (Or.inl rfl)) (evs_cons (evs_set (i := 10) sc_law.nd rfl (Or.inl rfl) (ev_tup (ea_cons ev_str (ea_cons ev_int (ea_cons (ev_vr 10) ea_nil)))))
    (evs_one (evs_expr (m_append (ev_vr 11) (ea_cons (ev_callK G_is_expr B.k0_is_expr (fun _ _ _ _ _ _ _ _ _ _ _ h1 _ => h1.app (.cons (Dv.bl false) .nil)) C (by decide) (by rfl) (al_cons (al_cons al_nil)) al_nil (ea_cons (ev_vr 10) (ea_cons ev_int ea_nil)) ek_nil) ea_nil))))))
    (evs_cons (evs_if (t_ne C (ev_vr 11) (x_add (x_mul (ev_lst (ea_cons ev_bl ea_nil)) ev_int) (ev_lst (ea_cons ev_bl ea_nil)))) (evs_one (evs_ret ev_bl)) evs_nil)
    (evs_one (evs_ret (ev_and (x_isN (ev_callK G_is_expr B.k0_is_expr (fun _ _ _ _ _ _ _ _ _ _ _ h1 _ => h1.app (.cons (Dv.bl false) .nil)) C (by decide) (by rfl) (al_cons (al_cons al_nil)) al_nil (ea_cons (ev_tup (ea_cons ev_str ea_nil)) (ea_cons ev_int ea_nil)) ek_nil) ev_bl) (ev_one (x_isN (ev_callK G_is_expr B.k1_is_expr (fun _ _ _ _ _ _ _ _ _ _ _ h1 h2 => h1.app h2) C (by decide) (by rfl) (al_cons (al_cons al_nil)) (al_cons al_nil) (ea_cons (ev_tup (ea_cons ev_str ea_nil)) (ea_cons ev_int ea_nil)) (ek_cons ev_bl ek_nil)) ev_bl))))))))))

structure Ds (K : PySem.W.Frag) (mg : Str → Option Value) : Prop where
  d_is_whole : Df K mg "is_whole" s_is_whole ["thing"]
  d_is_from : Df K mg "is_from" s_is_from ["thing", "low", "high"]
  d_check_from : Df K mg "check_from" s_check_from ["thing", "low", "high"]
  d_is_word : Df K mg "is_word" s_is_word ["thing"]
  d__is_expr : Df K mg "_is_expr" s__is_expr ["thing", "width", "carried", "ops"]
  d_is_expr : DfV K mg "is_expr" s_is_expr
  d__law_sack : Df K mg "_law_sack" s__law_sack ["script", "at"]
  d__law_draw : Df K mg "_law_draw" s__law_draw ["sack", "many"]
  d__law_leaf : Df K mg "_law_leaf" s__law_leaf ["sack", "wide", "led"]
  d__law_tree : Df K mg "_law_tree" s__law_tree ["sack", "wide", "deep", "led"]
  d__law_is : Df K mg "_law_is" s__law_is ["thing", "wide", "led", "left"]
  d__law_spoilt : Df K mg "_law_spoilt" s__law_spoilt ["sack", "thing", "wide"]
  d__law_asked : Df K mg "_law_asked" s__law_asked ["thing", "wide"]
  d__law_right : Df K mg "_law_right" s__law_right ["thing", "wide"]
  d_law : Df K mg "law" s_law ["script"]

theorem all_ok {P : Program} {w : World} {K : PySem.W.Frag} {mg : Str → Option Value} {base : Heap} (B : Bt K mg) (d : Ds K mg) : FnN P w K mg base 30 "law" ["script"] F_law := by
  have G_is_whole := g_is_whole (P := P) (w := w) (base := base) B d.d_is_whole
  have G_is_from := g_is_from (P := P) (w := w) (base := base) B d.d_is_from G_is_whole
  have G_check_from := g_check_from (P := P) (w := w) (base := base) B d.d_check_from G_is_from
  have G_is_word := g_is_word (P := P) (w := w) (base := base) B d.d_is_word G_is_from
  have G__is_expr := g__is_expr (P := P) (w := w) (base := base) B d.d__is_expr G_is_word G_is_from
  have G_is_expr := g_is_expr (P := P) (w := w) (base := base) B d.d_is_expr G_check_from G__is_expr
  have G__law_sack := g__law_sack (P := P) (w := w) (base := base) B d.d__law_sack
  have G__law_draw := g__law_draw (P := P) (w := w) (base := base) B d.d__law_draw
  have G__law_leaf := g__law_leaf (P := P) (w := w) (base := base) B d.d__law_leaf G__law_draw
  have G__law_tree := g__law_tree (P := P) (w := w) (base := base) B d.d__law_tree G__law_leaf G__law_draw
  have G__law_is := g__law_is (P := P) (w := w) (base := base) B d.d__law_is
  have G__law_spoilt := g__law_spoilt (P := P) (w := w) (base := base) B d.d__law_spoilt G__law_draw
  have G__law_asked := g__law_asked (P := P) (w := w) (base := base) B d.d__law_asked G_is_expr
  have G__law_right := g__law_right (P := P) (w := w) (base := base) B d.d__law_right G_is_expr G__law_is
  have G_law := g_law (P := P) (w := w) (base := base) B d.d_law G__law_sack G__law_draw G__law_tree G__law_spoilt G__law_right G__law_asked G_is_expr
  exact G_law

end K02
set_option Elab.async false
set_option linter.all false
set_option maxRecDepth 100000
set_option maxHeartbeats 4000000
set_option exponentiation.threshold 5000
namespace K02
open PySem PySem.Spec PyProof.Rows L2 Ev
open Classical
theorem ten9 (st : Sto) : dPow (.dat (.int 10)) (.dat (.int 9)) st = .ok (.dat (.int 1000000000)) st := by
  rw [dPow_ap _ _ _ (by rw [bits10]; decide)] <;> rfl
def isW : PyData → Bool
  | .int _ => true
  | _ => false
def isFr (lo hi : Int) : PyData → Bool
  | .int i => decide (lo ≤ i) && decide (i ≤ hi)
  | _ => false
theorem F_is_whole_eq (x : PyData) (st : Sto) : F_is_whole [.dat x] st = .ok (.dat (.bool (isW x))) st := by
  cases x <;> simp [F_is_whole, b_is_whole, isW]
theorem F_is_from_eq (x : PyData) (st : Sto) (lo hi : Int) : F_is_from [.dat x, .dat (.int lo), .dat (.int hi)] st = .ok (.dat (.bool (isFr lo hi x))) st := by
  cases x with
  | int i => by_cases h : lo ≤ i <;> simp [F_is_from, b_is_from, F_is_whole_eq, isW, isFr, h]
  | _ => simp [F_is_from, b_is_from, F_is_whole_eq, isW, isFr]
abbrev isWd : PyData → Bool := isFr (-1000000000) 1000000000
theorem F_is_word_eq (x : PyData) (st : Sto) : F_is_word [.dat x] st = .ok (.dat (.bool (isWd x))) st := by
  simp [F_is_word, b_is_word, F_is_from_eq]
def hs (s : Str) : PyData → Bool
  | .str t => decide (t = s)
  | _ => false
abbrev opsL : List PyData := [.str "plus", .str "minus", .str "times", .str "over", .str "rest", .str "less", .str "same"]
def hop (h : PyData) : Bool := opsL.any fun z => PyData.eqv z h
theorem eq_hs {h : PyData} (s : Str) (sh : SeqAt.shaped h = true) (ss : SeqAt.shaped (.str s) = true) (st : Sto) : dEq (.dat h) (.dat (.str s)) st = .ok (.dat (.bool (hs s h))) st := by
  cases h with
  | str t => exact dEq_str st t s
  | none => show (if SeqAt.shaped _ = true ∧ SeqAt.shaped _ = true then _ else _ : M D) st = _; rw [if_pos ⟨sh, ss⟩]; rfl
  | bool b => show (if SeqAt.shaped _ = true ∧ SeqAt.shaped _ = true then _ else _ : M D) st = _; rw [if_pos ⟨sh, ss⟩]; rfl
  | int b => show (if SeqAt.shaped _ = true ∧ SeqAt.shaped _ = true then _ else _ : M D) st = _; rw [if_pos ⟨sh, ss⟩]; rfl
  | list b => show (if SeqAt.shaped _ = true ∧ SeqAt.shaped _ = true then _ else _ : M D) st = _; rw [if_pos ⟨sh, ss⟩]; rfl
  | tuple b => show (if SeqAt.shaped _ = true ∧ SeqAt.shaped _ = true then _ else _ : M D) st = _; rw [if_pos ⟨sh, ss⟩]; rfl
  | dict b => exact absurd sh (by simp [SeqAt.shaped, PyData.canLay0])
theorem nin_hop {h : PyData} (sh : SeqAt.shaped h = true) (st : Sto) : dNin (.dat h) (.dat (.tuple opsL)) st = .ok (.dat (.bool (!hop h))) st := by
  have e : inD true h (.tuple opsL) = if SeqAt.shaped h = true ∧ SeqAt.shaped (.tuple opsL) = true then retB (true != opsL.any fun z => PyData.eqv z h) else M.bad := by cases h <;> rfl
  show inD true h (.tuple opsL) st = _
  rw [e, if_pos ⟨sh, by decide +kernel⟩, Bool.true_bne]
  rfl
def isX (led : Bool) (w : Int) : Nat → PyData → Bool
  | _, .tuple [h] => led && hs "was" h
  | _, .tuple [h, y] => hs "at" h && isFr 0 (w - 1) y
  | 0, .tuple [_, _, _] => false
  | n + 1, .tuple [h, y, z] => hop h && (isX led w n y && isX led w n z)
  | _, .tuple _ => false
  | _, x => isWd x
def Hd : Nat → PyData → Prop
  | _, .tuple [h] => SeqAt.shaped h = true
  | _, .tuple [h, _] => SeqAt.shaped h = true
  | 0, .tuple [h, _, _] => SeqAt.shaped h = true
  | n + 1, .tuple [h, y, z] => SeqAt.shaped h = true ∧ Hd n y ∧ Hd n z
  | _, .tuple (h :: _ :: _ :: _ :: _) => SeqAt.shaped h = true
  | _, _ => True
theorem Hd.head {n : Nat} {h : PyData} {r : List PyData} (d : Hd n (.tuple (h :: r))) : SeqAt.shaped h = true := by
  match r with
  | [] => cases n <;> exact d
  | [y] => cases n <;> exact d
  | [y, z] =>
    cases n with
    | zero => exact d
    | succ n => exact d.1
  | _ :: _ :: _ :: _ => cases n <;> exact d
theorem at_nat {xs : List PyData} {k : Nat} {x : PyData} (h : xs[k]? = some x) (st : Sto) : dIx (.dat (.tuple xs)) (.dat (.int k)) st = .ok (.dat x) st := ix_tuple (Ev.atI_nat h) st
theorem is_expr_eq (led : Bool) (w : Int) : ∀ (k n : Nat) (x : PyData) (st : Sto), n < k → Hd n x → recB giveD 4 4 b__is_expr k [.dat x, .dat (.int w), .dat (.bool led), .dat (.int n)] st = .ok (.dat (.bool (isX led w n x))) st := by
  intro k
  induction k with
  | zero => intro n x st h; omega
  | succ k ih =>
    intro n x st hk hd
    have s1 : SeqAt.shaped (.str "was") = true := by decide +kernel
    have s2 : SeqAt.shaped (.str "at") = true := by decide +kernel
    cases x with
    | tuple xs =>
      match xs, hd with
      | [], _ =>
        have o : dNe (.dat (.int 0)) (.dat (.int 3)) st = .ok (.dat (.bool true)) st := rfl
        cases n <;> simp [recB, b__is_expr, dEq_int, isX, o]
      | [h], hd =>
        have hd' : SeqAt.shaped h = true := by cases n <;> exact hd
        have i0 : dIx (.dat (.tuple [h])) (.dat (.int 0)) st = .ok (.dat h) st := ix_tuple (by rfl) st
        have e := eq_hs "was" hd' s1 st
        have b : dBool (.dat (.bool led)) st = .ok (.dat (.bool led)) st := rfl
        cases led <;> cases n <;> simp [recB, b__is_expr, dEq_int, isX, i0, e, b]
      | [h, y], hd =>
        have hd' : SeqAt.shaped h = true := by cases n <;> exact hd
        have i0 : dIx (.dat (.tuple [h, y])) (.dat (.int 0)) st = .ok (.dat h) st := ix_tuple (by rfl) st
        have i1 : dIx (.dat (.tuple [h, y])) (.dat (.int 1)) st = .ok (.dat y) st := ix_tuple (by rfl) st
        have e := eq_hs "at" hd' s2 st
        cases q : hs "at" h <;> cases n <;> simp [recB, b__is_expr, dEq_int, isX, i0, i1, e, q, F_is_from_eq]
      | [h, y, z], hd =>
        have hd' : SeqAt.shaped h = true := by
          cases n with
          | zero => exact hd
          | succ n => exact hd.1
        have i0 : dIx (.dat (.tuple [h, y, z])) (.dat (.int 0)) st = .ok (.dat h) st := ix_tuple (by rfl) st
        have i1 : dIx (.dat (.tuple [h, y, z])) (.dat (.int 1)) st = .ok (.dat y) st := ix_tuple (by rfl) st
        have i2 : dIx (.dat (.tuple [h, y, z])) (.dat (.int 2)) st = .ok (.dat z) st := ix_tuple (by rfl) st
        have ni := nin_hop hd' st
        have o : dNe (.dat (.int 3)) (.dat (.int 3)) st = .ok (.dat (.bool false)) st := rfl
        cases n with
        | zero => cases q : hop h <;> simp [recB, b__is_expr, dEq_int, isX, i0, ni, q, o]
        | succ n =>
          obtain ⟨_, h1, h2⟩ := hd
          have f1 := ih n y st (by omega) h1
          have f2 := ih n z st (by omega) h2
          have en : (n : Int) + 1 - 1 = n := by omega
          have z0 : ¬ (n : Int) + 1 = 0 := by omega
          cases q : hop h <;> cases q1 : isX led w n y <;> simp [recB, b__is_expr, dEq_int, isX, i0, i1, i2, ni, q, o, z0, en, f1, f2, q1]
      | a :: b :: c :: d :: r, _ =>
        obtain ⟨m, hm⟩ : ∃ m : Int, m = ((a :: b :: c :: d :: r).length : Int) := ⟨_, rfl⟩
        have m4 : 4 ≤ m := by rw [hm]; simp; omega
        have dl : dLen (.dat (.tuple (a :: b :: c :: d :: r))) st = .ok (.dat (.int m)) st := by rw [hm]; rfl
        have z1 : (m == 1) = false := by rw [beq_eq_false_iff_ne]; omega
        have z2 : (m == 2) = false := by rw [beq_eq_false_iff_ne]; omega
        have o : dNe (.dat (.int m)) (.dat (.int 3)) st = .ok (.dat (.bool true)) st := by
          have z3 : (m == 3) = false := by rw [beq_eq_false_iff_ne]; omega
          show notM (eqD (.int m) (.int 3)) st = _
          have e : eqD (.int m) (.int 3) st = .ok (.dat (.bool false)) st := by
            have := dEq_int m 3 st
            rw [z3] at this
            exact this
          rw [notM_ap, e]
          rfl
        have lx : ∀ n, isX led w n (.tuple (a :: b :: c :: d :: r)) = false := fun n => by cases n <;> rfl
        rw [lx]
        have ti : isi (tyOf (.tuple (a :: b :: c :: d :: r))) .tuple = true := rfl
        have gf := giveD_same (n := st.length) (st := st) rfl (.bool false)
        simp only [recB, b__is_expr, run4, startE_ap, List.map_cons, List.map_nil, List.length_cons, List.length_nil, List.replicate, List.cons_append, List.nil_append, sSeq_ap, sIf_ap, mNot_ap, mT_ap, mOr_ap, mC_ap, aCons_ap, aNil_ap, on1_ap, on2_ap, m2_ap, vr_zero, vr_succ, ct_ap, then_ok, bind_ap, pure_ap, dIsi_ap, dl, dEq_int, z1, z2, o, asB_ap, thenS_ok, ite_sm, ite_em, ite_st, ti, Bool.not_true, Bool.false_eq_true, if_false, if_true, sNil_ap, sthen_nx, sRet_ap, sthen_rt, fin_rt, gf]
    | _ => cases n <;> simp [recB, b__is_expr, isX, F_is_word_eq]
end K02
set_option Elab.async false
set_option linter.all false
set_option maxRecDepth 100000
set_option maxHeartbeats 4000000
set_option exponentiation.threshold 5000
namespace K02
open PySem PySem.Spec PyProof.Rows L2 Ev
open Classical
theorem eq_tnil (xs : List PyData) (st : Sto) : dEq (.dat (.tuple xs)) (.dat (.tuple [])) st = .ok (.dat (.bool xs.isEmpty)) st := by
  have e : eqD (.tuple xs) (.tuple []) = if SeqAt.shaped (.tuple xs) = true ∧ SeqAt.shaped (.tuple []) = true then retB (PyData.eqv (.tuple xs) (.tuple [])) else if lenDiff (.tuple xs) (.tuple []) = true then retB false else M.bad := rfl
  show eqD (.tuple xs) (.tuple []) st = _
  rw [e]
  cases xs with
  | nil => rw [if_pos ⟨by decide, by decide⟩] <;> rfl
  | cons y r =>
    by_cases h : SeqAt.shaped (.tuple (y :: r)) = true ∧ SeqAt.shaped (.tuple []) = true
    · rw [if_pos h] <;> rfl
    · rw [if_neg h, if_pos (by rfl)] <;> rfl
def isS : PyData → Bool
  | .str _ => true
  | _ => false
theorem hop_str {h : PyData} (n : isS h = false) (sh : SeqAt.shaped h = true) : hop h = false ∧ ∀ s, hs s h = false := by
  cases h with
  | str t => cases n
  | _ => exact ⟨rfl, fun _ => rfl⟩
theorem dNe_int (i j : Int) (st : Sto) : dNe (.dat (.int i)) (.dat (.int j)) st = .ok (.dat (.bool (!(i == j)))) st := by
  show notM (eqD (.int i) (.int j)) st = _
  have e : eqD (.int i) (.int j) st = .ok (.dat (.bool (i == j))) st := dEq_int i j st
  rw [notM_ap, e]
  rfl
theorem head_was {h : PyData} (e : hs "was" h = true) : h = .str "was" := by
  cases h with
  | str t => have e' : decide (t = "was") = true := e; rw [of_decide_eq_true e']
  | _ => cases e
theorem head_at {h : PyData} (e : hs "at" h = true) : h = .str "at" := by
  cases h with
  | str t => have e' : decide (t = "at") = true := e; rw [of_decide_eq_true e']
  | _ => cases e
theorem law_is_eq (led : Bool) (w : Int) : ∀ (k n : Nat) (x : PyData) (st : Sto), n < k → Hd n x → recB giveD 4 4 b__law_is k [.dat x, .dat (.int w), .dat (.bool led), .dat (.int n)] st = .ok (.dat (.bool (isX led w n x))) st := by
  intro k
  induction k with
  | zero => intro n x st h; omega
  | succ k ih =>
    intro n x st hk hd
    cases x with
    | int i =>
      cases n <;> simp [recB, b__law_is, isX, isFr, iAbs, ten9] <;> (rw [Bool.eq_iff_iff]; by_cases h : i < 0 <;> simp [h] <;> omega)
    | tuple xs =>
      have tn := eq_tnil xs st
      cases xs with
      | nil =>
        have m : mkTup [] st = .ok (.dat (.tuple [])) st := rfl
        cases n <;> simp [recB, b__law_is, isX, m, tn]
      | cons h r =>
        have sh := hd.head
        have m : mkTup [] st = .ok (.dat (.tuple [])) st := rfl
        have i0 : dIx (.dat (.tuple (h :: r))) (.dat (.int 0)) st = .ok (.dat h) st := ix_tuple (Ev.atI_nat (k := 0) rfl) st
        have ts : isi (tyOf h) .str = isS h := by cases h <;> rfl
        have s1 : SeqAt.shaped (.str "was") = true := by decide +kernel
        have s2 : SeqAt.shaped (.str "at") = true := by decide +kernel
        have ew := eq_hs "was" sh s1 st
        have ea := eq_hs "at" sh s2 st
        have ni := nin_hop sh st
        have mo : mkTup [.dat (.str "plus"), .dat (.str "minus"), .dat (.str "times"), .dat (.str "over"), .dat (.str "rest"), .dat (.str "less"), .dat (.str "same")] st = .ok (.dat (.tuple opsL)) st := rfl
        cases q : isS h with
        | false =>
          obtain ⟨e1, e2⟩ := hop_str q sh
          have lx : isX led w n (.tuple (h :: r)) = false := by
            match r with
            | [] => cases n <;> simp [isX, e2]
            | [y] => cases n <;> simp [isX, e2]
            | [y, z] => cases n <;> simp [isX, e1]
            | _ :: _ :: _ :: _ => cases n <;> rfl
          rw [lx]
          clear ts ew ea ni lx e1 e2
          cases h with
          | str t => cases q
          | _ => simp [recB, b__law_is, m, tn, i0]
        | true =>
          cases q1 : hs "was" h with
          | true =>
            have e := head_was q1
            subst e
            have lx : isX led w n (.tuple (.str "was" :: r)) = (led && decide (r = [])) := by
              have a1 : hs "at" (.str "was") = false := by decide +kernel
              have a2 : hop (.str "was") = false := by decide +kernel
              match r with
              | [] => cases n <;> simp [isX, q1]
              | [y] => cases n <;> simp [isX, a1]
              | [y, z] => cases n <;> simp [isX, a2]
              | _ :: _ :: _ :: _ => cases n <;> simp [isX]
            rw [lx]
            have ln : ((r.length : Int) + 1 == 1) = decide (r = []) := by
              cases r with
              | nil => rfl
              | cons y r =>
                rw [beq_eq_false_iff_ne.mpr (by rw [List.length_cons]; omega)]
                simp
            cases led with
            | false => simp [recB, b__law_is, m, tn, i0, ew, q1]
            | true =>
              have dl : dEq (.dat (.int ((r.length : Int) + 1))) (.dat (.int 1)) st = .ok (.dat (.bool (decide (r = [])))) st := by rw [dEq_int, ln]
              simp [recB, b__law_is, m, tn, i0, ew, q1, dl]
          | false =>
            cases q2 : hs "at" h with
            | true =>
              have e := head_at q2
              subst e
              have a2 : hop (.str "at") = false := by decide +kernel
              match r with
              | [] => 
                have o : dNe (.dat (.int 1)) (.dat (.int 2)) st = .ok (.dat (.bool true)) st := rfl
                cases n <;> simp [recB, b__law_is, m, tn, i0, ew, q1, ea, q2, isX, o]
              | [y] =>
                have o : dNe (.dat (.int 2)) (.dat (.int 2)) st = .ok (.dat (.bool false)) st := rfl
                have i1 : dIx (.dat (.tuple [.str "at", y])) (.dat (.int 1)) st = .ok (.dat y) st := ix_tuple (by rfl) st
                have lx : isX led w n (.tuple [.str "at", y]) = isFr 0 (w - 1) y := by cases n <;> simp [isX, q2]
                rw [lx]
                cases y with
                | int i =>
                  by_cases z : 0 ≤ i
                  · simp [recB, b__law_is, m, tn, i0, i1, ew, q1, ea, q2, o, isFr, z]
                    omega
                  · simp [recB, b__law_is, m, tn, i0, i1, ew, q1, ea, q2, o, isFr, z]
                | _ => simp [recB, b__law_is, m, tn, i0, i1, ew, q1, ea, q2, o, isFr]
              | [y, z] =>
                have o : dNe (.dat (.int 3)) (.dat (.int 2)) st = .ok (.dat (.bool true)) st := rfl
                cases n <;> simp [recB, b__law_is, m, tn, i0, ew, q1, ea, q2, isX, a2, o]
              | y :: z :: u :: v =>
                have o : dNe (.dat (.int ((v.length : Int) + 1 + 1 + 1 + 1))) (.dat (.int 2)) st = .ok (.dat (.bool true)) st := by
                  rw [dNe_int, beq_eq_false_iff_ne.mpr (by omega)] <;> rfl
                cases n <;> simp [recB, b__law_is, m, tn, i0, ew, q1, ea, q2, isX, o]
            | false =>
              obtain ⟨t, rfl⟩ : ∃ t, h = .str t := by
                cases h with
                | str t => exact ⟨t, rfl⟩
                | _ => cases q
              have short : r.length ≠ 2 → isX led w n (.tuple (.str t :: r)) = false := fun hr => by
                match r with
                | [] => cases n <;> simp [isX, q1]
                | [y] => cases n <;> simp [isX, q2]
                | [y, z] => exact absurd rfl hr
                | _ :: _ :: _ :: _ => cases n <;> simp [isX]
              by_cases hr : r.length = 2
              · match r, hr with
                | [y, z], _ =>
                  have o : dNe (.dat (.int 3)) (.dat (.int 3)) st = .ok (.dat (.bool false)) st := rfl
                  have i1 : dIx (.dat (.tuple [.str t, y, z])) (.dat (.int 1)) st = .ok (.dat y) st := ix_tuple (by rfl) st
                  have i2 : dIx (.dat (.tuple [.str t, y, z])) (.dat (.int 2)) st = .ok (.dat z) st := ix_tuple (by rfl) st
                  cases q3 : hop (.str t) with
                  | false => cases n <;> simp [recB, b__law_is, m, tn, i0, ew, q1, ea, q2, mo, ni, q3, isX]
                  | true =>
                    cases n with
                    | zero => simp [recB, b__law_is, m, tn, i0, ew, q1, ea, q2, mo, ni, q3, isX, o]
                    | succ n =>
                      obtain ⟨_, h1, h2⟩ := hd
                      have f1 := ih n y st (by omega) h1
                      have f2 := ih n z st (by omega) h2
                      have en : (n : Int) + 1 - 1 = n := by omega
                      have z0 : ¬ (n : Int) + 1 < 1 := by omega
                      cases q4 : isX led w n y <;> simp [recB, b__law_is, m, tn, i0, i1, i2, ew, q1, ea, q2, mo, ni, q3, isX, o, f1, f2, en, z0, q4]
              · rw [short hr]
                have o : dNe (.dat (.int ((r.length : Int) + 1))) (.dat (.int 3)) st = .ok (.dat (.bool true)) st := by
                  rw [dNe_int, beq_eq_false_iff_ne.mpr (by omega)] <;> rfl
                cases q3 : hop (.str t) <;> simp [recB, b__law_is, m, tn, i0, ew, q1, ea, q2, mo, ni, q3, o]
    | _ => cases n <;> simp [recB, b__law_is, isX, isFr]
end K02
set_option Elab.async false
set_option linter.all false
set_option maxRecDepth 100000
set_option maxHeartbeats 4000000
set_option exponentiation.threshold 5000
namespace K02
open PySem PySem.Spec PyProof.Rows L2 Ev
open Classical
theorem check_ok {x : PyData} {lo hi : Int} (h : isFr lo hi x = true) (st : Sto) : F_check_from [.dat x, .dat (.int lo), .dat (.int hi)] st = .ok (.dat .none) st := by
  simp [F_check_from, b_check_from, F_is_from_eq, h]
theorem check_bad {x : PyData} {lo hi : Int} (h : isFr lo hi x = false) (st : Sto) : F_check_from [.dat x, .dat (.int lo), .dat (.int hi)] st = .exc ⟨"NoNumber", []⟩ st := by
  simp [F_check_from, b_check_from, F_is_from_eq, h, sRaise]
theorem is_expr_ok {x : PyData} {w : Int} (h : isFr 0 9 (.int w) = true) (led : Bool) (hd : Hd 4 x) (st : Sto) : F_is_expr [.dat x, .dat (.int w), .dat (.bool led)] st = .ok (.dat (.bool (isX led w 4 x))) st := by
  have e := is_expr_eq led w 24 4 x st (by decide) hd
  have e' : F__is_expr [.dat x, .dat (.int w), .dat (.bool led), .dat (.int 4)] st = .ok (.dat (.bool (isX led w 4 x))) st := e
  have c := check_ok (x := .int w) h st
  simp [F_is_expr, b_is_expr, c, e']
theorem is_expr_bad {x w : PyData} (h : isFr 0 9 w = false) (d : D) (st : Sto) : F_is_expr [.dat x, .dat w, d] st = .exc ⟨"NoNumber", []⟩ st := by
  have c := check_bad (x := w) (lo := 0) (hi := 9) h st
  simp [F_is_expr, b_is_expr, c]
theorem asked_ok {x w : PyData} (h : isFr 0 9 w = false) (st : Sto) : F__law_asked [.dat x, .dat w] st = .ok (.dat (.bool true)) st := by
  have e : sDrop (mK F_is_expr (fun ds _ => ds ++ [.dat (.bool false)]) (aCons (vr 0) (aCons (vr 1) aNil)) aNil) [some (.dat x), some (.dat w), none] st = .exc ⟨"NoNumber", []⟩ [some (.dat x), some (.dat w), none] st := by
    have b := is_expr_bad (x := x) h (.dat (.bool false)) st
    simp [mK, b]
  have g := giveD_same (n := st.length) (st := st) rfl (.bool true)
  have i1 : isa "NoNumber" (.glob "RowsError") = some true := by decide +kernel
  have i2 : isa "NoNumber" (.glob "Falls") = some false := by decide +kernel
  have i3 : isa "NoNumber" (.raw (.ty "ValueError")) = some true := by decide +kernel
  have hn : hit_NoNumber "NoNumber" = some true := by decide +kernel
  have t := tryAs_exc (hit := hit_NoNumber) (i := 2) (r := .rt (.dat (.bool true)) st) (suite := fun a cls d => (sRet (mAndV (mC (dIsE a cls d isa) (aCons (vr 2) (aCons (ct (.glob "RowsError")) aNil))) (mAndV (mC (dIsE a cls d isa) (aCons (vr 2) (aCons (ct (.raw (.ty "ValueError"))) aNil))) (mNotV (mC (dIsE a cls d isa) (aCons (vr 2) (aCons (ct (.glob "Falls")) aNil)))))))) e hn (fun a cls d hd => by
    obtain rfl := hd rfl
    have j1 := dIsE_ap a cls isa ⟨"NoNumber", []⟩ (.glob "RowsError") true st i1
    have j2 := dIsE_ap a cls isa ⟨"NoNumber", []⟩ (.glob "Falls") false st i2
    have j3 := dIsE_ap a cls isa ⟨"NoNumber", []⟩ (.raw (.ty "ValueError")) true st i3
    simp [j1, j2, j3, Ev.unI])
  simp [F__law_asked, b__law_asked, t, g]
end K02
set_option Elab.async false
set_option linter.all false
set_option maxRecDepth 100000
set_option maxHeartbeats 4000000
set_option exponentiation.threshold 5000
namespace K02
open PySem PySem.Spec PyProof.Rows L2 Ev
open Classical
theorem drw {st : Sto} {n m : Nat} (S : SackAt st n m) {many : Int} (h0 : 0 < many) (h1 : many < 18446744073709551616) (hm : m ≤ 1000000) :
    ∃ r st', F__law_draw [.loc n, .dat (.int many)] st = .ok (.dat (.int r)) st' ∧ 0 ≤ r ∧ r < many ∧ Dn n (m + 1) st st' := draw_dn S h0 h1 hm
/-- a drawn tree, so deep at most -/
inductive Tr : Nat → PyData → Prop
  | int {d : Nat} {i : Int} : i.natAbs ≤ 1000000000 → Tr d (.int i)
  | was {d : Nat} : Tr d (.tuple [.str "was"])
  | at_ {d : Nat} {i : Int} : i.natAbs ≤ 1000 → Tr d (.tuple [.str "at", .int i])
  | op {d : Nat} {o y z : PyData} : o ∈ opsL → Tr d y → Tr d z → Tr (d + 1) (.tuple [o, y, z])
theorem Tr.mono {d e : Nat} {x : PyData} (h : Tr d x) : d ≤ e → Tr e x := by
  induction h generalizing e with
  | int h => exact fun _ => .int h
  | was => exact fun _ => .was
  | at_ h => exact fun _ => .at_ h
  | op h _ _ i1 i2 =>
    intro he
    cases e with
    | zero => omega
    | succ e => exact .op h (i1 (by omega)) (i2 (by omega))
theorem leaf_ok {st : Sto} {n m : Nat} (S : SackAt st n m) (hm : m ≤ 900000) {w : Int} (w0 : 0 ≤ w) (w1 : w ≤ 10) (led : Bool) :
    ∃ x st', F__law_leaf [.loc n, .dat (.int w), .dat (.bool led)] st = .ok (.dat x) st' ∧ Tr 0 x ∧ Dn n (m + 3) st st' := by
  obtain ⟨r, st1, e1, r0, r1, n1⟩ := drw S (many := 8) (by decide) (by decide) (by omega)
  have t1 : mkTup [.dat (.str "was")] st1 = .ok (.dat (.tuple [.str "was"])) st1 := rfl
  by_cases c1 : led = true ∧ r < 3
  · refine ⟨.tuple [.str "was"], st1, ?_, .was, n1.mono (by omega)⟩
    have g := giveD_same n1.len (.tuple [.str "was"])
    simp [F__law_leaf, b__law_leaf, e1, c1.1, c1.2, t1, g]
  · have ca : (mAnd (mT (vr 2)) (mT (m2 dLt (vr 3) (ct (.dat (.int 3))))) [some (.loc n), some (.dat (.int w)), some (.dat (.bool led)), some (.dat (.int r))] st1) = .ok false st1 := by
      cases led with
      | false => simp
      | true =>
        have : ¬ r < 3 := fun z => c1 ⟨rfl, z⟩
        simp [this]
    by_cases c2 : 0 < w ∧ r < 6
    · obtain ⟨q, st2, e2, q0, q1, n2⟩ := drw n1.sack (many := w) c2.1 (by omega) (by omega)
      have t2 : mkTup [.dat (.str "at"), .dat (.int q)] st2 = .ok (.dat (.tuple [.str "at", .int q])) st2 := rfl
      have g := giveD_same (n1.trans n2).len (.tuple [.str "at", .int q])
      refine ⟨.tuple [.str "at", .int q], st2, ?_, .at_ (by omega), (n1.trans n2).mono (by omega)⟩
      simp only [F__law_leaf, b__law_leaf, run3, startE_ap, List.map_cons, List.map_nil, List.length_cons, List.length_nil, List.replicate, List.cons_append, List.nil_append, sSeq_ap, sSet_ap, mC_ap, aCons_ap, aNil_ap, vr_zero, vr_succ, ct_ap, then_ok, bind_ap, pure_ap, e1, thenS_ok, List.set_cons_succ, List.set_cons_zero, sthen_nx, sIf_ap, ca, ite_sm, Bool.false_eq_true, if_false, sNil_ap]
      simp [c2.1, c2.2, e2, t2, g]
    · obtain ⟨q, st2, e2, q0, q1, n2⟩ := drw n1.sack (many := 21) (by decide) (by decide) (by omega)
      obtain ⟨u, st3, e3, u0, u1, n3⟩ := drw n2.sack (many := 8) (by decide) (by decide) (by omega)
      have nn := (n1.trans n2).trans n3
      have mk : mkLst [.dat (.int 0), .dat (.int 1), .dat (.int 2), .dat (.int (-1)), .dat (.int 3), .dat (.int (q - 10)), .dat (.int 1000000000), .dat (.int (-1000000000))] st2 = .ok (.dat (.list [.int 0, .int 1, .int 2, .int (-1), .int 3, .int (q - 10), .int 1000000000, .int (-1000000000)])) st2 := rfl
      obtain ⟨x, hx, ex⟩ := atI_mem (xs := [PyData.int 0, .int 1, .int 2, .int (-1), .int 3, .int (q - 10), .int 1000000000, .int (-1000000000)]) u0 (by simpa using u1)
      have ix := ix_list ex st3
      have tx : Tr 0 x := by
        simp only [List.mem_cons, List.not_mem_nil, or_false] at hx
        rcases hx with h | h | h | h | h | h | h | h <;> rw [h] <;> exact .int (by omega)
      have g := giveD_same nn.len x
      refine ⟨x, st3, ?_, tx, nn⟩
      have cb : (mAnd (mT (m2 dGt (vr 1) (ct (.dat (.int 0))))) (mT (m2 dLt (vr 3) (ct (.dat (.int 6))))) [some (.loc n), some (.dat (.int w)), some (.dat (.bool led)), some (.dat (.int r))] st1) = .ok false st1 := by
        by_cases z : 0 < w
        · have : ¬ r < 6 := fun y => c2 ⟨z, y⟩
          simp [z, this]
        · simp [z]
      simp only [F__law_leaf, b__law_leaf, run3, startE_ap, List.map_cons, List.map_nil, List.length_cons, List.length_nil, List.replicate, List.cons_append, List.nil_append, sSeq_ap, sSet_ap, mC_ap, aCons_ap, aNil_ap, vr_zero, vr_succ, ct_ap, then_ok, bind_ap, pure_ap, e1, thenS_ok, List.set_cons_succ, List.set_cons_zero, sthen_nx, sIf_ap, ca, cb, ite_sm, Bool.false_eq_true, if_false, sNil_ap, sRet_ap, m2_ap, m1_ap, dNeg_ap, ten9, e2, dSub_ap, mk, e3, ix, fin_rt, g]
end K02
set_option Elab.async false
set_option linter.all false
set_option maxRecDepth 100000
set_option maxHeartbeats 4000000
set_option exponentiation.threshold 5000
namespace K02
open PySem PySem.Spec PyProof.Rows L2 Ev
open Classical
theorem tree_ok (n : Nat) {w : Int} (w0 : 0 ≤ w) (w1 : w ≤ 10) (led : Bool) : ∀ (k d m : Nat) (st : Sto), d < k → SackAt st n m → m + 12 * d + 3 ≤ 900000 →
    ∃ x st', recB giveD 7 4 b__law_tree k [.loc n, .dat (.int w), .dat (.int d), .dat (.bool led)] st = .ok (.dat x) st' ∧ Tr d x ∧ Dn n (m + (12 * d + 3 - 6 * min d 1)) st st' := by
  intro k
  induction k with
  | zero => intro d m st h; omega
  | succ k ih =>
    intro d m st hk S hm
    cases d with
    | zero =>
      obtain ⟨x, st1, e1, t1, n1⟩ := leaf_ok S (by omega) w0 w1 led
      have g := giveD_same n1.len x
      exact ⟨x, st1, by simp [recB, b__law_tree, e1, g], t1, n1⟩
    | succ d =>
      obtain ⟨r, st1, e1, r0, r1, n1⟩ := drw S (many := 7) (by decide) (by decide) (by omega)
      obtain ⟨o, ho, eo⟩ := atI_mem (xs := opsL) r0 (by simpa using r1)
      obtain ⟨y, st2, e2, t2, n2⟩ := ih d (m + 1) st1 (by omega) n1.sack (by omega)
      have mn : iMin ((d : Int) + 1) 2 = if d = 0 then 1 else 2 := by
        unfold iMin
        by_cases z : d = 0
        · subst z; rfl
        · rw [if_neg z]; split <;> omega
      obtain ⟨q, st3, e3, q0, q1, n3⟩ := drw n2.sack (many := if d = 0 then 1 else 2) (by split <;> decide) (by split <;> decide) (by omega)
      obtain ⟨qn, rfl⟩ := Int.eq_ofNat_of_zero_le q0
      have hq : qn ≤ min d 1 := by
        by_cases z : d = 0
        · rw [if_pos z] at q1; omega
        · rw [if_neg z] at q1; omega
      obtain ⟨z, st4, e4, t4, n4⟩ := ih qn (m + 1 + (12 * d + 3 - 6 * min d 1) + 1) st3 (by omega) n3.sack (by omega)
      obtain ⟨u, st5, e5, u0, u1, n5⟩ := drw n4.sack (many := 2) (by decide) (by decide) (by omega)
      have nn := (((n1.trans n2).trans n3).trans n4).trans n5
      obtain ⟨x, hx, ex⟩ := atI_mem (xs := [PyData.tuple [o, y, z], .tuple [o, z, y]]) u0 (by simpa using u1)
      have tx : Tr (d + 1) x := by
        have t4' := t4.mono (show qn ≤ d by omega)
        simp only [List.mem_cons, List.not_mem_nil, or_false] at hx
        rcases hx with h | h <;> rw [h]
        · exact .op ho t2 t4'
        · exact .op ho t4' t2
      have g := giveD_same nn.len x
      refine ⟨x, st5, ?_, tx, nn.mono (by omega)⟩
      have mo : mkLst [.dat (.str "plus"), .dat (.str "minus"), .dat (.str "times"), .dat (.str "over"), .dat (.str "rest"), .dat (.str "less"), .dat (.str "same")] st = .ok (.dat (.list opsL)) st := rfl
      have io := ix_list eo st1
      have k1 : mkTup [.dat o, .dat y, .dat z] st4 = .ok (.dat (.tuple [o, y, z])) st4 := rfl
      have k2 : mkTup [.dat o, .dat z, .dat y] st4 = .ok (.dat (.tuple [o, z, y])) st4 := rfl
      have k3 : mkLst [.dat (.tuple [o, y, z]), .dat (.tuple [o, z, y])] st4 = .ok (.dat (.list [.tuple [o, y, z], .tuple [o, z, y]])) st4 := rfl
      have i5 := ix_list ex st5
      have c0 : decide (((d + 1 : Nat) : Int) < 1) = false := by rw [decide_eq_false_iff_not]; omega
      have en : ((d + 1 : Nat) : Int) - 1 = d := by omega
      have mn' : iMin ((d + 1 : Nat) : Int) 2 = if d = 0 then 1 else 2 := mn
      simp only [recB, b__law_tree, run4, startE_ap, List.map_cons, List.map_nil, List.length_cons, List.length_nil, List.replicate, List.cons_append, List.nil_append, sSeq_ap, sSet_ap, mC_ap, aCons_ap, aNil_ap, on2_ap, vr_zero, vr_succ, ct_ap, then_ok, bind_ap, pure_ap, m2_ap, dLt_ap, mT_ap, asB_ap, c0, thenS_ok, List.set_cons_succ, List.set_cons_zero, sthen_nx, sIf_ap, ite_sm, Bool.false_eq_true, if_false, sNil_ap, mo, e1, io, dSub_ap, en, e2, dMin_ap, mn', e3, e4, sRet_ap, k1, k2, k3, e5, i5, fin_rt, g]
end K02
set_option Elab.async false
set_option linter.all false
set_option maxRecDepth 100000
set_option maxHeartbeats 4000000
set_option exponentiation.threshold 5000
namespace K02
open PySem PySem.Spec PyProof.Rows L2 Ev
open Classical
theorem hd0 {x : PyData} (h : ∀ xs, x ≠ .tuple xs) (n : Nat) : Hd n x := by
  cases x with
  | tuple xs => exact absurd rfl (h xs)
  | _ => cases n <;> exact True.intro
theorem hdN (n : Nat) : Hd n (.tuple []) := by cases n <;> exact True.intro
theorem hd1 {h : PyData} (s : SeqAt.shaped h = true) (n : Nat) : Hd n (.tuple [h]) := by cases n <;> exact s
theorem hd2 {h y : PyData} (s : SeqAt.shaped h = true) (n : Nat) : Hd n (.tuple [h, y]) := by cases n <;> exact s
theorem hd3 {h y z : PyData} (s : SeqAt.shaped h = true) (a : ∀ n, Hd n y) (b : ∀ n, Hd n z) (n : Nat) : Hd n (.tuple [h, y, z]) := by
  cases n with
  | zero => exact s
  | succ n => exact ⟨s, a n, b n⟩
theorem hd4 {h y z u : PyData} {r : List PyData} (s : SeqAt.shaped h = true) (n : Nat) : Hd n (.tuple (h :: y :: z :: u :: r)) := by cases n <;> exact s
/-- a thing that may be asked of, so deep, so long -/
structure Sp (d c : Nat) (x : PyData) : Prop where
  sh : x.showable = true
  hd : ∀ n, Hd n x
  dp : x.depth ≤ d
  co : cost x ≤ c
theorem Sp.mono {d c d' c' : Nat} {x : PyData} (h : Sp d c x) (h1 : d ≤ d') (h2 : c ≤ c') : Sp d' c' x := ⟨h.sh, h.hd, Nat.le_trans h.dp h1, Nat.le_trans h.co h2⟩
theorem Sp.ok {d c : Nat} {x : PyData} (h : Sp d c x) (h1 : d ≤ 64) (h2 : c ≤ 16000000) : reprOk x = true := reprOk_of h.sh h.dp h.co h1 h2
theorem mkTup_go (ds : List D) (st : Sto) : mkTup ds st = match datas ds with
  | some xs => if xs.length ≤ 100000 then .ok (.dat (.tuple xs)) st else .bad
  | none => .bad := rfl
theorem mkLst_go (ds : List D) (st : Sto) : mkLst ds st = match datas ds with
  | some xs => if xs.length ≤ 100000 then .ok (.dat (.list xs)) st else .bad
  | none => .bad := rfl
def sh3 (x : PyData) : Bool := x.showable && decide (x.depth ≤ 3) && decide (cost x ≤ 20000)
theorem Sp.cn {d c : Nat} {x : PyData} (h : sh3 x = true) (hd : ∀ n, Hd n x) : Sp (d + 3) (c + 20000) x := by
  unfold sh3 at h
  rw [Bool.and_eq_true, Bool.and_eq_true] at h
  have a := of_decide_eq_true h.1.2
  have b := of_decide_eq_true h.2
  exact ⟨h.1.1, hd, by omega, by omega⟩
theorem Sp.num {d c : Nat} {i : Int} (h : i.natAbs < 2 ^ 400) : Sp d (c + 1922) (.int i) := ⟨(Sm.int (log_small (by decide) (by decide) h)).sh, hd0 (fun _ => by simp), Nat.zero_le _, by show 1922 ≤ _; omega⟩
theorem lenS : (reprText "at").length = 4 ∧ (reprText "plus").length = 6 := by decide +kernel
def someL (x part : PyData) (w : Int) : List PyData :=
  [.none, .bool true, .str "at", .list [x], .tuple [.str "at"], .tuple [.str "at", .int w], .tuple [.str "at", .int (-1)], .tuple [.str "at", .bool true], .tuple [.str "at", .str "0"], .tuple [.str "at", .int 0, .int 0]] ++
  [.tuple [.str "plus", part], .tuple [.str "plus", .int 0, .int 0, .int 0], .tuple [.str "+", .int 0, .int 0], .tuple [.str "was", .int 0], .tuple [.str "was"], .tuple [.str "plus", .list [.int 0], .int 0], .tuple [], .list [], .dict []] ++
  [.int 1000000001, .int (-1000000001), .tuple [.str "minus", .int 0, .none], .tuple [.int 1, .int 0, .int 0], .tuple [.tuple [.str "at", .int 0]], .list [.str "plus", .int 0, .int 0], .str "was"] ++
  [.tuple [.str "least", .int 0, .int 0], .tuple [.none, .int 0, .int 0], .tuple [.tuple [], .int 0, .int 0], .tuple [.str "at", .int 0], .int 1000000000]
theorem some_sp {d c : Nat} {x part : PyData} {w : Int} (hx : Sp d c x) (hp : Sp d (c + 1922) part) (w0 : 0 ≤ w) (w1 : w ≤ 10) : ∀ e ∈ someL x part w, Sp (d + 3) (c + 20000) e := by
  intro e he
  have nt : ∀ {n : Nat} {y : PyData}, (∀ xs, y ≠ .tuple xs) → Hd n y := fun h => hd0 h _
  have sa : SeqAt.shaped (.str "at") = true := by decide +kernel
  have sp : SeqAt.shaped (.str "plus") = true := by decide +kernel
  have hw : (PyData.int w).showable = true := (Sm.int (log_small (k := 400) (by decide) (by decide) (by omega))).sh
  unfold someL at he
  simp only [List.mem_append, List.mem_cons, List.not_mem_nil, or_false] at he
  rcases he with ((((h | h | h | h | h | h | h | h | h | h) | h | h | h | h | h | h | h | h | h) | h | h | h | h | h | h | h) | h | h | h | h | h) <;> subst h
  case inl.inl.inl.inr.inr.inr.inl =>
    refine ⟨?_, hd0 (fun _ => by simp), ?_, ?_⟩
    · show (x.showable && true) = true
      rw [hx.sh] <;> rfl
    · show max x.depth 0 + 1 ≤ _
      have := hx.dp; omega
    · show 2 + ((cost x + 2) + 0) ≤ _
      have := hx.co; omega
  case inl.inl.inl.inr.inr.inr.inr.inr.inl =>
    refine ⟨?_, hd2 sa, ?_, ?_⟩
    · show (true && ((PyData.int w).showable && true)) = true
      rw [hw] <;> rfl
    · show max 0 (max 0 0) + 1 ≤ _
      omega
    · show 4 + ((cost (.str "at") + 2) + ((1922 + 2) + 0)) ≤ _
      have : cost (.str "at") = 4 := lenS.1
      omega
  case inl.inl.inr.inl =>
    refine ⟨?_, hd2 sp, ?_, ?_⟩
    · show (true && (part.showable && true)) = true
      rw [hp.sh] <;> rfl
    · show max 0 (max part.depth 0) + 1 ≤ _
      have := hp.dp; omega
    · show 4 + ((cost (.str "plus") + 2) + ((cost part + 2) + 0)) ≤ _
      have : cost (.str "plus") = 6 := lenS.2
      have := hp.co
      omega
  all_goals refine Sp.cn (by decide +kernel) ?_
  all_goals first
    | exact hdN
    | exact hd1 (by decide +kernel)
    | exact hd2 (by decide +kernel)
    | exact hd3 (by decide +kernel) (hd0 (fun _ z => by cases z)) (hd0 (fun _ z => by cases z))
    | exact hd4 (by decide +kernel)
    | exact hd0 (fun _ z => by cases z)
noncomputable def tailB : SM :=
    (sSeq (sSet 4 (mIf (mAnd (mT (mC (on2 dIsi) (aCons (vr 1) (aCons (ct (.ty .tuple)) aNil)))) (mT (m2 dGt (mC (on1 dLen) (aCons (vr 1) aNil)) (ct (.dat (.int 1)))))) (m2 dIx (vr 1) (ct (.dat (.int 1)))) (ct (.dat (.int 0)))))
    (sSeq (sSet 5 (mC mkLst (aCons (ct (.dat .none)) (aCons (ct (.dat (.bool true))) (aCons (ct (.dat (.str "at"))) (aCons (mC mkLst (aCons (vr 1) aNil)) (aCons (mC mkTup (aCons (ct (.dat (.str "at"))) aNil)) (aCons (mC mkTup (aCons (ct (.dat (.str "at"))) (aCons (vr 2) aNil))) (aCons (mC mkTup (aCons (ct (.dat (.str "at"))) (aCons (m1 dNeg (ct (.dat (.int 1)))) aNil))) (aCons (mC mkTup (aCons (ct (.dat (.str "at"))) (aCons (ct (.dat (.bool true))) aNil))) (aCons (mC mkTup (aCons (ct (.dat (.str "at"))) (aCons (ct (.dat (.str "0"))) aNil))) (aCons (mC mkTup (aCons (ct (.dat (.str "at"))) (aCons (ct (.dat (.int 0))) (aCons (ct (.dat (.int 0))) aNil)))) aNil))))))))))))
    (sSeq (sSet 5 (m2 dAdd (vr 5) (mC mkLst (aCons (mC mkTup (aCons (ct (.dat (.str "plus"))) (aCons (vr 4) aNil))) (aCons (mC mkTup (aCons (ct (.dat (.str "plus"))) (aCons (ct (.dat (.int 0))) (aCons (ct (.dat (.int 0))) (aCons (ct (.dat (.int 0))) aNil))))) (aCons (mC mkTup (aCons (ct (.dat (.str "+"))) (aCons (ct (.dat (.int 0))) (aCons (ct (.dat (.int 0))) aNil)))) (aCons (mC mkTup (aCons (ct (.dat (.str "was"))) (aCons (ct (.dat (.int 0))) aNil))) (aCons (mC mkTup (aCons (ct (.dat (.str "was"))) aNil)) (aCons (mC mkTup (aCons (ct (.dat (.str "plus"))) (aCons (mC mkLst (aCons (ct (.dat (.int 0))) aNil)) (aCons (ct (.dat (.int 0))) aNil)))) (aCons (mC mkTup aNil) (aCons (mC mkLst aNil) (aCons mDct0 aNil))))))))))))
    (sSeq (sSet 5 (m2 dAdd (vr 5) (mC mkLst (aCons (m2 dAdd (m2 dPow (ct (.dat (.int 10))) (ct (.dat (.int 9)))) (ct (.dat (.int 1)))) (aCons (m2 dSub (m1 dNeg (m2 dPow (ct (.dat (.int 10))) (ct (.dat (.int 9))))) (ct (.dat (.int 1)))) (aCons (mC mkTup (aCons (ct (.dat (.str "minus"))) (aCons (ct (.dat (.int 0))) (aCons (ct (.dat .none)) aNil)))) (aCons (mC mkTup (aCons (ct (.dat (.int 1))) (aCons (ct (.dat (.int 0))) (aCons (ct (.dat (.int 0))) aNil)))) (aCons (mC mkTup (aCons (mC mkTup (aCons (ct (.dat (.str "at"))) (aCons (ct (.dat (.int 0))) aNil))) aNil)) (aCons (mC mkLst (aCons (ct (.dat (.str "plus"))) (aCons (ct (.dat (.int 0))) (aCons (ct (.dat (.int 0))) aNil)))) (aCons (ct (.dat (.str "was"))) aNil))))))))))
    (sSeq (sSet 5 (m2 dAdd (vr 5) (mC mkLst (aCons (mC mkTup (aCons (ct (.dat (.str "least"))) (aCons (ct (.dat (.int 0))) (aCons (ct (.dat (.int 0))) aNil)))) (aCons (mC mkTup (aCons (ct (.dat .none)) (aCons (ct (.dat (.int 0))) (aCons (ct (.dat (.int 0))) aNil)))) (aCons (mC mkTup (aCons (mC mkTup aNil) (aCons (ct (.dat (.int 0))) (aCons (ct (.dat (.int 0))) aNil)))) (aCons (mC mkTup (aCons (ct (.dat (.str "at"))) (aCons (ct (.dat (.int 0))) aNil))) (aCons (m2 dPow (ct (.dat (.int 10))) (ct (.dat (.int 9)))) aNil))))))))
    (sRet (m2 dIx (vr 5) (mC F__law_draw (aCons (vr 0) (aCons (ct (.dat (.int 31))) aNil))))))))))
theorem spoilt_def (F : List D → M D) : b__law_spoilt F = sSeq (sIf (mAnd (mT (mC (on2 dIsi) (aCons (vr 1) (aCons (ct (.ty .tuple)) aNil)))) (mAnd (mT (m2 dEq (mC (on1 dLen) (aCons (vr 1) aNil)) (ct (.dat (.int 3))))) (mT (m2 dGt (mC F__law_draw (aCons (vr 0) (aCons (ct (.dat (.int 3))) aNil))) (ct (.dat (.int 0))))))) (sSeq (sSet 3 (m2 dAdd (ct (.dat (.int 1))) (mC F__law_draw (aCons (vr 0) (aCons (ct (.dat (.int 2))) aNil)))))
    (sRet (m2 dAdd (m2 dAdd (mSl (vr 1) mNoPart (mPart (vr 3))) (mC mkTup (aCons (mC F (aCons (vr 0) (aCons (m2 dIx (vr 1) (vr 3)) (aCons (vr 2) aNil)))) aNil))) (mSl (vr 1) (mPart (m2 dAdd (vr 3) (ct (.dat (.int 1))))) mNoPart)))) sNil) tailB := rfl
theorem tail_ok {n m d c : Nat} {x : PyData} {w : Int} (w0 : 0 ≤ w) (w1 : w ≤ 10) (hx : Sp d c x) {st : Sto} (S : SackAt st n m) (hm : m ≤ 900000) :
    ∃ y st', tailB [some (.loc n), some (.dat x), some (.dat (.int w)), none, none, none] st = .rt (.dat y) st' ∧ Sp (d + 3) (c + 20000) y ∧ Dn n (m + 1) st st' := by
  obtain ⟨part, hpart, sp⟩ : ∃ part, (mIf (mAnd (mT (mC (on2 dIsi) (aCons (vr 1) (aCons (ct (.ty .tuple)) aNil)))) (mT (m2 dGt (mC (on1 dLen) (aCons (vr 1) aNil)) (ct (.dat (.int 1)))))) (m2 dIx (vr 1) (ct (.dat (.int 1)))) (ct (.dat (.int 0)))) [some (.loc n), some (.dat x), some (.dat (.int w)), none, none, none] st = .ok (.dat part) st ∧ (part.showable = true ∧ part.depth ≤ d ∧ cost part ≤ c + 1922) := by
    have z : (∀ a b r, x ≠ .tuple (a :: b :: r)) → ∃ part, (mIf (mAnd (mT (mC (on2 dIsi) (aCons (vr 1) (aCons (ct (.ty .tuple)) aNil)))) (mT (m2 dGt (mC (on1 dLen) (aCons (vr 1) aNil)) (ct (.dat (.int 1)))))) (m2 dIx (vr 1) (ct (.dat (.int 1)))) (ct (.dat (.int 0)))) [some (.loc n), some (.dat x), some (.dat (.int w)), none, none, none] st = .ok (.dat part) st ∧ (part.showable = true ∧ part.depth ≤ d ∧ cost part ≤ c + 1922) := fun h => by
      refine ⟨.int 0, ?_, by decide +kernel, Nat.zero_le _, by show 1922 ≤ _; omega⟩
      cases x with
      | tuple xs =>
        match xs, h with
        | [], _ => simp
        | [a], _ => simp
        | a :: b :: r, h => exact absurd rfl (h a b r)
      | _ => simp
    cases x with
    | tuple xs =>
      match xs, z, hx with
      | [], z, _ => exact z (fun _ _ _ => by simp)
      | [a], z, _ => exact z (fun _ _ _ => by simp)
      | a :: b :: r, _, hx =>
        have i1 : dIx (.dat (.tuple (a :: b :: r))) (.dat (.int 1)) st = .ok (.dat b) st := ix_tuple (Ev.atI_nat (k := 1) rfl) st
        have lt : (1 : Int) < (r.length : Int) + 1 + 1 := by omega
        refine ⟨b, by simp [i1, lt], ?_, ?_, ?_⟩
        · have h := hx.sh
          have h : (a.showable && (b.showable && PyData.showableAll r)) = true := h
          rw [Bool.and_eq_true, Bool.and_eq_true] at h
          exact h.2.1
        · have h : max a.depth (max b.depth (PyData.depthAll r)) + 1 ≤ d := hx.dp
          omega
        · have h : 4 + ((cost a + 2) + ((cost b + 2) + costA r)) ≤ c := hx.co
          omega
    | _ => exact z (fun _ _ _ => by simp)
  obtain ⟨r, st1, e1, r0, r1, n1⟩ := drw S (many := 31) (by decide) (by decide) (by omega)
  obtain ⟨y, hy, ey⟩ := atI_mem (xs := someL x part w) r0 (by simpa [someL] using r1)
  have iy := ix_list ey st1
  have hy' : Sp (d + 3) (c + 20000) y := by
    by_cases q : y = .tuple [.str "plus", part]
    · subst q
      have sp' : SeqAt.shaped (.str "plus") = true := by decide +kernel
      refine ⟨?_, hd2 sp', ?_, ?_⟩
      · show (true && (part.showable && true)) = true
        rw [sp.1] <;> rfl
      · show max 0 (max part.depth 0) + 1 ≤ _
        have := sp.2.1; omega
      · show 4 + ((cost (.str "plus") + 2) + ((cost part + 2) + 0)) ≤ _
        have : cost (.str "plus") = 6 := lenS.2
        have := sp.2.2
        omega
    · have hy2 : y ∈ someL x (.int 0) w := by
        unfold someL at hy ⊢
        simp only [List.mem_append, List.mem_cons, List.not_mem_nil, or_false] at hy ⊢
        simp only [q, false_or] at hy
        rcases hy with ((h | h) | h) | h
        · exact .inl (.inl (.inl h))
        · exact .inl (.inl (.inr (.inr h)))
        · exact .inl (.inr h)
        · exact .inr h
      exact some_sp hx ⟨by decide +kernel, hd0 (fun _ => by simp), Nat.zero_le _, by show 1922 ≤ _; omega⟩ w0 w1 y hy2
  refine ⟨y, st1, ?_, hy', n1⟩
  have mk1 : mkLst [.dat .none, .dat (.bool true), .dat (.str "at"), .dat (.list [x]), .dat (.tuple [.str "at"]), .dat (.tuple [.str "at", .int w]), .dat (.tuple [.str "at", .int (-1)]), .dat (.tuple [.str "at", .bool true]), .dat (.tuple [.str "at", .str "0"]), .dat (.tuple [.str "at", .int 0, .int 0])] st = .ok (.dat (.list [.none, .bool true, .str "at", .list [x], .tuple [.str "at"], .tuple [.str "at", .int w], .tuple [.str "at", .int (-1)], .tuple [.str "at", .bool true], .tuple [.str "at", .str "0"], .tuple [.str "at", .int 0, .int 0]])) st := rfl
  unfold someL at iy
  have big1 : (10 : Nat) ≤ 100000 := by decide
  simp only [tailB, sSeq_ap, sSet_ap, hpart, thenS_ok, List.set_cons_succ, List.set_cons_zero, sthen_nx, mC_ap, aCons_ap, aNil_ap, ct_ap, vr_zero, vr_succ, then_ok, bind_ap, pure_ap, m1_ap, m2_ap, dNeg_ap, mkTup_go, mkLst_go, datas_cons, datas_nil, Option.map_some, List.length_cons, List.length_nil, Nat.reduceAdd, Nat.reduceLeDiff, if_true, ten9, dAdd_ap, dSub_ap, Int.reduceAdd, Int.reduceSub, Int.reduceNeg, mDct0_ap]
  rw [dAdd_list st (by simp)]
  simp only [thenS_ok, List.set_cons_succ, List.set_cons_zero, sthen_nx, sSeq_ap, sSet_ap, m2_ap, mC_ap, aCons_ap, aNil_ap, ct_ap, vr_zero, vr_succ, then_ok, bind_ap, pure_ap, m1_ap, dNeg_ap, mkTup_go, mkLst_go, datas_cons, datas_nil, Option.map_some, List.length_cons, List.length_nil, Nat.reduceAdd, Nat.reduceLeDiff, if_true, ten9, dAdd_ap, dSub_ap, Int.reduceAdd, Int.reduceSub, Int.reduceNeg]
  rw [dAdd_list st (by simp)]
  simp only [thenS_ok, List.set_cons_succ, List.set_cons_zero, sthen_nx, sSeq_ap, sSet_ap, m2_ap, mC_ap, aCons_ap, aNil_ap, ct_ap, vr_zero, vr_succ, then_ok, bind_ap, pure_ap, m1_ap, dNeg_ap, mkTup_go, mkLst_go, datas_cons, datas_nil, Option.map_some, List.length_cons, List.length_nil, Nat.reduceAdd, Nat.reduceLeDiff, if_true, ten9, dAdd_ap, dSub_ap, Int.reduceAdd, Int.reduceSub, Int.reduceNeg]
  rw [dAdd_list st (by simp)]
  simp only [thenS_ok, List.set_cons_succ, List.set_cons_zero, sthen_nx, sRet_ap, m2_ap, mC_ap, aCons_ap, aNil_ap, ct_ap, vr_zero, vr_succ, then_ok, bind_ap, pure_ap, e1, iy]
end K02
set_option Elab.async false
set_option linter.all false
set_option maxRecDepth 100000
set_option maxHeartbeats 4000000
set_option exponentiation.threshold 5000
namespace K02
open PySem PySem.Spec PyProof.Rows L2 Ev
open Classical
theorem flat_ok {n : Nat} {w : Int} (w0 : 0 ≤ w) (w1 : w ≤ 10) {k d c m m' : Nat} {x : PyData} {st st1 : Sto} (hx : Sp d c x) (hm : m + 2 * d + 2 ≤ 900000) (S1 : SackAt st1 n m') (hm' : m' ≤ m + 1) (hl : st1.length = st.length) (hd : Dn n m' st st1 ∨ st1 = st)
    (hc : (mAnd (mT (mC (on2 dIsi) (aCons (vr 1) (aCons (ct (.ty .tuple)) aNil)))) (mAnd (mT (m2 dEq (mC (on1 dLen) (aCons (vr 1) aNil)) (ct (.dat (.int 3))))) (mT (m2 dGt (mC F__law_draw (aCons (vr 0) (aCons (ct (.dat (.int 3))) aNil))) (ct (.dat (.int 0))))))) [some (.loc n), some (.dat x), some (.dat (.int w)), none, none, none] st = .ok false st1) :
    ∃ y st', recB giveD 6 3 b__law_spoilt (k + 1) [.loc n, .dat x, .dat (.int w)] st = .ok (.dat y) st' ∧ Sp (d + 3) (c + 20000) y ∧ Dn n (m + 2 * d + 2) st st' := by
  obtain ⟨y, st2, e2, sy, n2⟩ := tail_ok w0 w1 hx S1 (by omega)
  have nn : Dn n (m' + 1) st st2 := by
    rcases hd with hd | hd
    · exact hd.trans n2
    · rw [← hd]; exact n2
  have g := giveD_same (n2.len.trans hl) y
  refine ⟨y, st2, ?_, sy, nn.mono (by omega)⟩
  simp only [recB, spoilt_def, run3, startE_ap, List.map_cons, List.map_nil, List.length_cons, List.length_nil, List.replicate, List.cons_append, List.nil_append, sSeq_ap, sIf_ap, hc, thenS_ok, ite_sm, Bool.false_eq_true, if_false, sNil_ap, sthen_nx, e2, fin_rt]
  exact g
theorem spoilt_ok (n : Nat) {w : Int} (w0 : 0 ≤ w) (w1 : w ≤ 10) : ∀ (k d c m : Nat) (x : PyData) (st : Sto), d < k → Sp d c x → SackAt st n m → m + 2 * d + 2 ≤ 900000 →
    ∃ y st', recB giveD 6 3 b__law_spoilt k [.loc n, .dat x, .dat (.int w)] st = .ok (.dat y) st' ∧ Sp (d + 3) (c + 20000) y ∧ Dn n (m + 2 * d + 2) st st' := by
  intro k
  induction k with
  | zero => intro d c m x st h; omega
  | succ k ih =>
    intro d c m x st hk hx S hm
    cases x with
    | tuple xs =>
      match xs, hx with
      | [], hx => exact flat_ok w0 w1 hx hm S (by omega) rfl (.inr rfl) (by simp [dEq_int])
      | [a], hx => exact flat_ok w0 w1 hx hm S (by omega) rfl (.inr rfl) (by simp [dEq_int])
      | [a, b], hx => exact flat_ok w0 w1 hx hm S (by omega) rfl (.inr rfl) (by simp [dEq_int])
      | a :: b :: e :: f :: r, hx =>
        refine flat_ok w0 w1 hx hm S (by omega) rfl (.inr rfl) ?_
        have z : ((r.length : Int) + 1 + 1 + 1 + 1 == 3) = false := by rw [beq_eq_false_iff_ne]; omega
        have de : dEq (.dat (.int ((r.length : Int) + 1 + 1 + 1 + 1))) (.dat (.int 3)) st = .ok (.dat (.bool false)) st := by rw [dEq_int, z]
        simp [de]
      | [h, y, z], hx =>
        obtain ⟨r, st1, e1, r0, r1, n1⟩ := drw S (many := 3) (by decide) (by decide) (by omega)
        by_cases hr : 0 < r
        · obtain ⟨u, st2, e2, u0, u1, n2⟩ := drw n1.sack (many := 2) (by decide) (by decide) (by omega)
          have ddp : max h.depth (max y.depth (max z.depth 0)) + 1 ≤ d := hx.dp
          have dco : 4 + ((cost h + 2) + ((cost y + 2) + ((cost z + 2) + 0))) ≤ c := hx.co
          have dsh : (h.showable && (y.showable && (z.showable && true))) = true := hx.sh
          rw [Bool.and_eq_true, Bool.and_eq_true, Bool.and_eq_true] at dsh
          have hs : SeqAt.shaped h = true := hx.hd 0
          have hy : ∀ n, Hd n y := fun n => (hx.hd (n + 1)).2.1
          have hz : ∀ n, Hd n z := fun n => (hx.hd (n + 1)).2.2
          have cnd : (mAnd (mT (mC (on2 dIsi) (aCons (vr 1) (aCons (ct (.ty .tuple)) aNil)))) (mAnd (mT (m2 dEq (mC (on1 dLen) (aCons (vr 1) aNil)) (ct (.dat (.int 3))))) (mT (m2 dGt (mC F__law_draw (aCons (vr 0) (aCons (ct (.dat (.int 3))) aNil))) (ct (.dat (.int 0))))))) [some (.loc n), some (.dat (.tuple [h, y, z])), some (.dat (.int w)), none, none, none] st = .ok true st1 := by
            simp [dEq_int, e1, hr]
          have hu : u = 0 ∨ u = 1 := by omega
          rcases hu with hu | hu
          · subst hu
            obtain ⟨v, st3, e3, sv, n3⟩ := ih (d - 1) (cost y) (m + 2) y st2 (by omega) ⟨dsh.2.1, hy, by omega, Nat.le_refl _⟩ n2.sack (by omega)
            have nn := (n1.trans n2).trans n3
            have g := giveD_same nn.len (.tuple [h, v, z])
            refine ⟨.tuple [h, v, z], st3, ?_, ⟨?_, hd3 hs sv.hd hz, ?_, ?_⟩, nn.mono (by omega)⟩
            · have i1 : dIx (.dat (.tuple [h, y, z])) (.dat (.int (1 + 0))) st2 = .ok (.dat y) st2 := ix_tuple (Ev.atI_nat (k := 1) rfl) st2
              have c1 : Ev.cutD [h, y, z] none (some (1 + 0)) = [h] := rfl
              have c2 : Ev.cutD [h, y, z] (some (1 + 0 + 1)) none = [z] := rfl
              have k1 : mkTup [.dat v] st3 = .ok (.dat (.tuple [v])) st3 := rfl
              have a1 := dAdd_tuple (xs := [h]) (ys := [v]) (by simp) st3
              have a2 := dAdd_tuple (xs := [h, v]) (ys := [z]) (by simp) st3
              simp only [recB, spoilt_def, run3, startE_ap, List.map_cons, List.map_nil, List.length_cons, List.length_nil, List.replicate, List.cons_append, List.nil_append, sSeq_ap, sIf_ap, cnd, thenS_ok, ite_sm, if_true, sSet_ap, m2_ap, mC_ap, aCons_ap, aNil_ap, ct_ap, vr_zero, vr_succ, then_ok, bind_ap, pure_ap, e2, dAdd_ap, List.set_cons_succ, List.set_cons_zero, sthen_nx, sRet_ap, mSl_ap, mNoPart_ap, mPart_ap, asPart_ap, dSl_tuple, c1, c2, i1, e3, k1, a1, a2, sthen_rt, fin_rt, g]
            · show (h.showable && (v.showable && (z.showable && true))) = true
              rw [dsh.1, sv.sh, dsh.2.2.1] <;> rfl
            · show max h.depth (max v.depth (max z.depth 0)) + 1 ≤ _
              have := sv.dp; omega
            · show 4 + ((cost h + 2) + ((cost v + 2) + ((cost z + 2) + 0))) ≤ _
              have := sv.co; omega
          · subst hu
            obtain ⟨v, st3, e3, sv, n3⟩ := ih (d - 1) (cost z) (m + 2) z st2 (by omega) ⟨dsh.2.2.1, hz, by omega, Nat.le_refl _⟩ n2.sack (by omega)
            have nn := (n1.trans n2).trans n3
            have g := giveD_same nn.len (.tuple [h, y, v])
            refine ⟨.tuple [h, y, v], st3, ?_, ⟨?_, hd3 hs hy sv.hd, ?_, ?_⟩, nn.mono (by omega)⟩
            · have i1 : dIx (.dat (.tuple [h, y, z])) (.dat (.int (1 + 1))) st2 = .ok (.dat z) st2 := ix_tuple (Ev.atI_nat (k := 2) rfl) st2
              have c1 : Ev.cutD [h, y, z] none (some (1 + 1)) = [h, y] := rfl
              have c2 : Ev.cutD [h, y, z] (some (1 + 1 + 1)) none = [] := rfl
              have k1 : mkTup [.dat v] st3 = .ok (.dat (.tuple [v])) st3 := rfl
              have a1 := dAdd_tuple (xs := [h, y]) (ys := [v]) (by simp) st3
              have a2 := dAdd_tuple (xs := [h, y, v]) (ys := []) (by simp) st3
              simp only [recB, spoilt_def, run3, startE_ap, List.map_cons, List.map_nil, List.length_cons, List.length_nil, List.replicate, List.cons_append, List.nil_append, sSeq_ap, sIf_ap, cnd, thenS_ok, ite_sm, if_true, sSet_ap, m2_ap, mC_ap, aCons_ap, aNil_ap, ct_ap, vr_zero, vr_succ, then_ok, bind_ap, pure_ap, e2, dAdd_ap, List.set_cons_succ, List.set_cons_zero, sthen_nx, sRet_ap, mSl_ap, mNoPart_ap, mPart_ap, asPart_ap, dSl_tuple, c1, c2, i1, e3, k1, a1, a2, sthen_rt, fin_rt, g]
            · show (h.showable && (y.showable && (v.showable && true))) = true
              rw [dsh.1, sv.sh, dsh.2.1] <;> rfl
            · show max h.depth (max y.depth (max v.depth 0)) + 1 ≤ _
              have := sv.dp; omega
            · show 4 + ((cost h + 2) + ((cost y + 2) + ((cost v + 2) + 0))) ≤ _
              have := sv.co; omega
        · exact flat_ok w0 w1 hx hm n1.sack (by omega) n1.len (.inl n1) (by simp [dEq_int, e1, hr])
    | _ => exact flat_ok w0 w1 hx hm S (by omega) rfl (.inr rfl) (by simp)
theorem law_is4 {x : PyData} (w : Int) (led : Bool) (hd : Hd 4 x) (st : Sto) : F__law_is [.dat x, .dat (.int w), .dat (.bool led), .dat (.int 4)] st = .ok (.dat (.bool (isX led w 4 x))) st := law_is_eq led w 24 4 x st (by decide) hd
theorem repr2 (a b : Bool) (st : Sto) : dRepr (.dat (.list [.bool a, .bool b])) st = .ok (.dat (.str (PyData.list [.bool a, .bool b]).shown)) st := repr_ap st (by cases a <;> cases b <;> decide +kernel)
theorem right_turn {x : PyData} (hd : Hd 4 x) {s : Int} (h0 : 0 ≤ s) (h9 : s ≤ 9) (w : Option D) (kept a4 a5 a6 : Option D) (st : Sto) :
    l__law_right_1 [some (.dat x), w, kept, some (.dat (.int s)), a4, a5, a6] st = .nx [some (.dat x), w, kept, some (.dat (.int s)), some (.dat (.bool (isX false s 4 x))), some (.dat (.bool (isX true s 4 x))), some (.dat (.list [.bool (isX false s 4 x), .bool (isX true s 4 x)]))] st := by
  have fr : isFr 0 9 (.int s) = true := by simp [isFr, h0, h9]
  have e1 := is_expr_ok fr false hd st
  have e2 := is_expr_ok fr true hd st
  have l1 := law_is4 s false hd st
  have l2 := law_is4 s true hd st
  have mk : ∀ a b : Bool, mkLst [.dat (.bool a), .dat (.bool b)] st = .ok (.dat (.list [.bool a, .bool b])) st := fun _ _ => rfl
  have p : sPar 4 5 (aCons (mK F_is_expr (fun ds _ => ds ++ [.dat (.bool false)]) (aCons (vr 0) (aCons (vr 3) aNil)) aNil) (aCons (mK F_is_expr (fun ds es => ds ++ es) (aCons (vr 0) (aCons (vr 3) aNil)) (aCons (ct (.dat (.bool true))) aNil)) aNil)) [some (.dat x), w, kept, some (.dat (.int s)), a4, a5, a6] st = .nx [some (.dat x), w, kept, some (.dat (.int s)), some (.dat (.bool (isX false s 4 x))), some (.dat (.bool (isX true s 4 x))), a6] st :=
    sPar_ap (by simp [e1, e2])
  simp only [l__law_right_1, sSeq_ap, p, sthen_nx, sSet_ap, mC_ap, aCons_ap, aNil_ap, ct_ap, vr_zero, vr_succ, then_ok, bind_ap, pure_ap, l1, l2, mk, thenS_ok, List.set_cons_succ, List.set_cons_zero, sIf_ap, mOr_ap, mT_ap, m2_ap, on1_ap, repr2, dNe_str, decide_true, Bool.not_true, asB_ap, Bool.false_eq_true, if_false, mK_ap, List.cons_append, List.nil_append, e1, dNe_bool, bne_self_eq_false, ite_sm, ite_em, ite_st, sNil_ap]
theorem right_ok {d c : Nat} {x : PyData} (hx : Sp d c x) (h1 : d ≤ 64) (h2 : c ≤ 16000000) {w : Int} (w0 : 0 ≤ w) (w9 : w ≤ 9) (st : Sto) : F__law_right [.dat x, .dat (.int w)] st = .ok (.dat (.bool true)) st := by
  have rp := repr_ap st (hx.ok h1 h2)
  have hd := hx.hd 4
  have mk : mkTup [.dat (.int w), .dat (.int 9), .dat (.int 0), .dat (.int 3)] st = .ok (.dat (.tuple [.int w, .int 9, .int 0, .int 3])) st := rfl
  have g := giveD_same (n := st.length) (st := st) rfl (.bool true)
  simp only [F__law_right, b__law_right, run2, startE_ap, List.map_cons, List.map_nil, List.length_cons, List.length_nil, List.replicate, List.cons_append, List.nil_append, sSeq_ap, sSet_ap, mC_ap, aCons_ap, aNil_ap, ct_ap, on1_ap, vr_zero, vr_succ, then_ok, bind_ap, pure_ap, rp, thenS_ok, List.set_cons_succ, List.set_cons_zero, sthen_nx, sFor_ap, mSeq_ap, mk, Ev.src_tuple, data_items, data_ok]
  rw [loopS_nx trivial rfl (right_turn hd w0 w9 _ _ _ _ _ st), loopS_nx trivial rfl (right_turn hd (by decide) (by decide) _ _ _ _ _ st), loopS_nx trivial rfl (right_turn hd (by decide) (by decide) _ _ _ _ _ st), loopS_nx trivial rfl (right_turn hd (by decide) (by decide) _ _ _ _ _ st), loopS_end]
  simp only [sthen_nx, sRet_ap, m2_ap, mC_ap, aCons_ap, aNil_ap, ct_ap, on1_ap, vr_zero, vr_succ, then_ok, bind_ap, pure_ap, rp, dEq_str, decide_true, thenS_ok, fin_rt, g]
end K02
set_option Elab.async false
set_option linter.all false
set_option maxRecDepth 100000
set_option maxHeartbeats 4000000
set_option exponentiation.threshold 5000
namespace K02
open PySem PySem.Spec PyProof.Rows L2 Ev
open Classical
theorem ops_sh {o : PyData} (h : o ∈ opsL) : SeqAt.shaped o = true ∧ o.showable = true ∧ o.depth = 0 ∧ cost o ≤ 10 := by
  simp only [opsL, List.mem_cons, List.not_mem_nil, or_false] at h
  rcases h with h | h | h | h | h | h | h <;> subst h <;> decide +kernel
theorem tr_sp {d : Nat} {x : PyData} (h : Tr d x) : x.showable = true ∧ (∀ n, Hd n x) ∧ x.depth ≤ d + 1 ∧ cost x + 40 ≤ 5000 * 2 ^ d := by
  have p : ∀ d : Nat, 1 ≤ 2 ^ d := fun d => Nat.one_le_two_pow
  induction h with
  | @int d i h =>
    have := p d
    exact ⟨(Sm.int (log_small (k := 400) (by decide) (by decide) (by omega))).sh, hd0 (fun _ z => by cases z), Nat.zero_le _, by show 1922 + 40 ≤ _; omega⟩
  | @was d =>
    have := p d
    refine ⟨by decide +kernel, hd1 (by decide +kernel), by show 0 + 1 ≤ _; omega, ?_⟩
    have : cost (.tuple [.str "was"]) ≤ 100 := by decide +kernel
    omega
  | @at_ d i h =>
    have := p d
    refine ⟨?_, hd2 (by decide +kernel), by show 0 + 1 ≤ _; omega, ?_⟩
    · show (true && ((PyData.int i).showable && true)) = true
      rw [(Sm.int (log_small (k := 400) (by decide) (by decide) (by omega))).sh] <;> rfl
    · show 4 + ((cost (.str "at") + 2) + ((1922 + 2) + 0)) + 40 ≤ _
      have : cost (.str "at") = 4 := lenS.1
      omega
  | @op d o y z ho hy hz iy iz =>
    obtain ⟨s1, s2, s3, s4⟩ := ops_sh ho
    obtain ⟨a1, a2, a3, a4⟩ := iy
    obtain ⟨b1, b2, b3, b4⟩ := iz
    refine ⟨?_, hd3 s1 a2 b2, ?_, ?_⟩
    · show (o.showable && (y.showable && (z.showable && true))) = true
      rw [s2, a1, b1] <;> rfl
    · show max o.depth (max y.depth (max z.depth 0)) + 1 ≤ _
      omega
    · show 4 + ((cost o + 2) + ((cost y + 2) + ((cost z + 2) + 0))) + 40 ≤ 5000 * 2 ^ (d + 1)
      rw [Nat.pow_succ]
      omega
theorem look_ok {xs : List PyData} {d c : Nat} (h1 : d ≤ 64) (h2 : c ≤ 16000000) {w : Int} (w0 : 0 ≤ w) (w9 : w ≤ 9) (h : ∀ x ∈ xs, Sp d c x) : ∀ (a0 a1 a2 a4 a5 a6 a7 a8 a9 a10 a11 a12 : Option D) (st : Sto), ∃ v,
    loopS (fun _ => True) (tgName 8) l_law_1 (xs.map D.dat) [a0, a1, a2, some (.dat (.int w)), a4, a5, a6, a7, a8, a9, a10, a11, a12] st = .nx [a0, a1, a2, some (.dat (.int w)), a4, a5, a6, a7, v, a9, a10, a11, a12] st := by
  induction xs with
  | nil => intro a0 a1 a2 a4 a5 a6 a7 a8 a9 a10 a11 a12 st; exact ⟨_, loopS_end⟩
  | cons x r ih =>
    intro a0 a1 a2 a4 a5 a6 a7 a8 a9 a10 a11 a12 st
    obtain ⟨v, e⟩ := ih (fun y hy => h y (List.mem_cons_of_mem _ hy)) a0 a1 a2 a4 a5 a6 a7 (some (.dat x)) a9 a10 a11 a12 st
    refine ⟨v, ?_⟩
    have q := right_ok (h x List.mem_cons_self) h1 h2 w0 w9 st
    rw [List.map_cons, loopS_nx trivial (ρ2 := [a0, a1, a2, some (.dat (.int w)), a4, a5, a6, a7, some (.dat x), a9, a10, a11, a12]) (st2 := st) rfl ?_, e]
    simp only [l_law_1, sIf_ap, mNot_ap, mT_ap, mC_ap, aCons_ap, aNil_ap, List.set_cons_succ, List.set_cons_zero, vr_zero, vr_succ, then_ok, bind_ap, pure_ap, q, asB_ap, thenS_ok, ite_sm, Bool.not_true, Bool.false_eq_true, if_false, sNil_ap]
theorem F_draw' : F__law_draw = runB 6 2 drawB := rfl
theorem F_sack' : F__law_sack = runL 4 2 sackB := rfl
theorem turn_ok (ns : List Int) {k : Nat} (hk : k < 1000) (a2 a3 a4 a5 a6 a7 a8 a9 a10 a11 a12 : Option D) (st : Sto) :
    ∃ b2 b3 b4 b5 b6 b7 b8 b9 st', l_law_2 [some (.fz (ns.map PyData.int)), some (.dat (.int k)), a2, a3, a4, a5, a6, a7, a8, a9, a10, a11, a12] st =
      .nx [some (.fz (ns.map PyData.int)), some (.dat (.int k)), b2, b3, b4, b5, b6, b7, b8, b9, a10, a11, a12] st' := by
  obtain ⟨sx, e1, S1⟩ := sack_ok ns hk st
  rw [← F_sack'] at e1
  obtain ⟨n, hn⟩ : ∃ n, n = st.length := ⟨_, rfl⟩
  rw [← hn] at e1 S1
  obtain ⟨st1, hs1⟩ : ∃ x, x = st ++ [Cell.lst sx] := ⟨_, rfl⟩
  rw [← hs1] at e1 S1
  obtain ⟨w, st2, e2, p2, q2, n2⟩ := drw S1 (many := 10) (by decide) (by decide) (by omega)
  obtain ⟨r3, st3, e3, p3, q3, n3⟩ := drw n2.sack (many := 2) (by decide) (by decide) (by omega)
  obtain ⟨dp, st4, e4, p4, q4, n4⟩ := drw n3.sack (many := 6) (by decide) (by decide) (by omega)
  obtain ⟨dn, rfl⟩ := Int.eq_ofNat_of_zero_le p4
  obtain ⟨led, hled⟩ : ∃ led : Bool, led = (r3 == 0) := ⟨_, rfl⟩
  obtain ⟨tree, st5, e5, t5, n5⟩ := tree_ok n (w := w) p2 (by omega) led 24 dn (0 + 1 + 1 + 1) st4 (by omega) n4.sack (by omega)
  obtain ⟨u1, u2, u3, u4⟩ := tr_sp (t5.mono (show dn ≤ 5 by omega))
  have st0 : Sp 6 160000 tree := ⟨u1, u2, u3, by omega⟩
  obtain ⟨once, st6, e6, s6, n6⟩ := spoilt_ok n (w := w) p2 (by omega) 24 6 160000 (0 + 1 + 1 + 1 + (12 * dn + 3 - 6 * min dn 1)) tree st5 (by decide) st0 n5.sack (by omega)
  obtain ⟨twice, st7, e7, s7, n7⟩ := spoilt_ok n (w := w) p2 (by omega) 24 9 180000 _ once st6 (by decide) s6 n6.sack (by omega)
  obtain ⟨other, st8, e8, s8, n8⟩ := spoilt_ok n (w := 9) (by decide) (by decide) 24 6 160000 _ tree st7 (by decide) st0 n7.sack (by omega)
  have e5' : F__law_tree [.loc n, .dat (.int w), .dat (.int dn), .dat (.bool led)] st4 = .ok (.dat tree) st5 := e5
  have e6' : F__law_spoilt [.loc n, .dat tree, .dat (.int w)] st5 = .ok (.dat once) st6 := e6
  have e7' : F__law_spoilt [.loc n, .dat once, .dat (.int w)] st6 = .ok (.dat twice) st7 := e7
  have e8' : F__law_spoilt [.loc n, .dat tree, .dat (.int 9)] st7 = .ok (.dat other) st8 := e8
  have mk1 : mkTup [.dat (.str "times"), .dat tree, .dat tree] st7 = .ok (.dat (.tuple [.str "times", tree, tree])) st7 := rfl
  have mk2 : mkLst [.dat tree, .dat once, .dat twice, .dat (.tuple [.str "times", tree, tree])] st7 = .ok (.dat (.list [tree, once, twice, .tuple [.str "times", tree, tree]])) st7 := rfl
  have mk3 : mkTup [.dat (.str "same"), .dat (.int 1), .dat once] st7 = .ok (.dat (.tuple [.str "same", .int 1, once])) st7 := rfl
  have mk4 : mkLst [.dat (.tuple [.str "same", .int 1, once]), .dat other] st8 = .ok (.dat (.list [.tuple [.str "same", .int 1, once], other])) st8 := rfl
  have mk5 := dAdd_list st8 (xs := [tree, once, twice, .tuple [.str "times", tree, tree]]) (ys := [.tuple [.str "same", .int 1, once], other]) (by simp)
  have all : ∀ x ∈ [tree, once, twice, .tuple [.str "times", tree, tree]] ++ [.tuple [.str "same", .int 1, once], other], Sp 20 400000 x := by
    intro x hx
    simp only [List.cons_append, List.nil_append, List.mem_cons, List.not_mem_nil, or_false] at hx
    rcases hx with h | h | h | h | h | h <;> subst h
    · exact st0.mono (by decide) (by decide)
    · exact s6.mono (by decide) (by decide)
    · exact s7.mono (by decide) (by decide)
    · refine ⟨?_, hd3 (by decide +kernel) u2 u2, ?_, ?_⟩
      · show (true && (tree.showable && (tree.showable && true))) = true
        rw [u1] <;> rfl
      · show max 0 (max tree.depth (max tree.depth 0)) + 1 ≤ _
        omega
      · show 4 + ((cost (.str "times") + 2) + ((cost tree + 2) + ((cost tree + 2) + 0))) ≤ _
        have : cost (.str "times") ≤ 10 := by decide +kernel
        omega
    · have a1 := s6.dp
      have a2 := s6.co
      refine ⟨?_, hd3 (by decide +kernel) (hd0 (fun _ z => by cases z)) s6.hd, ?_, ?_⟩
      · show (true && ((PyData.int 1).showable && (once.showable && true))) = true
        rw [s6.sh, show (PyData.int 1).showable = true by decide +kernel] <;> rfl
      · show max 0 (max 0 (max once.depth 0)) + 1 ≤ _
        omega
      · show 4 + ((cost (.str "same") + 2) + ((1922 + 2) + ((cost once + 2) + 0))) ≤ _
        have : cost (.str "same") ≤ 10 := by decide +kernel
        omega
    · exact s8.mono (by decide) (by decide)
  obtain ⟨v8, e9⟩ := look_ok (xs := [tree, once, twice, .tuple [.str "times", tree, tree]] ++ [.tuple [.str "same", .int 1, once], other]) (d := 20) (c := 400000) (by decide) (by decide) (w := w) p2 (by omega) all (some (.fz (ns.map PyData.int))) (some (.dat (.int k))) (some (.loc n)) (some (.dat (.bool led))) (some (.dat tree)) (some (.dat once)) (some (.dat (.list ([tree, once, twice, .tuple [.str "times", tree, tree]] ++ [.tuple [.str "same", .int 1, once], other])))) a8 a9 a10 a11 a12 st8
  obtain ⟨r9, st9, e10, p9, q9, n9⟩ := drw n8.sack (many := 8) (by decide) (by decide) (by omega)
  obtain ⟨g, hg, eg⟩ := atI_mem (xs := [PyData.int (-1), .int 10, .none, .bool true, .str "3", .tuple [.int 3], .int (10 ^ 30), .list [.int 3]]) p9 (by simpa using q9)
  have bad : isFr 0 9 g = false := by
    simp only [List.mem_cons, List.not_mem_nil, or_false] at hg
    rcases hg with h | h | h | h | h | h | h | h <;> subst h <;> decide +kernel
  have ig := ix_list eg st9
  have k1 := asked_ok (x := tree) bad st9
  have k2 := asked_ok (x := .none) bad st9
  have p30 : dPow (.dat (.int 10)) (.dat (.int 30)) st8 = .ok (.dat (.int (10 ^ 30))) st8 := pow10 30 st8
  have mk6 : mkTup [.dat (.int 3)] st8 = .ok (.dat (.tuple [.int 3])) st8 := rfl
  have mk7 : mkLst [.dat (.int 3)] st8 = .ok (.dat (.list [.int 3])) st8 := rfl
  have mk8 : mkLst [.dat (.int (-1)), .dat (.int 10), .dat .none, .dat (.bool true), .dat (.str "3"), .dat (.tuple [.int 3]), .dat (.int (10 ^ 30)), .dat (.list [.int 3])] st8 = .ok (.dat (.list [.int (-1), .int 10, .none, .bool true, .str "3", .tuple [.int 3], .int (10 ^ 30), .list [.int 3]])) st8 := rfl
  have pr : sPar 3 4 (aCons (mC F__law_draw (aCons (vr 2) (aCons (ct (.dat (.int 10))) aNil))) (aCons (m2 dEq (mC F__law_draw (aCons (vr 2) (aCons (ct (.dat (.int 2))) aNil))) (ct (.dat (.int 0)))) aNil)) [some (.fz (ns.map PyData.int)), some (.dat (.int k)), some (.loc n), a3, a4, a5, a6, a7, a8, a9, a10, a11, a12] st1 =
      .nx [some (.fz (ns.map PyData.int)), some (.dat (.int k)), some (.loc n), some (.dat (.int w)), some (.dat (.bool led)), a5, a6, a7, a8, a9, a10, a11, a12] st3 := sPar_ap (by
    have e := dEq_int r3 0 st3
    rw [← hled] at e
    simp only [mC_ap, aCons_ap, aNil_ap, m2_ap, ct_ap, vr_zero, vr_succ, then_ok, bind_ap, pure_ap, e2, e3, e])
  refine ⟨some (.loc n), some (.dat (.int w)), some (.dat (.bool led)), some (.dat tree), some (.dat once), some (.dat (.list ([tree, once, twice, .tuple [.str "times", tree, tree]] ++ [.tuple [.str "same", .int 1, once], other]))), v8, some (.dat g), st9, ?_⟩
  simp only [l_law_2, sSeq_ap, sSet_ap, mC_ap, aCons_ap, aNil_ap, ct_ap, vr_zero, vr_succ, then_ok, bind_ap, pure_ap, e1, thenS_ok, List.set_cons_succ, List.set_cons_zero, sthen_nx, pr, e4, e5', e6', mk1, e7', mk2, m2_ap, mk3, e8', mk4, mk5, sFor_ap, mSeq_ap, Ev.src_list, data_items, data_ok, e9, m1_ap, dNeg_ap, p30, mk6, mk7, mk8, e10, ig, sIf_ap, mOr_ap, mNot_ap, mT_ap, k1, k2, asB_ap, Bool.not_true, Bool.false_eq_true, if_false, ite_sm, ite_em, ite_st, sNil_ap]
theorem turns_ok (ns : List Int) : ∀ (c lo : Nat), lo + c ≤ 1000 → ∀ (a1 a2 a3 a4 a5 a6 a7 a8 a9 a10 a11 a12 : Option D) (st : Sto),
    ∃ b1 b2 b3 b4 b5 b6 b7 b8 b9 st', loopS (fun _ => True) (tgName 1) l_law_2 ((List.range' lo c).map fun i : Nat => D.dat (.int (0 + (i : Int)))) [some (.fz (ns.map PyData.int)), a1, a2, a3, a4, a5, a6, a7, a8, a9, a10, a11, a12] st =
      .nx [some (.fz (ns.map PyData.int)), b1, b2, b3, b4, b5, b6, b7, b8, b9, a10, a11, a12] st'
  | 0, lo, _, a1, a2, a3, a4, a5, a6, a7, a8, a9, a10, a11, a12, st => ⟨_, _, _, _, _, _, _, _, _, _, by simp only [List.range'_zero, List.map_nil]; exact loopS_end⟩
  | c + 1, lo, h, a1, a2, a3, a4, a5, a6, a7, a8, a9, a10, a11, a12, st => by
    obtain ⟨b2, b3, b4, b5, b6, b7, b8, b9, st1, e1⟩ := turn_ok ns (k := lo) (by omega) a2 a3 a4 a5 a6 a7 a8 a9 a10 a11 a12 st
    obtain ⟨c1, c2, c3, c4, c5, c6, c7, c8, c9, st2, e2⟩ := turns_ok ns c (lo + 1) (by omega) (some (.dat (.int lo))) b2 b3 b4 b5 b6 b7 b8 b9 a10 a11 a12 st1
    refine ⟨c1, c2, c3, c4, c5, c6, c7, c8, c9, st2, Eq.trans ?_ e2⟩
    rw [List.range'_succ, List.map_cons]
    exact loopS_nx trivial rfl (by rw [Int.zero_add]; exact e1)
/-- the deep one -/
def deepN : Nat → PyData
  | 0 => .tuple [.str "at", .int 0]
  | n + 1 => .tuple [.str "plus", .int 1, deepN n]
theorem deep_hd : ∀ k n, Hd n (deepN k)
  | 0, n => hd2 (by decide +kernel) n
  | k + 1, n => hd3 (by decide +kernel) (hd0 (fun _ z => by cases z)) (deep_hd k) n
theorem deep_turn (k : Nat) (a0 a1 a2 a3 a4 a5 a6 a7 a8 a9 a12 : Option D) (xs : List PyData) (hl : xs.length ≤ 100000) (st : Sto) :
    l_law_3 [a0, a1, a2, a3, a4, a5, a6, a7, a8, a9, some (.dat (deepN k)), some (.loc st.length), a12] (st ++ [.lst xs]) =
      .nx [a0, a1, a2, a3, a4, a5, a6, a7, a8, a9, some (.dat (deepN (k + 1))), some (.loc st.length), a12] (st ++ [.lst (xs ++ [.bool (isX false 1 4 (deepN (k + 1)))])]) := by
  have mk : ∀ s, mkTup [.dat (.str "plus"), .dat (.int 1), .dat (deepN k)] s = .ok (.dat (deepN (k + 1))) s := fun s => rfl
  have e1 := fun s => is_expr_ok (x := deepN (k + 1)) (w := 1) (by decide +kernel) false (deep_hd _ 4) s
  have at_ : (st ++ [Cell.lst xs])[st.length]? = some (.lst xs) := by simp
  have ap : ∀ ρ : Ev.Env, ρ = [a0, a1, a2, a3, a4, a5, a6, a7, a8, a9, some (.dat (deepN (k + 1))), some (.loc st.length), a12] → mMt dAppend (vr 11) (aCons (mK F_is_expr (fun ds _ => ds ++ [.dat (.bool false)]) (aCons (vr 10) (aCons (ct (.dat (.int 1))) aNil)) aNil) aNil) ρ (st ++ [.lst xs]) = .ok (.dat .none) ((st ++ [Cell.lst xs]).set st.length (.lst (xs ++ [.bool (isX false 1 4 (deepN (k + 1)))]))) := fun ρ hρ => by
    subst hρ
    refine append_ap (zs := xs) (xs := xs) (by simp only [vr_zero, vr_succ]) at_ ?_ at_ hl
    simp only [aCons_ap, aNil_ap, mK_ap, vr_zero, vr_succ, ct_ap, then_ok, bind_ap, pure_ap, List.cons_append, List.nil_append, e1]
  have se : (st ++ [Cell.lst xs]).set st.length (.lst (xs ++ [.bool (isX false 1 4 (deepN (k + 1)))])) = st ++ [.lst (xs ++ [.bool (isX false 1 4 (deepN (k + 1)))])] := by simp
  simp only [l_law_3, sSeq_ap, sSet_ap, mC_ap, aCons_ap, aNil_ap, ct_ap, vr_zero, vr_succ, then_ok, bind_ap, pure_ap, mk, thenS_ok, List.set_cons_succ, List.set_cons_zero, sthen_nx, sDrop_ap, ap _ rfl, se]
theorem law_ok (ns : List Int) : ∃ st', F_law [.fz (ns.map PyData.int)] [] = .ok (.dat (.bool true)) st' := by
  obtain ⟨c, hc⟩ : ∃ c, c = iMax 1 (iMin 20 ((ns.map PyData.int).length : Int)) := ⟨_, rfl⟩
  have c0 : 0 ≤ c := by rw [hc]; unfold iMax iMin; split <;> split <;> omega
  have c1 : c ≤ 20 := by rw [hc]; unfold iMax iMin; split <;> split <;> omega
  have g1 := rng_ap (k := c) c0 (by omega) []
  obtain ⟨b1, b2, b3, b4, b5, b6, b7, b8, b9, st1, e1⟩ := turns_ok ns c.toNat 0 (by omega) none none none none none none none none none none none none []
  rw [← List.range_eq_range'] at e1
  have m0 : mkTup [.dat (.str "at"), .dat (.int 0)] st1 = .ok (.dat (deepN 0)) st1 := rfl
  have i0 := is_expr_ok (x := deepN 0) (w := 1) (by decide +kernel) false (deep_hd _ 4) st1
  have x0 : isX false 1 4 (deepN 0) = true := by decide +kernel
  have x1 : isX false 1 4 (deepN 1) = true := by decide +kernel
  have x2 : isX false 1 4 (deepN 2) = true := by decide +kernel
  have x3 : isX false 1 4 (deepN 3) = true := by decide +kernel
  have x4 : isX false 1 4 (deepN 4) = true := by decide +kernel
  have x5 : isX false 1 4 (deepN 5) = false := by decide +kernel
  rw [x0] at i0
  have ml : mkLoc [.dat (.bool true)] st1 = .ok (.loc st1.length) (st1 ++ [.lst [.bool true]]) := rfl
  have g2 := rng_ap (k := 5) (by decide) (by decide) (st1 ++ [.lst [.bool true]])
  have lp : loopS (fun _ => True) (tgName 12) l_law_3 ((List.range 5).map (fun i : Nat => D.dat (.int (0 + (i : Int))))) [some (.fz (ns.map PyData.int)), b1, b2, b3, b4, b5, b6, b7, b8, b9, some (.dat (deepN 0)), some (.loc st1.length), none] (st1 ++ [.lst [.bool true]]) =
      .nx [some (.fz (ns.map PyData.int)), b1, b2, b3, b4, b5, b6, b7, b8, b9, some (.dat (deepN 5)), some (.loc st1.length), some (.dat (.int (0 + ((4 : Nat) : Int))))] (st1 ++ [.lst [.bool true, .bool true, .bool true, .bool true, .bool true, .bool false]]) := by
    have r5 : List.range 5 = [0, 1, 2, 3, 4] := rfl
    rw [r5]
    simp only [List.map_cons, List.map_nil]
    rw [loopS_nx trivial rfl (deep_turn 0 _ _ _ _ _ _ _ _ _ _ _ _ (by simp) st1), x1]
    rw [loopS_nx trivial rfl (deep_turn 1 _ _ _ _ _ _ _ _ _ _ _ _ (by simp) st1), x2]
    rw [loopS_nx trivial rfl (deep_turn 2 _ _ _ _ _ _ _ _ _ _ _ _ (by simp) st1), x3]
    rw [loopS_nx trivial rfl (deep_turn 3 _ _ _ _ _ _ _ _ _ _ _ _ (by simp) st1), x4]
    rw [loopS_nx trivial rfl (deep_turn 4 _ _ _ _ _ _ _ _ _ _ _ _ (by simp) st1), x5]
    exact loopS_end
  obtain ⟨st2, hs2⟩ : ∃ x, x = st1 ++ [Cell.lst [.bool true, .bool true, .bool true, .bool true, .bool true, .bool false]] := ⟨_, rfl⟩
  have at2 : st2[st1.length]? = some (.lst [.bool true, .bool true, .bool true, .bool true, .bool true, .bool false]) := by rw [hs2]; simp
  rw [← hs2] at lp
  have t1 : mkLst [.dat (.bool true)] st2 = .ok (.dat (.list [.bool true])) st2 := rfl
  have t2 : mkLst [.dat (.bool false)] st2 = .ok (.dat (.list [.bool false])) st2 := rfl
  have t3 := mul_list (xs := [.bool true]) (k := 5) (by decide) st2
  have t4 := dAdd_list st2 (xs := repD (5 : Int).toNat [.bool true]) (ys := [.bool false]) (by decide)
  have nn : dNe (.loc st1.length) (.dat (.list (repD (5 : Int).toNat [.bool true] ++ [.bool false]))) st2 = .ok (.dat (.bool false)) st2 := by
    have q := ne_shaped (xs := [.bool true, .bool true, .bool true, .bool true, .bool true, .bool false]) (ys := repD (5 : Int).toNat [.bool true] ++ [.bool false]) (by decide) (by decide) st2
    have v : PyData.eqvAll [.bool true, .bool true, .bool true, .bool true, .bool true, .bool false] (repD (5 : Int).toNat [.bool true] ++ [.bool false]) = true := by decide
    rw [v] at q
    have da : Ev.dataOf (.loc st1.length) st2 = some (.list [.bool true, .bool true, .bool true, .bool true, .bool true, .bool false]) := by
      unfold Ev.dataOf
      dsimp only
      rw [at2]
    show asData _ _ _ st2 = _
    unfold asData
    rw [da]
    exact q
  have wh : ∀ n, Hd n (.tuple [.str "was"]) := fun n => hd1 (by decide +kernel) n
  have w0 := is_expr_ok (x := .tuple [.str "was"]) (w := 0) (by decide +kernel) false (wh 4) st2
  have w1 := is_expr_ok (x := .tuple [.str "was"]) (w := 0) (by decide +kernel) true (wh 4) st2
  rw [show isX false 0 4 (.tuple [.str "was"]) = false by decide +kernel] at w0
  rw [show isX true 0 4 (.tuple [.str "was"]) = true by decide +kernel] at w1
  have mw : mkTup [.dat (.str "was")] st2 = .ok (.dat (.tuple [.str "was"])) st2 := rfl
  have is1 : isN (.dat (.bool false)) (.dat (.bool false)) st2 = .ok (.dat (.bool true)) st2 := rfl
  have is2 : isN (.dat (.bool true)) (.dat (.bool true)) st2 = .ok (.dat (.bool true)) st2 := rfl
  refine ⟨st2.take 0, ?_⟩
  have fin : giveD (List.length ([] : Sto)) (.dat (.bool true)) st2 = .ok (.dat (.bool true)) (st2.take 0) := rfl
  simp only [F_law, b_law, run1, startE, List.map_cons, List.map_nil, List.length_cons, List.length_nil, List.replicate, List.cons_append, List.nil_append]
  simp only [sSeq_ap, sFor_ap, sSet_ap, m2_ap, mC_ap, aCons_ap, aNil_ap, on1_ap, on2_ap, pure_ap, vr_zero, vr_succ, ct_ap, then_ok, bind_ap, thenS_ok, sthen_nx, mRng1_ap, dLen_fz, dMin_ap, dMax_ap, ← hc, g1, rng_items, rng_ok, e1]
  simp only [m0, then_ok, thenS_ok, List.set_cons_succ, List.set_cons_zero, sthen_nx, sSeq_ap, sSet_ap, sFor_ap, mC_ap, mK_ap, aCons_ap, aNil_ap, ct_ap, bind_ap, pure_ap, vr_zero, vr_succ, List.cons_append, List.nil_append, i0, ml, mRng1_ap, g2, rng_items, rng_ok, show (5 : Int).toNat = 5 from rfl, lp]
  simp only [sIf_ap, mT_ap, m2_ap, vr_zero, vr_succ, mC_ap, aCons_ap, aNil_ap, ct_ap, then_ok, bind_ap, pure_ap, t1, t2, t3, t4, nn, then_ok, asB_ap, thenS_ok, ite_sm, Bool.false_eq_true, if_false, sNil_ap, sthen_nx, sRet_ap, mAndV_ap, m2_ap, mK_ap, mC_ap, aCons_ap, aNil_ap, ct_ap, bind_ap, pure_ap, mw, List.cons_append, List.nil_append, w0, w1, is1, is2, if_true, ite_em, ite_st, fin_rt, fin]
  exact fin
end K02
set_option Elab.async false
set_option linter.all false
open PySem PySem.W PyProof.Rows
set_option maxRecDepth 100000 in
set_option maxHeartbeats 0 in
theorem PySem.Challenge.cw_rowhaul_k02_what_is_an_expression_holds : PySem.Challenge.rw_rowhaul_k02_what_is_an_expression.Holds := by
  w_on; o_law; k_head; (case hw => w_witness2)
  k_fill
  refine Ev.end_lawN (F := K02.F_law) (k := 30) (x := "script") rfl (by decide) rfl (by rfl) ⟨rfl, by decide, by decide⟩ ?F (fun ns h1 h2 => K02.law_ok ns)
  case F =>
    intro w mg h Y XP G
    have KX := PySem.W.kIn_of Y
    refine ⟨_, KX, fun bs => K02.all_ok ?B ?D⟩
    case B =>
      constructor
      · exact PySem.W.mg_none_of KX G (by k_is)
      · exact PySem.W.mg_none_of KX G (by k_is)
      · exact PySem.W.mg_none_of KX G (by k_is)
      · exact PySem.W.mg_none_of KX G (by k_is)
      · exact PySem.W.mg_none_of KX G (by k_is)
      · exact PySem.W.mg_none_of KX G (by k_is)
      · exact PySem.W.mg_none_of KX G (by k_is)
      · exact PySem.W.mg_none_of KX G (by k_is)
      · exact PySem.W.mg_none_of KX G (by k_is)
      · exact PySem.W.mg_none_of KX G (by k_is)
      · exact PySem.W.mg_none_of KX G (by k_is)
      · exact PySem.W.mg_none_of KX G (by k_is)
      · first | exact Ev.loose_int XP.2 (List.Mem.head _) | exact Ev.loose_int XP.2 (List.Mem.tail _ (List.Mem.head _)) | exact Ev.loose_int XP.2 (List.Mem.tail _ (List.Mem.tail _ (List.Mem.head _))) | exact Ev.loose_int XP.2 (List.Mem.tail _ (List.Mem.tail _ (List.Mem.tail _ (List.Mem.head _)))) | exact Ev.loose_int XP.2 (List.Mem.tail _ (List.Mem.tail _ (List.Mem.tail _ (List.Mem.tail _ (List.Mem.head _))))) | exact Ev.loose_int XP.2 (List.Mem.tail _ (List.Mem.tail _ (List.Mem.tail _ (List.Mem.tail _ (List.Mem.tail _ (List.Mem.head _)))))) | exact Ev.loose_int XP.2 (List.Mem.tail _ (List.Mem.tail _ (List.Mem.tail _ (List.Mem.tail _ (List.Mem.tail _ (List.Mem.tail _ (List.Mem.head _))))))) | exact Ev.loose_int XP.2 (List.Mem.tail _ (List.Mem.tail _ (List.Mem.tail _ (List.Mem.tail _ (List.Mem.tail _ (List.Mem.tail _ (List.Mem.tail _ (List.Mem.head _)))))))) | (refine' Ev.const_int KX G ?qv ?qr; (case qv => k_is); (case qr => exact ⟨_, rfl⟩))
      · first | exact Ev.loose_int XP.2 (List.Mem.head _) | exact Ev.loose_int XP.2 (List.Mem.tail _ (List.Mem.head _)) | exact Ev.loose_int XP.2 (List.Mem.tail _ (List.Mem.tail _ (List.Mem.head _))) | exact Ev.loose_int XP.2 (List.Mem.tail _ (List.Mem.tail _ (List.Mem.tail _ (List.Mem.head _)))) | exact Ev.loose_int XP.2 (List.Mem.tail _ (List.Mem.tail _ (List.Mem.tail _ (List.Mem.tail _ (List.Mem.head _))))) | exact Ev.loose_int XP.2 (List.Mem.tail _ (List.Mem.tail _ (List.Mem.tail _ (List.Mem.tail _ (List.Mem.tail _ (List.Mem.head _)))))) | exact Ev.loose_int XP.2 (List.Mem.tail _ (List.Mem.tail _ (List.Mem.tail _ (List.Mem.tail _ (List.Mem.tail _ (List.Mem.tail _ (List.Mem.head _))))))) | exact Ev.loose_int XP.2 (List.Mem.tail _ (List.Mem.tail _ (List.Mem.tail _ (List.Mem.tail _ (List.Mem.tail _ (List.Mem.tail _ (List.Mem.tail _ (List.Mem.head _)))))))) | (refine' Ev.const_int KX G ?qv ?qr; (case qv => k_is); (case qr => exact ⟨_, rfl⟩))
      · first | exact Ev.loose_int XP.2 (List.Mem.head _) | exact Ev.loose_int XP.2 (List.Mem.tail _ (List.Mem.head _)) | exact Ev.loose_int XP.2 (List.Mem.tail _ (List.Mem.tail _ (List.Mem.head _))) | exact Ev.loose_int XP.2 (List.Mem.tail _ (List.Mem.tail _ (List.Mem.tail _ (List.Mem.head _)))) | exact Ev.loose_int XP.2 (List.Mem.tail _ (List.Mem.tail _ (List.Mem.tail _ (List.Mem.tail _ (List.Mem.head _))))) | exact Ev.loose_int XP.2 (List.Mem.tail _ (List.Mem.tail _ (List.Mem.tail _ (List.Mem.tail _ (List.Mem.tail _ (List.Mem.head _)))))) | exact Ev.loose_int XP.2 (List.Mem.tail _ (List.Mem.tail _ (List.Mem.tail _ (List.Mem.tail _ (List.Mem.tail _ (List.Mem.tail _ (List.Mem.head _))))))) | exact Ev.loose_int XP.2 (List.Mem.tail _ (List.Mem.tail _ (List.Mem.tail _ (List.Mem.tail _ (List.Mem.tail _ (List.Mem.tail _ (List.Mem.tail _ (List.Mem.head _)))))))) | (refine' Ev.const_int KX G ?qv ?qr; (case qv => k_is); (case qr => exact ⟨_, rfl⟩))
      · first | exact Ev.loose_int XP.2 (List.Mem.head _) | exact Ev.loose_int XP.2 (List.Mem.tail _ (List.Mem.head _)) | exact Ev.loose_int XP.2 (List.Mem.tail _ (List.Mem.tail _ (List.Mem.head _))) | exact Ev.loose_int XP.2 (List.Mem.tail _ (List.Mem.tail _ (List.Mem.tail _ (List.Mem.head _)))) | exact Ev.loose_int XP.2 (List.Mem.tail _ (List.Mem.tail _ (List.Mem.tail _ (List.Mem.tail _ (List.Mem.head _))))) | exact Ev.loose_int XP.2 (List.Mem.tail _ (List.Mem.tail _ (List.Mem.tail _ (List.Mem.tail _ (List.Mem.tail _ (List.Mem.head _)))))) | exact Ev.loose_int XP.2 (List.Mem.tail _ (List.Mem.tail _ (List.Mem.tail _ (List.Mem.tail _ (List.Mem.tail _ (List.Mem.tail _ (List.Mem.head _))))))) | exact Ev.loose_int XP.2 (List.Mem.tail _ (List.Mem.tail _ (List.Mem.tail _ (List.Mem.tail _ (List.Mem.tail _ (List.Mem.tail _ (List.Mem.tail _ (List.Mem.head _)))))))) | (refine' Ev.const_int KX G ?qv ?qr; (case qv => k_is); (case qr => exact ⟨_, rfl⟩))
      · refine' Ev.ktup_mk KX G ?ga ?gl ?gv ?gz ?gf; (case ga => k_is); (case gl => k_is); (case gv => exact (.cons ⟨_, rfl⟩ (.cons ⟨_, rfl⟩ (.cons ⟨_, rfl⟩ (.cons ⟨_, rfl⟩ (.cons ⟨_, rfl⟩ (.cons ⟨_, rfl⟩ (.cons ⟨_, rfl⟩ .nil)))))))); (case gz => first | decide | (rw [PyProof.Rows.sizeLine_eq]; decide) | simp [PySem.sizeLine]); (case gf => rfl)
      · refine' Ev.exn_mk KX G PySem.F.excBase_ValueError ?ga ?xF ?kF ?bF ?tF; (case ga => k_is); (case xF => k_exc); (case kF => k_is); (case bF => k_is); (case tF => k_is)
      · refine' ⟨_, PySem.W.mg_of KX G ?ga, ?gh⟩; (case ga => k_is); (case gh => refine' (Ev.hits_cons (PySem.W.mg_of KX G ?a0) (PySem.W.exm_ref ?b0 ?d0 ?t0 ?s0) (Ev.hits_cons (PySem.W.mg_of KX G ?a1) (PySem.W.exm_ref ?b1 ?d1 ?t1 ?s1) Ev.hits_nil)); (case a0 => k_is); (case b0 => k_is); (case d0 => k_is); (case t0 => k_is); (case s0 => k_is); (case a1 => k_is); (case b1 => k_is); (case d1 => k_is); (case t1 => k_is); (case s1 => k_is))
      · refine' Ev.cls_mk KX G ?ga; (case ga => k_is)
      · refine' Ev.cls_mk KX G ?ga; (case ga => k_is)
      · intro x c b h
        cases c with
        | glob y =>
          unfold K02.isa at h
          dsimp only at h
          by_cases q : x = "NoNumber" ∧ y = "Falls"
          · rw [if_pos q] at h; obtain ⟨rfl, rfl⟩ := q; cases h; refine' Ev.isa_own KX G ?ma ⟨?e1, ?e2, ?e3, ?e4, ?e5, ?e6, ?e7, ?e8⟩ ?mc (Ev.kit_ref ?r1 ?r2 ?r3 ?r4); (case ma => k_is); (case mc => k_is); (case e1 => k_is); (case e2 => k_is); (case e3 => k_is); (case e4 => k_is); (case e5 => k_is); (case e6 => k_is); (case e7 => k_is); (case e8 => k_is); (case r1 => k_is); (case r2 => k_is); (case r3 => k_is); (case r4 => first | exact fun _ => rfl | exact fun z => by cases z | exact fun z => absurd z (by decide))
          rw [if_neg q] at h
          by_cases q : x = "NoNumber" ∧ y = "RowsError"
          · rw [if_pos q] at h; obtain ⟨rfl, rfl⟩ := q; cases h; refine' Ev.isa_own KX G ?ma ⟨?e1, ?e2, ?e3, ?e4, ?e5, ?e6, ?e7, ?e8⟩ ?mc (Ev.kit_ref ?r1 ?r2 ?r3 ?r4); (case ma => k_is); (case mc => k_is); (case e1 => k_is); (case e2 => k_is); (case e3 => k_is); (case e4 => k_is); (case e5 => k_is); (case e6 => k_is); (case e7 => k_is); (case e8 => k_is); (case r1 => k_is); (case r2 => k_is); (case r3 => k_is); (case r4 => first | exact fun _ => rfl | exact fun z => by cases z | exact fun z => absurd z (by decide))
          rw [if_neg q] at h
          by_cases q : x = "RowsError" ∧ y = "Falls"
          · rw [if_pos q] at h; obtain ⟨rfl, rfl⟩ := q; cases h; refine' Ev.isa_own KX G ?ma ⟨?e1, ?e2, ?e3, ?e4, ?e5, ?e6, ?e7, ?e8⟩ ?mc (Ev.kit_ref ?r1 ?r2 ?r3 ?r4); (case ma => k_is); (case mc => k_is); (case e1 => k_is); (case e2 => k_is); (case e3 => k_is); (case e4 => k_is); (case e5 => k_is); (case e6 => k_is); (case e7 => k_is); (case e8 => k_is); (case r1 => k_is); (case r2 => k_is); (case r3 => k_is); (case r4 => first | exact fun _ => rfl | exact fun z => by cases z | exact fun z => absurd z (by decide))
          rw [if_neg q] at h
          by_cases q : x = "RowsError" ∧ y = "RowsError"
          · rw [if_pos q] at h; obtain ⟨rfl, rfl⟩ := q; cases h; refine' Ev.isa_own KX G ?ma ⟨?e1, ?e2, ?e3, ?e4, ?e5, ?e6, ?e7, ?e8⟩ ?mc (Ev.kit_ref ?r1 ?r2 ?r3 ?r4); (case ma => k_is); (case mc => k_is); (case e1 => k_is); (case e2 => k_is); (case e3 => k_is); (case e4 => k_is); (case e5 => k_is); (case e6 => k_is); (case e7 => k_is); (case e8 => k_is); (case r1 => k_is); (case r2 => k_is); (case r3 => k_is); (case r4 => first | exact fun _ => rfl | exact fun z => by cases z | exact fun z => absurd z (by decide))
          rw [if_neg q] at h
          cases h
        | raw t =>
          cases t with
          | ty T =>
            unfold K02.isa at h
            dsimp only at h
            by_cases q : x = "NoNumber" ∧ T = "ValueError"
            · rw [if_pos q] at h; obtain ⟨rfl, rfl⟩ := q; cases h; refine' Ev.isa_ty KX G ?ma ⟨?e1, ?e2, ?e3, ?e4, ?e5, ?e6, ?e7, ?e8⟩ (Ev.kit_type ?r1 ?r3); (case ma => k_is); (case e1 => k_is); (case e2 => k_is); (case e3 => k_is); (case e4 => k_is); (case e5 => k_is); (case e6 => k_is); (case e7 => k_is); (case e8 => k_is); (case r1 => decide +kernel); (case r3 => k_is)
            rw [if_neg q] at h
            by_cases q : x = "RowsError" ∧ T = "ValueError"
            · rw [if_pos q] at h; obtain ⟨rfl, rfl⟩ := q; cases h; refine' Ev.isa_ty KX G ?ma ⟨?e1, ?e2, ?e3, ?e4, ?e5, ?e6, ?e7, ?e8⟩ (Ev.kit_type ?r1 ?r3); (case ma => k_is); (case e1 => k_is); (case e2 => k_is); (case e3 => k_is); (case e4 => k_is); (case e5 => k_is); (case e6 => k_is); (case e7 => k_is); (case e8 => k_is); (case r1 => decide +kernel); (case r3 => k_is)
            rw [if_neg q] at h
            cases h
          | _ => cases h
        | _ => cases h
      · refine' Ev.bn0f (st := K02.s_is_expr) (kn := "carried") KX G ?ga ?gl ?gd ?gr ?gb; (case ga => k_is); (case gl => k_is); (case gd => k_is); (case gr => first | rfl | exact ⟨_, rfl⟩); (case gb => exact fun _ _ _ _ _ _ _ us hl => match us, hl with | [_, _], _ => ⟨_, _, _, _, _, _, rfl, rfl, rfl⟩)
      · refine' Ev.bn1f (st := K02.s_is_expr) KX G ?ga ?gl ?gb; (case ga => k_is); (case gl => k_is); (case gb => exact fun _ _ _ _ _ _ us w hl => match us, hl with | [_, _], _ => rfl)
    case D =>
      constructor
      · refine' Ev.df_mk KX G ?qa ?ql ?qc ?qk (fun _ _ _ _ _ _ us hl => match us, hl with | [_], _ => rfl); (case qa => k_is); (case ql => k_is); (case qc => k_is); (case qk => k_is)
      · refine' Ev.df_mk KX G ?qa ?ql ?qc ?qk (fun _ _ _ _ _ _ us hl => match us, hl with | [_, _, _], _ => rfl); (case qa => k_is); (case ql => k_is); (case qc => k_is); (case qk => k_is)
      · refine' Ev.df_mk KX G ?qa ?ql ?qc ?qk (fun _ _ _ _ _ _ us hl => match us, hl with | [_, _, _], _ => rfl); (case qa => k_is); (case ql => k_is); (case qc => k_is); (case qk => k_is)
      · refine' Ev.df_mk KX G ?qa ?ql ?qc ?qk (fun _ _ _ _ _ _ us hl => match us, hl with | [_], _ => rfl); (case qa => k_is); (case ql => k_is); (case qc => k_is); (case qk => k_is)
      · refine' Ev.df_mk KX G ?qa ?ql ?qc ?qk (fun _ _ _ _ _ _ us hl => match us, hl with | [_, _, _, _], _ => rfl); (case qa => k_is); (case ql => k_is); (case qc => k_is); (case qk => k_is)
      · refine' Ev.dfv_mk KX G ?qa ?ql ?qc ?qk; (case qa => k_is); (case ql => k_is); (case qc => k_is); (case qk => k_is)
      · refine' Ev.df_mk KX G ?qa ?ql ?qc ?qk (fun _ _ _ _ _ _ us hl => match us, hl with | [_, _], _ => rfl); (case qa => k_is); (case ql => k_is); (case qc => k_is); (case qk => k_is)
      · refine' Ev.df_mk KX G ?qa ?ql ?qc ?qk (fun _ _ _ _ _ _ us hl => match us, hl with | [_, _], _ => rfl); (case qa => k_is); (case ql => k_is); (case qc => k_is); (case qk => k_is)
      · refine' Ev.df_mk KX G ?qa ?ql ?qc ?qk (fun _ _ _ _ _ _ us hl => match us, hl with | [_, _, _], _ => rfl); (case qa => k_is); (case ql => k_is); (case qc => k_is); (case qk => k_is)
      · refine' Ev.df_mk KX G ?qa ?ql ?qc ?qk (fun _ _ _ _ _ _ us hl => match us, hl with | [_, _, _, _], _ => rfl); (case qa => k_is); (case ql => k_is); (case qc => k_is); (case qk => k_is)
      · refine' Ev.df_mk KX G ?qa ?ql ?qc ?qk (fun _ _ _ _ _ _ us hl => match us, hl with | [_, _, _, _], _ => rfl); (case qa => k_is); (case ql => k_is); (case qc => k_is); (case qk => k_is)
      · refine' Ev.df_mk KX G ?qa ?ql ?qc ?qk (fun _ _ _ _ _ _ us hl => match us, hl with | [_, _, _], _ => rfl); (case qa => k_is); (case ql => k_is); (case qc => k_is); (case qk => k_is)
      · refine' Ev.df_mk KX G ?qa ?ql ?qc ?qk (fun _ _ _ _ _ _ us hl => match us, hl with | [_, _], _ => rfl); (case qa => k_is); (case ql => k_is); (case qc => k_is); (case qk => k_is)
      · refine' Ev.df_mk KX G ?qa ?ql ?qc ?qk (fun _ _ _ _ _ _ us hl => match us, hl with | [_, _], _ => rfl); (case qa => k_is); (case ql => k_is); (case qc => k_is); (case qk => k_is)
      · refine' Ev.df_mk KX G ?qa ?ql ?qc ?qk (fun _ _ _ _ _ _ us hl => match us, hl with | [_], _ => rfl); (case qa => k_is); (case ql => k_is); (case qc => k_is); (case qk => k_is)
