import PyProof.Rows.All
import Wide.All
import OpenK.AllK
import Wide.FinOn
import HandS.ForMost
import HandS.Walk
import HandS.Wide
import HandS.WideBits
import HandS.Flow
import HandS.IsInst
import HandS.Exc
import HandS.ExcOwn
import HandS.TryOnly
import HandS.WordsExc
import HandS.Lambda
import HandS.TupMul
import HandS.TupAny
import HandS.TupLe
import HandS.EndBits
import HandS.ExcIs
import HandS.ExcField
import HandS.Deep
import HandS.Defaults
import KE.KExcInit
import HandS.ExcInit
import HandS.Codes
import KE.KExcIs
import KE.KExcLine
import KE.GoesEnum
import HandS.Conv
import HandS.Zip
import HandS.Comp
import KE.GoesComp
import KE.KRevSl
import HandS.EndTab
import HandS.NestedK
import KE.GoesMore
import KE.GoesZip
import PySem.Challenge.RW_rowhaul_k06_whole_folds_in_parts
set_option Elab.async false
set_option linter.all false
set_option maxRecDepth 100000
set_option maxHeartbeats 4000000
/-! Ev1: values as data, a store of lists that change, what stands for what in the heap. -/
namespace Ev
open PySem PySem.Spec PyProof.Rows L2

/-! ### data in the heap: nothing of it lies at an address that may change (U) -/
def keyD : Key → PyData
  | .inl i => .int i
  | .inr x => .str x
/-- a list of the module's own top -/
def KL (K : PySem.W.Frag) (a : Addr) (xs : List V) : Prop :=
  ∃ (o : Obj) (its : Array Value) (n : Nat), K.lookup a = some o ∧ o.cls = .type "list" ∧ o.dict = none ∧ o.data = .seq its n ∧ its.size ≤ sizeLine ∧ Vals xs its.toList
def KT (K : PySem.W.Frag) (a : Addr) (xs : List V) : Prop :=
  ∃ (o : Obj) (its : Array Value) (n : Nat), K.lookup a = some o ∧ o.cls = .type "tuple" ∧ o.data = .seq its n ∧ its.size ≤ sizeLine ∧ Vals xs its.toList
def LstAt (K : PySem.W.Frag) (U : Addr → Prop) (H : Hp) (a : Addr) (xs : List V) : Prop := (Rd H a (.lst xs) ∧ ¬ U a) ∨ KL K a xs
def TupAt (K : PySem.W.Frag) (U : Addr → Prop) (H : Hp) (a : Addr) (xs : List V) : Prop := (Rd H a (.tup xs) ∧ ¬ U a) ∨ KT K a xs
mutual
inductive Pd (K : PySem.W.Frag) (U : Addr → Prop) (H : Hp) : V → PyData → Prop
  | non : Pd K U H .non .none
  | bl (b : Bool) : Pd K U H (.bl b) (.bool b)
  | int (i : Int) : Pd K U H (.int i) (.int i)
  | str (x : Str) : Pd K U H (.str x) (.str x)
  | lst {a : Addr} {xs : List V} {ds : List PyData} : H a = some (.lst xs) → ¬ U a → PdA K U H xs ds → Pd K U H (.ref a) (.list ds)
  | tup {a : Addr} {xs : List V} {ds : List PyData} : TupAt K U H a xs → PdA K U H xs ds → Pd K U H (.ref a) (.tuple ds)
  | dct {a : Addr} {kvs : List (Key × V)} {ds : List (PyData × PyData)} : H a = some (.dK kvs) → ¬ U a → PdK K U H kvs ds → Pd K U H (.ref a) (.dict ds)
inductive PdA (K : PySem.W.Frag) (U : Addr → Prop) (H : Hp) : List V → List PyData → Prop
  | nil : PdA K U H [] []
  | cons {v : V} {vs : List V} {d : PyData} {ds : List PyData} : Pd K U H v d → PdA K U H vs ds → PdA K U H (v :: vs) (d :: ds)
inductive PdK (K : PySem.W.Frag) (U : Addr → Prop) (H : Hp) : List (Key × V) → List (PyData × PyData) → Prop
  | nil : PdK K U H [] []
  | cons {k : Key} {v : V} {vs : List (Key × V)} {d : PyData} {ds : List (PyData × PyData)} : Pd K U H v d → PdK K U H vs ds → PdK K U H ((k, v) :: vs) ((keyD k, d) :: ds)
end
section
variable {K : PySem.W.Frag} {U U' : Addr → Prop} {H H' : Hp}
/-- nothing lies there but perhaps a table -/
def Fr (H : Hp) (a : Addr) : Prop := ∀ o, H a = some o → ∃ ps, o = .tbl ps
theorem Fr.none {a : Addr} (h : H a = none) : Fr H a := fun o e => by rw [h] at e; cases e
theorem Fr.no {a : Addr} {o : HO} (f : Fr H a) (h : H a = some o) (nt : ∀ ps, o ≠ .tbl ps) : False := let ⟨ps, e⟩ := f o h; nt ps e
/-- all that may not change stays -/
structure Stays (U U' : Addr → Prop) (H H' : Hp) : Prop where
  keep : ∀ a o, H a = some o → ¬ U a → (∀ ps, o ≠ .tbl ps) → H' a = some o
  own : ∀ a, U' a → U a ∨ Fr H a
  there : ∀ a, Fr H' a → Fr H a
theorem Stays.not {a : Addr} {o : HO} (s : Stays U U' H H') (h : H a = some o) (n : ¬ U a) (nt : ∀ ps, o ≠ .tbl ps) : ¬ U' a := fun z => by
  rcases s.own a z with z | z
  · exact n z
  · exact z.no h nt
theorem LstAt.stays {a : Addr} {xs : List V} (s : Stays U U' H H') (h : LstAt K U H a xs) : LstAt K U' H' a xs := by
  rcases h with ⟨h | ⟨o, h⟩, n⟩ | h
  · exact .inl ⟨.inl (s.keep a _ h n (fun _ z => by cases z)), s.not h n (fun _ z => by cases z)⟩
  · exact .inl ⟨.inr ⟨o, s.keep a _ h n (fun _ z => by cases z)⟩, s.not h n (fun _ z => by cases z)⟩
  · exact .inr h
theorem TupAt.stays {a : Addr} {xs : List V} (s : Stays U U' H H') (h : TupAt K U H a xs) : TupAt K U' H' a xs := by
  rcases h with ⟨h | ⟨o, h⟩, n⟩ | h
  · exact .inl ⟨.inl (s.keep a _ h n (fun _ z => by cases z)), s.not h n (fun _ z => by cases z)⟩
  · exact .inl ⟨.inr ⟨o, s.keep a _ h n (fun _ z => by cases z)⟩, s.not h n (fun _ z => by cases z)⟩
  · exact .inr h
mutual
theorem Pd.stays (s : Stays U U' H H') : ∀ {d : PyData} {v : V}, Pd K U H v d → Pd K U' H' v d
  | _, _, .non => .non
  | _, _, .bl b => .bl b
  | _, _, .int i => .int i
  | _, _, .str x => .str x
  | _, _, .lst h n q => .lst (s.keep _ _ h n (fun _ z => by cases z)) (s.not h n (fun _ z => by cases z)) (PdA.stays s q)
  | _, _, .tup h q => .tup (h.stays s) (PdA.stays s q)
  | _, _, .dct h n q => .dct (s.keep _ _ h n (fun _ z => by cases z)) (s.not h n (fun _ z => by cases z)) (PdK.stays s q)
theorem PdA.stays (s : Stays U U' H H') : ∀ {ds : List PyData} {vs : List V}, PdA K U H vs ds → PdA K U' H' vs ds
  | _, _, .nil => .nil
  | _, _, .cons h q => .cons (Pd.stays s h) (PdA.stays s q)
theorem PdK.stays (s : Stays U U' H H') : ∀ {ds : List (PyData × PyData)} {vs : List (Key × V)}, PdK K U H vs ds → PdK K U' H' vs ds
  | _, _, .nil => .nil
  | _, _, .cons h q => .cons (Pd.stays s h) (PdK.stays s q)
end
theorem Stays.weak (h : ∀ a, U' a → U a) : Stays U U' H H := ⟨fun _ _ e _ _ => e, fun a z => .inl (h a z), fun _ h => h⟩
theorem LstAt.seq {a : Addr} {xs : List V} (h : LstAt K U H a xs) : SqL K H a xs := by
  rcases h with ⟨h, _⟩ | h
  · exact .inl h
  · exact .inr h
theorem TupAt.seq {a : Addr} {xs : List V} (h : TupAt K U H a xs) : SqT K H a xs := by
  rcases h with ⟨h, _⟩ | h
  · exact .inl h
  · exact .inr h
theorem PdA.len : ∀ {ds : List PyData} {vs : List V}, PdA K U H vs ds → vs.length = ds.length
  | _, _, .nil => rfl
  | _, _, .cons _ q => congrArg (· + 1) (PdA.len q)
theorem PdA.at_ : ∀ {ds : List PyData} {vs : List V} {i : Nat} {d : PyData}, PdA K U H vs ds → ds[i]? = some d → ∃ v, vs[i]? = some v ∧ Pd K U H v d
  | _, _, _, _, .nil, e => by simp at e
  | _, _, 0, _, .cons h _, e => by
    simp at e; subst e; exact ⟨_, rfl, h⟩
  | _, _, i + 1, _, .cons _ q, e => by
    obtain ⟨v, h1, h2⟩ := PdA.at_ (i := i) q (by simpa using e)
    exact ⟨v, by simpa using h1, h2⟩
theorem PdA.set {d : PyData} {v : V} (h : Pd K U H v d) : ∀ {ds : List PyData} {vs : List V} (i : Nat), PdA K U H vs ds → PdA K U H (vs.set i v) (ds.set i d)
  | _, _, _, .nil => .nil
  | _, _, 0, .cons _ q => .cons h q
  | _, _, i + 1, .cons p q => .cons p (PdA.set h i q)
theorem PdA.app : ∀ {ds es : List PyData} {vs ws : List V}, PdA K U H vs ds → PdA K U H ws es → PdA K U H (vs ++ ws) (ds ++ es)
  | _, _, _, _, .nil, r => r
  | _, _, _, _, .cons h q, r => .cons h (PdA.app q r)
theorem PdA.take : ∀ {ds : List PyData} {vs : List V} (n : Nat), PdA K U H vs ds → PdA K U H (vs.take n) (ds.take n)
  | _, _, 0, _ => .nil
  | _, _, _ + 1, .nil => .nil
  | _, _, n + 1, .cons h q => .cons h (PdA.take n q)
theorem PdA.drop : ∀ {ds : List PyData} {vs : List V} (n : Nat), PdA K U H vs ds → PdA K U H (vs.drop n) (ds.drop n)
  | _, _, 0, q => q
  | _, _, _ + 1, .nil => .nil
  | _, _, n + 1, .cons _ q => PdA.drop n q
theorem PdA.snoc {d : PyData} {v : V} {ds : List PyData} {vs : List V} (q : PdA K U H vs ds) (h : Pd K U H v d) : PdA K U H (vs ++ [v]) (ds ++ [d]) := q.app (.cons h .nil)
theorem PdA.one {d : PyData} {vs : List V} (q : PdA K U H vs [d]) : ∃ v, vs = [v] ∧ Pd K U H v d := by
  cases q with
  | cons h r => cases r; exact ⟨_, rfl, h⟩
end

/-! ### exceptions -/
/-- an exception: its class by the module's name, its fields -/
structure Exc where
  cls : Str
  flds : List (Str × PyData)
section
variable {K : PySem.W.Frag} {mg : Str → Option Value} {H H1 : Hp}
/-- what stands for an exception: its class's object, its dict -/
def ExcR (K : PySem.W.Frag) (mg : Str → Option Value) (U : Addr → Prop) (H : Hp) (x : Exc) (cls : Value) (dx : Option Addr) : Prop :=
  mg x.cls = some cls ∧ ((x.flds = [] ∧ dx = none) ∨ ∃ d fs, x.flds ≠ [] ∧ dx = some d ∧ ¬ U d ∧ H d = some (.xd fs) ∧ ∀ f y, x.flds.lookup f = some y → ∃ v, fs.lookup f = some v ∧ Pd K U H v y)
theorem ExcR.stays {U U' : Addr → Prop} {x : Exc} {cls : Value} {dx : Option Addr} (s : Stays U U' H H1) (h : ExcR K mg U H x cls dx) : ExcR K mg U' H1 x cls dx := by
  obtain ⟨h1, h⟩ := h
  refine ⟨h1, ?_⟩
  rcases h with h | ⟨d, fs, nf, rfl, n, e, q⟩
  · exact .inl h
  · exact .inr ⟨d, fs, nf, rfl, s.not e n (fun _ z => by cases z), s.keep d _ e n (fun _ z => by cases z), fun f y hy => let ⟨v, a, b⟩ := q f y hy; ⟨v, a, b.stays s⟩⟩
end
/-! ### values, the store -/
inductive Ty where
  | int | bool | str | tuple | list | dict | none
  deriving DecidableEq
def Ty.name : Ty → String
  | .int => "int" | .bool => "bool" | .str => "str" | .tuple => "tuple" | .list => "list" | .dict => "dict" | .none => "NoneType"
inductive D where
  | dat (d : PyData)
  | loc (n : Nat)
  | glob (x : Str)
  /-- a list that nobody changes (the script) -/
  | fz (ds : List PyData)
  /-- a class of Python's own -/
  | ty (t : Ty)
  /-- just this value (a caught error, its classes) -/
  | raw (v : V)
  /-- a caught error: where it lies, its class, its dict -/
  | err (v : V) (cls : Value) (d : Option Addr) (x : Exc)
  /-- the lambda that was handed in -/
  | lam
inductive Cell where
  | lst (xs : List PyData)
  | dead
abbrev Sto := List Cell
/-- where the store's lists lie; the addresses that a running comprehension fills, and those of the tables of code objects -/
structure Rg where
  r : List Addr
  p : List Addr
/-- what is kept beside: the tables of code objects, each with the name that its objects bear; values of a caller's slots, for a lambda; code objects of lambdas, with their names; the lambda handed in -/
class Tbl where
  t : List (Addr × Str)
  c : V → PyData → Prop
  k : Addr → Str → Prop
  l : Option Addr
variable [τ : Tbl]
/-- the addresses that may change -/
def Own (R : Rg) (st : Sto) (a : Addr) : Prop := (∃ (n : Nat) (xs : List PyData), R.r[n]? = some a ∧ st[n]? = some (Cell.lst xs)) ∨ a ∈ R.p
/-- beside the lists -/
structure Fix (K : PySem.W.Frag) (R : Rg) (H : Hp) (st : Sto) : Prop where
  tb : ∀ x ∈ τ.t, x.1 ∈ R.p ∧ LamX.TabS H x.1 x.2
  cp : ∀ v d, τ.c v d → Pd K (Own R st) H v d
  ck : ∀ c q, τ.k c q → H c = some (LamX.CodeO c q) ∧ ¬ Own R st c
/-- something lies there, for good -/
def Tk (H : Hp) (a : Addr) : Prop := ¬ Fr H a ∨ ∃ x ∈ τ.t, x.1 = a
theorem Tk.mono {H H' : Hp} {a : Addr} (e : Fr H' a → Fr H a) (h : Tk H a) : Tk H' a := h.imp (fun n f => n (e f)) id
theorem Tk.of {H : Hp} {a : Addr} {o : HO} (h : H a = some o) (nt : ∀ ps, o ≠ .tbl ps) : Tk H a := .inl fun f => f.no h nt
theorem Fix.non {K : PySem.W.Frag} {R : Rg} {H : Hp} {st : Sto} {a : Addr} (F : Fix K R H st) (h : Tk H a) : H a ≠ none := fun e => by
  rcases h with h | ⟨x, hx, rfl⟩
  · exact h (Fr.none e)
  · obtain ⟨ps, q, _⟩ := (F.tb x hx).2
    rw [q] at e; cases e
/-- a list or a dict lies there -/
def Pv (H : Hp) (a : Addr) : Prop := (∃ vs, H a = some (.lst vs)) ∨ ∃ ks, H a = some (.dK ks)
structure Sim (K : PySem.W.Frag) (R : Rg) (H : Hp) (st : Sto) : Prop where
  len : R.r.length = st.length
  nd : R.r.Nodup
  nr : ∀ a ∈ R.r, a ∉ R.p
  trk : ∀ a, a ∈ R.r ∨ a ∈ R.p → Tk H a
  pl : ∀ a ∈ R.p, (∃ x ∈ τ.t, x.1 = a) ∨ Pv H a
  at_ : ∀ (n : Nat) (a : Addr) (xs : List PyData), R.r[n]? = some a → st[n]? = some (Cell.lst xs) → ∃ vs, H a = some (.lst vs) ∧ PdA K (Own R st) H vs xs
  fx : Fix K R H st
/-- a table stays one, whatever becomes of lists -/
theorem tab_keep {H H' : Hp} {P : Addr} {q : Str} (t : LamX.TabS H P q) (k : ∀ b o, H b = some o → (∀ vs, o ≠ .lst vs) → (∀ ks, o ≠ .dK ks) → H' b = some o) : LamX.TabS H' P q := by
  obtain ⟨ps, h1, h2, h3⟩ := t
  refine ⟨ps, k _ _ h1 (fun vs z => by cases z) (fun vs z => by cases z), h2, fun pos cv hc => ?_⟩
  obtain ⟨c, e1, e2⟩ := h3 pos cv hc
  refine ⟨c, e1, k _ _ e2 (fun vs z => ?_) fun vs z => ?_⟩ <;> (unfold LamX.CodeO at z; cases z)
theorem Fix.on {K : PySem.W.Frag} {R R' : Rg} {H H' : Hp} {st st' : Sto} (F : Fix K R H st) (s : Stays (Own R st) (Own R' st') H H') (hp : ∀ x ∈ τ.t, x.1 ∈ R'.p)
    (k : ∀ b o, H b = some o → (∀ vs, o ≠ .lst vs) → (∀ ks, o ≠ .dK ks) → H' b = some o) : Fix K R' H' st' := by
  refine ⟨fun x hx => ?_, fun v d hx => ?_, fun c q hx => ?_⟩
  · exact ⟨hp x hx, tab_keep (F.tb x hx).2 k⟩
  · exact (F.cp v d hx).stays s
  · obtain ⟨a, b⟩ := F.ck c q hx
    exact ⟨s.keep _ _ a b (fun ps z => by unfold LamX.CodeO at z; cases z), s.not a b (fun ps z => by unfold LamX.CodeO at z; cases z)⟩
structure Ext (R : Rg) (H : Hp) (st : Sto) (R' : Rg) (H' : Hp) (st' : Sto) : Prop where
  pre : ∃ S, R'.r = R.r ++ S ∧ ∀ a ∈ S, Fr H a
  pe : R'.p = R.p
  prv : ∀ a ∈ R.p, ∀ o, H a = some o → (∀ ps, o ≠ .tbl ps) → H' a = some o
  stays : Stays (Own R st) (Own R' st') H H'
section
variable {K : PySem.W.Frag} {mg : Str → Option Value} {R R1 R2 : Rg} {H H1 H2 : Hp} {st st1 st2 : Sto}
theorem Ext.refl : Ext R H st R H st := ⟨⟨[], by simp, fun _ h => by cases h⟩, rfl, fun _ _ _ h _ => h, Stays.weak fun _ h => h⟩
theorem Ext.trans (S1 : Sim K R1 H1 st1) (a : Ext R H st R1 H1 st1) (b : Ext R1 H1 st1 R2 H2 st2) : Ext R H st R2 H2 st2 := by
  obtain ⟨⟨s1, e1, n1⟩, p1, v1, k1⟩ := a
  obtain ⟨⟨s2, e2, n2⟩, p2, v2, k2⟩ := b
  have fresh : ∀ x, Fr H1 x → Fr H x := k1.there
  refine ⟨⟨s1 ++ s2, by rw [e2, e1, List.append_assoc], fun x hx => ?_⟩, p2.trans p1, fun x hx o q n => v2 x (by rw [p1]; exact hx) o (v1 x hx o q n) n, fun x o q hu nt => ?_, fun x z => ?_, fun x h => k1.there x (k2.there x h)⟩
  · rcases List.mem_append.mp hx with h | h
    · exact n1 x h
    · exact fresh x (n2 x h)
  · exact k2.keep x o (k1.keep x o q hu nt) (k1.not q hu nt) nt
  · rcases k2.own x z with z | z
    · exact k1.own x z
    · exact .inr (fresh x z)
theorem Ext.at_ {n : Nat} {a : Addr} (e : Ext R H st R1 H1 st1) (h : R.r[n]? = some a) : R1.r[n]? = some a := by
  obtain ⟨⟨S, e1, _⟩, _⟩ := e
  rw [e1, List.getElem?_append_left (List.getElem?_eq_some_iff.mp h).1]
  exact h

/-- what a value stands for -/
def Dv (K : PySem.W.Frag) (mg : Str → Option Value) (R : Rg) (st : Sto) (H : Hp) (v : V) : D → Prop
  | .dat d => Pd K (Own R st) H v d
  | .loc n => ∃ a, R.r[n]? = some a ∧ v = .ref a
  | .glob x => ∃ a, mg x = some (.ref a) ∧ v = .ref a
  | .fz ds => ∃ a xs, v = .ref a ∧ LstAt K (Own R st) H a xs ∧ PdA K (Own R st) H xs ds
  | .ty t => v = .ty t.name
  | .raw u => v = u
  | .err u cls d x => v = u ∧ ExcR K mg (Own R st) H x cls d
  | .lam => ∃ f, v = .ref f ∧ τ.l = some f
theorem Dv.ext {v : V} {d : D} (e : Ext R H st R1 H1 st1) (h : Dv K mg R st H v d) : Dv K mg R1 st1 H1 v d := by
  cases d with
  | dat d => exact Pd.stays e.stays h
  | loc n => obtain ⟨a, h1, h2⟩ := h; exact ⟨a, e.at_ h1, h2⟩
  | glob x => exact h
  | fz ds => obtain ⟨a, xs, h1, h2, h3⟩ := h; exact ⟨a, xs, h1, h2.stays e.stays, h3.stays e.stays⟩
  | ty t => exact h
  | raw t => exact h
  | err u cls d x => exact ⟨h.1, h.2.stays e.stays⟩
  | lam => exact h
inductive DvA (K : PySem.W.Frag) (mg : Str → Option Value) (R : Rg) (st : Sto) (H : Hp) : List V → List D → Prop
  | nil : DvA K mg R st H [] []
  | cons {v : V} {vs : List V} {d : D} {ds : List D} : Dv K mg R st H v d → DvA K mg R st H vs ds → DvA K mg R st H (v :: vs) (d :: ds)
theorem DvA.ext (e : Ext R H st R1 H1 st1) : ∀ {vs : List V} {ds : List D}, DvA K mg R st H vs ds → DvA K mg R1 st1 H1 vs ds
  | _, _, .nil => .nil
  | _, _, .cons h q => .cons (h.ext e) (DvA.ext e q)
theorem DvA.len : ∀ {vs : List V} {ds : List D}, DvA K mg R st H vs ds → vs.length = ds.length
  | _, _, .nil => rfl
  | _, _, .cons _ q => congrArg (· + 1) (DvA.len q)
theorem DvA.at_ : ∀ {ds : List D} {vs : List V} {i : Nat} {d : D}, DvA K mg R st H vs ds → ds[i]? = some d → ∃ v, vs[i]? = some v ∧ Dv K mg R st H v d
  | _, _, _, _, .nil, e => by simp at e
  | _, _, 0, _, .cons h _, e => by
    simp at e; subst e; exact ⟨_, rfl, h⟩
  | _, _, i + 1, _, .cons _ q, e => by
    obtain ⟨v, h1, h2⟩ := DvA.at_ (i := i) q (by simpa using e)
    exact ⟨v, by simpa using h1, h2⟩

abbrev Env := List (Option D)
structure EnvR (K : PySem.W.Frag) (mg : Str → Option Value) (R : Rg) (st : Sto) (H : Hp) (σ : L2.St) (ρ : Env) : Prop where
  len : σ.length = ρ.length
  at_ : ∀ (i : Nat) (d : D), ρ[i]? = some (some d) → ∃ v, σ[i]? = some (some v) ∧ Dv K mg R st H v d
theorem EnvR.ext {σ : L2.St} {ρ : Env} (e : Ext R H st R1 H1 st1) (h : EnvR K mg R st H σ ρ) : EnvR K mg R1 st1 H1 σ ρ :=
  ⟨h.len, fun i d q => let ⟨v, h1, h2⟩ := h.at_ i d q; ⟨v, h1, h2.ext e⟩⟩
theorem EnvR.set {σ : L2.St} {ρ : Env} {v : V} {d : D} (h : EnvR K mg R st H σ ρ) (i : Nat) (q : Dv K mg R st H v d) : EnvR K mg R st H (σ.set i (some v)) (ρ.set i (some d)) := by
  refine ⟨by simp [h.len], fun j e hj => ?_⟩
  by_cases hij : j = i
  · subst hij
    have hl : j < ρ.length := by
      have := (List.getElem?_eq_some_iff.mp hj).1
      simpa using this
    rw [List.getElem?_set_self hl] at hj
    cases hj
    exact ⟨v, by rw [List.getElem?_set_self (by rw [h.len]; exact hl)], q⟩
  · rw [List.getElem?_set_ne (Ne.symm hij)] at hj ⊢
    exact h.at_ j e hj
theorem EnvR.unset {σ : L2.St} {ρ : Env} (h : EnvR K mg R st H σ ρ) (i : Nat) : EnvR K mg R st H (σ.set i none) (ρ.set i none) := by
  refine ⟨by simp [h.len], fun j e hj => ?_⟩
  by_cases hij : j = i
  · subst hij
    have hl : j < ρ.length := by
      have := (List.getElem?_eq_some_iff.mp hj).1
      simpa using this
    rw [List.getElem?_set_self hl] at hj
    cases hj
  · rw [List.getElem?_set_ne (Ne.symm hij)] at hj ⊢
    exact h.at_ j e hj

/-! ### results -/
inductive Res (α : Type) where
  | ok (a : α) (st : Sto)
  | exc (x : Exc) (st : Sto)
  | bad
abbrev M (α : Type) := Sto → Res α
def M.pure {α : Type} (a : α) : M α := fun st => .ok a st
def M.bind {α β : Type} (m : M α) (f : α → M β) : M β := fun st =>
  match m st with
  | .ok a st' => f a st'
  | .exc x st' => .exc x st'
  | .bad => .bad
def M.bad {α : Type} : M α := fun _ => .bad
abbrev RelT (α β : Type) := Rg → Sto → Hp → β → α → Prop
def Post {α β : Type} (K : PySem.W.Frag) (mg : Str → Option Value) (Rel : RelT α β) (R : Rg) (H : Hp) (st : Sto) (r : Res α) (Q : β → Hp → Prop) (W : XK) : Prop :=
  match r with
  | .ok a st' => ∀ b R' H', Ext R H st R' H' st' → Sim K R' H' st' → Rel R' st' H' b a → Q b H'
  | .exc x st' => ∀ R' H' cls dx, Ext R H st R' H' st' → Sim K R' H' st' → ExcR K mg (Own R' st') H' x cls dx → W cls dx H'
  | .bad => False
section
variable {α β γ δ : Type} {Rel : RelT α β} {Rel2 : RelT γ δ} {W : XK}
theorem Post.shift {r : Res α} {Q : β → Hp → Prop} (S1 : Sim K R1 H1 st1) (e : Ext R H st R1 H1 st1) (h : Post K mg Rel R H st r Q W) : Post K mg Rel R1 H1 st1 r Q W := by
  cases r with
  | ok a st' => exact fun b R' H' e' s' q => h b R' H' (e.trans S1 e') s' q
  | exc x st' => exact fun R' H' cls dx e' s' q => h R' H' cls dx (e.trans S1 e') s' q
  | bad => exact h
theorem Post.bind {m : M α} {f : α → M γ} {Q : δ → Hp → Prop} (h : Post K mg Rel2 R H st (M.bind m f st) Q W) :
    Post K mg Rel R H st (m st) (fun b H1 => ∃ R1 st1 a, Ext R H st R1 H1 st1 ∧ Sim K R1 H1 st1 ∧ Rel R1 st1 H1 b a ∧ Post K mg Rel2 R1 H1 st1 (f a st1) Q W) W := by
  unfold M.bind at h
  cases e : m st with
  | ok a st' =>
    rw [e] at h
    exact fun b R' H' e' s' q => ⟨R', st', a, e', s', q, Post.shift s' e' h⟩
  | exc x st' =>
    rw [e] at h
    exact h
  | bad =>
    rw [e] at h
    exact h
end
end

/-! ### expressions -/
section
variable (K : PySem.W.Frag) (mg : Str → Option Value)
def RelB : RelT Bool Bool := fun _ _ _ b a => b = a
def tM (W : WX) (m : Env → M D) : TE := fun σ H Q => ∃ R ρ st, Sim K R H st ∧ EnvR K mg R st H σ ρ ∧ Post K mg (Dv K mg) R H st (m ρ st) Q (fun c d H' => W c d σ H')
def tMB (W : WX) (m : Env → M Bool) : TT := fun σ H Q => ∃ R ρ st, Sim K R H st ∧ EnvR K mg R st H σ ρ ∧ Post K mg RelB R H st (m ρ st) Q (fun c d H' => W c d σ H')
def tMA (W : WX) (m : Env → M (List D)) : TA := fun σ H Q => ∃ R ρ st, Sim K R H st ∧ EnvR K mg R st H σ ρ ∧ Post K mg (DvA K mg) R H st (m ρ st) Q (fun c d H' => W c d σ H')
end
structure EV (X : Cx) (W : WX) (e : Expr) (m : Env → M D) : Prop where
  pe : PE X e (tM X.K X.mg W m)
structure EVT (X : Cx) (W : WX) (e : Expr) (m : Env → M Bool) : Prop where
  pt : PT X e (tMB X.K X.mg W m)
structure EVW (X : Cx) (W : WX) (e : Expr) (m : Env → M Bool) : Prop where
  pw : PW X e (tMB X.K X.mg W m)
structure EVA (X : Cx) (W : WX) (es : List Expr) (m : Env → M (List D)) : Prop where
  pa : PA X es (tMA X.K X.mg W m)
theorem PE.imp {X : Cx} {e : Expr} {t u : TE} (h : PE X e t) (q : ∀ σ H Q, u σ H Q → t σ H Q) : PE X e u := ⟨fun pins s σ H Q I z => h.run pins s σ H Q I (q σ H Q z)⟩
theorem PT.imp {X : Cx} {e : Expr} {t u : TT} (h : PT X e t) (q : ∀ σ H Q, u σ H Q → t σ H Q) : PT X e u := ⟨fun pins s σ H Q I z => h.run pins s σ H Q I (q σ H Q z)⟩
theorem PW.imp {X : Cx} {e : Expr} {t u : TT} (h : PW X e t) (q : ∀ σ H Q, u σ H Q → t σ H Q) : PW X e u := ⟨fun whole pins s σ H Q I z => h.run whole pins s σ H Q I (q σ H Q z)⟩
theorem PA.imp {X : Cx} {e : List Expr} {t u : TA} (h : PA X e t) (q : ∀ σ H Q, u σ H Q → t σ H Q) : PA X e u := ⟨fun pos pins s σ H Q I z => h.run pos pins s σ H Q I (q σ H Q z)⟩
end Ev
set_option Elab.async false
set_option linter.all false
set_option maxRecDepth 100000
set_option maxHeartbeats 4000000
/-! Ev2: expressions by their functions. -/
namespace Ev
open PySem PySem.Spec PyProof.Rows L2
variable [τ : Tbl]

/-! ### new objects -/
section
variable {K : PySem.W.Frag} {mg : Str → Option Value} {R : Rg} {H : Hp} {st : Sto} {p : Addr} {o : HO}
theorem Sim.fresh (S : Sim K R H st) (h : H p = none) : p ∉ R.r := fun q => S.fx.non (S.trk p (.inl q)) h
theorem Sim.freshP (S : Sim K R H st) (h : H p = none) : p ∉ R.p := fun q => S.fx.non (S.trk p (.inr q)) h
theorem Sim.notOwn (S : Sim K R H st) (h : H p = none) : ¬ Own R st p := fun z => by
  rcases z with ⟨_, _, e, _⟩ | z
  · exact S.fresh h (List.mem_of_getElem? e)
  · exact S.freshP h z
theorem upd_fr {H : Hp} {p a : Addr} {o : HO} (h : H p = none) (f : Fr (upd H p o) a) : Fr H a := by
  by_cases e : a = p
  · rw [e]; exact Fr.none h
  · intro u q
    exact f u (by rw [upd_ne e]; exact q)
theorem upd_frN {H : Hp} {p a : Addr} {o : HO} (no : ∀ ps, o ≠ .tbl ps) (f : Fr (upd H p o) a) : Fr H a := by
  by_cases e : a = p
  · rw [e] at f
    exact (f.no upd_same no).elim
  · intro u q
    exact f u (by rw [upd_ne e]; exact q)
theorem Pv.new {H : Hp} {p a : Addr} {o : HO} (h : H p = none) (q : Pv H a) : Pv (upd H p o) a := by
  have ne : a ≠ p := fun e => by
    rcases q with ⟨vs, q⟩ | ⟨vs, q⟩ <;> rw [e, h] at q <;> cases q
  unfold Pv
  rw [upd_ne ne]
  exact q
theorem Ext.new (h : H p = none) : Ext R H st R (upd H p o) st :=
  ⟨⟨[], by simp, fun _ h => by cases h⟩, rfl, fun a _ u e _ => by rw [upd_ne (ne_of_none e h)]; exact e, ⟨fun a u e _ _ => by rw [upd_ne (ne_of_none e h)]; exact e, fun _ z => .inl z, fun _ z => upd_fr h z⟩⟩
theorem Sim.new (S : Sim K R H st) (h : H p = none) : Sim K R (upd H p o) st := by
  refine ⟨S.len, S.nd, S.nr, fun a ha => ?_, fun a ha => (S.pl a ha).imp id (Pv.new h), fun n a xs h1 h2 => ?_, S.fx.on (Ext.new h).stays (fun x hx => (S.fx.tb x hx).1) fun b o e _ _ => by rw [upd_ne (ne_of_none e h)]; exact e⟩
  · exact (S.trk a ha).mono (upd_fr h)
  · obtain ⟨vs, e, q⟩ := S.at_ n a xs h1 h2
    exact ⟨vs, by rw [upd_ne (ne_of_none e h)]; exact e, q.stays (Ext.new h).stays⟩
theorem Dv.int (i : Int) : Dv K mg R st H (.int i) (.dat (.int i)) := Pd.int i
theorem Dv.bl (i : Bool) : Dv K mg R st H (.bl i) (.dat (.bool i)) := Pd.bl i
theorem Dv.str (i : Str) : Dv K mg R st H (.str i) (.dat (.str i)) := Pd.str i
theorem Dv.non : Dv K mg R st H .non (.dat .none) := Pd.non
theorem Post.okR {α β : Type} {Rel : RelT α β} {a : α} {b : β} {Q : β → Hp → Prop} {W : XK} (S : Sim K R H st) (r : Rel R st H b a) (h : Post K mg Rel R H st (.ok a st) Q W) : Q b H := h b R H .refl S r
theorem Post.okN {α β : Type} {Rel : RelT α β} {a : α} {b : β} {Q : β → Hp → Prop} {W : XK} (S : Sim K R H st) (hp : H p = none) (r : Rel R st (upd H p o) b a) (h : Post K mg Rel R H st (.ok a st) Q W) : Q b (upd H p o) := h b R _ (.new hp) (S.new hp) r
theorem newTup {vs : List V} {ds : List PyData} (S : Sim K R H st) (hp : H p = none) (q : PdA K (Own R st) H vs ds) : Dv K mg R st (upd H p (.tup vs)) (.ref p) (.dat (.tuple ds)) :=
  Pd.tup (.inl ⟨.inl upd_same, S.notOwn hp⟩) (q.stays (Ext.new hp).stays)
theorem newLst {vs : List V} {ds : List PyData} (S : Sim K R H st) (hp : H p = none) (q : PdA K (Own R st) H vs ds) : Dv K mg R st (upd H p (.lst vs)) (.ref p) (.dat (.list ds)) :=
  Pd.lst upd_same (S.notOwn hp) (q.stays (Ext.new hp).stays)

/-- what a value tells as data, now -/
def dataOf (d : D) (st : Sto) : Option PyData :=
  match d with
  | .dat d => some d
  | .loc n => match st[n]? with
    | some (.lst xs) => some (.list xs)
    | _ => none
  | _ => none
abbrev NoU : Addr → Prop := fun _ => False
theorem noStays {U : Addr → Prop} : Stays U NoU H H := Stays.weak fun _ h => h.elim
theorem Dv.data {v : V} {d : D} {x : PyData} (S : Sim K R H st) (h : Dv K mg R st H v d) (e : dataOf d st = some x) : Pd K NoU H v x := by
  cases d with
  | dat y =>
    cases e
    exact Pd.stays noStays h
  | loc n =>
    obtain ⟨a, h1, rfl⟩ := h
    unfold dataOf at e
    simp only at e
    split at e
    · rename_i xs q
      cases e
      obtain ⟨vs, e1, e2⟩ := S.at_ n a xs h1 q
      exact .lst e1 (fun z => z) (e2.stays noStays)
    · cases e
  | glob x => cases e
  | fz ds => cases e
  | ty t => cases e
  | raw t => cases e
  | err _ _ _ _ => cases e
  | lam => cases e
end

/-! ### operations on values, by functions -/
def OpOk (K : PySem.W.Frag) (mg : Str → Option Value) (r : R2) (f : D → D → M D) : Prop :=
  ∀ (R : Rg) (H : Hp) (st : Sto) (v w : V) (d e : D) (Q : VK) (W : XK), Sim K R H st → Dv K mg R st H v d → Dv K mg R st H w e → Post K mg (Dv K mg) R H st (f d e st) Q W → r v w H Q
def UnOk (K : PySem.W.Frag) (mg : Str → Option Value) (r : V → Hp → VK → Prop) (f : D → M D) : Prop :=
  ∀ (R : Rg) (H : Hp) (st : Sto) (v : V) (d : D) (Q : VK) (W : XK), Sim K R H st → Dv K mg R st H v d → Post K mg (Dv K mg) R H st (f d st) Q W → r v H Q
def CallOk (K : PySem.W.Frag) (mg : Str → Option Value) (r : List V → Hp → VK → Prop) (f : List D → M D) : Prop :=
  ∀ (R : Rg) (H : Hp) (st : Sto) (vs : List V) (ds : List D) (Q : VK) (W : XK), Sim K R H st → DvA K mg R st H vs ds → Post K mg (Dv K mg) R H st (f ds st) Q W → r vs H Q
def m2 (f : D → D → M D) (a b : Env → M D) : Env → M D := fun ρ => M.bind (a ρ) fun x => M.bind (b ρ) fun y => f x y
def m1 (f : D → M D) (a : Env → M D) : Env → M D := fun ρ => M.bind (a ρ) f
def mC (f : List D → M D) (a : Env → M (List D)) : Env → M D := fun ρ => M.bind (a ρ) f
def asB : D → M Bool
  | .dat (.bool b) => M.pure b
  | _ => M.bad
def mT (a : Env → M D) : Env → M Bool := fun ρ => M.bind (a ρ) asB

section
variable {X : Cx} {W : WX} {a b c : Expr} {ma mb mc : Env → M D} {pos : Pos}

theorem tM_bind {K : PySem.W.Frag} {mg : Str → Option Value} {m : Env → M D} {f : D → M D} {σ : L2.St} {H : Hp} {Q : VK} (h : tM K mg W (fun ρ => M.bind (m ρ) f) σ H Q) :
    ∃ R ρ st, Sim K R H st ∧ EnvR K mg R st H σ ρ ∧ tM K mg W m σ H (fun v H1 => ∃ R1 st1 d, Ext R H st R1 H1 st1 ∧ Sim K R1 H1 st1 ∧ Dv K mg R1 st1 H1 v d ∧ Post K mg (Dv K mg) R1 H1 st1 (f d st1) Q (fun c d H' => W c d σ H')) := by
  obtain ⟨R, ρ, st, S, E, h⟩ := h
  exact ⟨R, ρ, st, S, E, R, ρ, st, S, E, Post.bind h⟩

theorem tOp_of {r : R2} {f : D → D → M D} (hf : OpOk X.K X.mg r f) {σ : L2.St} {H : Hp} {Q : VK} (h : tM X.K X.mg W (m2 f ma mb) σ H Q) : tOp r (tM X.K X.mg W ma) (tM X.K X.mg W mb) σ H Q := by
  obtain ⟨R, ρ, st, S, E, h⟩ := h
  refine ⟨R, ρ, st, S, E, ?_⟩
  have h1 := Post.bind (Rel := Dv X.K X.mg) (Rel2 := Dv X.K X.mg) h
  cases e1 : ma ρ st with
  | bad => rw [e1] at h1; exact h1
  | exc x st' => rw [e1] at h1; exact h1
  | ok d1 st1 =>
    rw [e1] at h1
    intro v1 R1 H1 x1 S1 D1
    obtain ⟨R1', st1', d1', x1', S1', D1', h2⟩ := h1 v1 R1 H1 x1 S1 D1
    refine ⟨R1', ρ, st1', S1', E.ext x1', ?_⟩
    have h3 := Post.bind (Rel := Dv X.K X.mg) (Rel2 := Dv X.K X.mg) h2
    cases e2 : mb ρ st1' with
    | bad => rw [e2] at h3; exact h3
    | exc x st' => rw [e2] at h3; exact h3
    | ok d2 st2 =>
      rw [e2] at h3
      intro v2 R2 H2 x2 S2 D2
      obtain ⟨R2', st2', d2', x2', S2', D2', h4⟩ := h3 v2 R2 H2 x2 S2 D2
      exact hf R2' H2 st2' v1 v2 d1' d2' Q _ S2' (D1'.ext x2') D2' h4

theorem ev_bin {op : Operator} {r : R2} {f : D → D → M D} (ho : OpR X (binaryOp op) r) (hf : OpOk X.K X.mg r f) (ha : EV X W a ma) (hb : EV X W b mb) : EV X W (.BinOp a op b pos) (m2 f ma mb) :=
  ⟨PE.imp (pe_op ho ha.pe hb.pe) fun _ _ _ h => tOp_of hf h⟩
theorem ev_cmp {op : CmpOp} {r : R2} {f : D → D → M D} (ho : OpR X (compareOp op) r) (hf : OpOk X.K X.mg r f) (hm : behindInMarks op b = false) (ha : EV X W a ma) (hb : EV X W b mb) : EV X W (.Compare a [op] [b] pos) (m2 f ma mb) :=
  ⟨PE.imp (pe_cmpR ho ha.pe hb.pe hm) fun _ _ _ h => tOp_of hf h⟩
theorem ev_ix {r : R2} {f : D → D → M D} (ho : IxR X r) (hf : OpOk X.K X.mg r f) (hs : PlainIx b) (ha : EV X W a ma) (hb : EV X W b mb) : EV X W (.Subscript a b pos) (m2 f ma mb) :=
  ⟨PE.imp (pe_ix ho ha.pe hb.pe hs) fun _ _ _ h => tOp_of hf h⟩
theorem ev_un {op : UnaryOp} {r : V → Hp → VK → Prop} {f : D → M D} (ho : UnR X (unaryOp op) r) (hf : UnOk X.K X.mg r f) (ha : EV X W a ma) : EV X W (.UnaryOp op a pos) (m1 f ma) := by
  refine ⟨PE.imp (pe_un ho ha.pe) fun σ H Q h => ?_⟩
  obtain ⟨R, ρ, st, S, E, h⟩ := h
  refine ⟨R, ρ, st, S, E, ?_⟩
  have h1 := Post.bind (Rel := Dv X.K X.mg) (Rel2 := Dv X.K X.mg) h
  cases e1 : ma ρ st with
  | bad => rw [e1] at h1; exact h1
  | exc x st' => rw [e1] at h1; exact h1
  | ok d1 st1 =>
    rw [e1] at h1
    intro v1 R1 H1 x1 S1 D1
    obtain ⟨R1', st1', d1', x1', S1', D1', h2⟩ := h1 v1 R1 H1 x1 S1 D1
    exact hf R1' H1 st1' v1 d1' Q _ S1' D1' h2

/-! ### names, constants -/
def vr (i : Nat) : Env → M D := fun ρ st =>
  match ρ[i]? with
  | some (some d) => .ok d st
  | _ => .bad
def ct (d : D) : Env → M D := fun _ st => .ok d st
theorem ev_vr (i : Nat) {x : Str} (hN : X.N[i]? = some x := by rfl) (hv : Vis X.env.scope x := by first | exact Or.inl rfl | exact Or.inr (Or.inl rfl) | exact Or.inr (Or.inr rfl)) (hd : (x == ("__debug__" : Str)) = false := by decide)
    (hcd : (x == ("__classdict__" : Str)) = false := by decide) : EV X W (.Name x pos) (vr i) := by
  refine ⟨PE.imp (pe_var hN hv hd hcd) fun σ H Q h => ?_⟩
  obtain ⟨R, ρ, st, S, E, h⟩ := h
  unfold vr at h
  split at h
  · rename_i d e
    obtain ⟨v, h1, h2⟩ := E.at_ i d e
    exact ⟨v, h1, h.okR S h2⟩
  · exact h.elim
theorem tC_of {v : V} {d : D} {σ : L2.St} {H : Hp} {Q : VK} (hd : ∀ R st H, Dv X.K X.mg R st H v d) (h : tM X.K X.mg W (ct d) σ H Q) : tC v σ H Q := by
  obtain ⟨R, ρ, st, S, E, h⟩ := h
  exact h.okR S (hd _ _ _)
theorem ev_int {i : Int} {j : Nat} : EV X W (.Constant (.int i) j pos) (ct (.dat (.int i))) := ⟨PE.imp pe_int fun _ _ _ h => tC_of (fun _ _ _ => Dv.int i) h⟩
theorem ev_bl {i : Bool} {j : Nat} : EV X W (.Constant (.bool i) j pos) (ct (.dat (.bool i))) := ⟨PE.imp pe_bl fun _ _ _ h => tC_of (fun _ _ _ => Dv.bl i) h⟩
theorem ev_non {j : Nat} : EV X W (.Constant .none j pos) (ct (.dat .none)) := ⟨PE.imp pe_non fun _ _ _ h => tC_of (fun _ _ _ => Dv.non) h⟩
theorem ev_str {i : Str} {j : Nat} : EV X W (.Constant (.str i) j pos) (ct (.dat (.str i))) := ⟨PE.imp pe_str fun _ _ _ h => tC_of (fun _ _ _ => Dv.str i) h⟩
/-- a module's int -/
theorem ev_gint {x : Str} {i : Int} {u : Value} (hg : Gl X x) (hm : X.mg x = some u) (r : RelV (.int i) u) (hd : (x == ("__debug__" : Str)) = false := by decide) : EV X W (.Name x pos) (ct (.dat (.int i))) :=
  ⟨PE.imp (pe_glob hg hm r hd) fun _ _ _ h => tC_of (fun _ _ _ => Dv.int i) h⟩

/-! ### tests -/
theorem Post.asB {K : PySem.W.Frag} {mg : Str → Option Value} {R : Rg} {H : Hp} {st : Sto} {d : D} {v : V} {Q : Bool → Hp → Prop} {W : XK} (S : Sim K R H st) (D1 : Dv K mg R st H v d) (h : Post K mg RelB R H st (asB d st) Q W) :
    ∃ k, v = .bl k ∧ d = .dat (.bool k) ∧ Q k H := by
  unfold Ev.asB at h
  split at h
  · rename_i b
    cases D1
    exact ⟨b, rfl, rfl, h.okR S rfl⟩
  · exact h.elim
theorem tTest_of {m : Env → M D} {σ : L2.St} {H : Hp} {Q : Bool → Hp → Prop} (h : tMB X.K X.mg W (mT m) σ H Q) : tM X.K X.mg W m σ H fun x H' => ∃ k, x = .bl k ∧ Q k H' := by
  obtain ⟨R, ρ, st, S, E, h⟩ := h
  refine ⟨R, ρ, st, S, E, ?_⟩
  have h1 := Post.bind (Rel := Dv X.K X.mg) (Rel2 := RelB) h
  cases e1 : m ρ st with
  | bad => rw [e1] at h1; exact h1
  | exc x st' => rw [e1] at h1; exact h1
  | ok d1 st1 =>
    rw [e1] at h1
    intro v1 R1 H1 x1 S1 D1
    obtain ⟨R1', st1', d1', x1', S1', D1', h2⟩ := h1 v1 R1 H1 x1 S1 D1
    obtain ⟨k, e, _, q⟩ := Post.asB S1' D1' h2
    exact ⟨k, e, q⟩
theorem evt_cmp {op : CmpOp} {r : R2} {f : D → D → M D} (ho : OpR X (compareOp op) r) (hf : OpOk X.K X.mg r f) (hm : behindInMarks op b = false) (ha : EV X W a ma) (hb : EV X W b mb) : EVT X W (.Compare a [op] [b] pos) (mT (m2 f ma mb)) :=
  ⟨PT.imp (pt_cmpR ho ha.pe hb.pe hm) fun _ _ _ h => tOp_of hf (tTest_of h)⟩
/-- a name, a call, a subscript that gives True or False -/
theorem evt_tru (ha : EV X W a ma) (he : ∀ whole, isTrue a X.env whole = (do let v ← whole; standAt a.pos; holding [v] (truthy v)) := by intro _; rfl) : EVT X W a (mT ma) := by
  refine ⟨PT.imp (pt_truth ha.pe he) fun σ H Q h => ?_⟩
  obtain ⟨R, ρ, st, S, E, h⟩ := tTest_of h
  refine ⟨R, ρ, st, S, E, ?_⟩
  cases e1 : ma ρ st with
  | bad => rw [e1] at h; exact h
  | exc x st' => rw [e1] at h; exact h
  | ok d1 st1 =>
    rw [e1] at h
    intro v1 R1 H1 x1 S1 D1
    obtain ⟨k, rfl, q⟩ := h v1 R1 H1 x1 S1 D1
    exact ⟨k, rfl, q⟩
def mNot (m : Env → M Bool) : Env → M Bool := fun ρ => M.bind (m ρ) fun b => M.pure !b
def mAnd (m n : Env → M Bool) : Env → M Bool := fun ρ => M.bind (m ρ) fun b => if b = true then n ρ else M.pure false
def mOr (m n : Env → M Bool) : Env → M Bool := fun ρ => M.bind (m ρ) fun b => if b = true then M.pure true else n ρ
variable {ta tb : Env → M Bool} {rest : List Expr}
theorem tB_bind {α : Type} {m : Env → M Bool} {f : Env → Bool → M α} {β : Type} {Rel : RelT α β} {σ : L2.St} {H : Hp} {Q : β → Hp → Prop} {R : Rg} {ρ : Env} {st : Sto} (S : Sim X.K R H st) (E : EnvR X.K X.mg R st H σ ρ)
    (h : Post X.K X.mg Rel R H st (M.bind (m ρ) (f ρ) st) Q (fun c d H' => W c d σ H')) :
    tMB X.K X.mg W m σ H (fun k H1 => ∃ R1 st1, Sim X.K R1 H1 st1 ∧ EnvR X.K X.mg R1 st1 H1 σ ρ ∧ Post X.K X.mg Rel R1 H1 st1 (f ρ k st1) Q (fun c d H' => W c d σ H')) := by
  refine ⟨R, ρ, st, S, E, ?_⟩
  have h1 := Post.bind (Rel := RelB) (Rel2 := Rel) h
  cases e1 : m ρ st with
  | bad => rw [e1] at h1; exact h1
  | exc x st' => rw [e1] at h1; exact h1
  | ok d1 st1 =>
    rw [e1] at h1
    intro v1 R1 H1 x1 S1 D1
    obtain ⟨R1', st1', d1', x1', S1', D1', h2⟩ := h1 v1 R1 H1 x1 S1 D1
    have e : v1 = d1' := D1'
    subst e
    exact ⟨R1', st1', S1', E.ext x1', h2⟩
theorem evt_not (ha : EVT X W a ta) : EVT X W (.UnaryOp .Not a pos) (mNot ta) := by
  refine ⟨PT.imp (pt_not ha.pt) fun σ H Q h => ?_⟩
  obtain ⟨R, ρ, st, S, E, h⟩ := h
  obtain ⟨R0, ρ0, st0, S0, E0, h0⟩ := tB_bind (f := fun _ b => M.pure !b) S E h
  refine ⟨R0, ρ0, st0, S0, E0, ?_⟩
  cases e1 : ta ρ0 st0 with
  | bad => rw [e1] at h0; exact h0
  | exc x st' => rw [e1] at h0; exact h0
  | ok d1 st1 =>
    rw [e1] at h0
    intro v1 R1 H1 x1 S1 D1
    obtain ⟨R1', st1', S1', E1, h2⟩ := h0 v1 R1 H1 x1 S1 D1
    exact h2.okR S1' rfl
theorem Post.monoQ {K : PySem.W.Frag} {mg : Str → Option Value} {α β : Type} {Rel : RelT α β} {R : Rg} {H : Hp} {st : Sto} {r : Res α} {Q Q' : β → Hp → Prop} {W : XK} (h : Post K mg Rel R H st r Q W) (q : ∀ b H, Q b H → Q' b H) : Post K mg Rel R H st r Q' W := by
  cases r with
  | ok a st' => exact fun b R' H' e s z => q _ _ (h b R' H' e s z)
  | exc x st' => exact h
  | bad => exact h
theorem tMB.mono {K : PySem.W.Frag} {mg : Str → Option Value} {m : Env → M Bool} {σ : L2.St} {H : Hp} {Q Q' : Bool → Hp → Prop} (h : tMB K mg W m σ H Q) (q : ∀ b H, Q b H → Q' b H) : tMB K mg W m σ H Q' := by
  obtain ⟨R, ρ, st, S, E, h⟩ := h
  exact ⟨R, ρ, st, S, E, h.monoQ q⟩
theorem tM.mono {K : PySem.W.Frag} {mg : Str → Option Value} {m : Env → M D} {σ : L2.St} {H : Hp} {Q Q' : VK} (h : tM K mg W m σ H Q) (q : ∀ b H, Q b H → Q' b H) : tM K mg W m σ H Q' := by
  obtain ⟨R, ρ, st, S, E, h⟩ := h
  exact ⟨R, ρ, st, S, E, h.monoQ q⟩
theorem evw_and1 (ha : EVT X W a ta) : EVW X W (.BoolOp .And [a] pos) ta := ⟨pw_and1 ha.pt⟩
theorem evw_or1 (ha : EVT X W a ta) : EVW X W (.BoolOp .Or [a] pos) ta := ⟨pw_or1 ha.pt⟩
theorem evw_and (ha : EVT X W a ta) (hb : EVW X W (.BoolOp .And (b :: rest) pos) tb) : EVW X W (.BoolOp .And (a :: b :: rest) pos) (mAnd ta tb) := by
  refine ⟨PW.imp (pw_and ha.pt hb.pw) fun σ H Q h => ?_⟩
  obtain ⟨R, ρ, st, S, E, h⟩ := h
  refine tMB.mono (tB_bind (f := fun ρ b => if b = true then tb ρ else M.pure false) S E h) fun k H1 ⟨R1, st1, S1, E1, h1⟩ => ?_
  cases k with
  | true => exact ⟨R1, ρ, st1, S1, E1, h1⟩
  | false => exact h1.okR S1 rfl
theorem evw_or (ha : EVT X W a ta) (hb : EVW X W (.BoolOp .Or (b :: rest) pos) tb) : EVW X W (.BoolOp .Or (a :: b :: rest) pos) (mOr ta tb) := by
  refine ⟨PW.imp (pw_or ha.pt hb.pw) fun σ H Q h => ?_⟩
  obtain ⟨R, ρ, st, S, E, h⟩ := h
  refine tMB.mono (tB_bind (f := fun ρ b => if b = true then M.pure true else tb ρ) S E h) fun k H1 ⟨R1, st1, S1, E1, h1⟩ => ?_
  cases k with
  | true => exact h1.okR S1 rfl
  | false => exact ⟨R1, ρ, st1, S1, E1, h1⟩
theorem evt_w (h : EVW X W a ta) : EVT X W a ta := ⟨h.pw.pt⟩
/-- a if t else b -/
def mIf (t : Env → M Bool) (m n : Env → M D) : Env → M D := fun ρ => M.bind (t ρ) fun k => if k = true then m ρ else n ρ
theorem ev_if (hc : EVT X W c ta) (ha : EV X W a ma) (hb : EV X W b mb) : EV X W (.IfExp c a b pos) (mIf ta ma mb) := by
  refine ⟨PE.imp (pe_ifExp hc.pt ha.pe hb.pe) fun σ H Q h => ?_⟩
  obtain ⟨R, ρ, st, S, E, h⟩ := h
  refine tMB.mono (tB_bind (f := fun ρ b => if b = true then ma ρ else mb ρ) S E h) fun k H1 ⟨R1, st1, S1, E1, h1⟩ => ?_
  cases k with
  | true => exact ⟨R1, ρ, st1, S1, E1, h1⟩
  | false => exact ⟨R1, ρ, st1, S1, E1, h1⟩

/-! ### and, or, not as values: all but the last True or False -/
def mAndV (m n : Env → M D) : Env → M D := fun ρ => M.bind (m ρ) fun x => M.bind (asB x) fun b => if b = true then n ρ else M.pure (.dat (.bool false))
def mOrV (m n : Env → M D) : Env → M D := fun ρ => M.bind (m ρ) fun x => M.bind (asB x) fun b => if b = true then M.pure (.dat (.bool true)) else n ρ
def mNotV (m : Env → M D) : Env → M D := fun ρ => M.bind (m ρ) fun x => M.bind (asB x) fun b => M.pure (.dat (.bool !b))
theorem tV_bind {m : Env → M D} {f : Env → Bool → M D} {σ : L2.St} {H : Hp} {Q : VK} (h : tM X.K X.mg W (fun ρ => M.bind (m ρ) fun x => M.bind (asB x) (f ρ)) σ H Q) :
    tM X.K X.mg W m σ H (fun v H1 => ∃ k, v = .bl k ∧ ∃ R1 st1 ρ, Sim X.K R1 H1 st1 ∧ EnvR X.K X.mg R1 st1 H1 σ ρ ∧ Post X.K X.mg (Dv X.K X.mg) R1 H1 st1 (f ρ k st1) Q (fun c d H' => W c d σ H')) := by
  obtain ⟨R, ρ, st, S, E, h⟩ := h
  refine ⟨R, ρ, st, S, E, ?_⟩
  have h1 := Post.bind (Rel := Dv X.K X.mg) (Rel2 := Dv X.K X.mg) h
  cases e1 : m ρ st with
  | bad => rw [e1] at h1; exact h1
  | exc x st' => rw [e1] at h1; exact h1
  | ok d1 st1 =>
    rw [e1] at h1
    intro v1 R1 H1 x1 S1 D1
    obtain ⟨R1', st1', d1', x1', S1', D1', h2⟩ := h1 v1 R1 H1 x1 S1 D1
    have h3 := Post.bind (Rel := RelB) (Rel2 := Dv X.K X.mg) h2
    obtain ⟨k, rfl, rfl, R2, st2, a, x2, S2, rb, h4⟩ := Post.asB S1' D1' h3
    have e : k = a := rb
    subst e
    exact ⟨k, rfl, R2, st2, ρ, S2, (E.ext x1').ext x2, h4⟩
theorem ev_one {op : BoolOp} (h : EV X W a ma) : EV X W (.BoolOp op [a] pos) ma := ⟨pe_one h.pe⟩
theorem ev_and (ha : EV X W a ma) (hb : EV X W (.BoolOp .And (b :: rest) pos) mb) : EV X W (.BoolOp .And (a :: b :: rest) pos) (mAndV ma mb) := by
  refine ⟨PE.imp (pe_and ha.pe hb.pe) fun σ H Q h => ?_⟩
  refine tM.mono (tV_bind (f := fun ρ b => if b = true then mb ρ else M.pure (.dat (.bool false))) h) fun v H1 ⟨k, e, R1, st1, ρ, S1, E1, h1⟩ => ⟨k, e, ?_⟩
  cases k with
  | true => exact ⟨R1, ρ, st1, S1, E1, h1⟩
  | false => exact h1.okR S1 (Pd.bl false)
theorem ev_or (ha : EV X W a ma) (hb : EV X W (.BoolOp .Or (b :: rest) pos) mb) : EV X W (.BoolOp .Or (a :: b :: rest) pos) (mOrV ma mb) := by
  refine ⟨PE.imp (pe_or ha.pe hb.pe) fun σ H Q h => ?_⟩
  refine tM.mono (tV_bind (f := fun ρ b => if b = true then M.pure (.dat (.bool true)) else mb ρ) h) fun v H1 ⟨k, e, R1, st1, ρ, S1, E1, h1⟩ => ⟨k, e, ?_⟩
  cases k with
  | true => exact h1.okR S1 (Pd.bl true)
  | false => exact ⟨R1, ρ, st1, S1, E1, h1⟩
theorem ev_not (ha : EV X W a ma) : EV X W (.UnaryOp .Not a pos) (mNotV ma) := by
  refine ⟨PE.imp (pe_not ha.pe) fun σ H Q h => ?_⟩
  refine tM.mono (tV_bind (f := fun ρ b => M.pure (.dat (.bool !b))) h) fun v H1 ⟨k, e, R1, st1, ρ, S1, E1, h1⟩ => ⟨k, e, ?_⟩
  exact h1.okR S1 (Pd.bl (!k))
/-- a op b op' c -/
def mChain (f g : D → D → M D) (ma mb mc : Env → M D) : Env → M D := fun ρ => M.bind (ma ρ) fun x => M.bind (mb ρ) fun y => M.bind (f x y) fun z => M.bind (asB z) fun k => if k = true then M.bind (mc ρ) fun w => g y w else M.pure (.dat (.bool false))
theorem tChain_of {r r' : R2} {f g : D → D → M D} (hf : OpOk X.K X.mg r f) (hg : OpOk X.K X.mg r' g) {σ : L2.St} {H : Hp} {Q : VK} (h : tM X.K X.mg W (mChain f g ma mb mc) σ H Q) : tChain r r' (tM X.K X.mg W ma) (tM X.K X.mg W mb) (tM X.K X.mg W mc) σ H Q := by
  obtain ⟨R, ρ, st, S, E, h⟩ := h
  refine ⟨R, ρ, st, S, E, ?_⟩
  have h1 := Post.bind (Rel := Dv X.K X.mg) (Rel2 := Dv X.K X.mg) h
  refine h1.monoQ ?_
  intro v1 H1 ⟨R1, st1, d1, x1, S1, D1, h2⟩
  refine ⟨R1, ρ, st1, S1, E.ext x1, ?_⟩
  have h3 := Post.bind (Rel := Dv X.K X.mg) (Rel2 := Dv X.K X.mg) h2
  refine h3.monoQ ?_
  intro v2 H2 ⟨R2, st2, d2, x2, S2, D2, h4⟩
  have h5 := Post.bind (Rel := Dv X.K X.mg) (Rel2 := Dv X.K X.mg) h4
  refine hf R2 H2 st2 v1 v2 d1 d2 _ _ S2 (D1.ext x2) D2 (h5.monoQ ?_)
  intro v3 H3 ⟨R3, st3, d3, x3, S3, D3, h6⟩
  have h7 := Post.bind (Rel := RelB) (Rel2 := Dv X.K X.mg) h6
  obtain ⟨k, rfl, rfl, R4, st4, a, x4, S4, rb, h8⟩ := Post.asB S3 D3 h7
  have e : k = a := rb
  subst e
  refine ⟨k, rfl, ?_⟩
  cases k with
  | true =>
    rw [if_pos rfl] at h8 ⊢
    refine ⟨R4, ρ, st4, S4, (((E.ext x1).ext x2).ext x3).ext x4, ?_⟩
    have h9 := Post.bind (Rel := Dv X.K X.mg) (Rel2 := Dv X.K X.mg) h8
    refine h9.monoQ ?_
    intro v5 H5 ⟨R5, st5, d5, x5, S5, D5, h10⟩
    exact hg R5 H5 st5 v2 v5 d2 d5 _ _ S5 (((D2.ext x3).ext x4).ext x5) D5 h10
  | false =>
    rw [if_neg Bool.false_ne_true] at h8 ⊢
    exact h8.okR S4 (Pd.bl false)
theorem ev_chain {op op' : CmpOp} {r r' : R2} {f g : D → D → M D} (ho : OpR X (compareOp op) r) (hf : OpOk X.K X.mg r f) (ho' : OpR X (compareOp op') r') (hg : OpOk X.K X.mg r' g) (hm : lastMarks [op, op'] [b, c] = false) (ha : EV X W a ma) (hb : EV X W b mb) (hc : EV X W c mc) :
    EV X W (.Compare a [op, op'] [b, c] pos) (mChain f g ma mb mc) := ⟨PE.imp (pe_chain ho ho' ha.pe hb.pe hc.pe hm) fun _ _ _ h => tChain_of hf hg h⟩
theorem evt_chain {op op' : CmpOp} {r r' : R2} {f g : D → D → M D} (ho : OpR X (compareOp op) r) (hf : OpOk X.K X.mg r f) (ho' : OpR X (compareOp op') r') (hg : OpOk X.K X.mg r' g) (hm : lastMarks [op, op'] [b, c] = false) (ha : EV X W a ma) (hb : EV X W b mb) (hc : EV X W c mc) :
    EVT X W (.Compare a [op, op'] [b, c] pos) (mT (mChain f g ma mb mc)) := ⟨PT.imp (pt_chain ho ho' ha.pe hb.pe hc.pe hm) fun _ _ _ h => tChain_of hf hg (tTest_of h)⟩

/-! ### argument lists, displays, calls of built-ins -/
def aNil : Env → M (List D) := fun _ => M.pure []
def aCons (m : Env → M D) (r : Env → M (List D)) : Env → M (List D) := fun ρ => M.bind (m ρ) fun x => M.bind (r ρ) fun xs => M.pure (x :: xs)
variable {e : Expr} {es : List Expr} {me : Env → M D} {ms : Env → M (List D)}
theorem ea_nil : EVA X W [] aNil := by
  refine ⟨PA.imp pa_nil fun σ H Q h => ?_⟩
  obtain ⟨R, ρ, st, S, E, h⟩ := h
  exact h.okR S .nil
theorem ea_cons (ha : EV X W e me) (hr : EVA X W es ms) (hs : starEach (e :: es) X.env = (false, eval e X.env) :: starEach es X.env := by rfl) : EVA X W (e :: es) (aCons me ms) := by
  refine ⟨PA.imp (pa_cons ha.pe hr.pa hs) fun σ H Q h => ?_⟩
  obtain ⟨R, ρ, st, S, E, h⟩ := h
  refine ⟨R, ρ, st, S, E, ?_⟩
  have h1 := Post.bind (Rel := Dv X.K X.mg) (Rel2 := DvA X.K X.mg) h
  refine h1.monoQ ?_
  intro v1 H1 ⟨R1, st1, d1, x1, S1, D1, h2⟩
  refine ⟨R1, ρ, st1, S1, E.ext x1, ?_⟩
  have h3 := Post.bind (Rel := DvA X.K X.mg) (Rel2 := DvA X.K X.mg) h2
  refine h3.monoQ ?_
  intro vs H2 ⟨R2, st2, ds, x2, S2, D2, h4⟩
  exact h4.okR S2 (.cons (D1.ext x2) D2)
theorem tA_of {β : Type} {f : List D → M D} {σ : L2.St} {H : Hp} {Q : VK} (h : tM X.K X.mg W (mC f ms) σ H Q) :
    tMA X.K X.mg W ms σ H (fun vs H1 => ∃ R1 st1 ds, Sim X.K R1 H1 st1 ∧ DvA X.K X.mg R1 st1 H1 vs ds ∧ Post X.K X.mg (Dv X.K X.mg) R1 H1 st1 (f ds st1) Q (fun c d H' => W c d σ H')) := by
  obtain ⟨R, ρ, st, S, E, h⟩ := h
  refine ⟨R, ρ, st, S, E, ?_⟩
  have h1 := Post.bind (Rel := DvA X.K X.mg) (Rel2 := Dv X.K X.mg) h
  exact h1.monoQ fun vs H1 ⟨R1, st1, ds, x1, S1, D1, h2⟩ => ⟨R1, st1, ds, S1, D1, h2⟩
theorem ev_callB {x : Str} {p : Pos} {id : String} {r : List V → Hp → VK → Prop} {f : List D → M D} (hc : CallR X (.builtin id) r) (hf : CallOk X.K X.mg r f) (hg : Gl X x) (hm : X.mg x = none) (hv : bootBuiltins x = some (.builtin id)) (ha : EVA X W (e :: es) ms)
    (hn : x ≠ "__name__" := by decide) (hdb : (x == ("__debug__" : Str)) = false := by decide)
    (he : starEach (e :: es) X.env = (false, eval e X.env) :: starEach es X.env := by rfl) (hpl : (backTo pos (starEach es X.env)).any (·.1) = false := by rfl) : EV X W (.Call (.Name x p) (e :: es) [] pos) (mC f ms) := by
  refine ⟨PE.imp (pe_callB hc hg hm hv ha.pa hn hdb he hpl) fun σ H Q h => ?_⟩
  obtain ⟨R, ρ, st, S, E, h⟩ := tA_of (β := V) h
  exact ⟨R, ρ, st, S, E, h.monoQ fun vs H1 ⟨R1, st1, ds, S1, D1, h2⟩ => hf R1 H1 st1 vs ds Q _ S1 D1 h2⟩
theorem ev_callTy {x : Str} {p : Pos} {T : String} {r : List V → Hp → VK → Prop} {f : List D → M D} (hc : CallR X (.type T) r) (hf : CallOk X.K X.mg r f) (hg : Gl X x) (hm : X.mg x = none) (hv : bootBuiltins x = some (.type T)) (ha : EVA X W (e :: es) ms)
    (hn : x ≠ "__name__" := by decide) (hdb : (x == ("__debug__" : Str)) = false := by decide)
    (he : starEach (e :: es) X.env = (false, eval e X.env) :: starEach es X.env := by rfl) (hpl : (backTo pos (starEach es X.env)).any (·.1) = false := by rfl) : EV X W (.Call (.Name x p) (e :: es) [] pos) (mC f ms) := by
  refine ⟨PE.imp (pe_callTy hc hg hm hv ha.pa hn hdb he hpl) fun σ H Q h => ?_⟩
  obtain ⟨R, ρ, st, S, E, h⟩ := tA_of (β := V) h
  exact ⟨R, ρ, st, S, E, h.monoQ fun vs H1 ⟨R1, st1, ds, S1, D1, h2⟩ => hf R1 H1 st1 vs ds Q _ S1 D1 h2⟩
/-- all of them data -/
def datas : List D → Option (List PyData)
  | [] => some []
  | .dat d :: r => (datas r).map (d :: ·)
  | _ :: _ => none
theorem datas_of {K : PySem.W.Frag} {mg : Str → Option Value} {R : Rg} {H : Hp} {st : Sto} : ∀ {ds : List D} {vs : List V} {xs : List PyData}, DvA K mg R st H vs ds → datas ds = some xs → PdA K (Own R st) H vs xs
  | _, _, _, .nil, e => by cases e; exact .nil
  | .dat d :: r, _, _, .cons h q, e => by
    unfold datas at e
    cases z : datas r with
    | none => rw [z] at e; cases e
    | some ys =>
      rw [z] at e
      cases e
      exact .cons h (datas_of q z)
  | .loc _ :: _, _, _, .cons _ _, e => by cases e
  | .glob _ :: _, _, _, .cons _ _, e => by cases e
  | .fz _ :: _, _, _, .cons _ _, e => by cases e
  | .ty _ :: _, _, _, .cons _ _, e => by cases e
  | .raw _ :: _, _, _, .cons _ _, e => by cases e
  | .err _ _ _ _ :: _, _, _, .cons _ _, e => by cases e
def mkTup (ds : List D) : M D := fun st =>
  match datas ds with
  | some xs => if xs.length ≤ 100000 then .ok (.dat (.tuple xs)) st else .bad
  | none => .bad
def mkLst (ds : List D) : M D := fun st =>
  match datas ds with
  | some xs => if xs.length ≤ 100000 then .ok (.dat (.list xs)) st else .bad
  | none => .bad
/-- a list that is to change: it goes into the store -/
def mkLoc (ds : List D) : M D := fun st =>
  match datas ds with
  | some xs => if xs.length ≤ 100000 then .ok (.loc st.length) (st ++ [.lst xs]) else .bad
  | none => .bad
theorem small5 {n : Nat} (h : n ≤ 100000) : n ≤ sizeLine := by rw [sizeLine_eq]; omega
theorem ev_tup {x1} (h : EVA X W es ms) : EV X W (.Tuple es x1 pos) (mC mkTup ms) := by
  refine ⟨PE.imp (pe_tup h.pa) fun σ H Q h => ?_⟩
  obtain ⟨R, ρ, st, S, E, h⟩ := tA_of (β := V) h
  refine ⟨R, ρ, st, S, E, h.monoQ fun vs H1 ⟨R1, st1, ds, S1, D1, h2⟩ => ?_⟩
  unfold mkTup at h2
  split at h2
  · rename_i xs e
    split at h2
    · rename_i hl
      have q := datas_of D1 e
      exact ⟨by rw [q.len]; exact small5 hl, fun p hp => h2.okN S1 hp (newTup S1 hp q)⟩
    · exact h2.elim
  · exact h2.elim
theorem ev_lst (h : EVA X W es ms) : EV X W (.List es pos) (mC mkLst ms) := by
  refine ⟨PE.imp (pe_lst h.pa) fun σ H Q h => ?_⟩
  obtain ⟨R, ρ, st, S, E, h⟩ := tA_of (β := V) h
  refine ⟨R, ρ, st, S, E, h.monoQ fun vs H1 ⟨R1, st1, ds, S1, D1, h2⟩ => ?_⟩
  unfold mkLst at h2
  split at h2
  · rename_i xs e
    split at h2
    · rename_i hl
      have q := datas_of D1 e
      exact ⟨by rw [q.len]; exact small5 hl, fun p hp => h2.okN S1 hp (newLst S1 hp q)⟩
    · exact h2.elim
  · exact h2.elim
end
/-- a new list enters the store -/
def Rg.put (R : Rg) (p : Addr) : Rg := ⟨R.r ++ [p], R.p⟩
theorem ext_loc {K : PySem.W.Frag} {R : Rg} {H : Hp} {st : Sto} {p : Addr} {vs : List V} {xs : List PyData} (S : Sim K R H st) (hp : H p = none) (q : PdA K (Own R st) H vs xs) :
    Ext R H st (R.put p) (upd H p (.lst vs)) (st ++ [.lst xs]) ∧ Sim K (R.put p) (upd H p (.lst vs)) (st ++ [.lst xs]) := by
  have own : ∀ a, Own (R.put p) (st ++ [.lst xs]) a → Own R st a ∨ a = p := by
    rintro a (⟨n, ys, h1, h2⟩ | h)
    · unfold Rg.put at h1
      dsimp only at h1
      by_cases hn : n < R.r.length
      · rw [List.getElem?_append_left hn] at h1
        rw [List.getElem?_append_left (by rw [← S.len]; exact hn)] at h2
        exact .inl (.inl ⟨n, ys, h1, h2⟩)
      · right
        rw [List.getElem?_append_right (by omega)] at h1
        have := List.mem_of_getElem? h1
        simpa using this
    · exact .inl (.inr h)
  have E : Ext R H st (R.put p) (upd H p (.lst vs)) (st ++ [.lst xs]) := by
    refine ⟨⟨[p], rfl, fun a ha => ?_⟩, rfl, fun a _ u e _ => by rw [upd_ne (ne_of_none e hp)]; exact e, ⟨fun a u e _ _ => by rw [upd_ne (ne_of_none e hp)]; exact e, fun a z => ?_, fun _ h => upd_fr hp h⟩⟩
    · have e : a = p := by simpa using ha
      rw [e]; exact Fr.none hp
    · rcases own a z with z | rfl
      · exact .inl z
      · exact .inr (Fr.none hp)
  refine ⟨E, by simp [Rg.put, S.len], ?_, fun a ha => ?_, fun a ha => ?_, fun a ha => (S.pl a ha).imp id (Pv.new hp), fun n a ys h1 h2 => ?_, S.fx.on E.stays (fun x hx => (S.fx.tb x hx).1) fun b o e _ _ => by rw [upd_ne (ne_of_none e hp)]; exact e⟩
  · refine List.nodup_append.mpr ⟨S.nd, by simp, fun a ha b hb => ?_⟩
    have e : b = p := by simpa using hb
    rw [e]
    exact fun z => S.fresh hp (z ▸ ha)
  · rcases List.mem_append.mp ha with h | h
    · exact S.nr a h
    · have e : a = p := by simpa using h
      rw [e]; exact S.freshP hp
  · by_cases e : a = p
    · rw [e]; exact Tk.of upd_same (fun _ z => by cases z)
    · refine (S.trk a ?_).mono (upd_fr hp)
      rcases ha with h | h
      · rcases List.mem_append.mp h with h | h
        · exact .inl h
        · exact absurd (by simpa using h) e
      · exact .inr h
  · unfold Rg.put at h1
    dsimp only at h1
    by_cases hn : n < R.r.length
    · rw [List.getElem?_append_left hn] at h1
      rw [List.getElem?_append_left (by rw [← S.len]; exact hn)] at h2
      obtain ⟨ws, e, w⟩ := S.at_ n a ys h1 h2
      exact ⟨ws, by rw [upd_ne (ne_of_none e hp)]; exact e, w.stays E.stays⟩
    · rw [List.getElem?_append_right (by omega)] at h1
      rw [List.getElem?_append_right (by rw [← S.len]; omega)] at h2
      have e1 : a = p := by
        have := List.mem_of_getElem? h1
        simpa using this
      have e2 : Cell.lst ys = Cell.lst xs := by
        have := List.mem_of_getElem? h2
        simpa using this
      cases e2
      exact ⟨vs, by rw [e1, upd_same], q.stays E.stays⟩
theorem put_at {K : PySem.W.Frag} {R : Rg} {H : Hp} {st : Sto} {p : Addr} (S : Sim K R H st) : (R.put p).r[st.length]? = some p := by
  unfold Rg.put
  rw [← S.len, List.getElem?_append_right (Nat.le_refl _), Nat.sub_self]
  rfl
section
variable {X : Cx} {W : WX} {pos : Pos} {es : List Expr} {ms : Env → M (List D)}
theorem ev_loc (h : EVA X W es ms) : EV X W (.List es pos) (mC mkLoc ms) := by
  refine ⟨PE.imp (pe_lst h.pa) fun σ H Q h => ?_⟩
  obtain ⟨R, ρ, st, S, E, h⟩ := tA_of (β := V) h
  refine ⟨R, ρ, st, S, E, h.monoQ fun vs H1 ⟨R1, st1, ds, S1, D1, h2⟩ => ?_⟩
  unfold mkLoc at h2
  split at h2
  · rename_i xs e
    split at h2
    · rename_i hl
      have q := datas_of D1 e
      refine ⟨by rw [q.len]; exact small5 hl, fun p hp => ?_⟩
      obtain ⟨x2, S2⟩ := ext_loc S1 hp q
      exact h2 _ _ _ x2 S2 ⟨p, put_at S1, rfl⟩
    · exact h2.elim
  · exact h2.elim
end
end Ev
set_option Elab.async false
set_option linter.all false
set_option maxRecDepth 100000
set_option maxHeartbeats 4000000
/-! EvT: a tuple none or one time. -/
namespace Ev
open PySem PySem.Spec PyProof.Rows L2
theorem mul_same (l : Addr) (its : Array Value) (m : Nat) (dd : Option Addr) (sl : Array (Option Value)) (k : Int) (t : Tok)
    (h0 : (decide (k < -(2 ^ 63)) || decide (k ≥ 2 ^ 63)) = false) (h1 : (its.isEmpty || k == 1) = true) :
    Meets (Builtin.«tuple.__mul__» ⟨[.ref l, .int k t], []⟩) (fun _ R s => s.heap.get? l = some ⟨.type "tuple", dd, .seq its m, sl⟩ ∧ R (.ok (.ret (.ref l))) s) := by
  refine .of_wp fun prog w A R s h => ?_
  obtain ⟨hp, g, d, tk, os⟩ := s
  obtain ⟨hl, h⟩ := h
  have f1 := AutoSeq1.idx_int
  wp_walk using wpAny_loadPart' hl
  repeat (first
    | (refine wpAny_ite_false (decide_eq_false (fun z => by rw [h0] at z; cases z)) ?_
       wp_walk using wpAny_loadPart' hl)
    | (refine wpAny_ite_true (decide_eq_true h1) ?_
       wp_walk using wpAny_loadPart' hl))
  exact ⟨_, rfl, h⟩
theorem mul_none (l : Addr) (its : Array Value) (m : Nat) (dd : Option Addr) (sl : Array (Option Value)) (k : Int) (t : Tok)
    (h0 : (decide (k < -(2 ^ 63)) || decide (k ≥ 2 ^ 63)) = false) (h1 : (its.isEmpty || k == 1) = false) (h2 : (decide (k ≤ 0) || its.isEmpty) = true) :
    Meets (Builtin.«tuple.__mul__» ⟨[.ref l, .int k t], []⟩) (fun _ R s => s.heap.get? l = some ⟨.type "tuple", dd, .seq its m, sl⟩ ∧
      R (.ok (.ret (.ref s.heap.objs.size))) { s with heap := s.heap.push { cls := .type "tuple", data := .seq #[] } }) := by
  refine .of_wp fun prog w A R s h => ?_
  obtain ⟨hp, g, d, tk, os⟩ := s
  obtain ⟨hl, h⟩ := h
  have f1 := AutoSeq1.idx_int
  wp_walk using wpAny_loadPart' hl
  repeat (first
    | (refine wpAny_ite_false (decide_eq_false (fun z => by rw [h0] at z; cases z)) ?_
       wp_walk using wpAny_loadPart' hl)
    | (refine wpAny_ite_false (decide_eq_false (fun z => by rw [h1] at z; cases z)) ?_
       wp_walk using wpAny_loadPart' hl)
    | (refine wpAny_ite_true (decide_eq_true h2) ?_
       wp_walk using wpAny_loadPart' hl))
  exact ⟨_, rfl, h⟩
/-- t * k, whatever k is -/
def rRepA (K : PySem.W.Frag) : R2 := fun x y H Q => ∃ l k xs, x = .ref l ∧ y = .int k ∧ SqT K H l xs ∧ -1000 ≤ k ∧ k ≤ 1000 ∧ xs.length ≤ 1000 ∧
  ((xs = [] ∨ k = 1) → Q (.ref l) H) ∧ (xs ≠ [] → k ≠ 1 → ∀ p, H p = none → Q (.ref p) (upd H p (.tup (List.replicate k.toNat xs).flatten)))
theorem op_repA {X : Cx} : OpR X (binaryOp .Mult) (rRepA X.K) := by
  intro pins s σ H x y v u Q I rx ry h
  obtain ⟨l, k, xs, rfl, rfl, hT, lo, hi9, hz, q1, q2⟩ := h
  by_cases big : xs ≠ [] ∧ 2 ≤ k
  · exact op_repT pins s σ H _ _ v u Q I rx ry ⟨l, k, xs, rfl, rfl, hT, big.1, big.2, hi9, hz, q2 big.1 (by omega)⟩
  cases rx
  obtain ⟨tk, rfl⟩ := ry
  obtain ⟨ws, rv, ⟨⟨c9, dd, d9, sl⟩, hw, hc, n, hd⟩, _⟩ := I.tuple hT
  simp only at hc hd
  subst hc
  subst hd
  have hle : ws.length = xs.length := rv.length.symm
  have c0 : (decide (k < -(2 ^ 63)) || decide (k ≥ 2 ^ 63)) = false := by
    rw [decide_eq_false (by omega : ¬ k < -(2 ^ 63)), decide_eq_false (by omega : ¬ k ≥ 2 ^ 63)] <;> rfl
  by_cases same : xs = [] ∨ k = 1
  · have c1 : (ws.toArray.isEmpty || k == 1) = true := by
      rcases same with e | e
      · have : ws = [] := List.eq_nil_of_length_eq_zero (by rw [hle, e]; rfl)
        rw [this] <;> rfl
      · rw [e, Bool.or_eq_true]
        exact .inr rfl
    refine wpAny_binaryOp_repeat_ref (T := "tuple") (U := "int") (by decide) ⟨_, hw, rfl⟩ (fun z => typeIs_int z k tk) noFill_tuple_mul F.fills_int_mul F.slot_int_rmul repeat_tuple F.slot_int_index.lookup
      (call_meets F.slot_int_rmul (typeIs_int s k tk) F.entry_int_rmul (F.args_int_rmul_2 _ _) (int_rmul_tuple k tk l ws.toArray n dd sl)
        ⟨hw, rfl, ⟨_, hw, rfl⟩, call_meets F.slot_tuple_mul ⟨_, hw, rfl⟩ F.entry_tuple_mul (F.args_tuple_mul_2 _ _) (mul_same l ws.toArray n dd sl k tk c0 c1) ⟨hw, ?_⟩⟩)
    exact ⟨.ref l, H, I, rfl, q1 same⟩
  · have hx : xs ≠ [] := fun e => same (.inl e)
    have hk : k ≠ 1 := fun e => same (.inr e)
    have k0 : k ≤ 0 := by
      by_cases z : 2 ≤ k
      · exact absurd ⟨hx, z⟩ big
      · omega
    have hi : ws.toArray.isEmpty = false := by
      cases ws with
      | nil => exact absurd (List.eq_nil_of_length_eq_zero hle.symm) hx
      | cons a b => rfl
    have c1 : (ws.toArray.isEmpty || k == 1) = false := by
      rw [hi, Bool.false_or]
      exact beq_eq_false_iff_ne.mpr hk
    have c2 : (decide (k ≤ 0) || ws.toArray.isEmpty) = true := by
      rw [decide_eq_true k0] <;> rfl
    refine wpAny_binaryOp_repeat_ref (T := "tuple") (U := "int") (by decide) ⟨_, hw, rfl⟩ (fun z => typeIs_int z k tk) noFill_tuple_mul F.fills_int_mul F.slot_int_rmul repeat_tuple F.slot_int_index.lookup
      (call_meets F.slot_int_rmul (typeIs_int s k tk) F.entry_int_rmul (F.args_int_rmul_2 _ _) (int_rmul_tuple k tk l ws.toArray n dd sl)
        ⟨hw, rfl, ⟨_, hw, rfl⟩, call_meets F.slot_tuple_mul ⟨_, hw, rfl⟩ F.entry_tuple_mul (F.args_tuple_mul_2 _ _) (mul_none l ws.toArray n dd sl k tk c0 c1 c2) ⟨hw, ?_⟩⟩)
    have e0 : (List.replicate k.toNat xs).flatten = [] := by
      rw [show k.toNat = 0 by omega]
      rfl
    have q := q2 hx hk _ (I.hok.fresh (Nat.le_refl _))
    rw [e0] at q
    refine ⟨.ref s.heap.objs.size, _, I.laid (t' := s.toks) (o := .tup []) (fun b ob z => Heap.get?_push_of_some _ z) (Nat.le_refl _) ?_, rfl, q⟩
    exact ⟨by rw [sizeLine_eq]; decide, [], .nil, IsTup.new _ _⟩
end Ev
set_option Elab.async false
set_option linter.all false
set_option maxRecDepth 100000
set_option maxHeartbeats 4000000
/-! Ev3: the operations on data. -/
namespace Ev
open PySem PySem.Spec PyProof.Rows L2
variable [τ : Tbl]

/-! ### reading the heap as data -/
section
variable {K : PySem.W.Frag} {U : Addr → Prop} {H : Hp}
mutual
theorem Pd.dp : ∀ {d : PyData} {v : V}, Pd K U H v d → d.canLay0 = true → Dp K H v d
  | _, _, .non, _ => .non
  | _, _, .bl b, _ => .bl b
  | _, _, .int i, _ => .int i
  | _, _, .str x, _ => .str x
  | _, _, .lst h n q, c => .lst (.inl (.inl h)) (PdA.dp q (by simpa [PyData.canLay0] using c))
  | _, _, .tup h q, c => .tup h.seq (PdA.dp q (by simpa [PyData.canLay0] using c))
  | _, _, .dct _ _ _, c => by simp [PyData.canLay0] at c
theorem PdA.dp : ∀ {ds : List PyData} {vs : List V}, PdA K U H vs ds → PyData.canLayAll0 ds = true → DpAll K H vs ds
  | _, _, .nil, _ => .nil
  | _, _, .cons h q, c => by
    simp only [PyData.canLayAll0, Bool.and_eq_true] at c
    exact .cons (Pd.dp h c.1) (PdA.dp q c.2)
end
end
mutual
/-- no list stands in it -/
def noList : PyData → Bool
  | .none | .bool _ | .int _ | .str _ => true
  | .tuple xs => noListA xs
  | .list _ => false
  | .dict kvs => noListK kvs
def noListA : List PyData → Bool
  | [] => true
  | x :: r => noList x && noListA r
def noListK : List (PyData × PyData) → Bool
  | [] => true
  | (_, v) :: r => noList v && noListK r
end
def bigLine : Nat := 16000000
def reprOk (d : PyData) : Bool := d.showable && decide (d.depth ≤ 64) && decide (d.shown.length ≤ bigLine)

section
variable {X : Cx} {pins : List (Addr × Obj)} {σ : L2.St} {H : Hp} {s : Shared} {U : Addr → Prop}
theorem keyD_reads {h : Heap} {k : Key} {u : Value} (e : keyIs k u = true) : Reads h u (keyD k) [] := by
  rcases keyIs_shape e with ⟨i, t, rfl, rfl⟩ | ⟨x, t, rfl, rfl⟩
  · exact .int i t
  · exact .str x t
mutual
theorem Pd.reads (I : Inv X pins σ H s) (hs : H sysModules = none) : ∀ {d : PyData} {v : V} {u : Value}, Pd X.K U H v d → RelV v u → ∃ as, Reads s.heap u d as ∧ sysModules ∉ as
  | _, _, _, .non, r => by cases r; exact ⟨_, .none, fun z => by cases z⟩
  | _, _, _, .bl b, r => by cases r; exact ⟨_, .bool b, fun z => by cases z⟩
  | _, _, _, .int i, r => by obtain ⟨t, rfl⟩ := r; exact ⟨_, .int i t, fun z => by cases z⟩
  | _, _, _, .str x, r => by obtain ⟨t, rfl⟩ := r; exact ⟨_, .str x t, fun z => by cases z⟩
  | _, _, _, .lst h _ q, r => by
    cases r
    obtain ⟨its, rv, ⟨o, n, ho, hc, _, hd⟩, _⟩ := I.list (.inl (.inl h))
    obtain ⟨as, hr, hn⟩ := PdA.reads I hs q rv
    refine ⟨_, .list ho hc hd (by simpa using hr), fun z => ?_⟩
    simp only [List.mem_cons] at z
    rcases z with z | z
    · rw [← z, hs] at h; cases h
    · exact hn z
  | _, _, _, .tup h q, r => by
    cases r
    obtain ⟨its, rv, ⟨o, ho, hc, n, hd⟩, _⟩ := I.tuple h.seq
    obtain ⟨as, hr, hn⟩ := PdA.reads I hs q rv
    exact ⟨_, .tuple ho hc hd (by simpa using hr), hn⟩
  | _, _, _, .dct h _ q, r => by
    cases r
    obtain ⟨_, hS, vs, rv, o, es, ep, ho, hx, hd, _, hp, _⟩ := (show ObjOk X.prog X.w H s.heap _ (.dK _) from I.hok _ _ h)
    obtain ⟨as, hk, hv, c'⟩ := PdK.reads I hs q rv hp
    refine ⟨_, .dict ho hx.1 hd hk hv, ?_⟩
    have ne : sysModules ≠ _ := fun e => (beq_eq_false_iff_ne.mp hS) e.symm
    intro z
    simp only [List.cons_append, List.nil_append, List.mem_cons] at z
    rcases z with z | z
    · exact ne z
    · exact c' z
theorem PdA.reads (I : Inv X pins σ H s) (hs : H sysModules = none) : ∀ {ds : List PyData} {vs : List V} {us : List Value}, PdA X.K U H vs ds → Vals vs us → ∃ as, ReadsAll s.heap us ds as ∧ sysModules ∉ as
  | _, _, _, .nil, r => by cases r; exact ⟨_, .nil, fun z => by cases z⟩
  | _, _, _, .cons h q, r => by
    cases r with
    | cons r1 r2 =>
      obtain ⟨as, a1, a2⟩ := Pd.reads I hs h r1
      obtain ⟨bs, b1, b2⟩ := PdA.reads I hs q r2
      refine ⟨_, .cons a1 b1, ?_⟩
      exact fun z => (List.mem_append.mp z).elim a2 b2
theorem PdK.reads (I : Inv X pins σ H s) (hs : H sysModules = none) : ∀ {ds : List (PyData × PyData)} {kvs : List (Key × V)} {vs : List (Key × Value)} {es : List DictEntry}, PdK X.K U H kvs ds → KV kvs vs →
    Pairs (mixKind X.prog X.w) es vs → ∃ bs, ReadsAll s.heap (es.map (·.key)) (ds.map (·.1)) [] ∧ ReadsAll s.heap (es.map (·.val)) (ds.map (·.2)) bs ∧ sysModules ∉ bs
  | _, _, _, _, .nil, r, z => by cases r; cases z; exact ⟨_, .nil, .nil, fun z => by cases z⟩
  | _, _, _, _, .cons h q, r, z => by
    cases r with
    | cons r1 r2 =>
      cases z with
      | cons z1 z2 z3 =>
        obtain ⟨bs, a1, a2, a3⟩ := PdK.reads I hs q r2 z3
        obtain ⟨e1, e2⟩ := r1
        obtain ⟨cs, c1, c2⟩ := Pd.reads I hs h e2
        refine ⟨cs ++ bs, ReadsAll.cons (as := []) (bs := []) (keyD_reads (by rw [← e1] at z1; exact z1)) a1, ReadsAll.cons (as := cs) (bs := bs) (by show Reads _ (DictEntry.val _) _ _; rw [z2]; exact c1) a2, ?_⟩
        exact fun z => (List.mem_append.mp z).elim c2 a3
end
end

/-! ### numbers -/
def asInts (f : Int → Int → M D) : D → D → M D
  | .dat (.int i), .dat (.int j) => f i j
  | _, _ => M.bad
def retI (i : Int) : M D := M.pure (.dat (.int i))
def retB (b : Bool) : M D := M.pure (.dat (.bool b))
def guardM (c : Prop) [Decidable c] (m : M D) : M D := if c then m else M.bad
def wideI (i : Int) : Prop := i.natAbs < 2 ^ 4000
instance (i : Int) : Decidable (wideI i) := by unfold wideI; exact inferInstance

section
variable {K : PySem.W.Frag} {mg : Str → Option Value}
theorem okI {R : Rg} {H : Hp} {st : Sto} {v w : V} {d e : D} {Q : VK} {W : XK} {f : Int → Int → M D} (h1 : Dv K mg R st H v d) (h2 : Dv K mg R st H w e) (h : Post K mg (Dv K mg) R H st (asInts f d e st) Q W) :
    ∃ i j, v = .int i ∧ w = .int j ∧ d = .dat (.int i) ∧ e = .dat (.int j) ∧ Post K mg (Dv K mg) R H st (f i j st) Q W := by
  unfold asInts at h
  split at h
  · cases h1
    cases h2
    exact ⟨_, _, rfl, rfl, rfl, rfl, h⟩
  · exact h.elim
theorem okG {R : Rg} {H : Hp} {st : Sto} {Q : VK} {W : XK} {c : Prop} [Decidable c] {m : M D} (h : Post K mg (Dv K mg) R H st (guardM c m st) Q W) : c ∧ Post K mg (Dv K mg) R H st (m st) Q W := by
  unfold guardM at h
  split at h
  · rename_i hc
    exact ⟨hc, h⟩
  · exact h.elim
theorem ok_rI0 {g : Int → Int → Int} : OpOk K mg (rI0 fun i j => .int (g i j)) (asInts fun i j => retI (g i j)) := by
  intro R H st v w d e Q W S h1 h2 h
  obtain ⟨i, j, rfl, rfl, rfl, rfl, h⟩ := okI h1 h2 h
  exact ⟨i, j, rfl, rfl, h.okR S (Dv.int _)⟩
theorem ok_rB0 {g : Int → Int → Bool} : OpOk K mg (rI0 fun i j => .bl (g i j)) (asInts fun i j => retB (g i j)) := by
  intro R H st v w d e Q W S h1 h2 h
  obtain ⟨i, j, rfl, rfl, rfl, rfl, h⟩ := okI h1 h2 h
  exact ⟨i, j, rfl, rfl, h.okR S (Dv.bl _)⟩
theorem ok_rI {C : Int → Int → Prop} {c : Int → Int → Prop} [∀ i j, Decidable (c i j)] {g : Int → Int → Int} (hc : ∀ i j, c i j → C i j) : OpOk K mg (rI C fun i j => .int (g i j)) (asInts fun i j => guardM (c i j) (retI (g i j))) := by
  intro R H st v w d e Q W S h1 h2 h
  obtain ⟨i, j, rfl, rfl, rfl, rfl, h⟩ := okI h1 h2 h
  obtain ⟨z, h⟩ := okG h
  exact ⟨i, j, rfl, rfl, hc i j z, h.okR S (Dv.int _)⟩
end
def dSub : D → D → M D := asInts fun i j => retI (i - j)
def dLt : D → D → M D := asInts fun i j => retB (decide (i < j))
def dLe : D → D → M D := asInts fun i j => retB (decide (i ≤ j))
def dGt : D → D → M D := asInts fun i j => retB (decide (j < i))
def dGe : D → D → M D := asInts fun i j => retB (decide (j ≤ i))
def dMod : D → D → M D := asInts fun i j => guardM (j ≠ 0) (retI (i.fmod j))
def dFdiv : D → D → M D := asInts fun i j => guardM (0 < j ∧ wideI j ∨ j ≠ 0 ∧ j.natAbs < 1073741824) (retI (i.fdiv j))
def dPow : D → D → M D := asInts fun i j => guardM (0 ≤ j ∧ (Builtin.Int.intBits i : Int) * j ≤ 100000) (retI (i ^ j.toNat))
section
variable {X : Cx}
theorem op_mod2 : OpR X (binaryOp .Mod) (rI (fun _ j => j ≠ 0) fun i j => .int (i.fmod j)) := op_modN
theorem op_fdiv2 : OpR X (binaryOp .FloorDiv) (rI (fun _ j => 0 < j ∧ wideI j ∨ j ≠ 0 ∧ j.natAbs < 1073741824) fun i j => .int (i.fdiv j)) := opI fun i j _ _ _ _ _ hc q => by
  rcases hc with ⟨h1, h2⟩ | hc
  · refine floordiv_int (by omega) q (.inl (PyProof.noPylong_of_log2 ?_))
    exact Nat.lt_of_lt_of_le (PySem.Flt.log2_lt_of (by decide : 0 < 4000) h2) (by decide)
  · exact floordiv_int hc.1 q (.inl (PyProof.noPylong_small hc.2))
theorem op_pow2 : OpR X (binaryOp .Pow) (rI (fun i j => 0 ≤ j ∧ (Builtin.Int.intBits i : Int) * j ≤ 100000) fun i j => .int (i ^ j.toNat)) := opI fun i j _ _ _ _ _ hc q =>
  PyProof.Rows.pow_int hc.1 (Int.le_trans hc.2 (by decide)) q
end
def dNeg : D → M D
  | .dat (.int i) => retI (-i)
  | _ => M.bad
theorem ok_neg {K : PySem.W.Frag} {mg : Str → Option Value} : UnOk K mg (rU fun i => .int (-i)) dNeg := by
  intro R H st v d Q W S h1 h
  unfold dNeg at h
  split at h
  · cases h1
    exact ⟨_, rfl, h.okR S (Dv.int _)⟩
  · exact h.elim
/-! ### + and * of numbers, texts, lists, tuples -/
def ifLen (n : Nat) (d : PyData) : M D := if n ≤ 100000 then M.pure (.dat d) else M.bad
/-- two things read as data -/
def asData (f : PyData → PyData → M D) (d e : D) : M D := fun st =>
  match dataOf d st, dataOf e st with
  | some x, some y => f x y st
  | _, _ => .bad
def addD : PyData → PyData → M D
  | .int i, .int j => retI (i + j)
  | .str x, .str y => ifLen (x.length + y.length) (.str (x ++ y))
  | .list xs, .list ys => ifLen (xs.length + ys.length) (.list (xs ++ ys))
  | .tuple xs, .tuple ys => ifLen (xs.length + ys.length) (.tuple (xs ++ ys))
  | _, _ => M.bad
def dAdd : D → D → M D := asData addD
section
variable {K : PySem.W.Frag} {mg : Str → Option Value} {R : Rg} {H : Hp} {st : Sto} {v w : V} {d e : D} {Q : VK} {W : XK}
theorem okL {n : Nat} {x : PyData} (h : Post K mg (Dv K mg) R H st (ifLen n x st) Q W) : n ≤ 100000 ∧ Post K mg (Dv K mg) R H st (.ok (.dat x) st) Q W := by
  unfold ifLen at h
  split at h
  · rename_i z; exact ⟨z, h⟩
  · exact h.elim
theorem okA {f : PyData → PyData → M D} (h : Post K mg (Dv K mg) R H st (asData f d e st) Q W) : ∃ x y, dataOf d st = some x ∧ dataOf e st = some y ∧ Post K mg (Dv K mg) R H st (f x y st) Q W := by
  unfold asData at h
  split at h
  · rename_i x y h1 h2; exact ⟨x, y, h1, h2, h⟩
  · exact h.elim
/-- what is told as data lies as data, unless it is a list of the store -/
theorem Dv.dataT {ds : List PyData} (h : Dv K mg R st H v d) (e : dataOf d st = some (.tuple ds)) : Pd K (Own R st) H v (.tuple ds) := by
  cases d with
  | dat x => cases e; exact h
  | loc n =>
    unfold dataOf at e
    simp only at e
    split at e <;> cases e
  | glob x => cases e
  | fz ds => cases e
  | ty t => cases e
  | raw t => cases e
  | err _ _ _ _ => cases e
  | lam => cases e
/-- a list, told: where it lies, and its items as data that stay -/
theorem Dv.dataL {ds : List PyData} (S : Sim K R H st) (h : Dv K mg R st H v d) (e : dataOf d st = some (.list ds)) : ∃ a vs, v = .ref a ∧ H a = some (.lst vs) ∧ PdA K (Own R st) H vs ds := by
  cases d with
  | dat x =>
    cases e
    cases (show Pd K (Own R st) H v (.list ds) from h) with
    | lst h1 h2 h3 => exact ⟨_, _, rfl, h1, h3⟩
  | loc n =>
    obtain ⟨a, h1, rfl⟩ := h
    unfold dataOf at e
    simp only at e
    split at e
    · rename_i xs q
      cases e
      obtain ⟨vs, e1, e2⟩ := S.at_ n a ds h1 q
      exact ⟨a, vs, rfl, e1, e2⟩
    · cases e
  | glob x => cases e
  | fz ds => cases e
  | ty t => cases e
  | raw t => cases e
  | err _ _ _ _ => cases e
  | lam => cases e
theorem Dv.dataI {i : Int} (h : Dv K mg R st H v d) (e : dataOf d st = some (.int i)) : v = .int i := by
  cases d with
  | dat x => cases e; cases h; rfl
  | loc n =>
    unfold dataOf at e
    simp only at e
    split at e <;> cases e
  | glob x => cases e
  | fz ds => cases e
  | ty t => cases e
  | raw t => cases e
  | err _ _ _ _ => cases e
  | lam => cases e
theorem Dv.dataS {x : Str} (h : Dv K mg R st H v d) (e : dataOf d st = some (.str x)) : v = .str x := by
  cases d with
  | dat x => cases e; cases h; rfl
  | loc n =>
    unfold dataOf at e
    simp only at e
    split at e <;> cases e
  | glob x => cases e
  | fz ds => cases e
  | ty t => cases e
  | raw t => cases e
  | err _ _ _ _ => cases e
  | lam => cases e
end
def rAddAll (K : PySem.W.Frag) : R2 := fun x y H Q => (∃ i j, x = .int i ∧ y = .int j ∧ Q (.int (i + j)) H) ∨ (∃ i j, x = .str i ∧ y = .str j ∧ i.length + j.length ≤ sizeLine ∧ Q (.str (i ++ j)) H) ∨ rCat x y H Q ∨ rCatA K x y H Q
theorem op_addAll {X : Cx} : OpR X (binaryOp .Add) (rAddAll X.K) := (op_add).or (op_add_str.or (op_cat.or op_catA))
theorem ok_addAll {K : PySem.W.Frag} {mg : Str → Option Value} : OpOk K mg (rAddAll K) dAdd := by
  intro R H st v w d e Q W S h1 h2 h
  obtain ⟨x, y, e1, e2, h⟩ := okA h
  unfold addD at h
  split at h
  · have a := h1.dataI e1
    have b := h2.dataI e2
    subst a; subst b
    exact .inl ⟨_, _, rfl, rfl, h.okR S (Dv.int _)⟩
  · have a := h1.dataS e1
    have b := h2.dataS e2
    subst a; subst b
    obtain ⟨z, h⟩ := okL h
    exact .inr (.inl ⟨_, _, rfl, rfl, small5 z, h.okR S (Dv.str _)⟩)
  · obtain ⟨a, vs, rfl, ha, pa⟩ := h1.dataL S e1
    obtain ⟨b, ws, rfl, hb, pb⟩ := h2.dataL S e2
    obtain ⟨z, h⟩ := okL h
    exact .inr (.inr (.inl ⟨a, b, vs, ws, rfl, rfl, ha, hb, small5 (by rw [pa.len, pb.len]; exact z), fun p hp => h.okN S hp (newLst S hp (pa.app pb))⟩))
  · cases h1.dataT e1 with
    | tup ta pa =>
      cases h2.dataT e2 with
      | tup tb pb =>
        obtain ⟨z, h⟩ := okL h
        refine .inr (.inr (.inr ⟨_, _, _, _, rfl, rfl, ta.seq, tb.seq, small5 (by rw [pa.len, pb.len]; exact z), fun q => ?_, fun _ q => ?_, fun _ _ p hp => h.okN S hp (newTup S hp (pa.app pb))⟩))
        · refine h.okR S (Pd.tup tb ?_)
          subst q
          cases pa
          exact pb
        · refine h.okR S (Pd.tup ta ?_)
          subst q
          cases pb
          rw [List.append_nil]
          exact pa
  · exact h.elim
/-- so many times the items -/
def repD (k : Nat) (xs : List PyData) : List PyData := (List.replicate k xs).flatten
theorem PdA.rep {K : PySem.W.Frag} {U : Addr → Prop} {H : Hp} {vs : List V} {ds : List PyData} (q : PdA K U H vs ds) : ∀ k : Nat, PdA K U H (List.replicate k vs).flatten (repD k ds)
  | 0 => .nil
  | k + 1 => by
    unfold repD
    rw [List.replicate_succ, List.replicate_succ, List.flatten_cons, List.flatten_cons]
    exact q.app (PdA.rep q k)
theorem rep_nil : ∀ k : Nat, repD k [] = []
  | 0 => rfl
  | k + 1 => by
    unfold repD
    rw [List.replicate_succ, List.flatten_cons]
    exact rep_nil k
theorem rep_one (xs : List PyData) : repD 1 xs = xs := by
  unfold repD
  simp
def mulD : PyData → PyData → M D
  | .int i, .int j => guardM (wideI i ∧ wideI j) (retI (i * j))
  | .list xs, .int k => guardM (k ≤ 1000 ∧ -1000 ≤ k ∧ xs.length ≤ 100) (M.pure (.dat (.list (repD k.toNat xs))))
  | .tuple xs, .int k => guardM (-1000 ≤ k ∧ k ≤ 1000 ∧ xs.length ≤ 100) (M.pure (.dat (.tuple (repD k.toNat xs))))
  | _, _ => M.bad
def dMul : D → D → M D := asData mulD
def rMulAll (K : PySem.W.Frag) : R2 := fun x y H Q => rI CMulW (fun i j => .int (i * j)) x y H Q ∨ rRep x y H Q ∨ rRepA K x y H Q
theorem op_mulAll {X : Cx} : OpR X (binaryOp .Mult) (rMulAll X.K) := op_mulW.or (op_rep.or op_repA)
theorem ok_mulAll {K : PySem.W.Frag} {mg : Str → Option Value} : OpOk K mg (rMulAll K) dMul := by
  intro R H st v w d e Q W S h1 h2 h
  obtain ⟨x, y, e1, e2, h⟩ := okA h
  unfold mulD at h
  split at h
  · have a := h1.dataI e1
    have b := h2.dataI e2
    subst a; subst b
    obtain ⟨z, h⟩ := okG h
    exact .inl ⟨_, _, rfl, rfl, wide_mul z.1 z.2 (by decide) (by decide) (by decide), h.okR S (Dv.int _)⟩
  · obtain ⟨a, vs, rfl, ha, pa⟩ := h1.dataL S e1
    have b := h2.dataI e2
    subst b
    obtain ⟨⟨z1, z2, z3⟩, h⟩ := okG h
    refine .inr (.inl ⟨a, _, vs, rfl, rfl, ha, by omega, by omega, ?_, fun p hp => h.okN S hp (newLst S hp (pa.rep _))⟩)
    rw [pa.len, sizeLine_eq]
    exact Nat.le_trans (Nat.mul_le_mul z3 (show _ ≤ 1000 by omega)) (by decide)
  · cases h1.dataT e1 with
    | tup ta pa =>
      have b := h2.dataI e2
      subst b
      obtain ⟨⟨z1, z2, z3⟩, h⟩ := okG h
      refine .inr (.inr ⟨_, _, _, rfl, rfl, ta.seq, z1, z2, by rw [pa.len]; omega, fun q => ?_, fun _ _ p hp => h.okN S hp (newTup S hp (pa.rep _))⟩)
      refine h.okR S (Pd.tup ta ?_)
      have e := pa.rep ‹Int›.toNat
      rcases q with rfl | rfl
      · cases pa
        rw [rep_nil] at e ⊢
        exact .nil
      · rw [show repD (1 : Int).toNat _ = _ from rep_one _]
        exact pa
  · exact h.elim

/-! ### == and != -/
/-- two lists of unlike lengths -/
def lenDiff : PyData → PyData → Bool
  | .list xs, .list ys => xs.length != ys.length
  | .tuple xs, .tuple ys => (xs.isEmpty || ys.isEmpty) && xs.length != ys.length
  | _, _ => false
def eqD : PyData → PyData → M D
  | .str x, .str y => retB (decide (x = y))
  | x, y => if SeqAt.shaped x = true ∧ SeqAt.shaped y = true then retB (PyData.eqv x y) else if lenDiff x y = true then retB false else M.bad
def notM (m : M D) : M D := M.bind m fun x => M.bind (asB x) fun b => retB (!b)
def dEq : D → D → M D := asData eqD
def dNe : D → D → M D := asData fun x y => notM (eqD x y)
def rEqLen (K : PySem.W.Frag) (b : Bool) : R2 := fun x y H Q => ∃ l m xs ys, x = .ref l ∧ y = .ref m ∧ SqL K H l xs ∧ SqL K H m ys ∧ xs.length ≠ ys.length ∧ Q (.bl b) H
theorem op_eqLen {X : Cx} (hu : X.A.units + 64 < cLine) : OpR X (compareOp .Eq) (rEqLen X.K false) := by
  intro pins s σ H x y v u Q I rx ry h
  obtain ⟨l, m, xs, ys, rfl, rfl, h1, h2, hn, q⟩ := h
  cases rx
  cases ry
  obtain ⟨us, r1, p1, _⟩ := I.list h1
  obtain ⟨ws, r2, p2, _⟩ := I.list h2
  refine SeqAt.eq_list_lengthsAt p1.isList p2.isList ?_ (by omega) ⟨.bl false, H, I, rfl, q⟩
  rw [List.size_toArray, List.size_toArray, ← r1.length, ← r2.length, bne_iff_ne]
  exact hn
theorem op_neLen {X : Cx} (hu : X.A.units + 64 < cLine) : OpR X (compareOp .NotEq) (rEqLen X.K true) := by
  intro pins s σ H x y v u Q I rx ry h
  obtain ⟨l, m, xs, ys, rfl, rfl, h1, h2, hn, q⟩ := h
  cases rx
  cases ry
  obtain ⟨us, r1, p1, _⟩ := I.list h1
  obtain ⟨ws, r2, p2, _⟩ := I.list h2
  refine SeqAt.RcNeAt.lists_lengths p1.isList p2.isList ?_ (by omega) X.prog X.w _ _ ⟨.bl true, H, I, rfl, q⟩
  rw [List.size_toArray, List.size_toArray, ← r1.length, ← r2.length, bne_iff_ne]
  exact hn
/-- two tuples, one of them empty -/
def rEqTup0 (K : PySem.W.Frag) (b : Bool) : R2 := fun x y H Q => ∃ l m xs ys, x = .ref l ∧ y = .ref m ∧ SqT K H l xs ∧ SqT K H m ys ∧ (xs = [] ∨ ys = []) ∧ xs.length ≠ ys.length ∧ Q (.bl b) H
theorem none_less {α β : Type} {us : List α} {ws : List β} (h : us = [] ∨ ws = []) : min us.toArray.size ws.toArray.size = 0 := by
  rcases h with h | h
  · rw [h]; simp
  · rw [h]; simp
theorem op_eqTup0 {X : Cx} (hu : X.A.units + 64 < cLine) : OpR X (compareOp .Eq) (rEqTup0 X.K false) := by
  intro pins s σ H x y v u Q I rx ry h
  obtain ⟨l, m, xs, ys, rfl, rfl, h1, h2, h0, hn, q⟩ := h
  cases rx
  cases ry
  obtain ⟨us, r1, p1, _⟩ := I.tuple h1
  obtain ⟨ws, r2, p2, _⟩ := I.tuple h2
  have e0 : us = [] ∨ ws = [] := by
    rcases h0 with h0 | h0
    · exact .inl (List.eq_nil_of_length_eq_zero (by rw [← r1.length, h0]; rfl))
    · exact .inr (List.eq_nil_of_length_eq_zero (by rw [← r2.length, h0]; rfl))
  have z := none_less e0
  refine SeqAt.eq_tupleAt (e := fun _ => true) p1 p2 (by omega) (fun j a1 a2 => ?_) ?_
  · have : j < min us.toArray.size ws.toArray.size := Nat.lt_min.mpr ⟨a1, a2⟩
    omega
  · rw [z]
    have : (us.toArray.size == ws.toArray.size) = false := by
      rw [beq_eq_false_iff_ne, List.size_toArray, List.size_toArray, ← r1.length, ← r2.length]
      exact hn
    rw [this]
    exact ⟨.bl false, H, I, rfl, q⟩
theorem op_neTup0 {X : Cx} (hu : X.A.units + 64 < cLine) : OpR X (compareOp .NotEq) (rEqTup0 X.K true) := by
  intro pins s σ H x y v u Q I rx ry h
  obtain ⟨l, m, xs, ys, rfl, rfl, h1, h2, h0, hn, q⟩ := h
  cases rx
  cases ry
  obtain ⟨us, r1, p1, _⟩ := I.tuple h1
  obtain ⟨ws, r2, p2, _⟩ := I.tuple h2
  have e0 : us = [] ∨ ws = [] := by
    rcases h0 with h0 | h0
    · exact .inl (List.eq_nil_of_length_eq_zero (by rw [← r1.length, h0]; rfl))
    · exact .inr (List.eq_nil_of_length_eq_zero (by rw [← r2.length, h0]; rfl))
  have z := none_less e0
  refine SeqAt.RcNeAt.tuples (e := fun _ => true) p1 p2 (by omega) (fun j a1 a2 => ?_) X.prog X.w _ _ ?_
  · have : j < min us.toArray.size ws.toArray.size := Nat.lt_min.mpr ⟨a1, a2⟩
    omega
  · rw [z]
    have : (us.toArray.size == ws.toArray.size) = false := by
      rw [beq_eq_false_iff_ne, List.size_toArray, List.size_toArray, ← r1.length, ← r2.length]
      exact hn
    rw [this]
    exact ⟨.bl true, H, I, rfl, q⟩
def rEqAll (K : PySem.W.Frag) : R2 := fun x y H Q => rEq x y H Q ∨ rEqD K x y H Q ∨ rEqLen K false x y H Q ∨ rEqTup0 K false x y H Q
def rNeAll (K : PySem.W.Frag) : R2 := fun x y H Q => rNe x y H Q ∨ rNeD K x y H Q ∨ rEqLen K true x y H Q ∨ rEqTup0 K true x y H Q
theorem op_eqAll {X : Cx} (hu : X.A.units + 64 < cLine) : OpR X (compareOp .Eq) (rEqAll X.K) := op_eq.or ((op_eqD hu).or ((op_eqLen hu).or (op_eqTup0 hu)))
theorem op_neAll {X : Cx} (hu : X.A.units + 64 < cLine) : OpR X (compareOp .NotEq) (rNeAll X.K) := op_ne.or ((op_neD hu).or ((op_neLen hu).or (op_neTup0 hu)))
theorem eqD_cases {x y : PyData} {st : Sto} {r : Res D} (h : eqD x y st = r) : (∃ a b, x = .str a ∧ y = .str b ∧ r = .ok (.dat (.bool (decide (a = b)))) st) ∨ (SeqAt.shaped x = true ∧ SeqAt.shaped y = true ∧ r = .ok (.dat (.bool (PyData.eqv x y))) st) ∨
    (∃ xs ys, x = .list xs ∧ y = .list ys ∧ xs.length ≠ ys.length ∧ r = .ok (.dat (.bool false)) st) ∨
    (∃ xs ys, x = .tuple xs ∧ y = .tuple ys ∧ (xs = [] ∨ ys = []) ∧ xs.length ≠ ys.length ∧ r = .ok (.dat (.bool false)) st) ∨ r = .bad := by
  subst h
  unfold eqD
  split
  · exact .inl ⟨_, _, rfl, rfl, rfl⟩
  · split
    · rename_i z
      exact .inr (.inl ⟨z.1, z.2, rfl⟩)
    · split
      · rename_i z
        unfold lenDiff at z
        split at z
        · exact .inr (.inr (.inl ⟨_, _, rfl, rfl, by simpa using z, rfl⟩))
        · rw [Bool.and_eq_true, Bool.or_eq_true, List.isEmpty_iff, List.isEmpty_iff, bne_iff_ne] at z
          exact .inr (.inr (.inr (.inl ⟨_, _, rfl, rfl, z.1, z.2, rfl⟩)))
        · cases z
      · exact .inr (.inr (.inr (.inr rfl)))
theorem ok_eqAll {K : PySem.W.Frag} {mg : Str → Option Value} : OpOk K mg (rEqAll K) dEq := by
  intro R H st v w d e Q W S h1 h2 h
  obtain ⟨x, y, e1, e2, h⟩ := okA h
  rcases eqD_cases (x := x) (y := y) (st := st) rfl with ⟨a, b, rfl, rfl, z⟩ | ⟨z1, z2, z⟩ | ⟨xs, ys, rfl, rfl, z0, z⟩ | ⟨xs, ys, rfl, rfl, z1, z0, z⟩ | z
  · rw [z] at h
    have a' := h1.dataS e1
    have b' := h2.dataS e2
    subst a'; subst b'
    refine .inl ⟨rfl, ?_⟩
    have := h.okR S (Dv.bl _)
    simpa using this
  · rw [z] at h
    have p1 := (h1.data S e1).dp (SeqAt.canLay_of_shaped z1)
    have p2 := (h2.data S e2).dp (SeqAt.canLay_of_shaped z2)
    exact .inr (.inl ⟨x, y, p1, p2, z1, z2, h.okR S (Dv.bl _)⟩)
  · rw [z] at h
    obtain ⟨a, vs, rfl, ha, pa⟩ := h1.dataL S e1
    obtain ⟨b, ws, rfl, hb, pb⟩ := h2.dataL S e2
    exact .inr (.inr (.inl ⟨a, b, vs, ws, rfl, rfl, .inl (.inl ha), .inl (.inl hb), by rw [pa.len, pb.len]; exact z0, h.okR S (Dv.bl _)⟩))
  · rw [z] at h
    cases h1.dataT e1 with
    | tup ta pa =>
      cases h2.dataT e2 with
      | tup tb pb =>
        refine .inr (.inr (.inr ⟨_, _, _, _, rfl, rfl, ta.seq, tb.seq, ?_, by rw [pa.len, pb.len]; exact z0, h.okR S (Dv.bl _)⟩))
        rcases z1 with z1 | z1
        · subst z1; cases pa; exact .inl rfl
        · subst z1; cases pb; exact .inr rfl
  · rw [z] at h
    exact h.elim
theorem ok_neAll {K : PySem.W.Frag} {mg : Str → Option Value} : OpOk K mg (rNeAll K) dNe := by
  intro R H st v w d e Q W S h1 h2 h
  obtain ⟨x, y, e1, e2, h⟩ := okA h
  have un : ∀ b : Bool, eqD x y st = .ok (.dat (.bool b)) st → notM (eqD x y) st = .ok (.dat (.bool (!b))) st := fun b z => by
    unfold notM M.bind
    rw [z]
    rfl
  rcases eqD_cases (x := x) (y := y) (st := st) rfl with ⟨a, b, rfl, rfl, z⟩ | ⟨z1, z2, z⟩ | ⟨xs, ys, rfl, rfl, z0, z⟩ | ⟨xs, ys, rfl, rfl, z1, z0, z⟩ | z
  · rw [un _ z] at h
    have a' := h1.dataS e1
    have b' := h2.dataS e2
    subst a'; subst b'
    refine .inl ⟨rfl, ?_⟩
    have := h.okR S (Dv.bl _)
    simpa using this
  · rw [un _ z] at h
    have p1 := (h1.data S e1).dp (SeqAt.canLay_of_shaped z1)
    have p2 := (h2.data S e2).dp (SeqAt.canLay_of_shaped z2)
    exact .inr (.inl ⟨x, y, p1, p2, z1, z2, h.okR S (Dv.bl _)⟩)
  · rw [un _ z] at h
    obtain ⟨a, vs, rfl, ha, pa⟩ := h1.dataL S e1
    obtain ⟨b, ws, rfl, hb, pb⟩ := h2.dataL S e2
    exact .inr (.inr (.inl ⟨a, b, vs, ws, rfl, rfl, .inl (.inl ha), .inl (.inl hb), by rw [pa.len, pb.len]; exact z0, h.okR S (Dv.bl _)⟩))
  · rw [un _ z] at h
    cases h1.dataT e1 with
    | tup ta pa =>
      cases h2.dataT e2 with
      | tup tb pb =>
        refine .inr (.inr (.inr ⟨_, _, _, _, rfl, rfl, ta.seq, tb.seq, ?_, by rw [pa.len, pb.len]; exact z0, h.okR S (Dv.bl _)⟩))
        rcases z1 with z1 | z1
        · subst z1; cases pa; exact .inl rfl
        · subst z1; cases pb; exact .inr rfl
  · have : notM (eqD x y) st = .bad := by
      unfold notM M.bind
      rw [z]
    rw [this] at h
    exact h.elim
/-! ### is None -/
def isN : D → D → M D
  | .dat d, .dat .none => fun st => .ok (.dat (.bool (match d with | .none => true | _ => false))) st
  | .dat (.bool a), .dat (.bool b) => retB (decide (a = b))
  | .loc _, .dat .none => retB false
  | .glob _, .dat .none => retB false
  | _, _ => M.bad
def isNotN (d e : D) : M D := notM (isN d e)
theorem isN_cases {K : PySem.W.Frag} {mg : Str → Option Value} {R : Rg} {H : Hp} {st : Sto} {v w : V} {d e : D} (h1 : Dv K mg R st H v d) (h2 : Dv K mg R st H w e) :
    (w = .non ∧ isN d e st = .ok (.dat (.bool (decide (v = .non)))) st) ∨ (∃ a b : Bool, v = .bl a ∧ w = .bl b ∧ isN d e st = .ok (.dat (.bool (decide (a = b)))) st) ∨ isN d e st = .bad := by
  cases e with
  | dat y =>
    cases y with
    | none =>
      cases h2
      cases d with
      | dat x =>
        refine .inl ⟨rfl, ?_⟩
        cases h1 <;> rfl
      | loc n => obtain ⟨a, _, rfl⟩ := h1; exact .inl ⟨rfl, rfl⟩
      | glob n => obtain ⟨a, _, rfl⟩ := h1; exact .inl ⟨rfl, rfl⟩
      | fz ds => exact .inr (.inr rfl)
      | ty t => exact .inr (.inr rfl)
      | raw t => exact .inr (.inr rfl)
      | err _ _ _ _ => exact .inr (.inr rfl)
      | lam => exact .inr (.inr rfl)
    | bool b =>
      cases h2
      cases d with
      | dat x =>
        cases x with
        | bool a => cases h1; exact .inr (.inl ⟨a, b, rfl, rfl, rfl⟩)
        | _ => exact .inr (.inr rfl)
      | _ => exact .inr (.inr rfl)
    | _ =>
      refine .inr (.inr ?_)
      cases d with
      | dat x => cases x <;> rfl
      | _ => rfl
  | _ =>
    refine .inr (.inr ?_)
    cases d with
    | dat x => cases x <;> rfl
    | _ => rfl
def rIsA : R2 := fun x y H Q => (y = .non ∧ Q (.bl (decide (x = .non))) H) ∨ ∃ a b : Bool, x = .bl a ∧ y = .bl b ∧ Q (.bl (decide (a = b))) H
def rNotA : R2 := fun x y H Q => (y = .non ∧ Q (.bl (!decide (x = .non))) H) ∨ ∃ a b : Bool, x = .bl a ∧ y = .bl b ∧ Q (.bl (!decide (a = b))) H
theorem op_isA {X : Cx} : OpR X (compareOp .Is) rIsA := op_isN.or op_is_bl
theorem op_notA {X : Cx} : OpR X (compareOp .IsNot) rNotA := op_notN.or op_isnot_bl
theorem ok_isN {K : PySem.W.Frag} {mg : Str → Option Value} : OpOk K mg rIsA isN := by
  intro R H st v w d e Q W S h1 h2 h
  rcases isN_cases h1 h2 with ⟨rfl, z⟩ | ⟨a, b, rfl, rfl, z⟩ | z
  · rw [z] at h
    exact .inl ⟨rfl, h.okR S (Dv.bl _)⟩
  · rw [z] at h
    exact .inr ⟨a, b, rfl, rfl, h.okR S (Dv.bl _)⟩
  · rw [z] at h
    exact h.elim
theorem ok_isNotN {K : PySem.W.Frag} {mg : Str → Option Value} : OpOk K mg rNotA isNotN := by
  intro R H st v w d e Q W S h1 h2 h
  rcases isN_cases h1 h2 with ⟨rfl, z⟩ | ⟨a, b, rfl, rfl, z⟩ | z
  · have : isNotN d e st = .ok (.dat (.bool (!decide (v = .non)))) st := by
      unfold isNotN notM M.bind
      rw [z]
      rfl
    rw [this] at h
    exact .inl ⟨rfl, h.okR S (Dv.bl _)⟩
  · have : isNotN d e st = .ok (.dat (.bool (!decide (a = b)))) st := by
      unfold isNotN notM M.bind
      rw [z]
      rfl
    rw [this] at h
    exact .inr ⟨a, b, rfl, rfl, h.okR S (Dv.bl _)⟩
  · have : isNotN d e st = .bad := by
      unfold isNotN notM M.bind
      rw [z]
    rw [this] at h
    exact h.elim
/-! ### xs[i] -/
def ixD (i : Int) : PyData → M D
  | .list xs => fun st => match atI xs i with | some d => .ok (.dat d) st | none => .bad
  | .tuple xs => fun st => match atI xs i with | some d => .ok (.dat d) st | none => .bad
  | _ => M.bad
def dIx (d e : D) : M D := fun st =>
  match d, e with
  | .fz xs, .dat (.int i) => match atI xs i with | some d => .ok (.dat d) st | none => .bad
  | d, .dat (.int i) => match dataOf d st with | some x => ixD i x st | none => .bad
  | _, _ => .bad
theorem PdA.atI {K : PySem.W.Frag} {U : Addr → Prop} {H : Hp} {vs : List V} {ds : List PyData} {i : Int} {d : PyData} (q : PdA K U H vs ds) (h : L2.atI ds i = some d) : ∃ v, L2.atI vs i = some v ∧ Pd K U H v d := by
  unfold L2.atI at h ⊢
  rw [q.len]
  cases e : ixN ds.length i with
  | none => rw [e] at h; cases h
  | some j => rw [e] at h; exact q.at_ h
theorem ok_ix {K : PySem.W.Frag} {mg : Str → Option Value} : OpOk K mg (rIx K) dIx := by
  intro R H st v w d e Q W S h1 h2 h
  unfold dIx at h
  split at h
  · obtain ⟨a, xs, rfl, hl, pa⟩ := h1
    cases h2
    split at h
    · rename_i z
      obtain ⟨u, z2, pu⟩ := pa.atI z
      exact .inl ⟨a, xs, _, u, rfl, rfl, hl.seq, z2, h.okR S pu⟩
    · exact h.elim
  · cases h2
    split at h
    · rename_i x z
      cases x with
      | list ys =>
        obtain ⟨a, vs, rfl, ha, pa⟩ := h1.dataL S z
        simp only [ixD] at h
        split at h
        · rename_i z
          obtain ⟨u, z2, pu⟩ := pa.atI z
          exact .inl ⟨a, vs, _, u, rfl, rfl, .inl (.inl ha), z2, h.okR S pu⟩
        · exact h.elim
      | tuple ys =>
        cases h1.dataT z with
        | tup ta pa =>
          simp only [ixD] at h
          split at h
          · rename_i z
            obtain ⟨u, z2, pu⟩ := pa.atI z
            exact .inr (.inl ⟨_, _, _, u, rfl, rfl, ta.seq, z2, h.okR S pu⟩)
          · exact h.elim
      | _ => exact h.elim
    · exact h.elim
  · exact h.elim
end Ev
set_option Elab.async false
set_option linter.all false
set_option maxRecDepth 100000
set_option maxHeartbeats 4000000
/-! Ev4: slices, built-in functions. -/
namespace Ev
open PySem PySem.Spec PyProof.Rows L2
variable [τ : Tbl]

/-! ### slices -/
def mNoPart : Env → M (Option Int) := fun _ => M.pure none
def asPart : D → M (Option Int)
  | .dat (.int i) => M.pure (some i)
  | _ => M.bad
def mPart (m : Env → M D) : Env → M (Option Int) := fun ρ => M.bind (m ρ) asPart
def RelP : RelT (Option Int) (Option Int) := fun _ _ _ b a => b = a
def tMP (K : PySem.W.Frag) (mg : Str → Option Value) (W : WX) (m : Env → M (Option Int)) : TO := fun σ H Q => ∃ R ρ st, Sim K R H st ∧ EnvR K mg R st H σ ρ ∧ Post K mg RelP R H st (m ρ st) Q (fun c d H' => W c d σ H')
structure EVP (X : Cx) (W : WX) (e : Option Expr) (m : Env → M (Option Int)) : Prop where
  po : PO X e (tMP X.K X.mg W m)
theorem PO.imp {X : Cx} {e : Option Expr} {t u : TO} (h : PO X e t) (q : ∀ σ H Q, u σ H Q → t σ H Q) : PO X e u := ⟨fun pins s σ H Q I z => h.run pins s σ H Q I (q σ H Q z)⟩
/-- list, tuple: the items from lo on, below hi -/
def cutD (xs : List PyData) (lo hi : Option Int) : List PyData := (xs.drop (HT.sIx xs.length 0 lo)).take (HT.sIx xs.length xs.length hi - HT.sIx xs.length 0 lo)
def slD (lo hi : Option Int) : PyData → M D
  | .list xs => M.pure (.dat (.list (cutD xs lo hi)))
  | .tuple xs => M.pure (.dat (.tuple (cutD xs lo hi)))
  | _ => M.bad
def dSl (d : D) (lo hi : Option Int) : M D := fun st => match dataOf d st with | some x => slD lo hi x st | none => .bad
def mSl (m : Env → M D) (l u : Env → M (Option Int)) : Env → M D := fun ρ => M.bind (m ρ) fun x => M.bind (l ρ) fun i => M.bind (u ρ) fun j => dSl x i j
theorem PdA.cut {K : PySem.W.Frag} {U : Addr → Prop} {H : Hp} {vs : List V} {ds : List PyData} (q : PdA K U H vs ds) (lo hi : Option Int) : PdA K U H (cutV vs lo hi) (cutD ds lo hi) := by
  unfold cutV cutD
  rw [q.len]
  exact (q.drop _).take _
section
variable {X : Cx} {W : WX} {e : Expr} {me : Env → M D} {lo hi : Option Expr} {ml mu : Env → M (Option Int)} {pos p2 : Pos}
theorem evp_none : EVP X W none mNoPart := by
  refine ⟨PO.imp po_none fun σ H Q h => ?_⟩
  obtain ⟨R, ρ, st, S, E, h⟩ := h
  exact h.okR S rfl
theorem evp_some (h : EV X W e me) : EVP X W (some e) (mPart me) := by
  refine ⟨PO.imp (po_some h.pe) fun σ H Q h => ?_⟩
  obtain ⟨R, ρ, st, S, E, h⟩ := h
  refine ⟨R, ρ, st, S, E, (Post.bind (Rel := Dv X.K X.mg) (Rel2 := RelP) h).monoQ fun v H1 ⟨R1, st1, d, x1, S1, D1, h2⟩ => ?_⟩
  unfold asPart at h2
  split at h2
  · cases D1
    exact ⟨_, rfl, h2.okR S1 rfl⟩
  · exact h2.elim
def rSlAll (K : PySem.W.Frag) : V → Option Int → Option Int → Hp → VK → Prop := fun x lo hi H Q => rSlL K x lo hi H Q ∨ rSlA K x lo hi H Q
theorem cut_all (xs : List V) (lo hi : Option Int) (h : HT.sIx xs.length 0 lo = 0 ∧ HT.sIx xs.length xs.length hi = xs.length) : cutV xs lo hi = xs := by
  unfold cutV
  rw [h.1, h.2]
  simp
theorem ev_slice (he : EV X W e me) (hl : EVP X W lo ml) (hu : EVP X W hi mu) : EV X W (.Subscript e (.Slice lo hi none p2) pos) (mSl me ml mu) := by
  refine ⟨PE.imp (pe_slice (sl_list.or sl_tupA) he.pe hl.po hu.po) fun σ H Q h => ?_⟩
  obtain ⟨R, ρ, st, S, E, h⟩ := h
  refine ⟨R, ρ, st, S, E, (Post.bind (Rel := Dv X.K X.mg) (Rel2 := Dv X.K X.mg) h).monoQ fun v H1 ⟨R1, st1, d, x1, S1, D1, h2⟩ => ?_⟩
  refine ⟨R1, ρ, st1, S1, E.ext x1, (Post.bind (Rel := RelP) (Rel2 := Dv X.K X.mg) h2).monoQ fun i H2 ⟨R2, st2, i', x2, S2, e2, h3⟩ => ?_⟩
  refine ⟨R2, ρ, st2, S2, (E.ext x1).ext x2, (Post.bind (Rel := RelP) (Rel2 := Dv X.K X.mg) h3).monoQ fun j H3 ⟨R3, st3, j', x3, S3, e3, h4⟩ => ?_⟩
  obtain rfl : i = i' := e2
  obtain rfl : j = j' := e3
  have D3 := (D1.ext x2).ext x3
  unfold dSl at h4
  split at h4
  · rename_i x z
    cases x with
    | list ys =>
      obtain ⟨a, vs, rfl, ha, pa⟩ := D3.dataL S3 z
      exact .inl ⟨a, vs, rfl, .inl (.inl ha), fun p hp => h4.okN S3 hp (newLst S3 hp (pa.cut i j))⟩
    | tuple ys =>
      cases D3.dataT z with
      | tup ta pa =>
        refine .inr ⟨_, _, rfl, ta.seq, fun hw => h4.okR S3 (Pd.tup ta ?_), fun _ p hp => h4.okN S3 hp (newTup S3 hp (pa.cut i j))⟩
        have := pa.cut i j
        rw [cut_all _ _ _ hw] at this
        exact this
    | _ => exact h4.elim
  · exact h4.elim
end

/-! ### built-in functions of one or two numbers -/
def on1 (f : D → M D) : List D → M D
  | [d] => f d
  | _ => M.bad
def on2 (f : D → D → M D) : List D → M D
  | [d, e] => f d e
  | _ => M.bad
section
variable {K : PySem.W.Frag} {mg : Str → Option Value} {R : Rg} {H : Hp} {st : Sto} {vs : List V} {ds : List D} {Q : VK} {W : XK}
theorem ok1 {f : D → M D} (h1 : DvA K mg R st H vs ds) (h : Post K mg (Dv K mg) R H st (on1 f ds st) Q W) : ∃ v d, vs = [v] ∧ ds = [d] ∧ Dv K mg R st H v d ∧ Post K mg (Dv K mg) R H st (f d st) Q W := by
  unfold on1 at h
  split at h
  · cases h1 with
    | cons a b => cases b; exact ⟨_, _, rfl, rfl, a, h⟩
  · exact h.elim
theorem ok2 {f : D → D → M D} (h1 : DvA K mg R st H vs ds) (h : Post K mg (Dv K mg) R H st (on2 f ds st) Q W) : ∃ v w d e, vs = [v, w] ∧ ds = [d, e] ∧ Dv K mg R st H v d ∧ Dv K mg R st H w e ∧ Post K mg (Dv K mg) R H st (f d e st) Q W := by
  unfold on2 at h
  split at h
  · cases h1 with
    | cons a b =>
      cases b with
      | cons b c => cases c; exact ⟨_, _, _, _, rfl, rfl, a, b, h⟩
  · exact h.elim
end
def iAbs (i : Int) : Int := if i < 0 then -i else i
def iMax (i j : Int) : Int := if j > i then j else i
def iMin (i j : Int) : Int := if j < i then j else i
def dAbs : D → M D
  | .dat (.int i) => retI (iAbs i)
  | _ => M.bad
def dMax2 : D → D → M D := asInts fun i j => retI (iMax i j)
def dMin2 : D → D → M D := asInts fun i j => retI (iMin i j)
def dInt : D → M D
  | .dat (.int i) => retI i
  | .dat (.bool b) => retI (if b then 1 else 0)
  | _ => M.bad
section
variable {K : PySem.W.Frag} {mg : Str → Option Value}
theorem ok_abs : CallOk K mg (fun xs H Q => ∃ i, xs = [.int i] ∧ Q (.int (if i < 0 then -i else i)) H) (on1 dAbs) := by
  intro R H st vs ds Q W S hd h
  obtain ⟨v, d, rfl, rfl, h1, h⟩ := ok1 hd h
  unfold dAbs at h
  split at h
  · cases h1
    exact ⟨_, rfl, h.okR S (Dv.int _)⟩
  · exact h.elim
theorem ok_max2 : CallOk K mg (fun xs H Q => ∃ i j, xs = [.int i, .int j] ∧ Q (.int (if j > i then j else i)) H) (on2 dMax2) := by
  intro R H st vs ds Q W S hd h
  obtain ⟨v, w, d, e, rfl, rfl, h1, h2, h⟩ := ok2 hd h
  obtain ⟨i, j, rfl, rfl, rfl, rfl, h⟩ := okI h1 h2 h
  exact ⟨i, j, rfl, h.okR S (Dv.int _)⟩
theorem ok_min2 : CallOk K mg (fun xs H Q => ∃ i j, xs = [.int i, .int j] ∧ Q (.int (if j < i then j else i)) H) (on2 dMin2) := by
  intro R H st vs ds Q W S hd h
  obtain ⟨v, w, d, e, rfl, rfl, h1, h2, h⟩ := ok2 hd h
  obtain ⟨i, j, rfl, rfl, rfl, rfl, h⟩ := okI h1 h2 h
  exact ⟨i, j, rfl, h.okR S (Dv.int _)⟩
theorem ok_int : CallOk K mg (fun xs H Q => (∃ i, xs = [.int i] ∧ Q (.int i) H) ∨ ∃ k, xs = [.bl k] ∧ Q (.int (if k then 1 else 0)) H) (on1 dInt) := by
  intro R H st vs ds Q W S hd h
  obtain ⟨v, d, rfl, rfl, h1, h⟩ := ok1 hd h
  unfold dInt at h
  split at h
  · cases h1
    exact .inl ⟨_, rfl, h.okR S (Dv.int _)⟩
  · cases h1
    exact .inr ⟨_, rfl, h.okR S (Dv.int _)⟩
  · exact h.elim
end
/-! ### len -/
def lenD : PyData → M D
  | .str x => if x.length ≤ 100000 then retI x.length else M.bad
  | .list xs => retI xs.length
  | .tuple xs => retI xs.length
  | .dict kvs => retI kvs.length
  | _ => M.bad
def dLen (d : D) : M D := fun st =>
  match d with
  | .fz xs => retI xs.length st
  | d => match dataOf d st with
    | some x => lenD x st
    | none => .bad
theorem PdK.len {K : PySem.W.Frag} {U : Addr → Prop} {H : Hp} : ∀ {ds : List (PyData × PyData)} {vs : List (Key × V)}, PdK K U H vs ds → vs.length = ds.length
  | _, _, .nil => rfl
  | _, _, .cons _ q => congrArg (· + 1) (PdK.len q)
def rLenAll (K : PySem.W.Frag) : List V → Hp → VK → Prop := fun xs H Q => (∃ x n, xs = [x] ∧ LenV K x H n ∧ Q (.int n) H) ∨ ∃ a kvs, xs = [V.ref a] ∧ H a = some (.dK kvs) ∧ Q (.int kvs.length) H
theorem CallR.or {X : Cx} {f : Value} {r r' : List V → Hp → VK → Prop} (h : CallR X f r) (h' : CallR X f r') : CallR X f (fun xs H Q => r xs H Q ∨ r' xs H Q) := by
  intro pins s σ H xs us Q I rv q
  rcases q with q | q
  · exact h pins s σ H xs us Q I rv q
  · exact h' pins s σ H xs us Q I rv q
theorem call_lenAll {X : Cx} : CallR X (.builtin "len") (rLenAll X.K) := CallR.or call_len call_lenD
theorem ok_len {K : PySem.W.Frag} {mg : Str → Option Value} : CallOk K mg (rLenAll K) (on1 dLen) := by
  intro R H st vs ds Q W S hd h
  obtain ⟨v, d, rfl, rfl, h1, h⟩ := ok1 hd h
  have core : ∀ x, dataOf d st = some x → Post K mg (Dv K mg) R H st (lenD x st) Q W → rLenAll K [v] H Q := fun x z h => by
    cases x with
    | str y =>
      have a := h1.dataS z
      subst a
      simp only [lenD] at h
      split at h
      · rename_i hl
        exact .inl ⟨_, y.length, rfl, ⟨small5 hl, rfl⟩, h.okR S (Dv.int _)⟩
      · exact h.elim
    | list ys =>
      obtain ⟨a, vs, rfl, ha, pa⟩ := h1.dataL S z
      exact .inl ⟨_, vs.length, rfl, .inl ⟨vs, .inl (.inl ha), rfl⟩, by rw [pa.len]; exact h.okR S (Dv.int _)⟩
    | tuple ys =>
      cases h1.dataT z with
      | tup ta pa => exact .inl ⟨_, _, rfl, .inr ⟨_, ta.seq, rfl⟩, by rw [pa.len]; exact h.okR S (Dv.int _)⟩
    | dict ys =>
      cases h1.data S z with
      | dct ha _ pa => exact .inr ⟨_, _, rfl, ha, by rw [pa.len]; exact h.okR S (Dv.int _)⟩
    | _ => exact h.elim
  cases d with
  | fz xs =>
    obtain ⟨a, vs, rfl, hl, pa⟩ := h1
    exact .inl ⟨_, vs.length, rfl, .inl ⟨vs, hl.seq, rfl⟩, by rw [pa.len]; exact h.okR S (Dv.int _)⟩
  | dat x => exact core x rfl h
  | loc n =>
    have h' : Post K mg (Dv K mg) R H st (match dataOf (.loc n) st with | some x => lenD x st | none => .bad) Q W := h
    cases z : dataOf (.loc n) st with
    | none => rw [z] at h'; exact h'.elim
    | some x => rw [z] at h'; exact core x z h'
  | glob x => exact h.elim
  | ty t => exact h.elim
  | raw t => exact h.elim
  | err _ _ _ _ => exact h.elim
  | lam => exact h.elim
/-! ### tuple(xs), list(xs) -/
def tupOf (d : D) : M D := fun st =>
  match dataOf d st with
  | some (.list xs) => .ok (.dat (.tuple xs)) st
  | some (.tuple xs) => .ok (.dat (.tuple xs)) st
  | _ => .bad
def lstOf (d : D) : M D := fun st =>
  match dataOf d st with
  | some (.list xs) => .ok (.dat (.list xs)) st
  | some (.tuple xs) => .ok (.dat (.list xs)) st
  | _ => .bad
/-- list(xs) that is to change -/
def locOf (d : D) : M D := fun st =>
  match dataOf d st with
  | some (.list xs) => .ok (.loc st.length) (st ++ [.lst xs])
  | some (.tuple xs) => .ok (.loc st.length) (st ++ [.lst xs])
  | _ => .bad
section
variable {K : PySem.W.Frag} {mg : Str → Option Value}
theorem ok_tupOf : CallOk K mg (fun xs H Q => ∃ p ys, xs = [.ref p] ∧ ((SqL K H p ys ∧ ∀ l, H l = none → Q (.ref l) (upd H l (.tup ys))) ∨ (SqT K H p ys ∧ Q (.ref p) H))) (on1 tupOf) := by
  intro R H st vs ds Q W S hd h
  obtain ⟨v, d, rfl, rfl, h1, h⟩ := ok1 hd h
  unfold tupOf at h
  split at h
  · rename_i z
    obtain ⟨a, vs, rfl, ha, pa⟩ := h1.dataL S z
    exact ⟨a, vs, rfl, .inl ⟨.inl (.inl ha), fun p hp => h.okN S hp (newTup S hp pa)⟩⟩
  · rename_i z
    have h2 := h1.dataT z
    cases h2 with
    | tup ta pa => exact ⟨_, _, rfl, .inr ⟨ta.seq, h.okR S (Pd.tup ta pa)⟩⟩
  · exact h.elim
theorem ok_lstOf : CallOk K mg (fun xs H Q => ∃ p ys, xs = [.ref p] ∧ (SqL K H p ys ∨ SqT K H p ys) ∧ ∀ l, H l = none → Q (.ref l) (upd H l (.lst ys))) (on1 lstOf) := by
  intro R H st vs ds Q W S hd h
  obtain ⟨v, d, rfl, rfl, h1, h⟩ := ok1 hd h
  unfold lstOf at h
  split at h
  · rename_i z
    obtain ⟨a, vs, rfl, ha, pa⟩ := h1.dataL S z
    exact ⟨a, vs, rfl, .inl (.inl (.inl ha)), fun p hp => h.okN S hp (newLst S hp pa)⟩
  · rename_i z
    have h2 := h1.dataT z
    cases h2 with
    | tup ta pa => exact ⟨_, _, rfl, .inr ta.seq, fun p hp => h.okN S hp (newLst S hp pa)⟩
  · exact h.elim
theorem ok_locOf : CallOk K mg (fun xs H Q => ∃ p ys, xs = [.ref p] ∧ (SqL K H p ys ∨ SqT K H p ys) ∧ ∀ l, H l = none → Q (.ref l) (upd H l (.lst ys))) (on1 locOf) := by
  intro R H st vs ds Q W S hd h
  obtain ⟨v, d, rfl, rfl, h1, h⟩ := ok1 hd h
  unfold locOf at h
  have fin : ∀ (vs : List V) (xs : List PyData), PdA K (Own R st) H vs xs → Post K mg (Dv K mg) R H st (.ok (.loc st.length) (st ++ [.lst xs])) Q W → ∀ p, H p = none → Q (.ref p) (upd H p (.lst vs)) := fun vs xs pa h p hp => by
    obtain ⟨x2, S2⟩ := ext_loc S hp pa
    exact h _ _ _ x2 S2 ⟨p, put_at S, rfl⟩
  split at h
  · rename_i z
    obtain ⟨a, vs, rfl, ha, pa⟩ := h1.dataL S z
    exact ⟨a, vs, rfl, .inl (.inl (.inl ha)), fin vs _ pa h⟩
  · rename_i z
    have h2 := h1.dataT z
    cases h2 with
    | tup ta pa => exact ⟨_, _, rfl, .inr ta.seq, fin _ _ pa h⟩
  · exact h.elim
end
/-! ### sum, all, any of a list -/
def intsOf : List PyData → Option (List Int)
  | [] => some []
  | .int i :: r => (intsOf r).map (i :: ·)
  | _ :: _ => none
def boolsOf : List PyData → Option (List Bool)
  | [] => some []
  | .bool i :: r => (boolsOf r).map (i :: ·)
  | _ :: _ => none
theorem intsOf_vals {K : PySem.W.Frag} {U : Addr → Prop} {H : Hp} : ∀ {ds : List PyData} {vs : List V} {ns : List Int}, PdA K U H vs ds → intsOf ds = some ns → vs = ns.map V.int
  | _, _, _, .nil, e => by cases e; rfl
  | .int i :: r, _, _, .cons h q, e => by
    unfold intsOf at e
    cases z : intsOf r with
    | none => rw [z] at e; cases e
    | some ys =>
      rw [z] at e
      cases e
      cases h
      rw [intsOf_vals q z]
      rfl
  | .none :: _, _, _, .cons _ _, e => by cases e
  | .bool _ :: _, _, _, .cons _ _, e => by cases e
  | .str _ :: _, _, _, .cons _ _, e => by cases e
  | .list _ :: _, _, _, .cons _ _, e => by cases e
  | .tuple _ :: _, _, _, .cons _ _, e => by cases e
  | .dict _ :: _, _, _, .cons _ _, e => by cases e
theorem boolsOf_vals {K : PySem.W.Frag} {U : Addr → Prop} {H : Hp} : ∀ {ds : List PyData} {vs : List V} {ns : List Bool}, PdA K U H vs ds → boolsOf ds = some ns → vs = ns.map V.bl
  | _, _, _, .nil, e => by cases e; rfl
  | .bool i :: r, _, _, .cons h q, e => by
    unfold boolsOf at e
    cases z : boolsOf r with
    | none => rw [z] at e; cases e
    | some ys =>
      rw [z] at e
      cases e
      cases h
      rw [boolsOf_vals q z]
      rfl
  | .none :: _, _, _, .cons _ _, e => by cases e
  | .int _ :: _, _, _, .cons _ _, e => by cases e
  | .str _ :: _, _, _, .cons _ _, e => by cases e
  | .list _ :: _, _, _, .cons _ _, e => by cases e
  | .tuple _ :: _, _, _, .cons _ _, e => by cases e
  | .dict _ :: _, _, _, .cons _ _, e => by cases e
/-- a list's items -/
def itemsOf (f : List PyData → M D) (d : D) : M D := fun st =>
  match dataOf d st with
  | some (.list xs) => f xs st
  | _ => .bad
def onBools (f : List Bool → Bool) (xs : List PyData) : M D := match boolsOf xs with | some bs => retB (f bs) | none => M.bad
def onInts (f : List Int → M D) (xs : List PyData) : M D := match intsOf xs with | some bs => f bs | none => M.bad
def dAll : D → M D := itemsOf (onBools fun bs => bs.all id)
def dAny : D → M D := itemsOf (onBools fun bs => bs.any id)
def dSum : D → M D := itemsOf (onInts fun ns => retI ns.sum)
section
variable {K : PySem.W.Frag} {mg : Str → Option Value}
theorem okIt {R : Rg} {H : Hp} {st : Sto} {v : V} {d : D} {Q : VK} {W : XK} {f : List PyData → M D} (S : Sim K R H st) (h1 : Dv K mg R st H v d) (h : Post K mg (Dv K mg) R H st (itemsOf f d st) Q W) :
    ∃ a vs xs, v = .ref a ∧ H a = some (.lst vs) ∧ PdA K (Own R st) H vs xs ∧ Post K mg (Dv K mg) R H st (f xs st) Q W := by
  unfold itemsOf at h
  split at h
  · rename_i z
    obtain ⟨a, vs, rfl, ha, pa⟩ := h1.dataL S z
    exact ⟨a, vs, _, rfl, ha, pa, h⟩
  · exact h.elim
theorem okBs {R : Rg} {H : Hp} {st : Sto} {Q : VK} {W : XK} {f : List Bool → Bool} {xs : List PyData} (h : Post K mg (Dv K mg) R H st (onBools f xs st) Q W) : ∃ bs, boolsOf xs = some bs ∧ Post K mg (Dv K mg) R H st (retB (f bs) st) Q W := by
  unfold onBools at h
  cases z : boolsOf xs with
  | none => rw [z] at h; exact h.elim
  | some bs => rw [z] at h; exact ⟨bs, rfl, h⟩
theorem okIs {R : Rg} {H : Hp} {st : Sto} {Q : VK} {W : XK} {f : List Int → M D} {xs : List PyData} (h : Post K mg (Dv K mg) R H st (onInts f xs st) Q W) : ∃ bs, intsOf xs = some bs ∧ Post K mg (Dv K mg) R H st (f bs st) Q W := by
  unfold onInts at h
  cases z : intsOf xs with
  | none => rw [z] at h; exact h.elim
  | some bs => rw [z] at h; exact ⟨bs, rfl, h⟩
theorem ok_all : CallOk K mg (rAll K) (on1 dAll) := by
  intro R H st vs ds Q W S hd h
  obtain ⟨v, d, rfl, rfl, h1, h⟩ := ok1 hd h
  obtain ⟨a, vs, xs, rfl, ha, pa, h⟩ := okIt S h1 h
  obtain ⟨bs, e, h⟩ := okBs h
  have q := boolsOf_vals pa e
  subst q
  exact ⟨a, bs, rfl, .inl (.inl ha), h.okR S (Dv.bl _)⟩
theorem ok_any : CallOk K mg (rAny K) (on1 dAny) := by
  intro R H st vs ds Q W S hd h
  obtain ⟨v, d, rfl, rfl, h1, h⟩ := ok1 hd h
  obtain ⟨a, vs, xs, rfl, ha, pa, h⟩ := okIt S h1 h
  obtain ⟨bs, e, h⟩ := okBs h
  have q := boolsOf_vals pa e
  subst q
  exact ⟨a, bs, rfl, .inl (.inl ha), h.okR S (Dv.bl _)⟩
theorem ok_sum : CallOk K mg (rSum K) (on1 dSum) := by
  intro R H st vs ds Q W S hd h
  obtain ⟨v, d, rfl, rfl, h1, h⟩ := ok1 hd h
  obtain ⟨a, vs, xs, rfl, ha, pa, h⟩ := okIt S h1 h
  obtain ⟨bs, e, h⟩ := okIs h
  have q := intsOf_vals pa e
  subst q
  exact ⟨a, bs, rfl, .inl (.inl ha), h.okR S (Dv.int _)⟩
end
/-! ### repr -/
def dRepr (d : D) : M D := fun st =>
  match dataOf d st with
  | some x => if reprOk x = true then .ok (.dat (.str x.shown)) st else .bad
  | none => .bad
def rRepr (K : PySem.W.Frag) : List V → Hp → VK → Prop := fun xs H Q => ∃ v d, xs = [v] ∧ Pd K NoU H v d ∧ reprOk d = true ∧ Q (.str d.shown) H
theorem call_repr {X : Cx} (hg : X.A.guards = some []) (hm : ∃ o, X.base.get? sysModules = some o) (hu : X.A.units + 128 < cLine) : CallR X (.builtin "repr") (rRepr X.K) := by
  intro pins s σ H xs us Q I rv h
  obtain ⟨v, d, rfl, p, ok, q⟩ := h
  obtain ⟨u, rfl, ru⟩ := vals1 rv
  have hs : H sysModules = none := let ⟨o, e⟩ := hm; (I.bs _ o e).2
  obtain ⟨as, hr, hn⟩ := Pd.reads I hs p ru
  unfold reprOk at ok
  simp only [Bool.and_eq_true, decide_eq_true_eq] at ok
  obtain ⟨⟨h1, h2⟩, h3⟩ := ok
  have hz : d.shown.length ≤ sizeLine := by
    rw [sizeLine_eq]
    have : bigLine = 16000000 := rfl
    omega
  have big : ∀ {u : Value} {as : List Addr}, Reads s.heap u d as → sysModules ∉ as → (∃ a, u = .ref a) → wpAny (model X.prog X.w) X.A (call (.builtin "repr") [u]) (EP X pins σ Q) X.xe s := by
    rintro u as hr hn ⟨a, rfl⟩
    exact repr_of_reads' (h₀ := s.heap) hr h1 (fun _ => hn) hg (by omega) (fun _ _ e => e) (fun h' u tk hk => ⟨.str d.shown, H, I.kept hk, ⟨_, rfl⟩, q⟩) hz
  cases p with
  | non => cases ru; exact PySem.P.repr_of_none ⟨.str _, H, I.tok _, ⟨_, rfl⟩, q⟩
  | bl b => cases ru; exact PySem.P.repr_of_bool ⟨.str _, H, I.tok _, ⟨_, rfl⟩, q⟩
  | int i =>
    obtain ⟨t, rfl⟩ := ru
    have hi : i.natAbs.log2 < 1920 := by simpa [PyData.showable] using h1
    exact PySem.P.repr_of_int hi ⟨.str _, H, I.tok _, ⟨_, rfl⟩, q⟩
  | str x =>
    obtain ⟨t, rfl⟩ := ru
    exact PySem.P.repr_of_str ⟨.str _, H, I.tok _, ⟨_, rfl⟩, q⟩ hz
  | lst _ _ _ => cases ru; exact big hr hn ⟨_, rfl⟩
  | tup _ _ => cases ru; exact big hr hn ⟨_, rfl⟩
  | dct _ _ _ => cases ru; exact big hr hn ⟨_, rfl⟩
theorem ok_repr {K : PySem.W.Frag} {mg : Str → Option Value} : CallOk K mg (rRepr K) (on1 dRepr) := by
  intro R H st vs ds Q W S hd h
  obtain ⟨v, d, rfl, rfl, h1, h⟩ := ok1 hd h
  unfold dRepr at h
  split at h
  · rename_i x z
    split at h
    · rename_i hk
      exact ⟨v, x, rfl, h1.data S z, hk, h.okR S (Dv.str _)⟩
    · exact h.elim
  · exact h.elim
end Ev
set_option Elab.async false
set_option linter.all false
set_option maxRecDepth 100000
set_option maxHeartbeats 4000000
/-! Ev5: isinstance, statements, loops, comprehensions. -/
namespace Ev
open PySem PySem.Spec PyProof.Rows L2
variable [τ : Tbl]

/-! ### isinstance of data -/
@[simp] def tyOf : PyData → Ty
  | .none => .none
  | .bool _ => .bool
  | .int _ => .int
  | .str _ => .str
  | .list _ => .list
  | .tuple _ => .tuple
  | .dict _ => .dict
@[simp] def isi : Ty → Ty → Bool
  | .bool, .int => true
  | a, b => decide (a = b)
theorem kit_isi (a b : Ty) : kitB a.name b.name = some (isi a b) := by
  cases a <;> cases b <;> decide +kernel
def dIsi (d e : D) : M D := fun st =>
  match e with
  | .ty t => match dataOf d st with
    | some x => .ok (.dat (.bool (isi (tyOf x) t))) st
    | none => .bad
  | _ => .bad
theorem Pd.tyX {K : PySem.W.Frag} {H : Hp} {v : V} {d : PyData} (h : Pd K NoU H v d) : TyX K H v (.type (tyOf d).name) := by
  cases h with
  | non => exact .base .non
  | bl b => exact .base (.bl b)
  | int i => exact .base (.int i)
  | str x => exact .base (.str x)
  | lst h _ _ => exact .base (.lst h)
  | tup h _ =>
    rcases h with ⟨h | ⟨o, h⟩, _⟩ | ⟨o, its, n, h1, h2, _⟩
    · exact .base (.tup h)
    · exact .fTuple h
    · exact .kTuple h1 h2
  | dct h _ _ => exact .base (.dK h)
theorem ok_isi {K : PySem.W.Frag} {mg : Str → Option Value} : CallOk K mg (rIsi K) (on2 dIsi) := by
  intro R H st vs ds Q W S hd h
  obtain ⟨v, w, d, e, rfl, rfl, h1, h2, h⟩ := ok2 hd h
  unfold dIsi at h
  cases e with
  | ty t =>
    cases z : dataOf d st with
    | none =>
      simp only [z] at h
      exact h.elim
    | some x =>
      simp only [z] at h
      have e2 : w = .ty t.name := h2
      subst e2
      exact ⟨v, _, _, .type t.name, _, rfl, ⟨.ty _, (h1.data S z).tyX, kit_ty (kit_isi _ _), h.okR S (Dv.bl _)⟩⟩
  | _ => exact h.elim

/-! ### statements -/
inductive SRes where
  | nx (ρ : Env) (st : Sto)
  | rt (d : D) (st : Sto)
  | bk (ρ : Env) (st : Sto)
  | ct (ρ : Env) (st : Sto)
  | exc (x : Exc) (ρ : Env) (st : Sto)
  | bad
abbrev SM := Env → Sto → SRes
section
variable (K : PySem.W.Frag) (mg : Str → Option Value)
def PostS (R : Rg) (H : Hp) (st : Sto) (r : SRes) (D : Ends) (W : WX) : Prop :=
  match r with
  | .nx ρ' st' => ∀ σ' R' H', Ext R H st R' H' st' → Sim K R' H' st' → EnvR K mg R' st' H' σ' ρ' → D.nx σ' H'
  | .rt d st' => ∀ v R' H', Ext R H st R' H' st' → Sim K R' H' st' → Dv K mg R' st' H' v d → D.rt v H'
  | .bk ρ' st' => ∀ σ' R' H', Ext R H st R' H' st' → Sim K R' H' st' → EnvR K mg R' st' H' σ' ρ' → D.bk σ' H'
  | .ct ρ' st' => ∀ σ' R' H', Ext R H st R' H' st' → Sim K R' H' st' → EnvR K mg R' st' H' σ' ρ' → D.ct σ' H'
  | .exc x ρ' st' => ∀ σ' R' H' cls dx, Ext R H st R' H' st' → Sim K R' H' st' → EnvR K mg R' st' H' σ' ρ' → ExcR K mg (Own R' st') H' x cls dx → W cls dx σ' H'
  | .bad => False
def tS (W : WX) (m : SM) : TS := fun D σ H => ∃ R ρ st, Sim K R H st ∧ EnvR K mg R st H σ ρ ∧ PostS K mg R H st (m ρ st) D W
end
structure EVS (X : Cx) (W : WX) (s : Stmt) (m : SM) : Prop where
  ps : PS X s (tS X.K X.mg W m)
structure EVSs (X : Cx) (W : WX) (s : List Stmt) (m : SM) : Prop where
  ps : PSs X s (tS X.K X.mg W m)
theorem PS.imp {X : Cx} {s : Stmt} {t u : TS} (h : PS X s t) (q : ∀ D σ H, u D σ H → t D σ H) : PS X s u := ⟨fun pins s σ H D I z => h.run pins s σ H D I (q D σ H z)⟩
theorem PSs.imp {X : Cx} {s : List Stmt} {t u : TS} (h : PSs X s t) (q : ∀ D σ H, u D σ H → t D σ H) : PSs X s u := ⟨fun pins s σ H D I z => h.run pins s σ H D I (q D σ H z)⟩
section
variable {K : PySem.W.Frag} {mg : Str → Option Value} {R R1 : Rg} {H H1 : Hp} {st st1 : Sto} {W : WX}
theorem PostS.shift {r : SRes} {D : Ends} (S1 : Sim K R1 H1 st1) (e : Ext R H st R1 H1 st1) (h : PostS K mg R H st r D W) : PostS K mg R1 H1 st1 r D W := by
  cases r with
  | nx ρ st' => exact fun σ' R' H' e' s' q => h σ' R' H' (e.trans S1 e') s' q
  | rt d st' => exact fun σ' R' H' e' s' q => h σ' R' H' (e.trans S1 e') s' q
  | bk ρ st' => exact fun σ' R' H' e' s' q => h σ' R' H' (e.trans S1 e') s' q
  | ct ρ st' => exact fun σ' R' H' e' s' q => h σ' R' H' (e.trans S1 e') s' q
  | exc x ρ st' => exact fun σ' R' H' cls dx e' s' q => h σ' R' H' cls dx (e.trans S1 e') s' q
  | bad => exact h
/-- an expression ahead of the rest of a statement -/
def sBind {α : Type} (m : Env → M α) (f : α → SM) : SM := fun ρ st =>
  match m ρ st with
  | .ok a st' => f a ρ st'
  | .exc x st' => .exc x ρ st'
  | .bad => .bad
theorem PostS.bind {α β : Type} {Rel : RelT α β} {m : Env → M α} {f : α → SM} {D : Ends} {σ : L2.St} {ρ : Env} (E : EnvR K mg R st H σ ρ) (h : PostS K mg R H st (sBind m f ρ st) D W) :
    Post K mg Rel R H st (m ρ st) (fun b H1 => ∃ R1 st1 a, Sim K R1 H1 st1 ∧ EnvR K mg R1 st1 H1 σ ρ ∧ Rel R1 st1 H1 b a ∧ PostS K mg R1 H1 st1 (f a ρ st1) D W) (fun c d H' => W c d σ H') := by
  unfold sBind at h
  cases e : m ρ st with
  | ok a st' =>
    rw [e] at h
    exact fun b R' H' e' s' q => ⟨R', st', a, s', E.ext e', q, PostS.shift s' e' h⟩
  | exc x st' =>
    rw [e] at h
    exact fun R' H' cls dx e' s' q => h σ R' H' cls dx e' s' (E.ext e') q
  | bad =>
    rw [e] at h
    exact h
def sNil : SM := fun ρ st => .nx ρ st
def sSeq (m n : SM) : SM := fun ρ st =>
  match m ρ st with
  | .nx ρ' st' => n ρ' st'
  | r => r
end
section
variable {X : Cx} {W : WX} {s : Stmt} {rest a b : List Stmt} {m n : SM} {c e : Expr} {mc : Env → M Bool} {me : Env → M D} {pos : Pos}
theorem evs_nil : EVSs X W [] sNil := by
  refine ⟨PSs.imp pss_nil fun D σ H h => ?_⟩
  obtain ⟨R, ρ, st, S, E, h⟩ := h
  exact h σ R H .refl S E
theorem evs_cons (h1 : EVS X W s m) (h2 : EVSs X W rest n) : EVSs X W (s :: rest) (sSeq m n) := by
  refine ⟨PSs.imp (pss_cons h1.ps h2.ps) fun D σ H h => ?_⟩
  obtain ⟨R, ρ, st, S, E, h⟩ := h
  refine ⟨R, ρ, st, S, E, ?_⟩
  unfold sSeq at h
  cases z : m ρ st with
  | nx ρ' st' =>
    rw [z] at h
    exact fun σ' R' H' e' s' q => ⟨R', ρ', st', s', q, PostS.shift s' e' h⟩
  | rt d st' => rw [z] at h; exact h
  | bk ρ' st' => rw [z] at h; exact h
  | ct ρ' st' => rw [z] at h; exact h
  | exc x ρ' st' => rw [z] at h; exact h
  | bad => rw [z] at h; exact h
theorem evs_one (h1 : EVS X W s m) : EVSs X W [s] m := ⟨pss_one h1.ps⟩
def sRet (m : Env → M D) : SM := sBind m fun d _ st => .rt d st
theorem evs_ret (he : EV X W e me) : EVS X W (.Return (some e) pos) (sRet me) := by
  refine ⟨PS.imp (ps_ret he.pe) fun D σ H h => ?_⟩
  obtain ⟨R, ρ, st, S, E, h⟩ := h
  exact ⟨R, ρ, st, S, E, (PostS.bind (Rel := Dv X.K X.mg) E h).monoQ fun v H1 ⟨R1, st1, d, S1, E1, D1, h1⟩ => h1 v R1 H1 .refl S1 D1⟩
def sRetN : SM := fun _ st => .rt (.dat .none) st
theorem evs_retN : EVS X W (.Return none pos) sRetN := by
  refine ⟨PS.imp ps_retN fun D σ H h => ?_⟩
  obtain ⟨R, ρ, st, S, E, h⟩ := h
  exact h _ R H .refl S Dv.non
def sIf (c : Env → M Bool) (m n : SM) : SM := sBind c fun b => if b = true then m else n
theorem evs_if (hc : EVT X W c mc) (ha : EVSs X W a m) (hb : EVSs X W b n) : EVS X W (.If c a b pos) (sIf mc m n) := by
  refine ⟨PS.imp (ps_if hc.pt ha.ps hb.ps) fun D σ H h => ?_⟩
  obtain ⟨R, ρ, st, S, E, h⟩ := h
  refine ⟨R, ρ, st, S, E, (PostS.bind (Rel := RelB) E h).monoQ fun k H1 ⟨R1, st1, d, S1, E1, D1, h1⟩ => ?_⟩
  obtain rfl : k = d := D1
  cases k with
  | true => exact ⟨R1, ρ, st1, S1, E1, h1⟩
  | false => exact ⟨R1, ρ, st1, S1, E1, h1⟩
def sDrop (m : Env → M D) : SM := sBind m fun _ ρ st => .nx ρ st
theorem evs_expr (he : EV X W e me) (hs : swapsWith e none pos.line X.env = pure false := by rfl) : EVS X W (.Expr e pos) (sDrop me) := by
  refine ⟨PS.imp (ps_expr he.pe hs) fun D σ H h => ?_⟩
  obtain ⟨R, ρ, st, S, E, h⟩ := h
  exact ⟨R, ρ, st, S, E, (PostS.bind (Rel := Dv X.K X.mg) E h).monoQ fun v H1 ⟨R1, st1, d, S1, E1, D1, h1⟩ => h1 σ R1 H1 .refl S1 E1⟩
def sSet (i : Nat) (m : Env → M D) : SM := sBind m fun d ρ st => .nx (ρ.set i (some d)) st
theorem tAsg_of {i : Nat} {D : Ends} {σ : L2.St} {H : Hp} (h : tS X.K X.mg W (sSet i me) D σ H) : tM X.K X.mg W me σ H (fun x H1 => gName i x σ H1 D.nx) := by
  obtain ⟨R, ρ, st, S, E, h⟩ := h
  exact ⟨R, ρ, st, S, E, (PostS.bind (Rel := Dv X.K X.mg) E h).monoQ fun v H1 ⟨R1, st1, d, S1, E1, D1, h1⟩ => h1 _ R1 H1 .refl S1 (E1.set i D1)⟩
theorem evs_set {i : Nat} {x : Str} {pos' : Pos} (hN : X.N.Nodup) (hi : X.N[i]? = some x) (hx : Loc X.env.scope x) (he : EV X W e me) (hs : swapsWith e (some (.Name x pos')) pos.line X.env = pure false := by rfl)
    (hf : X.fn x = true ∨ X.env.scope.names.lookup x = some .local := by first | exact .inl rfl | exact .inr rfl | assumption) : EVS X W (.Assign [.Name x pos'] e pos) (sSet i me) :=
  ⟨PS.imp (ps_set hN hi hx he.pe hs hf) fun D σ H h => tAsg_of h⟩
def sPass : SM := fun ρ st => .nx ρ st
def sBrk : SM := fun ρ st => .bk ρ st
def sCnt : SM := fun ρ st => .ct ρ st
theorem evs_pass : EVS X W (.Pass pos) sPass := by
  refine ⟨PS.imp ps_pass fun D σ H h => ?_⟩
  obtain ⟨R, ρ, st, S, E, h⟩ := h
  exact h σ R H .refl S E
theorem evs_break : EVS X W (.Break pos) sBrk := by
  refine ⟨PS.imp ps_break fun D σ H h => ?_⟩
  obtain ⟨R, ρ, st, S, E, h⟩ := h
  exact h σ R H .refl S E
theorem evs_continue : EVS X W (.Continue pos) sCnt := by
  refine ⟨PS.imp ps_continue fun D σ H h => ?_⟩
  obtain ⟨R, ρ, st, S, E, h⟩ := h
  exact h σ R H .refl S E
/-- x += e of ints -/
def sAug (i : Nat) (f : D → D → M D) (m : Env → M D) : SM := fun ρ st =>
  match ρ[i]? with
  | some (some x) => sBind m (fun y ρ st => match f x y st with | .ok z st' => .nx (ρ.set i (some z)) st' | _ => .bad) ρ st
  | _ => .bad
end

/-! ### a list of the store is written -/
section
variable {K : PySem.W.Frag} {mg : Str → Option Value} {R : Rg} {H : Hp} {st : Sto} {n : Nat} {a : Addr} {vs : List V} {xs ys : List PyData}
theorem own_set (h1 : R.r[n]? = some a) (h2 : st[n]? = some (Cell.lst xs)) (b : Addr) : Own R (st.set n (.lst ys)) b ↔ Own R st b := by
  constructor
  · rintro (⟨m, zs, e1, e2⟩ | h)
    · by_cases hm : n = m
      · subst hm
        rw [h1] at e1; cases e1
        exact .inl ⟨n, xs, h1, h2⟩
      · rw [List.getElem?_set_ne hm] at e2
        exact .inl ⟨m, zs, e1, e2⟩
    · exact .inr h
  · rintro (⟨m, zs, e1, e2⟩ | h)
    · by_cases hm : n = m
      · subst hm
        rw [h1] at e1; cases e1
        exact .inl ⟨n, ys, h1, by rw [List.getElem?_set_self (List.getElem?_eq_some_iff.mp h2).1]⟩
      · exact .inl ⟨m, zs, e1, by rw [List.getElem?_set_ne hm]; exact e2⟩
    · exact .inr h
theorem ext_set (S : Sim K R H st) (h1 : R.r[n]? = some a) (h2 : st[n]? = some (Cell.lst xs)) (q : PdA K (Own R st) H vs ys) :
    Ext R H st R (upd H a (.lst vs)) (st.set n (.lst ys)) ∧ Sim K R (upd H a (.lst vs)) (st.set n (.lst ys)) := by
  have oa : Own R st a := .inl ⟨n, xs, h1, h2⟩
  have E : Ext R H st R (upd H a (.lst vs)) (st.set n (.lst ys)) := by
    refine ⟨⟨[], by simp, fun _ h => by cases h⟩, rfl, fun b hb o e _ => ?_, ⟨fun b o e hb _ => ?_, fun b z => .inl ((own_set h1 h2 b).mp z), fun _ h => upd_frN (fun _ z => by cases z) h⟩⟩
    · have ne : b ≠ a := fun z => S.nr a (List.mem_of_getElem? h1) (z ▸ hb)
      rw [upd_ne ne]; exact e
    · have ne : b ≠ a := fun z => hb (z ▸ oa)
      rw [upd_ne ne]; exact e
  obtain ⟨ws0, ha0, _⟩ := S.at_ n a xs h1 h2
  refine ⟨E, by simp [S.len], S.nd, S.nr, fun b hb => ?_, fun b hb => (S.pl b hb).imp id fun z => ?_, fun m b zs e1 e2 => ?_, S.fx.on E.stays (fun x hx => (S.fx.tb x hx).1) fun b o e nl _ => by
    rw [upd_ne (show b ≠ a from fun z => nl ws0 (Option.some.inj (e.symm.trans (by rw [z]; exact ha0))))]
    exact e⟩
  · exact (S.trk b hb).mono (upd_frN (fun _ z => by cases z))
  · by_cases ne : b = a
    · exact .inl ⟨vs, by rw [ne, upd_same]⟩
    · unfold Pv; rw [upd_ne ne]; exact z
  · by_cases hm : n = m
    · subst hm
      rw [h1] at e1; cases e1
      rw [List.getElem?_set_self (List.getElem?_eq_some_iff.mp h2).1] at e2
      cases e2
      exact ⟨vs, upd_same, q.stays E.stays⟩
    · rw [List.getElem?_set_ne hm] at e2
      obtain ⟨ws, e, w⟩ := S.at_ m b zs e1 e2
      have ne : b ≠ a := fun z => by
        subst z
        have i1 := (List.getElem?_eq_some_iff.mp h1)
        have i2 := (List.getElem?_eq_some_iff.mp e1)
        obtain ⟨l1, g1⟩ := i1
        obtain ⟨l2, g2⟩ := i2
        exact hm ((List.getElem_inj S.nd).mp (g1.trans g2.symm))
      exact ⟨ws, by rw [upd_ne ne]; exact e, w.stays E.stays⟩
end
/-- a list of the store, changed -/
def onLoc (f : List PyData → Option (List PyData × PyData)) (d : D) : M D := fun st =>
  match d with
  | .loc n => match st[n]? with
    | some (.lst xs) => match f xs with
      | some (ys, r) => .ok (.dat r) (st.set n (.lst ys))
      | none => .bad
    | _ => .bad
  | _ => .bad
section
variable {X : Cx} {W : WX} {pos : Pos} {o i e : Expr} {mo mi me : Env → M D}
/-- xs[i] = e -/
def setAt (k : Int) (y : PyData) (xs : List PyData) : Option (List PyData × PyData) := (ixN xs.length k).map fun j => (xs.set j y, .none)
def sSetIx (mo mi me : Env → M D) : SM := sBind me fun y => sBind mo fun l => sBind mi fun k => sBind (fun _ => match k, y with | .dat (.int k), .dat y => onLoc (setAt k y) l | _, _ => M.bad) fun _ ρ st => .nx ρ st
theorem evs_setix {pos' : Pos} (ho : EV X W o mo) (hi : EV X W i mi) (he : EV X W e me)
    (ha : ∀ v, assign (.Subscript o i pos') X.env v = (do
      let ov ← holding [v] (eval o X.env)
      let iv ← holding [v, ov] (eval i X.env)
      standAt pos'
      holding [v, ov, iv] (setItem ov iv v)
      release [v, ov, iv] []) := by intro _; rfl)
    (hs : swapsWithSole [.Subscript o i pos'] e pos.line X.env = pure false := by rfl) (hw : swappedStores [.Subscript o i pos'] e X.env = pure none := by rfl)
    (h1 : (assignEach [.Subscript o i pos'] X.env).map (·.2) = [assign (.Subscript o i pos') X.env] := by rfl) : EVS X W (.Assign [.Subscript o i pos'] e pos) (sSetIx mo mi me) := by
  refine ⟨PS.imp (ps_asg he.pe (pg_sub ho.pe hi.pe set_list ha) hs hw h1) fun D σ H h => ?_⟩
  obtain ⟨R, ρ, st, S, E, h⟩ := h
  refine ⟨R, ρ, st, S, E, (PostS.bind (Rel := Dv X.K X.mg) E h).monoQ fun v H1 ⟨R1, st1, y, S1, E1, D1, h1⟩ => ?_⟩
  refine ⟨R1, ρ, st1, S1, E1, ?_⟩
  have h1' := PostS.bind (Rel := fun R st H (b : V) d => Dv X.K X.mg R st H v y ∧ Dv X.K X.mg R st H b d) E1 h1
  revert h1'
  cases z1 : mo ρ st1 with
  | bad => exact fun q => q
  | exc x st' => exact fun q => q
  | ok d2 st2 =>
    intro h1' ov R2 H2 x2 S2 D2
    obtain ⟨R2', st2', l, S2', E2, ⟨D1', D2'⟩, h2⟩ := h1' ov R2 H2 x2 S2 ⟨D1.ext x2, D2⟩
    refine ⟨R2', ρ, st2', S2', E2, ?_⟩
    have h2' := PostS.bind (Rel := fun R st H (b : V) d => Dv X.K X.mg R st H v y ∧ Dv X.K X.mg R st H ov l ∧ Dv X.K X.mg R st H b d) E2 h2
    revert h2'
    cases z2 : mi ρ st2' with
    | bad => exact fun q => q
    | exc x st' => exact fun q => q
    | ok d3 st3 =>
      intro h2' iv R3 H3 x3 S3 D3
      obtain ⟨R3', st3', k, S3', E3, ⟨D1'', D2'', D3'⟩, h3⟩ := h2' iv R3 H3 x3 S3 ⟨D1'.ext x3, D2'.ext x3, D3⟩
      unfold sBind at h3
      dsimp only at h3
      cases k with
      | dat kd =>
        cases kd with
        | int k =>
          cases y with
          | dat y =>
            dsimp only at h3
            unfold onLoc at h3
            cases l with
            | loc n =>
              dsimp only at h3
              cases z3 : st3'[n]? with
              | none => rw [z3] at h3; exact h3.elim
              | some c =>
                rw [z3] at h3
                cases c with
                | dead => exact h3.elim
                | lst xs =>
                  dsimp only at h3
                  unfold setAt at h3
                  cases z4 : ixN xs.length k with
                  | none => rw [z4] at h3; exact h3.elim
                  | some j =>
                    rw [z4] at h3
                    obtain ⟨a, ha', rfl⟩ := D2''
                    cases D3'
                    obtain ⟨vs, e1, e2⟩ := S3'.at_ n a xs ha' z3
                    obtain ⟨E4, S4⟩ := ext_set S3' ha' z3 (e2.set D1'' j)
                    exact ⟨a, vs, k, j, rfl, rfl, e1, by rw [e2.len]; exact z4, h3 σ R3' _ E4 S4 (E3.ext E4)⟩
            | _ => exact h3.elim
          | _ => exact h3.elim
        | _ => cases y <;> exact h3.elim
      | _ => cases y <;> exact h3.elim
end
end Ev
set_option Elab.async false
set_option linter.all false
set_option maxRecDepth 100000
set_option maxHeartbeats 4000000
/-! Ev6: what is walked, loops, comprehensions. -/
namespace Ev
open PySem PySem.Spec PyProof.Rows L2
open Classical
variable [τ : Tbl]

/-! ### targets -/
abbrev Tg := D → Env → Option Env
abbrev Tgs := List PyData → Env → Option Env
structure EVG (X : Cx) (tg : Expr) (g : TG) (t : Tg) (sl : List Nat) : Prop where
  pg : PG X tg g
  ok : ∀ (R : Rg) (st : Sto) (H : Hp) (σ : L2.St) (v : V) (d : D) (ρ ρ' : Env) (Q : L2.St → Hp → Prop), EnvR X.K X.mg R st H σ ρ → Dv X.K X.mg R st H v d → t d ρ = some ρ' →
    (∀ σ', EnvR X.K X.mg R st H σ' ρ' → (∀ vs, (∀ i ∈ sl, i ∈ vs) → wipe σ' vs = wipe σ vs) → Q σ' H) → g v σ H Q
structure EVGs (X : Cx) (tg : List Expr) (g : TGs) (t : Tgs) (n : Nat) (sl : List Nat) : Prop where
  pg : PGs X tg g
  len : ∀ (ds : List PyData) (ρ ρ' : Env), t ds ρ = some ρ' → ds.length = n
  ok : ∀ (R : Rg) (st : Sto) (H : Hp) (σ : L2.St) (vs : List V) (ds : List PyData) (ρ ρ' : Env) (Q : L2.St → Hp → Prop), EnvR X.K X.mg R st H σ ρ → PdA X.K (Own R st) H vs ds → t ds ρ = some ρ' →
    (∀ σ', EnvR X.K X.mg R st H σ' ρ' → (∀ vs, (∀ i ∈ sl, i ∈ vs) → wipe σ' vs = wipe σ vs) → Q σ' H) → g vs σ H Q
def tgName (i : Nat) : Tg := fun d ρ => some (ρ.set i (some d))
def tgNil : Tgs := fun ds ρ => match ds with | [] => some ρ | _ => none
def tgCons (t : Tg) (u : Tgs) : Tgs := fun ds ρ => match ds with | d :: r => (t (.dat d) ρ).bind (u r) | [] => none
def tgTup (u : Tgs) : Tg := fun d ρ => match d with | .dat (.tuple ds) => u ds ρ | _ => none
theorem wipe_set (σ : L2.St) (i : Nat) (x : Option V) : ∀ vs : List Nat, i ∈ vs → wipe (σ.set i x) vs = wipe σ vs
  | [], h => by cases h
  | v :: vs, h => by
    show (wipe (σ.set i x) vs).set v none = (wipe σ vs).set v none
    by_cases hv : i ∈ vs
    · rw [wipe_set σ i x vs hv]
    · have e : i = v := by
        rcases List.mem_cons.mp h with e | e
        · exact e
        · exact absurd e hv
      have com : ∀ ws : List Nat, i ∉ ws → wipe (σ.set i x) ws = (wipe σ ws).set i x := fun ws => by
        induction ws with
        | nil => intro _; rfl
        | cons w ws ih =>
          intro hw
          have h1 : i ≠ w := fun z => hw (by rw [z]; exact List.mem_cons_self)
          show (wipe (σ.set i x) ws).set w none = ((wipe σ ws).set w none).set i x
          rw [ih fun z => hw (List.mem_cons_of_mem _ z), List.set_comm _ _ h1]
      rw [com vs hv, ← e, List.set_set]
theorem eg_name {X : Cx} {i : Nat} {x : Str} {pos : Pos} (hN : X.N.Nodup) (hi : X.N[i]? = some x) (hx : Loc X.env.scope x) (hf : X.fn x = true ∨ X.env.scope.names.lookup x = some .local := by first | exact .inl rfl | exact .inr rfl | assumption) :
    EVG X (.Name x pos) (gName i) (tgName i) [i] := by
  refine ⟨pg_name hN hi hx hf, fun R st H σ v d ρ ρ' Q E D1 e q => ?_⟩
  cases e
  exact q _ (E.set i D1) fun vs hv => wipe_set σ i _ vs (hv i (by simp))
theorem eg_nil {X : Cx} : EVGs X [] gNil tgNil 0 [] := by
  refine ⟨pgs_nil, fun ds ρ ρ' e => ?_, fun R st H σ vs ds ρ ρ' Q E p e q => ?_⟩
  · cases ds with
    | nil => rfl
    | cons _ _ => cases e
  · cases p with
    | nil => cases e; exact ⟨rfl, q σ E fun _ _ => rfl⟩
    | cons _ _ => cases e
theorem tgCons_some {t : Tg} {u : Tgs} {d : PyData} {ds : List PyData} {ρ ρ' : Env} (e : tgCons t u (d :: ds) ρ = some ρ') : ∃ ρ1, t (.dat d) ρ = some ρ1 ∧ u ds ρ1 = some ρ' := by
  have e' : (t (.dat d) ρ).bind (u ds) = some ρ' := e
  cases z : t (.dat d) ρ with
  | none => rw [z] at e'; cases e'
  | some ρ1 => rw [z] at e'; exact ⟨ρ1, rfl, e'⟩
theorem eg_cons {X : Cx} {e : Expr} {es : List Expr} {g : TG} {gs : TGs} {t : Tg} {u : Tgs} {n : Nat} {sl sl' : List Nat} (h1 : EVG X e g t sl) (h2 : EVGs X es gs u n sl')
    (hs : (assignEach (e :: es) X.env).map (·.2) = assign e X.env :: (assignEach es X.env).map (·.2) := by rfl) : EVGs X (e :: es) (gCons g gs) (tgCons t u) (n + 1) (sl ++ sl') := by
  refine ⟨pgs_cons h1.pg h2.pg hs, fun ds ρ ρ' e => ?_, fun R st H σ vs ds ρ ρ' Q E p e q => ?_⟩
  · cases ds with
    | nil => cases e
    | cons d ds =>
      obtain ⟨ρ1, e1, e2⟩ := tgCons_some e
      rw [List.length_cons, h2.len ds ρ1 ρ' e2]
  · cases p with
    | nil => cases e
    | @cons v vs d ds hd p =>
      obtain ⟨ρ1, e1, e2⟩ := tgCons_some e
      refine ⟨v, vs, rfl, h1.ok R st H σ v (.dat d) ρ ρ1 _ E hd e1 fun σ1 E1 w1 => ?_⟩
      refine h2.ok R st H σ1 vs ds ρ1 ρ' Q E1 p e2 fun σ' E' w2 => q σ' E' fun ws hw => ?_
      rw [w2 ws fun i hi => hw i (List.mem_append_right _ hi), w1 ws fun i hi => hw i (List.mem_append_left _ hi)]
theorem eg_tup {X : Cx} {es : List Expr} {k : Nat} {pos : Pos} {gs : TGs} {u : Tgs} {n : Nat} {sl : List Nat} (hc : X.calm = true) (h : EVGs X es gs u n sl) (hn : (assignEach es X.env).length = n := by rfl) (hst : (assignEach es X.env).findIdx? (·.1) = none := by rfl) :
    EVG X (.Tuple es k pos) (gTup X.K n gs) (tgTup u) sl := by
  refine ⟨pg_tup hc h.pg hn hst, fun R st H σ v d ρ ρ' Q E D1 e q => ?_⟩
  unfold tgTup at e
  split at e
  · rename_i ds
    have D2 : Pd X.K (Own R st) H v (.tuple ds) := D1
    cases D2 with
    | tup ta pa => exact ⟨_, _, rfl, ta.seq, by rw [pa.len]; exact h.len ds ρ ρ' e, h.ok R st H σ _ ds ρ ρ' Q E pa e q⟩
  · cases e

/-! ### what is walked -/
structure Src where
  items : List D
  ok : Sto → Prop
/-- later: the store's lists where they were, what may not change as it was -/
structure Lat (R : Rg) (H : Hp) (st : Sto) (R' : Rg) (H' : Hp) (st' : Sto) : Prop where
  at_ : ∀ (n : Nat) (a : Addr), R.r[n]? = some a → R'.r[n]? = some a
  stays : Stays (Own R st) (Own R' st') H H'
theorem Ext.lat {R R' : Rg} {H H' : Hp} {st st' : Sto} (e : Ext R H st R' H' st') : Lat R H st R' H' st' := ⟨fun _ _ h => e.at_ h, e.stays⟩
structure Wk (K : PySem.W.Frag) (mg : Str → Option Value) (R : Rg) (st : Sto) (H : Hp) (J : It) (s : Src) : Prop where
  go : ∀ i R' H' st', i < s.items.length → Lat R H st R' H' st' → Sim K R' H' st' → s.ok st' → J.go i H'
  stop : ∀ R' H' st', Lat R H st R' H' st' → Sim K R' H' st' → s.ok st' → J.stop s.items.length H'
  yld : ∀ i R' H' st' x H2, i < s.items.length → Lat R H st R' H' st' → Sim K R' H' st' → s.ok st' → J.yld i H' x H2 → Ext R' H' st' R' H2 st' ∧ Sim K R' H2 st' ∧ ∃ d, s.items[i]? = some d ∧ Dv K mg R' st' H2 x d
def RelI (K : PySem.W.Frag) (mg : Str → Option Value) : RelT Src It := fun R st H J s => Wk K mg R st H J s
def tMI (K : PySem.W.Frag) (mg : Str → Option Value) (W : WX) (m : Env → M Src) : TI := fun σ H Q => ∃ R ρ st, Sim K R H st ∧ EnvR K mg R st H σ ρ ∧ Post K mg (RelI K mg) R H st (m ρ st) Q (fun c d H' => W c d σ H')
structure EVI (X : Cx) (W : WX) (tg iter : Expr) (m : Env → M Src) : Prop where
  pi : PI X tg iter (tMI X.K X.mg W m)
theorem PI.imp {X : Cx} {tg e : Expr} {t u : TI} (h : PI X tg e t) (q : ∀ σ H Q, u σ H Q → t σ H Q) : PI X tg e u := ⟨fun pins s σ H Q I z => h.run pins s σ H Q I (q σ H Q z)⟩
def Src.data (xs : List PyData) : Src := ⟨xs.map D.dat, fun _ => True⟩
def srcOf (d : D) : M Src := fun st =>
  match d with
  | .fz xs => .ok (.data xs) st
  | .loc n => match st[n]? with
    | some (.lst xs) => .ok ⟨xs.map D.dat, fun st' => st'[n]? = some (.lst xs)⟩ st
    | _ => .bad
  | .dat (.list xs) => .ok (.data xs) st
  | .dat (.tuple xs) => .ok (.data xs) st
  | _ => .bad
section
variable {K : PySem.W.Frag} {mg : Str → Option Value} {R : Rg} {H : Hp} {st : Sto} {a : Addr} {vs : List V} {xs : List PyData}
theorem wk_list {s : Src} (hs : s.items = xs.map D.dat) (q : ∀ R' H' st', Lat R H st R' H' st' → Sim K R' H' st' → s.ok st' → ∃ vs, SqL K H' a vs ∧ PdA K (Own R' st') H' vs xs) : Wk K mg R st H (Itl K a) s := by
  have hl : s.items.length = xs.length := by rw [hs, List.length_map]
  refine ⟨fun i R' H' st' hi E S o => ?_, fun R' H' st' E S o => ?_, fun i R' H' st' x H2 hi E S o y => ?_⟩
  · obtain ⟨vs, h1, h2⟩ := q R' H' st' E S o
    have hv : i < vs.length := by rw [h2.len]; omega
    exact ⟨vs, vs[i], h1, by simp [hv]⟩
  · obtain ⟨vs, h1, h2⟩ := q R' H' st' E S o
    exact ⟨vs, h1, by rw [h2.len, hl]; exact Nat.le_refl _⟩
  · obtain ⟨vs, h1, h2⟩ := q R' H' st' E S o
    obtain ⟨rfl, y⟩ := y
    have hx : i < xs.length := by omega
    obtain ⟨v, e1, e2⟩ := h2.at_ (i := i) (d := xs[i]) (by simp [hx])
    have e3 := y vs h1
    rw [e1] at e3
    cases e3
    exact ⟨.refl, S, .dat xs[i], by rw [hs, List.getElem?_map]; simp [hx], e2⟩
theorem wk_tup {s : Src} (hs : s.items = xs.map D.dat) (q : ∀ R' H' st', Lat R H st R' H' st' → Sim K R' H' st' → s.ok st' → ∃ vs, SqT K H' a vs ∧ PdA K (Own R' st') H' vs xs) : Wk K mg R st H (Itt K a) s := by
  have hl : s.items.length = xs.length := by rw [hs, List.length_map]
  refine ⟨fun i R' H' st' hi E S o => ?_, fun R' H' st' E S o => ?_, fun i R' H' st' x H2 hi E S o y => ?_⟩
  · obtain ⟨vs, h1, h2⟩ := q R' H' st' E S o
    have hv : i < vs.length := by rw [h2.len]; omega
    exact ⟨vs, vs[i], h1, by simp [hv]⟩
  · obtain ⟨vs, h1, h2⟩ := q R' H' st' E S o
    exact ⟨vs, h1, by rw [h2.len, hl]; exact Nat.le_refl _⟩
  · obtain ⟨vs, h1, h2⟩ := q R' H' st' E S o
    obtain ⟨rfl, y⟩ := y
    have hx : i < xs.length := by omega
    obtain ⟨v, e1, e2⟩ := h2.at_ (i := i) (d := xs[i]) (by simp [hx])
    have e3 := y vs h1
    rw [e1] at e3
    cases e3
    exact ⟨.refl, S, .dat xs[i], by rw [hs, List.getElem?_map]; simp [hx], e2⟩
/-- which walk a value has -/
theorem srcOf_wk {v : V} {d : D} {Q : It → Hp → Prop} {W : XK} (S : Sim K R H st) (D1 : Dv K mg R st H v d) (h : Post K mg (RelI K mg) R H st (srcOf d st) Q W) :
    ∃ a, v = .ref a ∧ ((∃ ws, SqL K H a ws) ∧ Q (Itl K a) H ∨ (∃ ws, SqT K H a ws) ∧ Q (Itt K a) H) := by
  unfold srcOf at h
  split at h
  · obtain ⟨a, ws, rfl, hl, pa⟩ := D1
    exact ⟨a, rfl, .inl ⟨⟨ws, hl.seq⟩, h.okR S (wk_list rfl fun R' H' st' E _ _ => ⟨ws, (hl.stays E.stays).seq, pa.stays E.stays⟩)⟩⟩
  · rename_i n
    obtain ⟨a, ha, rfl⟩ := D1
    split at h
    · rename_i xs z
      obtain ⟨ws, e1, e2⟩ := S.at_ n a xs ha z
      exact ⟨a, rfl, .inl ⟨⟨ws, .inl (.inl e1)⟩, h.okR S (wk_list rfl fun R' H' st' E S' o => by
        obtain ⟨ws', e3, e4⟩ := S'.at_ n a xs (E.at_ n a ha) o
        exact ⟨ws', .inl (.inl e3), e4⟩)⟩⟩
    · exact h.elim
  · have D2 : Pd K (Own R st) H v (.list _) := D1
    cases D2 with
    | lst h1 h2 h3 => exact ⟨_, rfl, .inl ⟨⟨_, .inl (.inl h1)⟩, h.okR S (wk_list rfl fun R' H' st' E _ _ => ⟨_, .inl (.inl (E.stays.keep _ _ h1 h2 (fun _ z => by cases z))), h3.stays E.stays⟩)⟩⟩
  · have D2 : Pd K (Own R st) H v (.tuple _) := D1
    cases D2 with
    | tup h1 h3 => exact ⟨_, rfl, .inr ⟨⟨_, h1.seq⟩, h.okR S (wk_tup rfl fun R' H' st' E _ _ => ⟨_, (h1.stays E.stays).seq, h3.stays E.stays⟩)⟩⟩
  · exact h.elim
end
section
variable {X : Cx} {W : WX} {tg l e : Expr} {m : Env → M D} {ms : Env → M (List D)} {p pos : Pos}
def mSeq (m : Env → M D) : Env → M Src := fun ρ => M.bind (m ρ) srcOf
/-- a list or a tuple is walked -/
theorem evi_seq (h : EV X W l m) : EVI X W tg l (mSeq m) := by
  refine ⟨⟨fun pins s σ H Rr I hh => ?_⟩⟩
  obtain ⟨R, ρ, st, S, E, hh⟩ := hh
  refine thn (h.pe.run pins s σ H (fun v H1 => ∃ a, v = .ref a ∧ ((∃ ws, SqL X.K H1 a ws) ∧ Rr (Itl X.K a) H1 ∨ (∃ ws, SqT X.K H1 a ws) ∧ Rr (Itt X.K a) H1)) I
    ⟨R, ρ, st, S, E, (Post.bind (Rel := Dv X.K X.mg) (Rel2 := RelI X.K X.mg) hh).monoQ fun v H1 ⟨R1, st1, d, x1, S1, D1, h1⟩ => srcOf_wk S1 D1 h1⟩) fun v s1 ⟨x, H1, I1, r1, a, ex, q⟩ => ?_
  subst ex
  cases r1
  rcases q with ⟨⟨ws, hq⟩, q⟩ | ⟨⟨ws, hq⟩, q⟩
  · obtain ⟨its, rv, pl, hz⟩ := I1.list hq
    refine wpAny_pyIter_list pl.isList ⟨s1.heap.objs.size, [s1.heap.objs.size], _, _, H1, rfl, ?_, turn_list a _, ?_, fun b hb => ?_, q⟩
    · exact I1.kept (t' := s1.toks) fun b o z => Heap.get?_push_of_some _ z
    · exact ⟨_, Heap.get?_push_size _ rfl, rfl, rfl⟩
    · obtain rfl : b = s1.heap.objs.size := List.mem_singleton.mp hb
      exact I1.fpOk (Nat.le_refl _) (I1.hok.fresh (Nat.le_refl _))
  · obtain ⟨its, rv, pt, hz⟩ := I1.tuple hq
    refine wpAny_pyIter_tuple (show s1.heap.IsTuple a its.toArray from pt) ⟨s1.heap.objs.size, [s1.heap.objs.size], _, _, H1, rfl, ?_, turn_tuple a _, ?_, fun b hb => ?_, q⟩
    · exact I1.kept (t' := s1.toks) fun b o z => Heap.get?_push_of_some _ z
    · exact ⟨_, Heap.get?_push_size _ rfl, rfl, rfl⟩
    · obtain rfl : b = s1.heap.objs.size := List.mem_singleton.mp hb
      exact I1.fpOk (Nat.le_refl _) (I1.hok.fresh (Nat.le_refl _))
/-- lo, lo + 1, .., so many -/
def rangeD (lo : Int) (n : Nat) : Src := ⟨(List.range n).map fun k : Nat => D.dat (.int (lo + (k : Int))), fun _ => True⟩
def rng1 : List D → M Src
  | [.dat (.int j)] => if -(2 ^ 62) ≤ j ∧ j < 2 ^ 62 then M.pure (rangeD 0 j.toNat) else M.bad
  | _ => M.bad
def rng2 : List D → M Src
  | [.dat (.int i), .dat (.int j)] => if -(2 ^ 62) ≤ i ∧ i < 2 ^ 62 ∧ -(2 ^ 62) ≤ j ∧ j < 2 ^ 62 then M.pure (rangeD i (j - i).toNat) else M.bad
  | _ => M.bad
def mRng1 (m : Env → M (List D)) : Env → M Src := fun ρ => M.bind (m ρ) rng1
def mRng2 (m : Env → M (List D)) : Env → M Src := fun ρ => M.bind (m ρ) rng2
theorem wk_range {K : PySem.W.Frag} {mg : Str → Option Value} {R : Rg} {H : Hp} {st : Sto} {lo : Int} {n : Nat} : Wk K mg R st H (Itr lo n) (rangeD lo n) := by
  have hl : (rangeD lo n).items.length = n := by simp [rangeD]
  refine ⟨fun i R' H' st' hi E S o => ?_, fun R' H' st' E S o => ?_, fun i R' H' st' x H2 hi E S o y => ?_⟩
  · rw [hl] at hi; exact hi
  · rw [hl]; exact Nat.le_refl _
  · obtain ⟨rfl, rfl⟩ := y
    rw [hl] at hi
    exact ⟨.refl, S, _, by simp [rangeD, hi], Dv.int _⟩
theorem evi_range1 (hg : Gl X "range") (hm : X.mg "range" = none) (ha : EVA X W [e] ms) (hs : starEach [e] X.env = [(false, eval e X.env)] := by rfl) : EVI X W tg (.Call (.Name "range" p) [e] [] pos) (mRng1 ms) := by
  refine ⟨PI.imp (pi_range1 hg hm ha.pa hs) fun σ H Q h => ?_⟩
  obtain ⟨R, ρ, st, S, E, h⟩ := h
  refine ⟨R, ρ, st, S, E, (Post.bind (Rel := DvA X.K X.mg) (Rel2 := RelI X.K X.mg) h).monoQ fun vs H1 ⟨R1, st1, ds, x1, S1, D1, h1⟩ => ?_⟩
  unfold rng1 at h1
  split at h1
  · cases D1 with
    | cons a b =>
      cases b
      cases a
      split at h1
      · rename_i hc
        exact ⟨_, rfl, hc.1, hc.2, h1.okR S1 wk_range⟩
      · exact h1.elim
  · exact h1.elim
theorem evi_range2 {e2 : Expr} (hg : Gl X "range") (hm : X.mg "range" = none) (ha : EVA X W [e, e2] ms) (hs : starEach [e, e2] X.env = [(false, eval e X.env), (false, eval e2 X.env)] := by rfl) (hs2 : starEach [e2] X.env = [(false, eval e2 X.env)] := by rfl) :
    EVI X W tg (.Call (.Name "range" p) [e, e2] [] pos) (mRng2 ms) := by
  refine ⟨PI.imp (pi_range2 hg hm ha.pa hs hs2) fun σ H Q h => ?_⟩
  obtain ⟨R, ρ, st, S, E, h⟩ := h
  refine ⟨R, ρ, st, S, E, (Post.bind (Rel := DvA X.K X.mg) (Rel2 := RelI X.K X.mg) h).monoQ fun vs H1 ⟨R1, st1, ds, x1, S1, D1, h1⟩ => ?_⟩
  unfold rng2 at h1
  split at h1
  · cases D1 with
    | cons a b =>
      cases b with
      | cons b c =>
        cases c
        cases a
        cases b
        split at h1
        · rename_i hc
          exact ⟨_, _, rfl, hc, h1.okR S1 wk_range⟩
        · exact h1.elim
  · exact h1.elim

/-! ### for -/
noncomputable def loopS (ok : Sto → Prop) (t : Tg) (body : SM) : List D → SM
  | [], ρ, st => if ok st then .nx ρ st else .bad
  | d :: ds, ρ, st => if ok st then match t d ρ with
      | some ρ1 => match body ρ1 st with
        | .nx ρ2 st2 => loopS ok t body ds ρ2 st2
        | .ct ρ2 st2 => loopS ok t body ds ρ2 st2
        | .bk ρ2 st2 => .nx ρ2 st2
        | r => r
      | none => .bad
    else .bad
noncomputable def sFor (src : Env → M Src) (t : Tg) (body : SM) : SM := sBind src fun s => loopS s.ok t body s.items
theorem loopS_ok {ok : Sto → Prop} {t : Tg} {body : SM} {ds : List D} {ρ : Env} {st : Sto} (h : loopS ok t body ds ρ st ≠ .bad) : ok st := by
  by_cases z : ok st
  · exact z
  · cases ds with
    | nil => exact absurd (by simp [loopS, z]) h
    | cons d ds => exact absurd (by simp [loopS, z]) h
theorem PostS.nb {K : PySem.W.Frag} {mg : Str → Option Value} {R : Rg} {H : Hp} {st : Sto} {r : SRes} {D : Ends} (h : PostS K mg R H st r D W) : r ≠ .bad := fun e => by rw [e] at h; exact h
theorem evs_for {iter : Expr} {body : List Stmt} {g : TG} {t : Tg} {sl : List Nat} {src : Env → M Src} {mb : SM} (hp : PassesOwn (model X.prog X.w) X.A X.env X.xe) (hc : X.calm = true) (hi : EVI X W tg iter src) (hg : EVG X tg g t sl) (hb : EVSs X W body mb)
    (hs : ∀ x, foldedSetIterable iter X.env x = pure x := by intro _; rfl) : EVS X W (.For tg iter body [] pos) (sFor src t mb) := by
  refine ⟨PS.imp (ps_for hp hc hi.pi hg.pg hb.ps hs) fun Dn σ H h => ?_⟩
  obtain ⟨R, ρ, st, S, E, h⟩ := h
  refine ⟨R, ρ, st, S, E, ?_⟩
  have hb' := PostS.bind (Rel := fun R' st' H' (J : It) (s : Src) => RelI X.K X.mg R' st' H' J s) E h
  refine hb'.monoQ fun J H1 ⟨R1, st1, s, S1, E1, wk, h1⟩ => ?_
  -- the turns: the loop that is left tells what is wanted
  refine ⟨fun i m σ' H' => m = s.items.length - i ∧ i ≤ s.items.length ∧ ∃ R' ρ' st', Ext R1 H1 st1 R' H' st' ∧ Sim X.K R' H' st' ∧ EnvR X.K X.mg R' st' H' σ' ρ' ∧ PostS X.K X.mg R' H' st' (loopS s.ok t mb (s.items.drop i) ρ' st') Dn W,
    ⟨s.items.length, by simp, Nat.zero_le _, R1, _, st1, .refl, S1, E1, h1⟩, ?_⟩
  rintro i m σ' H' ⟨rfl, hi, R', ρ', st', x', S', E', h'⟩
  have okk := loopS_ok h'.nb
  by_cases hlt : i < s.items.length
  · refine .inr ⟨wk.go i R' H' st' hlt x'.lat S' okk, fun σ'' H'' => ∃ R'' ρ'' st'', Ext R1 H1 st1 R'' H'' st'' ∧ Sim X.K R'' H'' st'' ∧ EnvR X.K X.mg R'' st'' H'' σ'' ρ'' ∧ PostS X.K X.mg R'' H'' st'' (loopS s.ok t mb (s.items.drop (i + 1)) ρ'' st'') Dn W,
      fun σ'' H'' ⟨R'', ρ'', st'', a1, a2, a3, a4⟩ => ⟨s.items.length - (i + 1), by omega, rfl, hlt, R'', ρ'', st'', a1, a2, a3, a4⟩, fun x H2 y => ?_⟩
    obtain ⟨x2, S2, d, ed, D2⟩ := wk.yld i R' H' st' x H2 hlt x'.lat S' okk y
    have dr : s.items.drop i = d :: s.items.drop (i + 1) := by
      rw [List.drop_eq_getElem_cons hlt]
      congr 1
      rw [List.getElem?_eq_getElem hlt] at ed
      exact Option.some.inj ed
    rw [dr] at h'
    unfold loopS at h'
    rw [if_pos okk] at h'
    cases z : t d ρ' with
    | none => rw [z] at h'; exact h'.elim
    | some ρ1 =>
      rw [z] at h'
      dsimp only at h'
      refine hg.ok R' st' H2 σ' x d ρ' ρ1 _ (E'.ext x2) D2 z fun σ1 E1' _ => ?_
      refine ⟨R', ρ1, st', S2, E1', ?_⟩
      have h2 := PostS.shift S2 x2 h'
      have xx := x'.trans S' x2
      cases zb : mb ρ1 st' with
      | nx ρ2 st2 =>
        rw [zb] at h2
        exact fun σ3 R3 H3 e3 s3 q3 => ⟨R3, ρ2, st2, xx.trans S2 e3, s3, q3, PostS.shift s3 e3 h2⟩
      | ct ρ2 st2 =>
        rw [zb] at h2
        exact fun σ3 R3 H3 e3 s3 q3 => ⟨R3, ρ2, st2, xx.trans S2 e3, s3, q3, PostS.shift s3 e3 h2⟩
      | bk ρ2 st2 => rw [zb] at h2; exact h2
      | rt d2 st2 => rw [zb] at h2; exact h2
      | exc x2 ρ2 st2 => rw [zb] at h2; exact h2
      | bad => rw [zb] at h2; exact h2
  · have e : i = s.items.length := by omega
    subst e
    refine .inl ⟨wk.stop R' H' st' x'.lat S' okk, ?_⟩
    rw [List.drop_length] at h'
    unfold loopS at h'
    rw [if_pos okk] at h'
    exact h' σ' R' H' .refl S' E'
end
end Ev
set_option Elab.async false
set_option linter.all false
set_option maxRecDepth 100000
set_option maxHeartbeats 4000000
/-! Ev7: comprehensions; methods of lists; x op= e. -/
namespace Ev
open PySem PySem.Spec PyProof.Rows L2
open Classical
variable [τ : Tbl]

/-! ### a comprehension's own list: private while it runs -/
def Rg.hide (R : Rg) (p : Addr) : Rg := ⟨R.r, p :: R.p⟩
def Rg.back (R0 R : Rg) : Rg := ⟨R.r, R0.p⟩
theorem pv_no {o : HO} (pv : (∃ vs, o = .lst vs) ∨ ∃ ks, o = .dK ks) : ∀ ps, o ≠ .tbl ps := fun ps z => by
  rcases pv with ⟨vs, e⟩ | ⟨vs, e⟩ <;> rw [e] at z <;> cases z
theorem pv_same {H : Hp} {p : Addr} {o : HO} (pv : (∃ vs, o = .lst vs) ∨ ∃ ks, o = .dK ks) : Pv (upd H p o) p := by
  rcases pv with ⟨vs, e⟩ | ⟨vs, e⟩
  · exact .inl ⟨vs, by rw [upd_same, e]⟩
  · exact .inr ⟨vs, by rw [upd_same, e]⟩
section
variable {K : PySem.W.Frag} {mg : Str → Option Value} {R R' : Rg} {H H' : Hp} {st st' : Sto} {p : Addr} {vs : List V} {xs : List PyData} {o o' : HO}
theorem own_hide {a : Addr} : Own (R.hide p) st a ↔ Own R st a ∨ a = p := by
  unfold Own Rg.hide
  dsimp only
  rw [List.mem_cons]
  constructor
  · rintro (h | h | h)
    · exact .inl (.inl h)
    · exact .inr h
    · exact .inl (.inr h)
  · rintro ((h | h) | h)
    · exact .inl h
    · exact .inr (.inr h)
    · exact .inr (.inl h)
theorem sim_hide (S : Sim K R H st) (hp : H p = none) (pv : (∃ vs, o = .lst vs) ∨ ∃ ks, o = .dK ks := by first | exact .inl ⟨_, rfl⟩ | exact .inr ⟨_, rfl⟩) : Sim K (R.hide p) (upd H p o) st := by
  have S' := S.new (o := o) hp
  refine ⟨S.len, S.nd, fun a ha z => ?_, fun a ha => ?_, fun a ha => (List.mem_cons.mp ha).elim (fun e => .inr (e ▸ pv_same pv)) fun q => (S.pl a q).imp id (Pv.new hp), fun n a xs h1 h2 => ?_, S.fx.on (R' := R.hide p) ⟨fun b u e _ _ => by rw [upd_ne (ne_of_none e hp)]; exact e, (fun b z => (own_hide.mp z).elim .inl fun q => .inr (Fr.none (q ▸ hp))), fun _ h => upd_fr hp h⟩ (fun x hx => List.mem_cons_of_mem _ (S.fx.tb x hx).1) fun b o e _ _ => by rw [upd_ne (ne_of_none e hp)]; exact e⟩
  · rcases List.mem_cons.mp z with z | z
    · exact S.fresh hp (z ▸ ha)
    · exact S.nr a ha z
  · rcases ha with h | h
    · exact S'.trk a (.inl h)
    · rcases List.mem_cons.mp h with h | h
      · rw [h]; exact Tk.of upd_same (pv_no pv)
      · exact S'.trk a (.inr h)
  · obtain ⟨ws, e1, e2⟩ := S.at_ n a xs h1 h2
    refine ⟨ws, by rw [upd_ne (ne_of_none e1 hp)]; exact e1, e2.stays ⟨fun b u e _ _ => by rw [upd_ne (ne_of_none e hp)]; exact e, fun b z => ?_, fun _ h => upd_fr hp h⟩⟩
    rcases own_hide.mp z with z | z
    · exact .inl z
    · exact .inr (Fr.none (z ▸ hp))
/-- the private list changes: nothing else hangs on it -/
theorem sim_prv (S : Sim K R H st) (hp : p ∈ R.p) (hl : (∃ ws, H p = some (.lst ws)) ∨ ∃ ks, H p = some (.dK ks)) (pv : (∃ vs, o = .lst vs) ∨ ∃ ks, o = .dK ks := by first | exact .inl ⟨_, rfl⟩ | exact .inr ⟨_, rfl⟩) : Sim K R (upd H p o) st := by
  have no := pv_no pv
  have st0 : Stays (Own R st) (Own R st) H (upd H p o) := ⟨fun b u e n _ => by rw [upd_ne (show b ≠ p from fun z => n (.inr (z ▸ hp)))]; exact e, fun b z => .inl z, fun _ h => upd_frN no h⟩
  refine ⟨S.len, S.nd, S.nr, fun a ha => ?_, fun a ha => (S.pl a ha).imp id fun z => ?_, fun n a xs h1 h2 => ?_, S.fx.on st0 (fun x hx => (S.fx.tb x hx).1) fun b u e nl nk => by
    rw [upd_ne (show b ≠ p from fun z => by
      rcases hl with ⟨ws, hl⟩ | ⟨ws, hl⟩
      · exact nl ws (Option.some.inj (e.symm.trans (by rw [z]; exact hl)))
      · exact nk ws (Option.some.inj (e.symm.trans (by rw [z]; exact hl))))]
    exact e⟩
  · exact (S.trk a ha).mono (upd_frN no)
  · by_cases e : a = p
    · rw [e]; exact pv_same pv
    · unfold Pv; rw [upd_ne e]; exact z
  · obtain ⟨ws, e1, e2⟩ := S.at_ n a xs h1 h2
    have ne : a ≠ p := fun z => S.nr a (List.mem_of_getElem? h1) (z ▸ hp)
    exact ⟨ws, by rw [upd_ne ne]; exact e1, e2.stays st0⟩
theorem ext_prv (hp : p ∈ R.p) (e : Ext R (upd H p o) st R' H' st') (no : ∀ ps, o ≠ .tbl ps := by exact fun _ z => by cases z) : Ext R (upd H p o') st R' (upd H' p o') st' := by
  obtain ⟨⟨S, e1, e2⟩, e3, e4, e5⟩ := e
  refine ⟨⟨S, e1, fun a ha => ?_⟩, e3, fun a ha u z nt => ?_, ⟨fun a u z n nt => ?_, fun a z => ?_, fun a h => ?_⟩⟩
  · have q := e2 a ha
    by_cases h : a = p
    · rw [h] at q; exact (q.no upd_same no).elim
    · exact fun u z => q u (by rw [upd_ne h] at z ⊢; exact z)
  · by_cases h : a = p
    · rw [h, upd_same] at z ⊢; exact z
    · rw [upd_ne h] at z ⊢
      exact e4 a ha u (by rw [upd_ne h]; exact z) nt
  · have h : a ≠ p := fun y => n (.inr (y ▸ hp))
    rw [upd_ne h] at z ⊢
    exact e5.keep a u (by rw [upd_ne h]; exact z) n nt
  · rcases e5.own a z with q | q
    · exact .inl q
    · right
      by_cases h : a = p
      · rw [h] at q; exact (q.no upd_same no).elim
      · exact fun u z => q u (by rw [upd_ne h] at z ⊢; exact z)
  · by_cases e : a = p
    · rw [e] at h ⊢
      exact fun u z => h u (by rw [upd_same] at z ⊢; exact z)
    · have q := e5.there a fun u z => h u (by rw [upd_ne e]; exact z)
      exact fun u z => q u (by rw [upd_ne e] at z ⊢; exact z)
theorem ext_back (hp : H p = none) (e : Ext (R.hide p) (upd H p o) st R' H' st') : Ext R H st (R.back R') H' st' := by
  obtain ⟨⟨S, e1, e2⟩, e3, e4, e5⟩ := e
  have low : ∀ a u, H a = some u → upd H p o a = some u := fun a u z => by rw [upd_ne (ne_of_none z hp)]; exact z
  have non : ∀ a, Fr (upd H p o) a → Fr H a := fun a q => upd_fr hp q
  refine ⟨⟨S, e1, fun a ha => non a (e2 a ha)⟩, rfl, fun a ha u z nt => e4 a (List.mem_cons_of_mem _ ha) u (low a u z) nt, ⟨fun a u z n nt => ?_, fun a z => ?_, fun a h => non a (e5.there a h)⟩⟩
  · refine e5.keep a u (low a u z) (fun y => ?_) nt
    rcases own_hide.mp y with y | y
    · exact n y
    · rw [y, hp] at z; cases z
  · have z' : Own R' st' a := by
      rcases z with z | z
      · exact .inl z
      · exact .inr (by rw [e3]; exact List.mem_cons_of_mem _ z)
    rcases e5.own a z' with q | q
    · rcases own_hide.mp q with q | q
      · exact .inl q
      · exact .inr (Fr.none (q ▸ hp))
    · exact .inr (non a q)
theorem sim_back (e3 : R'.p = p :: R.p) (hm : ∀ x ∈ τ.t, x.1 ∈ R.p) (S : Sim K R' H' st') : Sim K (R.back R') H' st' := by
  refine ⟨S.len, S.nd, fun a ha z => S.nr a ha (by rw [e3]; exact List.mem_cons_of_mem _ z), fun a ha => S.trk a ?_, fun a ha => S.pl a (by rw [e3]; exact List.mem_cons_of_mem _ ha), fun n a xs h1 h2 => ?_, S.fx.on (R' := R.back R') (Stays.weak fun b z => z.elim .inl fun q => .inr (by rw [e3]; exact List.mem_cons_of_mem _ q)) (fun x hx => hm x hx) fun _ _ e _ _ => e⟩
  · rcases ha with h | h
    · exact .inl h
    · exact .inr (by rw [e3]; exact List.mem_cons_of_mem _ h)
  · obtain ⟨ws, e1, e2⟩ := S.at_ n a xs h1 h2
    refine ⟨ws, e1, e2.stays (Stays.weak fun b z => ?_)⟩
    rcases z with z | z
    · exact .inl z
    · exact .inr (by rw [e3]; exact List.mem_cons_of_mem _ z)
end
/-- the slots of the block's own names forgotten -/
def wipeE (ρ : Env) : List Nat → Env
  | [] => ρ
  | v :: vs => (wipeE ρ vs).set v none
theorem EnvR.wipe {K : PySem.W.Frag} {mg : Str → Option Value} {R : Rg} {H : Hp} {st : Sto} {σ : L2.St} {ρ : Env} (E : EnvR K mg R st H σ ρ) : ∀ vs : List Nat, EnvR K mg R st H (L2.wipe σ vs) (wipeE ρ vs)
  | [] => E
  | v :: vs => (EnvR.wipe E vs).unset v
/-- the turns: acc is what is made so far -/
noncomputable def loopC (ok : Sto → Prop) (t : Tg) (test : Env → M Bool) (elt : Env → M D) (ρ : Env) : List D → List PyData → Sto → Res D
  | [], acc, st => if ok st then .ok (.dat (.list acc)) st else .bad
  | d :: ds, acc, st => if ok st ∧ acc.length ≤ 100000 then match t d ρ with
      | some ρ1 => match test ρ1 st with
        | .ok true st1 => match elt ρ1 st1 with
          | .ok (.dat y) st2 => loopC ok t test elt ρ ds (acc ++ [y]) st2
          | _ => .bad
        | .ok false st1 => loopC ok t test elt ρ ds acc st1
        | _ => .bad
      | none => .bad
    else .bad
noncomputable def mLc (src : Env → M Src) (own : List Nat) (t : Tg) (test : Env → M Bool) (elt : Env → M D) : Env → M D := fun ρ => M.bind (src ρ) fun s => fun st => loopC s.ok t test elt (wipeE ρ own) s.items [] st
def mYes : Env → M Bool := fun _ => M.pure true
def W0 : WX := fun _ _ _ _ => False
structure EVTs (X : Cx) (W : WX) (es : List Expr) (m : Env → M Bool) : Prop where
  pts : PTs X es (tMB X.K X.mg W m)
theorem evts_nil {X : Cx} {W : WX} : EVTs X W [] mYes := by
  refine ⟨⟨fun pins s σ H Q I h => ?_⟩⟩
  obtain ⟨R, ρ, st, S, E, h⟩ := h
  exact pts_nil.run pins s σ H Q I (h.okR S rfl)
theorem evts_one {X : Cx} {W : WX} {c : Expr} {m : Env → M Bool} (h : EVT X W c m) : EVTs X W [c] m := ⟨pts_one h.pt⟩
theorem loopC_ok {ok : Sto → Prop} {t : Tg} {test : Env → M Bool} {elt : Env → M D} {ρ : Env} {ds : List D} {acc : List PyData} {st : Sto} (h : loopC ok t test elt ρ ds acc st ≠ .bad) : ok st := by
  by_cases z : ok st
  · exact z
  · cases ds with
    | nil => exact absurd (by simp [loopC, z]) h
    | cons d ds => exact absurd (by simp [loopC, z]) h
theorem Post.nb {K : PySem.W.Frag} {mg : Str → Option Value} {α β : Type} {Rel : RelT α β} {R : Rg} {H : Hp} {st : Sto} {r : Res α} {Q : β → Hp → Prop} {W : XK} (h : Post K mg Rel R H st r Q W) : r ≠ .bad := fun e => by rw [e] at h; exact h
section
variable {X : Cx} {W : WX} {elt tg iter : Expr} {ifs : List Expr} {scope : Scope} {own : List (Str × Nat)} {pos : Pos} {src : Env → M Src} {g : TG} {t : Tg} {sl : List Nat} {mt : Env → M Bool} {me : Env → M D}
theorem tLc_of (hg : ∀ (R : Rg) (st : Sto) (H : Hp) (σ : L2.St) (v : V) (d : D) (ρ ρ' : Env) (Q : L2.St → Hp → Prop), EnvR X.K X.mg R st H σ ρ → Dv X.K X.mg R st H v d → t d ρ = some ρ' →
      (∀ σ', EnvR X.K X.mg R st H σ' ρ' → (∀ vs, (∀ i ∈ sl, i ∈ vs) → wipe σ' vs = wipe σ vs) → Q σ' H) → g v σ H Q) (hsl : ∀ i ∈ sl, i ∈ own.map (·.2)) {σ : L2.St} {H : Hp} {Q : VK}
    (h : tM X.K X.mg W (mLc src (own.map (·.2)) t mt me) σ H Q) :
    tLc (tMI X.K X.mg W src) g (tMB X.K X.mg W0 mt) (tM X.K X.mg W0 me) (own.map (·.2)) σ H Q := by
  obtain ⟨R, ρ, st, S, E, h⟩ := h
  refine ⟨R, ρ, st, S, E, ?_⟩
  have hb := Post.bind (Rel := RelI X.K X.mg) (Rel2 := Dv X.K X.mg) h
  refine hb.monoQ fun J H1 ⟨R1, st1, s, x1, S1, wk, h1⟩ => fun D hD => ?_
  have E1 := E.ext x1
  -- Pv: the turns left tell what is wanted
  let Pv : Nat → Hp → Prop := fun i H' => ∃ R' st' acc vs, Ext (R1.hide D) (upd H1 D (.lst vs)) st1 R' H' st' ∧ Sim X.K R' H' st' ∧ H' D = some (.lst vs) ∧ PdA X.K (Own R' st') H' vs acc ∧
    Post X.K X.mg (Dv X.K X.mg) R1 H1 st1 (loopC s.ok t mt me (wipeE ρ (own.map (·.2))) (s.items.drop i) acc st') Q (fun c d H' => W c d σ H')
  refine ⟨fun i m H' => m = s.items.length - i ∧ i ≤ s.items.length ∧ Pv i H', ⟨s.items.length, by simp, Nat.zero_le _, R1.hide D, st1, [], [], .refl, sim_hide S1 hD, upd_same, .nil, h1⟩, ?_⟩
  rintro i m H' ⟨rfl, hi, R', st', acc, vs, xe, S', eD, pa, h'⟩
  have okk := loopC_ok h'.nb
  have eb := ext_back hD xe
  have e3 : R'.p = D :: R1.p := xe.pe
  have Sb : Sim X.K (R1.back R') H' st' := sim_back e3 (fun x hx => (S1.fx.tb x hx).1) S'
  have latR : Lat R1 H1 st1 R' H' st' := by
    refine ⟨fun n a h => eb.at_ h, ⟨fun a u z n nt => eb.stays.keep a u z n nt, fun a z => ?_, eb.stays.there⟩⟩
    by_cases h : a = D
    · exact .inr (h ▸ Fr.none hD)
    · refine eb.stays.own a ?_
      rcases z with z | z
      · exact .inl z
      · rw [e3] at z
        rcases List.mem_cons.mp z with z | z
        · exact absurd z h
        · exact .inr z
  have hDp : D ∈ R'.p := by rw [e3]; exact List.mem_cons_self
  by_cases hlt : i < s.items.length
  · refine .inr ⟨wk.go i R' H' st' hlt latR S' okk, Pv (i + 1), fun H'' z => ⟨s.items.length - (i + 1), by omega, rfl, hlt, z⟩, fun x H2 y => ?_⟩
    obtain ⟨d0, ed0, dr⟩ : ∃ d, s.items[i]? = some d ∧ s.items.drop i = d :: s.items.drop (i + 1) := ⟨s.items[i], by simp [hlt], List.drop_eq_getElem_cons hlt⟩
    obtain ⟨x2, S2, d, ed, D2⟩ := wk.yld i R' H' st' x H2 hlt latR S' okk y
    rw [ed0] at ed
    obtain rfl : d0 = d := Option.some.inj ed
    rw [dr] at h'
    unfold loopC at h'
    have lena : acc.length ≤ 100000 := by
      by_cases q : acc.length ≤ 100000
      · exact q
      · rw [if_neg (fun z => q z.2)] at h'; exact h'.elim
    rw [if_pos ⟨okk, lena⟩] at h'
    have E0 : EnvR X.K X.mg R' st' H' (wipe σ (own.map (·.2))) (wipeE ρ (own.map (·.2))) := by
      refine EnvR.wipe ⟨E1.len, fun j e q => ?_⟩ _
      obtain ⟨v, q1, q2⟩ := E1.at_ j e q
      refine ⟨v, q1, ?_⟩
      cases e with
      | dat e => exact Pd.stays latR.stays q2
      | loc n => obtain ⟨a, h1, h2⟩ := q2; exact ⟨a, latR.at_ n a h1, h2⟩
      | glob x => exact q2
      | fz ds => obtain ⟨a, xs, h1, h2, h3⟩ := q2; exact ⟨a, xs, h1, h2.stays latR.stays, h3.stays latR.stays⟩
      | ty t => exact q2
      | raw t => exact q2
      | lam => exact q2
      | err u cls d x => exact ⟨q2.1, q2.2.stays latR.stays⟩
    cases z : t d0 (wipeE ρ (own.map (·.2))) with
    | none => rw [z] at h'; exact h'.elim
    | some ρ1 =>
      rw [z] at h'
      dsimp only at h'
      refine hg R' st' H2 _ x d0 _ ρ1 _ (E0.ext x2) D2 z fun σ1 E1' w1 => ⟨?_, ?_⟩
      · have a1 := w1 (own.map (·.2)) hsl
        rw [a1]
        have ww : ∀ (vs ws : List Nat), (∀ i ∈ vs, i ∈ ws) → wipe (wipe σ ws) vs = wipe σ ws := fun vs => by
          induction vs with
          | nil => intro _ _; rfl
          | cons v vs ih =>
            intro ws hw
            show (wipe (wipe σ ws) vs).set v none = wipe σ ws
            rw [ih ws fun i hi => hw i (List.mem_cons_of_mem _ hi)]
            have hv := hw v List.mem_cons_self
            refine List.ext_getElem? fun j => ?_
            by_cases hj : v = j
            · subst hj
              by_cases hl : v < (wipe σ ws).length
              · rw [List.getElem?_set_self hl]
                cases q : (wipe σ ws)[v]? with
                | none => rw [List.getElem?_eq_none_iff] at q; omega
                | some u =>
                  cases u with
                  | none => rfl
                  | some u => exact absurd hv (wipe_some q).2
              · rw [List.getElem?_eq_none (by simpa using hl), List.getElem?_eq_none (by simpa using hl)]
            · rw [List.getElem?_set_ne hj]
        exact ww _ _ fun _ h => h
      · have eD2 : H2 D = some (.lst vs) := x2.prv D hDp _ eD (fun _ z => by cases z)
        have pa2 : PdA X.K (Own R' st') H2 vs acc := pa.stays x2.stays
        have xe2 := xe.trans S' x2
        refine ⟨R', ρ1, st', S2, E1', ?_⟩
        cases zt : mt ρ1 st' with
        | bad => rw [zt] at h'; exact h'
        | exc _ _ => rw [zt] at h'; exact h'.elim
        | ok b st2 =>
          rw [zt] at h'
          intro b' R3 H3 x3 S3 eb3
          obtain rfl : b' = b := eb3
          have eD3 : H3 D = some (.lst vs) := x3.prv D hDp _ eD2 (fun _ z => by cases z)
          have pa3 : PdA X.K (Own R3 st2) H3 vs acc := pa2.stays x3.stays
          have xe3 := xe2.trans S2 x3
          cases b' with
          | false =>
            rw [if_neg Bool.false_ne_true]
            exact ⟨R3, st2, acc, vs, xe3, S3, eD3, pa3, h'⟩
          | true =>
            rw [if_pos rfl]
            refine ⟨R3, ρ1, st2, S3, E1'.ext x3, ?_⟩
            dsimp only at h'
            cases zm : me ρ1 st2 with
            | bad => rw [zm] at h'; exact h'
            | exc _ _ => rw [zm] at h'; exact h'.elim
            | ok y3 st3 =>
              rw [zm] at h'
              cases y3 with
              | dat yd =>
                intro yv R4 H4 x4 S4 D4
                have e4 : R4.p = D :: R1.p := by rw [x4.pe, x3.pe, e3]
                have hD4 : D ∈ R4.p := by rw [e4]; exact List.mem_cons_self
                have hD3 : D ∈ R3.p := by rw [x3.pe]; exact hDp
                have eD4 : H4 D = some (.lst vs) := x4.prv D hD3 _ eD3 (fun _ z => by cases z)
                have pa4 : PdA X.K (Own R4 st3) H4 (vs ++ [yv]) (acc ++ [yd]) := (pa3.stays x4.stays).snoc D4
                have xe4 := xe3.trans S3 x4
                refine ⟨vs, eD4, by rw [pa.len, sizeLine_eq]; omega, R4, st3, acc ++ [yd], vs ++ [yv], ?_, sim_prv S4 hD4 (.inl ⟨_, eD4⟩), upd_same, ?_, h'⟩
                · have q := ext_prv (o' := .lst (vs ++ [yv])) (show D ∈ (R1.hide D).p from List.mem_cons_self) xe4
                  exact q
                · exact pa4.stays ⟨fun b u e n _ => by rw [upd_ne (show b ≠ D from fun z => n (.inr (z ▸ hD4)))]; exact e, fun b z => .inl z, fun _ h => upd_frN (fun _ z => by cases z) h⟩
              | loc _ => exact h'.elim
              | glob _ => exact h'.elim
              | fz _ => exact h'.elim
              | ty _ => exact h'.elim
              | raw _ => exact h'.elim
              | err _ _ _ _ => exact h'.elim
              | lam => exact h'.elim
  · have e : i = s.items.length := by omega
    subst e
    refine .inl ⟨wk.stop R' H' st' latR S' okk, ?_⟩
    rw [List.drop_length] at h'
    unfold loopC at h'
    rw [if_pos okk] at h'
    refine h' _ _ H' eb Sb ?_
    refine Pd.lst eD (fun z => ?_) (pa.stays (Stays.weak fun b z => ?_))
    · rcases z with ⟨n, ys, z1, _⟩ | z
      · exact S'.nr D (List.mem_of_getElem? z1) hDp
      · exact S1.freshP hD z
    · rcases z with z | z
      · exact .inl z
      · exact .inr (by rw [e3]; exact List.mem_cons_of_mem _ z)
theorem ev_lc (hc : X.calm = true) (hN : X.N.Nodup) (hi : EVI X W tg iter src) (ok : BlkOk X.N X.env.scope scope own)
    (hg : ∀ (s : Shared) (H : Hp) (C : Addr) (cl : List (Str × Addr)) (fp : List Addr), EVG (X.blk s H scope (compEnvC scope cl C X.env) fp) tg g t sl) (hsl : ∀ i ∈ sl, i ∈ own.map (·.2))
    (ht : ∀ (s : Shared) (H : Hp) (C : Addr) (cl : List (Str × Addr)) (fp : List Addr), EVTs (X.blk s H scope (compEnvC scope cl C X.env) fp) W0 ifs mt)
    (he : ∀ (s : Shared) (H : Hp) (C : Addr) (cl : List (Str × Addr)) (fp : List Addr), EV (X.blk s H scope (compEnvC scope cl C X.env) fp) W0 elt me) (hs : ∀ x, foldedSetIterable iter X.env x = pure x := by intro _; rfl) :
    EV X W (.ListComp elt [⟨tg, iter, ifs, 0⟩] scope pos) (mLc src (own.map (·.2)) t mt me) :=
  ⟨⟨fun pins s σ H Q I h => (pe_lc hc hN hi.pi ok (fun s H C cl fp => (hg s H C cl fp).pg) (fun s H C cl fp => (ht s H C cl fp).pts) (fun s H C cl fp => (he s H C cl fp).pe) hs).run pins s σ H Q I
    (tLc_of (hg s H 0 [] []).ok hsl h)⟩⟩
theorem evs_setLc {i : Nat} {y : Str} {py spos : Pos} (hc : X.calm = true) (hN : X.N.Nodup) (hy : X.N[i]? = some y) (hyl : X.env.scope.names.lookup y = some .local)
    (hsw : swapsWith (.ListComp elt [⟨tg, iter, ifs, 0⟩] scope pos) (some (.Name y py)) spos.line X.env = pure true) (hi : EVI X W tg iter src) (ok : BlkOk X.N X.env.scope scope own)
    (hg : ∀ (s : Shared) (H : Hp) (C : Addr) (cl : List (Str × Addr)) (fp : List Addr), EVG (X.blk s H scope (compEnvC scope cl C X.env) fp) tg g t sl) (hsl : ∀ i ∈ sl, i ∈ own.map (·.2))
    (ht : ∀ (s : Shared) (H : Hp) (C : Addr) (cl : List (Str × Addr)) (fp : List Addr), EVTs (X.blk s H scope (compEnvC scope cl C X.env) fp) W0 ifs mt)
    (he : ∀ (s : Shared) (H : Hp) (C : Addr) (cl : List (Str × Addr)) (fp : List Addr), EV (X.blk s H scope (compEnvC scope cl C X.env) fp) W0 elt me) (hs : ∀ x, foldedSetIterable iter X.env x = pure x := by intro _; rfl) :
    EVS X W (.Assign [.Name y py] (.ListComp elt [⟨tg, iter, ifs, 0⟩] scope pos) spos) (sSet i (mLc src (own.map (·.2)) t mt me)) :=
  ⟨⟨fun pins s σ H Dn I h => (ps_setLc hc hN hy hyl hsw hi.pi ok (fun s H C cl fp => (hg s H C cl fp).pg) (fun s H C cl fp => (ht s H C cl fp).pts) (fun s H C cl fp => (he s H C cl fp).pe) hs).run pins s σ H Dn I
    (tLc_of (W := W) (Q := fun x H1 => gName i x σ H1 Dn.nx) (hg s H 0 [] []).ok hsl (tAsg_of h))⟩⟩
end
end Ev
set_option Elab.async false
set_option linter.all false
set_option maxRecDepth 100000
set_option maxHeartbeats 4000000
/-! Ev8: methods of lists, x op= e, defs and their calls. -/
namespace Ev
open PySem PySem.Spec PyProof.Rows L2
open Classical
variable [τ : Tbl]

/-! ### methods of a list of the store -/
def MtOk (K : PySem.W.Frag) (mg : Str → Option Value) (T : String) (r : V → List V → Hp → VK → Prop) (f : D → List D → M D) : Prop :=
  (∀ (R : Rg) (H : Hp) (st : Sto) (v : V) (d : D) (ds : List D), Sim K R H st → Dv K mg R st H v d → f d ds st ≠ .bad → tyV K T v H) ∧
  ∀ (R : Rg) (H : Hp) (st : Sto) (v : V) (vs : List V) (d : D) (ds : List D) (Q : VK) (W : XK), Sim K R H st → Dv K mg R st H v d → DvA K mg R st H vs ds → Post K mg (Dv K mg) R H st (f d ds st) Q W → r v vs H Q
/-- the receiver must be there ahead of the arguments: a list of the store -/
def isLoc (d : D) : M D := fun st =>
  match d with
  | .loc n => match st[n]? with
    | some (.lst _) => .ok d st
    | _ => .bad
  | _ => .bad
def mMt (f : D → List D → M D) (mo : Env → M D) (ms : Env → M (List D)) : Env → M D := fun ρ => M.bind (mo ρ) fun o => M.bind (isLoc o) fun o => M.bind (ms ρ) fun ds => f o ds
def dAppend (o : D) (ds : List D) : M D := match ds with
  | [.dat y] => onLoc (fun xs => if xs.length ≤ 100000 then some (xs ++ [y], .none) else none) o
  | _ => M.bad
def dExtend (o : D) (ds : List D) : M D := match ds with
  | [d] => fun st => match dataOf d st with
    | some (.list ys) => onLoc (fun xs => if xs.length + ys.length ≤ 100000 then some (xs ++ ys, .none) else none) o st
    | _ => .bad
  | _ => M.bad
def dPopAt (o : D) (ds : List D) : M D := match ds with
  | [.dat (.int i)] => onLoc (fun xs => if xs.length ≤ 100000 then (match ixN xs.length i with
    | some k => (match xs[k]? with
      | some y => some (xs.eraseIdx k, y)
      | none => none)
    | none => none) else none) o
  | _ => M.bad
theorem PdA.erase {K : PySem.W.Frag} {U : Addr → Prop} {H : Hp} : ∀ {ds : List PyData} {vs : List V} (i : Nat), PdA K U H vs ds → PdA K U H (vs.eraseIdx i) (ds.eraseIdx i)
  | _, _, _, .nil => .nil
  | _, _, 0, .cons _ q => q
  | _, _, i + 1, .cons p q => .cons p (PdA.erase i q)
section
variable {K : PySem.W.Frag} {mg : Str → Option Value} {R : Rg} {H : Hp} {st : Sto} {v : V} {d : D} {Q : VK} {W : XK}
theorem okLoc {f : List PyData → Option (List PyData × PyData)} (S : Sim K R H st) (D1 : Dv K mg R st H v d) (h : Post K mg (Dv K mg) R H st (onLoc f d st) Q W) :
    ∃ n a xs ys r vs, d = .loc n ∧ v = .ref a ∧ R.r[n]? = some a ∧ st[n]? = some (Cell.lst xs) ∧ f xs = some (ys, r) ∧ H a = some (.lst vs) ∧ PdA K (Own R st) H vs xs ∧ Post K mg (Dv K mg) R H st (.ok (.dat r) (st.set n (.lst ys))) Q W := by
  unfold onLoc at h
  cases d with
  | loc n =>
    dsimp only at h
    obtain ⟨a, ha, rfl⟩ := D1
    cases z : st[n]? with
    | none => rw [z] at h; exact h.elim
    | some c =>
      rw [z] at h
      cases c with
      | dead => exact h.elim
      | lst xs =>
        dsimp only at h
        cases z2 : f xs with
        | none => rw [z2] at h; exact h.elim
        | some p =>
          obtain ⟨ys, r⟩ := p
          rw [z2] at h
          obtain ⟨vs, e1, e2⟩ := S.at_ n a xs ha z
          exact ⟨n, a, xs, ys, r, vs, rfl, rfl, ha, z, z2, e1, e2, h⟩
  | _ => exact h.elim
theorem ok_append : ∀ (R : Rg) (H : Hp) (st : Sto) (v : V) (vs : List V) (d : D) (ds : List D) (Q : VK) (W : XK), Sim K R H st → Dv K mg R st H v d → DvA K mg R st H vs ds → Post K mg (Dv K mg) R H st (dAppend d ds st) Q W → rAppend v vs H Q := by
  intro R H st v vs d ds Q W S D1 DA h
  unfold dAppend at h
  split at h
  · cases DA with
    | cons b c =>
      cases c
      obtain ⟨n, a, xs, ys, r, ws, rfl, rfl, ha, z, e, e1, e2, h⟩ := okLoc S D1 h
      split at e
      · rename_i hl
        cases e
        obtain ⟨x2, S2⟩ := ext_set S ha z (e2.snoc b)
        exact ⟨a, ws, _, rfl, rfl, e1, by rw [e2.len, sizeLine_eq]; omega, h _ _ _ x2 S2 Pd.non⟩
      · cases e
  · exact h.elim
theorem ok_extend : ∀ (R : Rg) (H : Hp) (st : Sto) (v : V) (vs : List V) (d : D) (ds : List D) (Q : VK) (W : XK), Sim K R H st → Dv K mg R st H v d → DvA K mg R st H vs ds → Post K mg (Dv K mg) R H st (dExtend d ds st) Q W → rExtend v vs H Q := by
  intro R H st v vs d ds Q W S D1 DA h
  unfold dExtend at h
  split at h
  · cases DA with
    | cons b c =>
      cases c
      split at h
      · rename_i ys0 z0
        obtain ⟨b', us, rfl, eb, pb⟩ := b.dataL S z0
        obtain ⟨n, a, xs, ys, r, ws, rfl, rfl, ha, z, e, e1, e2, h⟩ := okLoc S D1 h
        split at e
        · rename_i hl
          cases e
          obtain ⟨x2, S2⟩ := ext_set S ha z (e2.app pb)
          exact ⟨a, b', ws, us, rfl, rfl, e1, eb, small5 (by rw [e2.len, pb.len]; exact hl), h _ _ _ x2 S2 Pd.non⟩
        · cases e
      · exact h.elim
  · exact h.elim
theorem ok_popAt : ∀ (R : Rg) (H : Hp) (st : Sto) (v : V) (vs : List V) (d : D) (ds : List D) (Q : VK) (W : XK), Sim K R H st → Dv K mg R st H v d → DvA K mg R st H vs ds → Post K mg (Dv K mg) R H st (dPopAt d ds st) Q W → rPopAt v vs H Q := by
  intro R H st v vs d ds Q W S D1 DA h
  unfold dPopAt at h
  split at h
  · cases DA with
    | cons b c =>
      cases c
      cases b
      obtain ⟨n, a, xs, ys, r, ws, rfl, rfl, ha, z, e, e1, e2, h⟩ := okLoc S D1 h
      split at e
      · rename_i hl
        split at e
        · rename_i k z1
          split at e
          · rename_i y z2
            cases e
            obtain ⟨g1, g2, g3, g4⟩ := ixN_seq z1
            obtain ⟨u, eu, pu⟩ := e2.at_ z2
            obtain ⟨x2, S2⟩ := ext_set S ha z (e2.erase k)
            exact ⟨a, ws, _, k, u, rfl, rfl, e1, by omega, by omega, by rw [e2.len]; exact g1, eu, h _ _ _ x2 S2 (pu.stays x2.stays)⟩
          · cases e
        · cases e
      · cases e
  · exact h.elim
end
section
variable {X : Cx} {W : WX} {o e : Expr} {es : List Expr} {mo : Env → M D} {ms : Env → M (List D)} {name : Str} {apos cpos : Pos} {bid : String} {r : V → List V → Hp → VK → Prop} {f : D → List D → M D}
theorem ev_mt (pa : PlainAttrs "list") (slot : Slot "list" name bid) (hty : typeOf (.builtin bid) = pure (.type "method_descriptor")) (hm : MtR X bid r)
    (hf : ∀ (R : Rg) (H : Hp) (st : Sto) (v : V) (vs : List V) (d : D) (ds : List D) (Q : VK) (W : XK), Sim X.K R H st → Dv X.K X.mg R st H v d → DvA X.K X.mg R st H vs ds → Post X.K X.mg (Dv X.K X.mg) R H st (f d ds st) Q W → r v vs H Q)
    (ho : EV X W o mo) (ha : EVA X W (e :: es) ms)
    (hbase : attributeBase o name X.env (eval o X.env) = eval o X.env := by rfl)
    (hfew : ((backTo cpos (starEach (e :: es) X.env)).all (fun x => !x.1) && (backToKw cpos (keywordEach [] X.env)).all (fun x => x.1.isSome)
      && decide ((e :: es).length + ([] : List Keyword).length + (if ([] : List Keyword).isEmpty then 0 else 1) < 30)) = true := by rfl)
    (hline : (apos.endLine == cpos.line) = true := by rfl) (hs : starEach (e :: es) X.env = (false, eval e X.env) :: starEach es X.env := by rfl) (hplain : (backTo cpos (starEach es X.env)).any (·.1) = false := by rfl) :
    EV X W (.Call (.Attribute o name apos) (e :: es) [] cpos) (mMt f mo ms) := by
  refine ⟨PE.imp (pe_bm pa slot hty hm ho.pe ha.pa hbase hfew hline hs hplain) fun σ H Q h => ?_⟩
  obtain ⟨R, ρ, st, S, E, h⟩ := h
  refine ⟨R, ρ, st, S, E, (Post.bind (Rel := Dv X.K X.mg) (Rel2 := Dv X.K X.mg) h).monoQ fun v H1 ⟨R1, st1, d, x1, S1, D1, h1⟩ => ?_⟩
  unfold M.bind at h1
  cases d with
  | loc n =>
    unfold isLoc at h1
    dsimp only at h1
    cases z : st1[n]? with
    | none => rw [z] at h1; exact h1.elim
    | some c =>
      rw [z] at h1
      cases c with
      | dead => exact h1.elim
      | lst xs =>
        dsimp only at h1
        obtain ⟨a, ha', rfl⟩ := id D1
        obtain ⟨vs, e1, e2⟩ := S1.at_ n a xs ha' z
        refine ⟨.inl ⟨rfl, vs, .inl (.inl e1)⟩, R1, ρ, st1, S1, E.ext x1, ?_⟩
        have h2 : Post X.K X.mg (Dv X.K X.mg) R1 H1 st1 (M.bind (ms ρ) (fun ds => f (.loc n) ds) st1) Q (fun c d H' => W c d σ H') := h1
        exact (Post.bind (Rel := DvA X.K X.mg) (Rel2 := Dv X.K X.mg) h2).monoQ fun ws H2 ⟨R2, st2, ds, x2, S2, D2, h3⟩ => hf R2 H2 st2 _ ws _ ds Q _ S2 (Dv.ext x2 D1) D2 h3
  | _ => exact h1.elim
/-- x op= e: the operation by its function -/
theorem evs_aug {i : Nat} {x : Str} {op : Operator} {ti : TIp} {f : D → D → M D} {pos pos' : Pos} {me : Env → M D} (hN : X.N.Nodup) (hi : X.N[i]? = some x) (hx : Loc X.env.scope x) (he : EV X W e me) (ho : PIp X op ti)
    (hf : OpOk X.K X.mg ti f) (hf' : X.fn x = true ∨ X.env.scope.names.lookup x = some .local := by first | exact .inl rfl | exact .inr rfl | assumption) :
    EVS X W (.AugAssign (.Name x pos') op e pos) (sBind (vr i) fun y => sBind me fun z => sBind (fun _ => f y z) fun w ρ st => .nx (ρ.set i (some w)) st) := by
  refine ⟨PS.imp (ps_aug hN hi hx he.pe ho hf') fun Dn σ H h => ?_⟩
  obtain ⟨R, ρ, st, S, E, h⟩ := h
  unfold sBind at h
  dsimp only at h
  unfold vr at h
  cases q : ρ[i]? with
  | none => rw [q] at h; exact h.elim
  | some y =>
    rw [q] at h
    cases y with
    | none => exact h.elim
    | some y =>
      dsimp only at h
      obtain ⟨v, h1, h2⟩ := E.at_ i y q
      have h' : PostS X.K X.mg R H st (sBind me (fun z => sBind (fun _ => f y z) fun w ρ st => .nx (ρ.set i (some w)) st) ρ st) Dn W := h
      refine ⟨v, h1, R, ρ, st, S, E, ?_⟩
      refine (PostS.bind (Rel := fun R st H (b : V) d => Dv X.K X.mg R st H v y ∧ Dv X.K X.mg R st H b d) E h') |> fun k => ?_
      revert k
      cases zz : me ρ st with
      | bad => exact fun q => q
      | exc x st' => exact fun q => q
      | ok d2 st2 =>
        intro k w R2 H2 x2 S2 D2
        obtain ⟨R2', st2', d, S2', E2, ⟨D1', D2'⟩, h3⟩ := k w R2 H2 x2 S2 ⟨h2.ext x2, D2⟩
        have h4 := PostS.bind (Rel := Dv X.K X.mg) E2 h3
        exact hf R2' H2 st2' v w y d _ _ S2' D1' D2' (h4.monoQ fun b H3 ⟨R3, st3, d3, S3, E3, D3, h5⟩ => h5 _ R3 H3 .refl S3 (E3.set i D3))
end

/-! ### defs -/
def startE (n : Nat) (ds : List D) : Env := ds.map some ++ List.replicate (n - ds.length) none
/-- what is handed back: a list of the def's own is frozen, the store is as long as before -/
def giveD (n0 : Nat) (d : D) (st : Sto) : Res D :=
  match d with
  | .loc m => if m < n0 then .ok (.loc m) (st.take n0) else match st[m]? with
    | some (.lst xs) => .ok (.dat (.list xs)) (st.take n0)
    | _ => .bad
  | d => .ok d (st.take n0)
/-- the same of a def that makes a list that is to change -/
def giveL (n0 : Nat) (d : D) (st : Sto) : Res D :=
  match d with
  | .loc m => if m < n0 then .bad else match st[m]? with
    | some (.lst xs) => .ok (.loc n0) (st.take n0 ++ [.lst xs])
    | _ => .bad
  | _ => .bad
def runBody (give : Nat → D → Sto → Res D) (n np : Nat) (body : SM) (ds : List D) : M D := fun st =>
  if ds.length = np then match body (startE n ds) st with
    | .nx _ st' => give st.length (.dat .none) st'
    | .rt d st' => give st.length d st'
    | .exc x _ st' => .exc x (st'.take st.length)
    | _ => .bad
  else .bad
abbrev runB := runBody giveD
abbrev runL := runBody giveL
def SpF (K : PySem.W.Frag) (mg : Str → Option Value) (F : List D → M D) : Sp := fun vs H Q E => ∃ R st ds, Sim K R H st ∧ DvA K mg R st H vs ds ∧ Post K mg (Dv K mg) R H st (F ds st) Q E
/-- what stands around: no guards; sys.modules lies below -/
def Gd (A : Around) (base : Heap) : Prop := A.guards = some [] ∧ ∃ o, base.get? sysModules = some o
structure FnG (P : Program) (w : World) (K : PySem.W.Frag) (mg : Str → Option Value) (base : Heap) (k : Nat) (f : Addr) (fd : FuncData) (ps : List Str) (F : List D → M D) : Prop where
  ar : ∀ ds st, ds.length ≠ ps.length → F ds st = .bad
  run : ∀ (A : Around) (outer : List PySem.Env) (s : Shared) (H : Hp) (args : Args) (us : List Value) (vs : List V) (Q : VK) (E : XK), Room k A → Gd A base → Env0 P w K mg base A outer s H → BindsTo s fd args (ps.zip us) → Vals vs us → SpF K mg F vs H Q E →
    codeAny (model P w) A (.call (.ref f) args) (CR (L2.CX P w) outer P w H s Q E) s
theorem FnG.mono {P : Program} {w : World} {K : PySem.W.Frag} {mg : Str → Option Value} {base : Heap} {j k : Nat} {f : Addr} {fd : FuncData} {ps : List Str} {F : List D → M D} (G : FnG P w K mg base j f fd ps F) (h : j ≤ k) : FnG P w K mg base k f fd ps F :=
  ⟨G.ar, fun A outer s H args us vs Q E hr => G.run A outer s H args us vs Q E (hr.mono h)⟩
section
variable {K : PySem.W.Frag} {mg : Str → Option Value} {R R' : Rg} {H H' : Hp} {st st' : Sto}
theorem own_take {a : Addr} (e : Ext R H st R' H' st') (S : Sim K R H st) (h : Own R (st'.take st.length) a) : Own R' st' a := by
  rcases h with ⟨n, xs, h1, h2⟩ | h
  · refine .inl ⟨n, xs, e.at_ h1, ?_⟩
    have hn : n < st.length := by rw [← S.len]; exact (List.getElem?_eq_some_iff.mp h1).1
    rw [List.getElem?_take_of_lt hn] at h2
    exact h2
  · exact .inr (by rw [e.pe]; exact h)
theorem len_take (e : Ext R H st R' H' st') (S : Sim K R H st) (S' : Sim K R' H' st') : (st'.take st.length).length = st.length := by
  obtain ⟨Z, e1, _⟩ := e.pre
  have h1 := S'.len
  rw [e1, List.length_append, S.len] at h1
  rw [List.length_take]
  omega
/-- behind a call: what the def made for itself is forgotten -/
theorem ext_take (e : Ext R H st R' H' st') (S : Sim K R H st) (S' : Sim K R' H' st') : Ext R H st R H' (st'.take st.length) ∧ Sim K R H' (st'.take st.length) := by
  refine ⟨⟨⟨[], by simp, fun _ h => by cases h⟩, rfl, e.prv, ⟨e.stays.keep, fun a z => e.stays.own a (own_take e S z), e.stays.there⟩⟩, ⟨by rw [len_take e S S', S.len], S.nd, S.nr, fun a ha => ?_, fun a ha => S'.pl a (by rw [e.pe]; exact ha), fun n a xs h1 h2 => ?_, S'.fx.on (R' := R) (Stays.weak fun b z => own_take e S z) (fun x hx => (S.fx.tb x hx).1) fun _ _ e _ _ => e⟩⟩
  · refine S'.trk a ?_
    rcases ha with h | h
    · obtain ⟨Z, e1, _⟩ := e.pre
      exact .inl (by rw [e1]; exact List.mem_append_left _ h)
    · exact .inr (by rw [e.pe]; exact h)
  · have hn : n < st.length := by rw [← S.len]; exact (List.getElem?_eq_some_iff.mp h1).1
    rw [List.getElem?_take_of_lt hn] at h2
    obtain ⟨vs, e1, e2⟩ := S'.at_ n a xs (e.at_ h1) h2
    exact ⟨vs, e1, e2.stays (Stays.weak fun b z => own_take e S z)⟩
def GiveOk (give : Nat → D → Sto → Res D) : Prop :=
  ∀ (K : PySem.W.Frag) (mg : Str → Option Value) (R R' : Rg) (H H' : Hp) (st st' : Sto) (v : V) (d : D) (Q : VK) (W : XK), Sim K R H st → Ext R H st R' H' st' → Sim K R' H' st' → Dv K mg R' st' H' v d → Post K mg (Dv K mg) R H st (give st.length d st') Q W → Q v H'
theorem giveD_ok : GiveOk giveD := by
  intro K mg R R' H H' st st' v d Q W S e S' D1 h
  obtain ⟨x, Sx⟩ := ext_take e S S'
  unfold giveD at h
  cases d with
  | loc m =>
    dsimp only at h
    obtain ⟨a, ha, rfl⟩ := D1
    by_cases hm : m < st.length
    · rw [if_pos hm] at h
      refine h _ _ _ x Sx ⟨a, ?_, rfl⟩
      obtain ⟨Z, e1, _⟩ := e.pre
      rw [e1, List.getElem?_append_left (by rw [S.len]; exact hm)] at ha
      exact ha
    · rw [if_neg hm] at h
      cases z : st'[m]? with
      | none => rw [z] at h; exact h.elim
      | some c =>
        rw [z] at h
        cases c with
        | dead => exact h.elim
        | lst xs =>
          obtain ⟨vs, e1, e2⟩ := S'.at_ m a xs ha z
          refine h _ _ _ x Sx (Pd.lst e1 (fun o => ?_) (e2.stays (Stays.weak fun b z => own_take e S z)))
          rcases o with ⟨n, ys, h1, h2⟩ | o
          · have h1' := e.at_ h1
            obtain ⟨l1, g1⟩ := List.getElem?_eq_some_iff.mp h1'
            obtain ⟨l2, g2⟩ := List.getElem?_eq_some_iff.mp ha
            have en := (List.getElem_inj S'.nd).mp (g1.trans g2.symm)
            have hn : n < st.length := by rw [← S.len]; exact (List.getElem?_eq_some_iff.mp h1).1
            omega
          · exact S'.nr a (List.mem_of_getElem? ha) (by rw [e.pe]; exact o)
  | dat y => exact h _ _ _ x Sx (Pd.stays (Stays.weak fun b z => own_take e S z) D1)
  | glob y => exact h _ _ _ x Sx D1
  | fz ds =>
    obtain ⟨a, xs, h1, h2, h3⟩ := D1
    have st0 : Stays (Own R' st') (Own R (st'.take st.length)) H' H' := Stays.weak fun b z => own_take e S z
    exact h _ _ _ x Sx ⟨a, xs, h1, h2.stays st0, h3.stays st0⟩
  | ty t => exact h _ _ _ x Sx D1
  | raw t => exact h _ _ _ x Sx D1
  | lam => exact h _ _ _ x Sx D1
  | err u cls dd y => exact h _ _ _ x Sx ⟨D1.1, D1.2.stays (Stays.weak fun b z => own_take e S z)⟩
theorem giveL_ok : GiveOk giveL := by
  intro K mg R R' H H' st st' v d Q W S e S' D1 h
  obtain ⟨x, Sx⟩ := ext_take e S S'
  unfold giveL at h
  cases d with
  | loc m =>
    dsimp only at h
    obtain ⟨a, ha, rfl⟩ := D1
    by_cases hm : m < st.length
    · rw [if_pos hm] at h; exact h.elim
    · rw [if_neg hm] at h
      cases z : st'[m]? with
      | none => rw [z] at h; exact h.elim
      | some c =>
        rw [z] at h
        cases c with
        | dead => exact h.elim
        | lst xs =>
          dsimp only at h
          obtain ⟨vs, e1, e2⟩ := S'.at_ m a xs ha z
          have lt := len_take e S S'
          have aR : a ∉ R.r := fun q => by
            obtain ⟨n, hn⟩ := List.mem_iff_getElem?.mp q
            have h1' := e.at_ hn
            obtain ⟨l1, g1⟩ := List.getElem?_eq_some_iff.mp h1'
            obtain ⟨l2, g2⟩ := List.getElem?_eq_some_iff.mp ha
            have en := (List.getElem_inj S'.nd).mp (g1.trans g2.symm)
            have hn2 : n < st.length := by rw [← S.len]; exact (List.getElem?_eq_some_iff.mp hn).1
            omega
          have aP : a ∉ R.p := fun q => S'.nr a (List.mem_of_getElem? ha) (by rw [e.pe]; exact q)
          have own : ∀ b, Own (R.put a) (st'.take st.length ++ [.lst xs]) b → Own R (st'.take st.length) b ∨ b = a := by
            rintro b (⟨n, ys, h1, h2⟩ | o)
            · unfold Rg.put at h1
              dsimp only at h1
              by_cases hn : n < R.r.length
              · rw [List.getElem?_append_left hn] at h1
                rw [List.getElem?_append_left (by rw [lt, ← S.len]; exact hn)] at h2
                exact .inl (.inl ⟨n, ys, h1, h2⟩)
              · right
                rw [List.getElem?_append_right (by omega)] at h1
                have := List.mem_of_getElem? h1
                simpa using this
            · exact .inl (.inr o)
          have own' : ∀ b, Own (R.put a) (st'.take st.length ++ [.lst xs]) b → Own R' st' b := fun b z2 => by
            rcases own b z2 with q | q
            · exact own_take e S q
            · exact .inl ⟨m, xs, by rw [q]; exact ha, z⟩
          have Ha : Fr H a := by
            obtain ⟨Z, z1, z2⟩ := e.pre
            refine z2 a ?_
            have q := List.mem_of_getElem? ha
            rw [z1] at q
            rcases List.mem_append.mp q with q | q
            · exact absurd q aR
            · exact q
          refine h (.ref a) (R.put a) H' ⟨⟨[a], rfl, fun b hb => by rw [List.mem_singleton.mp hb]; exact Ha⟩, rfl, e.prv, ⟨e.stays.keep, fun b z2 => ?_, e.stays.there⟩⟩ ⟨?_, ?_, ?_, ?_, fun b hb => Sx.pl b hb, ?_, S'.fx.on (R' := R.put a) (Stays.weak own') (fun x hx => (S.fx.tb x hx).1) fun _ _ e _ _ => e⟩ ?_
          · exact e.stays.own b (own' b z2)
          · unfold Rg.put; simp only [List.length_append, List.length_singleton]; rw [lt, S.len]
          · exact List.nodup_append.mpr ⟨S.nd, by simp, fun b hb c hc => by rw [List.mem_singleton.mp hc]; exact fun q => aR (q ▸ hb)⟩
          · intro b hb
            rcases List.mem_append.mp hb with q | q
            · exact S.nr b q
            · rw [List.mem_singleton.mp q]; exact aP
          · intro b hb
            rcases hb with q | q
            · rcases List.mem_append.mp q with q | q
              · exact Sx.trk b (.inl q)
              · rw [List.mem_singleton.mp q]; exact Tk.of e1 (fun _ z => by cases z)
            · exact Sx.trk b (.inr q)
          · intro n b ys h1 h2
            have st0 : Stays (Own R' st') (Own (R.put a) (st'.take st.length ++ [.lst xs])) H' H' := Stays.weak own'
            unfold Rg.put at h1
            dsimp only at h1
            by_cases hn : n < R.r.length
            · rw [List.getElem?_append_left hn] at h1
              rw [List.getElem?_append_left (by rw [lt, ← S.len]; exact hn), List.getElem?_take_of_lt (by rw [← S.len]; exact hn)] at h2
              obtain ⟨ws, w1, w2⟩ := S'.at_ n b ys (e.at_ h1) h2
              exact ⟨ws, w1, w2.stays st0⟩
            · rw [List.getElem?_append_right (by omega)] at h1
              rw [List.getElem?_append_right (by rw [lt, ← S.len]; omega)] at h2
              have q1 : b = a := by
                have := List.mem_of_getElem? h1
                simpa using this
              have q2 : Cell.lst ys = Cell.lst xs := by
                have := List.mem_of_getElem? h2
                simpa using this
              cases q2
              exact ⟨vs, by rw [q1]; exact e1, e2.stays st0⟩
          · refine ⟨a, ?_, rfl⟩
            unfold Rg.put
            dsimp only
            rw [← S.len, List.getElem?_append_right (Nat.le_refl _), Nat.sub_self]
            rfl
  | _ => exact h.elim
end
theorem start_env {K : PySem.W.Frag} {mg : Str → Option Value} {R : Rg} {H : Hp} {st : Sto} {N : List Str} {vs : List V} {ds : List D} (DA : DvA K mg R st H vs ds) : EnvR K mg R st H (L2.start N vs) (startE N.length ds) := by
  have hl := DA.len
  refine ⟨by unfold L2.start startE; simp [hl], fun i d q => ?_⟩
  unfold startE at q
  by_cases hi : i < ds.length
  · rw [List.getElem?_append_left (by simpa using hi), List.getElem?_map] at q
    cases e : ds[i]? with
    | none => rw [e] at q; cases q
    | some x =>
      rw [e] at q
      cases q
      obtain ⟨v, h1, h2⟩ := DA.at_ e
      refine ⟨v, ?_, h2⟩
      unfold L2.start
      rw [List.getElem?_append_left (by simpa [hl] using hi), List.getElem?_map, h1]
      rfl
  · rw [List.getElem?_append_right (by simpa using hi), List.getElem?_replicate] at q
    split at q <;> cases q
/-- a def's run, for one call -/
theorem def_run {P : Program} {w : World} {K : PySem.W.Frag} {mg : Str → Option Value} {base : Heap} {x qual : Str} {st : Stmt} {f : Addr} {fd : FuncData} {N ps : List Str} {k : Nat} {body : SM} {give : Nat → D → Sto → Res D} (hgive : GiveOk give)
    (F : Fun K x qual st f fd) (S : FnScope N ps (defScope st)) {A : Around} {outer : List PySem.Env} {s : Shared} {H : Hp} {args : Args} {us : List Value} {vs : List V} {Q : VK} {E : XK}
    (hb : ∀ (cdv : Value), fd.code = cdv → Room k (A.deeper (envOfC qual (defScope st) s.heap.objs.size f cdv)) →
      EVSs (cxOf (L2.CX P w) P w K mg base N qual (defScope st) f cdv A outer s H E) (fun c d _ H' => E c d H') (defBody st) body)
    (hr : Room (k + 1) A) (e0 : Env0 P w K mg base A outer s H) (hbd : BindsTo s fd args (ps.zip us)) (rv : Vals vs us) (hsp : SpF K mg (runBody give N.length ps.length body) vs H Q E) :
    codeAny (model P w) A (.call (.ref f) args) (CR (L2.CX P w) outer P w H s Q E) s := by
  obtain ⟨oc, od, kV, doc, pm, an, cdv, ct, osl, rfl, lk, hcd⟩ := F.ex
  obtain ⟨R, sto, ds, Sm, DA, hp⟩ := hsp
  have hlen : ds.length = ps.length := by
    by_cases q : ds.length = ps.length
    · exact q
    · unfold runBody at hp
      rw [if_neg q] at hp
      exact hp.elim
  have hl : vs.length = ps.length := by rw [DA.len]; exact hlen
  have KX : K.In s.heap := e0.mod.kin.keeps fun b o e => (e0.bs b o e).1
  have lim : s.heap.NoLimit := e0.mod.nolimit.keeps fun b o e => (e0.bs b o e).1
  have kinds : ∀ y ∈ ps.zip us, (defScope st).names.lookup y.1 = some .local ∨ ((defScope st).names.lookup y.1 = some .cell ∧ ((cellsFrom (s.heap.objs.size + 1) (defScope st).names []).lookup y.1).isSome = true) := by
    rintro ⟨n, v⟩ hy
    rcases S.par n (List.of_mem_zip hy).1 with q | q
    · exact .inl q
    · exact .inr ⟨q, PySem.W.cellsFrom_some _ _ _ (.inl q)⟩
  refine codeAny_call_function hr.depth (KX _ _ lk) rfl S.co S.gen rfl (PySem.W.codeRec_of KX hcd) (hbd _ _ _ _ (wpAny_newFunctionEnv_cells S.kind kinds fun env he s1 xc => ?_))
  subst he
  refine ⟨lim.keeps xc.toInCall.keep, codeAny_func ?_⟩
  have I := inv_start (CX := L2.CX P w) (E := E) S hr.hd e0 hl rv xc
  refine wpAny_mono ((hb cdv rfl (hr.deeper _)).ps.run [] s1 (L2.start N vs) H { nx := fun _ H' => Q .non H', rt := Q } I ⟨R, startE N.length ds, sto, Sm, start_env DA, ?_⟩) (fun fl s' hs => ?_) fun e s' hs => hs
  · unfold runBody at hp
    rw [if_pos hlen] at hp
    cases z : body (startE N.length ds) sto with
    | nx ρ' st' =>
      rw [z] at hp
      exact fun σ' R' H' e' s' q => hgive K mg R R' H H' sto st' .non _ Q E Sm e' s' Dv.non hp
    | rt d st' =>
      rw [z] at hp
      exact fun v R' H' e' s' q => hgive K mg R R' H H' sto st' v d Q E Sm e' s' q hp
    | bk ρ' st' => rw [z] at hp; exact hp.elim
    | ct ρ' st' => rw [z] at hp; exact hp.elim
    | exc y ρ' st' =>
      rw [z] at hp
      intro σ' R' H' cls dx e' s' q ex
      obtain ⟨x2, S2⟩ := ext_take e' Sm s'
      exact hp _ _ cls dx x2 S2 (ex.stays (Stays.weak fun b z => own_take e' Sm z))
    | bad => rw [z] at hp; exact hp.elim
  · have fin : ∀ {σ' : L2.St} {H' : Hp} {v : V} {u : Value}, L2.Inv (cxOf (L2.CX P w) P w K mg base N qual (defScope st) f cdv A outer s H E) [] σ' H' s' → RelV v u → Q v H' → CE outer P w H s Q u s' :=
      fun {σ' H' v u} J rv q => ⟨v, H', J.os, J.bare, J.base, J.hok, rv, q⟩
    cases fl with
    | ret u =>
      obtain ⟨v, σ', H', J, rv, q⟩ := hs
      exact fin J rv q
    | next =>
      obtain ⟨σ', H', J, q⟩ := hs
      exact fin (v := V.non) (u := Value.none) J rfl q
    | brk =>
      obtain ⟨_, _, _, q⟩ := hs
      exact q.elim
    | cont =>
      obtain ⟨_, _, _, q⟩ := hs
      exact q.elim
/-- THE RULE for a def -/
theorem fnG_of {P : Program} {w : World} {K : PySem.W.Frag} {mg : Str → Option Value} {base : Heap} {x qual : Str} {st : Stmt} {f : Addr} {fd : FuncData} {N ps : List Str} {k : Nat} {body : SM} {give : Nat → D → Sto → Res D} (hgive : GiveOk give)
    (F : Fun K x qual st f fd) (S : FnScope N ps (defScope st))
    (hb : ∀ (cdv : Value) (A : Around) (outer : List PySem.Env) (s : Shared) (H : Hp) (E : XK), fd.code = cdv → Room k (A.deeper (envOfC qual (defScope st) s.heap.objs.size f cdv)) → Gd A base →
      EVSs (cxOf (L2.CX P w) P w K mg base N qual (defScope st) f cdv A outer s H E) (fun c d _ H' => E c d H') (defBody st) body) :
    FnG P w K mg base (k + 1) f fd ps (runBody give N.length ps.length body) :=
  ⟨fun ds st h => by unfold runBody; rw [if_neg h], fun A outer s H args us vs Q E hr hgd e0 hbd rv hsp => def_run hgive F S (fun cdv ec r => hb cdv A outer s H E ec r hgd) hr e0 hbd rv hsp⟩

/-! ### calls -/
/-- what stands around a piece of code -/
structure GC (X : Cx) (W : WX) (k : Nat) : Prop where
  room : Room k X.A
  gd : Gd X.A X.base
  tk : Takes X W
theorem runG {X : Cx} {W : WX} {k : Nat} {f : Addr} {fd : FuncData} {ps : List Str} {F : List D → M D} {args : Args} {us : List Value} {vs : List V} {pins : List (Addr × Obj)} {σ : L2.St} {H : Hp} {s : Shared} {Q : VK}
    (G : FnG X.prog X.w X.K X.mg X.base k f fd ps F) (C : GC X W k) (I : L2.Inv X pins σ H s) (hb : BindsTo s fd args (ps.zip us)) (r : Vals vs us) (h : SpF X.K X.mg F vs H Q (fun c d H' => W c d σ H')) :
    codeAny (model X.prog X.w) X.A (.call (.ref f) args) (fun r s' => match r with | .ok (.ret u) => EP X pins σ Q u s' | .ok _ => False | .error e => X.xe e s') s := by
  refine codeAny_mono (G.run X.A X.stack s H args us vs Q _ C.room C.gd I.env0 hb r h) fun r s' hq => ?_
  cases r with
  | error e => exact passAt C.tk σ pins H s e s' I hq
  | ok fl =>
    cases fl with
    | ret u => exact I.after hq
    | next => exact hq.elim
    | brk => exact hq.elim
    | cont => exact hq.elim
section
variable {X : Cx} {W : WX} {k : Nat} {f : Addr} {fd : FuncData} {ps : List Str} {F : List D → M D} {x : Str} {p pos : Pos} {e : Expr} {es : List Expr} {ms : Env → M (List D)}
/-- f(e, ..), every parameter given by its place -/
theorem ev_call (G : FnG X.prog X.w X.K X.mg X.base k f fd ps F) (C : GC X W k) (hg : Gl X x) (hm : X.mg x = some (.ref f)) (hk : PySem.W.keepIn X.K (.ref f) = true) (hb : Binds X.K fd ps []) (ha : EVA X W (e :: es) ms)
    (hdb : (x == ("__debug__" : Str)) = false := by decide) (he : starEach (e :: es) X.env = (false, eval e X.env) :: starEach es X.env := by rfl) (hpl : (backTo pos (starEach es X.env)).any (·.1) = false := by rfl) :
    EV X W (.Call (.Name x p) (e :: es) [] pos) (mC F ms) := by
  refine ⟨⟨fun pins s σ H Q I h => ?_⟩⟩
  refine wpAny_Call_Name_kw (ld_glob I hg hm ?_ hdb)
  obtain ⟨R, ρ, st, S, E, h⟩ := tA_of (β := V) h
  refine PySem.W.callWith_K (h₀ := X.base) I.ok.mod.kin hk (thn (ha.pa.run pos pins s σ H (fun vs H1 => SpF X.K X.mg F vs H1 Q (fun c d H' => W c d σ H')) I
    ⟨R, ρ, st, S, E, h.monoQ fun vs H1 ⟨R1, st1, ds, S1, D1, h2⟩ => ⟨R1, st1, ds, S1, D1, h2⟩⟩) fun us s1 ⟨vs, H1, I1, r, q⟩ => ⟨I1.kIn, ?_⟩) he hpl
  have hl : us.length = ps.length := by
    obtain ⟨R1, st1, ds, S1, D1, h2⟩ := id q
    rw [← r.length, D1.len]
    by_cases z : ds.length = ps.length
    · exact z
    · rw [G.ar ds st1 z] at h2
      exact h2.elim
  have b := hb s1 us I1.kIn (by rw [List.append_nil]; exact hl)
  rw [List.append_nil] at b
  refine wpAny_call (codeAny_mono (runG G C I1 b r q) fun r s' hq => ?_)
  cases r with
  | error e => exact hq
  | ok fl =>
    cases fl with
    | ret u => exact hq
    | next => exact hq.elim
    | brk => exact hq.elim
    | cont => exact hq.elim
end
end Ev
set_option Elab.async false
set_option linter.all false
set_option maxRecDepth 100000
set_option maxHeartbeats 4000000
/-! Ev9: a law's end, by its def's rule. -/
namespace Ev
open PySem PySem.Spec PyProof.Rows L2
open Classical
/-- nothing is kept beside -/
instance noTbl : Tbl := ⟨[], fun _ _ => False, fun _ _ => False, none⟩

theorem pdA_ints {K : PySem.W.Frag} {U : Addr → Prop} {H : Hp} : ∀ ns : List Int, PdA K U H (ns.map V.int) (ns.map PyData.int)
  | [] => .nil
  | n :: r => .cons (.int n) (pdA_ints r)
section
variable {P : Program} {w : World} {K : PySem.W.Frag} {mg mb : Str → Option Value} {k : Nat} {fa ad : Addr} {fd : FuncData} {x : Str} {F : List D → M D} {s : Shared} {us : List Value} {ns : List Int}
theorem _root_.PyProof.Rows.Top.sysm {p : Program} {loose : List Str} {mean : ExcName → Option Value} {mg mb : Str → Option Value} {h : Heap} (T : Top p loose mean mg mb h) (hi : importsNone p = true) : ∃ o es ep, h.get? sysModules = some o ∧ o.data = .dict es ep :=
  let ⟨_, ⟨o, es, ep, a, b, _⟩, _⟩ := (T.seer hi).mods; ⟨o, es, ep, a, b⟩
/-- what the judge of a call wants -/
def Told (s : Shared) : Result → Shared → Prop := fun r s' => r = .ok (.ret (.bool true)) ∧ OldK s.heap s'.heap ∧ s'.os = s.os ∧ AllBare s'.gens
/-- over a heap in which nothing but the script may be tracked -/
theorem end_core {G : Hp} (kin : K.In s.heap) (ng : s.heap.Ns mainGlobals mg) (nb : s.heap.Ns builtinsNs mb) (bb : ∀ y : Str, y ≠ "__name__" → mb y = bootBuiltins y) (nl : s.heap.NoLimit) (sy : ∃ o es ep, s.heap.get? sysModules = some o ∧ o.data = .dict es ep) (gn : s.gens = #[])
    (hz : ∀ b, G b ≠ none → b = ad) (only : ∀ b, G b = none ∨ ∃ o xs, G b = some (.frz o (.lst xs))) (noD : ∀ o es ep, s.heap.get? ad = some o → o.data ≠ .dict es ep) (noK : G ad ≠ none → K.lookup ad = none)
    (hk : HOk P w G s.heap) (rm : Room k callerA) (Fn : ∀ bs : Heap, K.In bs → bs.Ns mainGlobals mg → FnG P w K mg bs k fa fd [x] F) (bd : BindsTo s fd ⟨[.ref ad], []⟩ [(x, .ref ad)])
    (hL : LstAt K (fun _ => False) G ad (ns.map V.int)) (hv : ∃ st', F [.fz (ns.map PyData.int)] [] = .ok (.dat (.bool true)) st') :
    codeAny (model P w) callerA (.call (.ref fa) ⟨[.ref ad], []⟩) (Told s) s := by
  have keepN : ∀ {b : Addr} {m : Str → Option Value}, s.heap.Ns b m → (hidT s.heap G).Ns b m := fun {b m} ⟨o, es, ep, e, dd, rr⟩ => by
    refine ⟨o, es, ep, hidT_get e ?_, dd, rr⟩
    cases q : G b with
    | none => rfl
    | some u =>
      obtain rfl := hz b (by rw [q]; exact Option.some_ne_none u)
      exact absurd dd (noD o es ep e)
  have kin2 : K.In (hidT s.heap G) := fun b o e => by
    refine hidT_get (kin b o e) ?_
    cases q : G b with
    | none => rfl
    | some u =>
      obtain rfl := hz b (by rw [q]; exact Option.some_ne_none u)
      rw [noK (by rw [q]; exact Option.some_ne_none u)] at e
      cases e
  obtain ⟨mc, l1, l2⟩ := nl
  have md : Mod K mg (hidT s.heap G) := { kin := kin2, glob := keepN ng, blt := ⟨mb, keepN nb, bb⟩, nolimit := ⟨mc, keepN l1, l2⟩ }
  have sy2 : ∃ o, (hidT s.heap G).get? sysModules = some o := by
    obtain ⟨o, es, ep, e, dd⟩ := sy
    refine ⟨o, hidT_get e ?_⟩
    cases q : G sysModules with
    | none => rfl
    | some u =>
      obtain z := hz _ (by rw [q]; exact Option.some_ne_none u)
      rw [z] at e
      exact absurd dd (noD o es ep e)
  have ev : Env0 P w K mg (hidT s.heap G) callerA [] s G :=
    { frames := rfl, mod := md, bs := fun b o e => of_hidT e, bsz := Nat.le_of_eq (hidT_size _ _), funs := trivial, frf := fun b hb => (List.not_mem_nil hb).elim, hok := hk, bare := .of_eq gn }
  obtain ⟨st', hv⟩ := hv
  have own0 : ∀ b, Own ⟨[], []⟩ [] b → False := fun b z => by
    rcases z with ⟨n, xs, z1, _⟩ | z1
    · cases z1
    · cases z1
  have sm : Sim K ⟨[], []⟩ G [] := { len := rfl, nd := List.nodup_nil, nr := (fun a h => by cases h), trk := (fun a h => by rcases h with h | h <;> cases h), pl := (fun a h => by cases h), at_ := (fun n a xs h => by cases h), fx := ⟨(fun x h => by cases h), (fun v d h => h.elim), (fun c q h => h.elim)⟩ }
  have stz : Stays (fun _ => False) (Own ⟨[], []⟩ []) G G := Stays.weak own0
  have spf : SpF K mg F [.ref ad] G (fun v _ => v = .bl true) (fun _ _ _ => False) := by
    refine ⟨⟨[], []⟩, [], [.fz (ns.map PyData.int)], sm, .cons ⟨ad, _, rfl, hL.stays stz, pdA_ints ns⟩ .nil, ?_⟩
    rw [hv]
    intro v R' H' _ _ q
    cases q
    rfl
  refine codeAny_mono ((Fn _ kin2 (keepN ng)).run callerA [] s G ⟨[.ref ad], []⟩ [.ref ad] [.ref ad] _ _ rm ⟨rfl, sy2⟩ ev bd (.cons rfl .nil) spf) fun r s' hr => ?_
  cases r with
  | error e =>
    obtain ⟨_, _, _, _, _, _, _, _, _, _, _, _, no⟩ := hr
    exact no.elim
  | ok fl =>
    cases fl with
    | ret u =>
      obtain ⟨v, H', os, bare, un, hk', rv, rfl⟩ := hr
      obtain rfl : u = Value.bool true := rv
      refine ⟨rfl, OldK.of_keep fun b o e => ?_, os, bare⟩
      rcases only b with q | ⟨ob, xs, q⟩
      · exact un.keep b o e q List.not_mem_nil List.not_mem_nil
      · obtain ⟨g1, _⟩ := hk b _ q
        obtain ⟨g2, _⟩ := hk' b _ (un.frzs b ob _ q)
        rw [e] at g1
        cases g1
        exact g2
    | next => exact hr.elim
    | brk => exact hr.elim
    | cont => exact hr.elim
/-- the law's call -/
theorem end_call (kin : K.In s.heap) (ng : s.heap.Ns mainGlobals mg) (nb : s.heap.Ns builtinsNs mb) (bb : ∀ y : Str, y ≠ "__name__" → mb y = bootBuiltins y) (nl : s.heap.NoLimit) (sy : ∃ o es ep, s.heap.get? sysModules = some o ∧ o.data = .dict es ep) (gn : s.gens = #[])
    (ho : s.heap.get? ad = some { cls := .type "list", data := .seq us.toArray }) (hi : IntsAre us ns) (hl : ns.length ≤ sizeLine) (rm : Room k callerA)
    (Fn : ∀ bs : Heap, K.In bs → bs.Ns mainGlobals mg → FnG P w K mg bs k fa fd [x] F) (bd : BindsTo s fd ⟨[.ref ad], []⟩ [(x, .ref ad)]) (hv : ∃ st', F [.fz (ns.map PyData.int)] [] = .ok (.dat (.bool true)) st') :
    codeAny (model P w) callerA (.call (.ref fa) ⟨[.ref ad], []⟩) (Told s) s := by
  have vi := vals_ints hi
  have noD : ∀ o es ep, s.heap.get? ad = some o → o.data ≠ .dict es ep := fun o es ep e z => by
    rw [ho] at e
    cases e
    cases (show Data.seq us.toArray _ = Data.dict es ep from z)
  cases q : K.lookup ad with
  | some o =>
    have e := kin ad o q
    rw [ho] at e
    cases e
    refine end_core (G := fun _ => none) kin ng nb bb nl sy gn (fun b z => absurd rfl z) (fun b => .inl rfl) noD (fun z => absurd rfl z) (fun b o z => by cases (show (none : Option HO) = some o from z)) rm Fn bd (.inr ⟨_, us.toArray, _, q, rfl, rfl, rfl, ?_, by simpa using vi⟩) hv
    rw [List.size_toArray, hi.length]
    exact hl
  | none =>
    let Z : HO := .frz { cls := .type "list", data := .seq us.toArray } (.lst (ns.map V.int))
    have z1 : (fun b => if b = ad then some Z else none) ad = some Z := if_pos rfl
    refine end_core (G := fun b => if b = ad then some Z else none) kin ng nb bb nl sy gn (fun b z => ?_) (fun b => ?_) noD (fun _ => q) (fun b o z => ?_) rm Fn bd (.inl ⟨.inr ⟨_, z1⟩, id⟩) hv
    · by_cases c : b = ad
      · exact c
      · exact absurd (if_neg c) z
    · by_cases c : b = ad
      · exact .inr ⟨_, _, if_pos c⟩
      · exact .inl (if_neg c)
    · by_cases c : b = ad
      · have e := (if_pos c).symm.trans z
        cases e
        subst c
        exact ⟨ho, by rw [List.length_map]; exact hl, us, _, vi, ho⟩
      · cases (if_neg c).symm.trans z
end
/-- the goal behind the head -/
theorem end_law {l : PySem.W.OpenLaw} {n k : Nat} {q : Program} {loose : List Str} {XP : (Str → Option Value) → Heap → Prop} {YP : World → Heap → Prop} {d : DefRec} {x : Str} {F : List D → M D}
    (hn : l.most = some n) (hn2 : n ≤ sizeLine) (hdf : d.params.defaults = []) (hi : importsNone q = true) (rm : Room k callerA)
    (Fn : ∀ (w : World) (mg : Str → Option Value) (fa : Addr) (h : Heap), YP w h → h.Ns mainGlobals mg → mg d.name = some (.ref fa) →
      ∃ (K : PySem.W.Frag) (fd : FuncData), K.In h ∧ (∀ (s : Shared) (u : Value), BindsTo s fd ⟨[u], []⟩ [(x, u)]) ∧
        ∀ bs : Heap, K.In bs → bs.Ns mainGlobals mg → FnG l.prog w K mg bs k fa fd [x] F)
    (hv : ∀ ns : List Int, ns.length ≤ n → (∀ i ∈ ns, Builtin.Int.intBits i ≤ 1048576) → ∃ st', F [.fz (ns.map PyData.int)] [] = .ok (.dat (.bool true)) st') :
    PySem.W.WalkO q loose XP YP l.row.toRowW d [] (fun f vs => PySem.call f vs) := by
  refine Att.attach_callB hn hdf fun w s0 s1 mg mb fa o pm cd doc ad us ns G Y _ _ _ hmg hobj hints hlen hbits hgen => ?_
  obtain ⟨K, fd, kin, bd, hF⟩ := Fn w mg fa _ Y G.T.g hmg
  exact end_call kin G.T.g G.T.b G.T.builtins G.T.nolimit (G.T.sysm hi) hgen hobj hints (Nat.le_trans hlen hn2) rm hF (bd _ _) (hv ns hlen hbits)
end Ev
set_option Elab.async false
set_option linter.all false
set_option maxRecDepth 100000
set_option maxHeartbeats 4000000
/-! Ev10: short words for derivations. -/
namespace Ev
open PySem PySem.Spec PyProof.Rows L2
open Classical
variable [τ : Tbl]

section
variable {X : Cx} {W : WX} {pos : Pos}
/-- int, bool, tuple .. as a value -/
theorem ev_tyn {x : Str} {t : Ty} (hg : Gl X x) (hm : X.mg x = none) (hv : bootBuiltins x = some (.type t.name)) (hn : x ≠ "__name__" := by decide) (hd : (x == ("__debug__" : Str)) = false := by decide) : EV X W (.Name x pos) (ct (.ty t)) :=
  ⟨PE.imp (pe_bltn hg hm hv (v := .ty t.name) rfl hn hd) fun _ _ _ h => tC_of (X := X) (d := .ty t) (fun _ _ _ => rfl) h⟩
/-- a def of the module as a value -/
theorem ev_gfun {x : Str} {f : Addr} (hg : Gl X x) (hm : X.mg x = some (.ref f)) (hd : (x == ("__debug__" : Str)) = false := by decide) : EV X W (.Name x pos) (ct (.glob x)) :=
  ⟨PE.imp (pe_glob hg hm (v := .ref f) rfl hd) fun _ _ _ h => tC_of (X := X) (d := .glob x) (fun _ _ _ => ⟨f, hm, rfl⟩) h⟩
end
/-! ### dicts written out, keys constants -/
abbrev RelL (K : PySem.W.Frag) (n : Nat) : RelT (List PyData) (List V) := fun R st H b a => PdA K (Own R st) H b a ∧ a.length = n
structure EVD (X : Cx) (W : WX) (pos : Pos) (keys : List (Option Expr)) (values : List Expr) (ks : List Key) (m : Env → M (List PyData)) : Prop where
  ex : ∃ trs, PPs X pos keys values trs ∧ ∀ (σ : L2.St) (H : Hp) (Q : List V → Hp → Prop) (Q2 : List (V × V) → Hp → Prop) (R : Rg) (ρ : Env) (st : Sto), Sim X.K R H st → EnvR X.K X.mg R st H σ ρ →
    (∀ vs H', vs.length = ks.length → Q vs H' → Q2 ((ks.zip vs).map fun kv => (kV kv.1, kv.2)) H') →
    Post X.K X.mg (RelL X.K ks.length) R H st (m ρ st) Q (fun c d H' => W c d σ H') → tPairs trs σ H Q2
def dNil : Env → M (List PyData) := fun _ => M.pure []
def asDat : D → M PyData
  | .dat y => M.pure y
  | _ => M.bad
def dCons (m : Env → M D) (r : Env → M (List PyData)) : Env → M (List PyData) := fun ρ => M.bind (m ρ) fun x => M.bind (asDat x) fun y => M.bind (r ρ) fun ys => M.pure (y :: ys)
section
variable {X : Cx} {W : WX} {pos : Pos} {keys : List (Option Expr)} {values : List Expr} {k v : Expr} {ks : List Key} {a : Key} {m : Env → M (List PyData)} {mv : Env → M D}
theorem evd_nil : EVD X W pos [] [] [] dNil := by
  refine ⟨[], pps_nil, fun σ H Q Q2 R ρ st S E q h => ?_⟩
  exact q [] H rfl (h.okR S ⟨.nil, rfl⟩)
theorem evd_cons (hk : PE X k (tC (kV a))) (hv : EV X W v mv) (hr : EVD X W pos keys values ks m) : EVD X W pos (some k :: keys) (v :: values) (a :: ks) (dCons mv m) := by
  obtain ⟨trs, p, im⟩ := hr.ex
  refine ⟨(tC (kV a), tM X.K X.mg W mv) :: trs, pps_cons hk hv.pe p, fun σ H Q Q2 R ρ st S E q h => ?_⟩
  have h1 := Post.bind (Rel := Dv X.K X.mg) (Rel2 := RelL X.K (a :: ks).length) h
  refine ⟨R, ρ, st, S, E, h1.monoQ fun x H1 ⟨R1, st1, d, x1, S1, D1, h2⟩ => ?_⟩
  cases d with
  | dat y =>
    have h3 := Post.bind (Rel := RelL X.K ks.length) (Rel2 := RelL X.K (a :: ks).length) (m := m ρ) (f := fun ys => M.pure (y :: ys)) h2
    refine im σ H1 _ _ R1 ρ st1 S1 (E.ext x1) (fun vs H2 l2 ⟨R2, st2, ys, x2, S2, ⟨p2, l3⟩, h5⟩ => ?_) h3
    have D2 : Pd X.K (Own R2 st2) H2 x y := Dv.ext (d := .dat y) x2 D1
    refine q (x :: vs) H2 (by rw [List.length_cons, List.length_cons, l2]) ?_
    exact Post.okR (Rel := RelL X.K (a :: ks).length) S2 ⟨.cons D2 p2, by rw [List.length_cons, List.length_cons, l3]⟩ h5
  | _ => exact h2.elim
theorem merge_new {κ : Type} [DecidableEq κ] : ∀ (more kvs : List (κ × V)), ((kvs ++ more).map (·.1)).Nodup → more.foldl (fun acc kv => putK acc kv.1 kv.2) kvs = kvs ++ more
  | [], kvs, _ => by simp
  | p :: r, kvs, h => by
    have h1 : putK kvs p.1 p.2 = kvs ++ [p] := by
      unfold putK
      rw [if_neg]
      intro z
      rw [List.any_eq_true] at z
      obtain ⟨q, hq, e⟩ := z
      have e' : q.1 = p.1 := by simpa using e
      rw [List.map_append, List.nodup_append] at h
      exact h.2.2 _ (List.mem_map_of_mem hq) p.1 (by simp) e'
    rw [List.foldl_cons, h1, merge_new r (kvs ++ [p]) (by simpa using h)]
    simp
theorem pdK_zip {K : PySem.W.Frag} {U : Addr → Prop} {H : Hp} : ∀ {ks : List Key} {vs : List V} {ds : List PyData}, PdA K U H vs ds → PdK K U H (ks.zip vs) ((ks.map keyD).zip ds)
  | [], _, _, _ => by simp only [List.zip_nil_left, List.map_nil]; exact .nil
  | k :: ks, _, _, .nil => by simp only [List.zip_nil_right]; exact .nil
  | k :: ks, _, _, .cons p q => .cons p (pdK_zip q)
def mDct (ks : List Key) (m : Env → M (List PyData)) : Env → M D := fun ρ => M.bind (m ρ) fun ys => M.pure (.dat (.dict ((ks.map keyD).zip ys)))
theorem ev_dct (h : EVD X W pos keys values ks m) (hd : ks.Nodup) (h15 : keys.length ≤ 15) (hall : keys.all (·.isSome) = true := by rfl) (hl : keys.length = values.length := by rfl) (h0 : keys ≠ [] := by simp) (hkl : ks.length = keys.length := by rfl) :
    EV X W (.Dict keys values pos) (mDct ks m) := by
  obtain ⟨trs, p, im⟩ := h.ex
  refine ⟨PE.imp (pe_disp p hall hl h0 h15) fun σ H Q h => ?_⟩
  obtain ⟨R, ρ, st, S, E, h⟩ := h
  intro ad hp
  have E1 : EnvR X.K X.mg (R.hide ad) st (upd H ad (.dK [])) σ ρ := by
    refine ⟨E.len, fun j e q => ?_⟩
    obtain ⟨v, q1, q2⟩ := E.at_ j e q
    refine ⟨v, q1, ?_⟩
    have ss : Stays (Own R st) (Own (R.hide ad) st) H (upd H ad (.dK [])) := ⟨fun b u e _ _ => by rw [upd_ne (ne_of_none e hp)]; exact e, (fun b z => by
      rcases own_hide.mp z with z | z
      · exact .inl z
      · exact .inr (Fr.none (z ▸ hp))), fun _ h => upd_fr hp h⟩
    cases e with
    | dat e => exact Pd.stays ss q2
    | loc n => exact q2
    | glob x => exact q2
    | fz ds => obtain ⟨a, xs, h1, h2, h3⟩ := q2; exact ⟨a, xs, h1, h2.stays ss, h3.stays ss⟩
    | ty t => exact q2
    | raw t => exact q2
    | lam => exact q2
    | err u cls d x => exact ⟨q2.1, q2.2.stays ss⟩
  refine im σ _ (fun vs H2 => ∃ R2 st2 ys, Ext (R.hide ad) (upd H ad (.dK [])) st R2 H2 st2 ∧ Sim X.K R2 H2 st2 ∧ RelL X.K ks.length R2 st2 H2 vs ys ∧
    Post X.K X.mg (Dv X.K X.mg) R H st (.ok (.dat (.dict ((ks.map keyD).zip ys))) st2) Q (fun c d H' => W c d σ H')) _ (R.hide ad) ρ st (sim_hide S hp) E1 (fun vs H2 l2 ⟨R1, st1, ys, x1, S1, ⟨p1, l1⟩, h3⟩ => ?_) ?_
  · have e2 : H2 ad = some (.dK []) := x1.prv ad (List.mem_cons_self) _ upd_same (fun _ z => by cases z)
    refine ⟨e2, ks.zip vs, rfl, by rw [List.length_zip, hkl]; exact Nat.le_trans (Nat.min_le_left _ _) h15, ?_⟩
    have mk : mergeK [] (ks.zip vs) = ks.zip vs := by
      unfold mergeK
      rw [merge_new _ _ (by
        rw [List.nil_append, List.map_fst_zip (by omega)]
        exact hd)]
      rfl
    rw [mk]
    have e3 : R1.p = ad :: R.p := x1.pe
    have inp : ad ∈ R1.p := by rw [e3]; exact List.mem_cons_self
    have xb := ext_back hp (ext_prv (o' := .dK (ks.zip vs)) (show ad ∈ (R.hide ad).p from List.mem_cons_self) x1)
    have S2 := sim_back e3 (fun x hx => (S.fx.tb x hx).1) (sim_prv (o := .dK (ks.zip vs)) S1 inp (.inr ⟨_, e2⟩))
    have weak : ∀ b, Own (R.back R1) st1 b → Own R1 st1 b := fun b z => by
      rcases z with z | z
      · exact .inl z
      · exact .inr (by rw [e3]; exact List.mem_cons_of_mem _ z)
    refine h3 _ _ _ xb S2 (Pd.dct upd_same (fun z => ?_) (PdK.stays ⟨fun b u e n _ => ?_, fun b z => .inl (weak b z), fun _ h => upd_frN (fun _ z => by cases z) h⟩ (pdK_zip p1)))
    · rcases z with ⟨n, zs, z1, _⟩ | z
      · exact S1.nr ad (List.mem_of_getElem? z1) inp
      · exact S.freshP hp z
    · rw [upd_ne (show b ≠ ad from fun z => n (.inr (z ▸ inp)))]
      exact e
  · have h' : Post X.K X.mg (Dv X.K X.mg) R H st (M.bind (m ρ) (fun ys => M.pure (.dat (.dict ((ks.map keyD).zip ys)))) st) Q (fun c d H' => W c d σ H') := h
    unfold M.bind at h'
    cases z : m ρ st with
    | ok ys st' =>
      rw [z] at h'
      exact fun vs R' H' e' s' q => ⟨R', st', ys, e', s', q, h'⟩
    | exc x st' =>
      rw [z] at h'
      intro R' H' cls dx e' s' q
      have e3 : R'.p = ad :: R.p := e'.pe
      refine h' (R.back R') H' cls dx (ext_back hp e') (sim_back e3 (fun x hx => (S.fx.tb x hx).1) s') (q.stays (Stays.weak fun b z => ?_))
      rcases z with z | z
      · exact .inl z
      · exact .inr (by rw [e3]; exact List.mem_cons_of_mem _ z)
    | bad => rw [z] at h'; exact h'
/-- {} -/
def mDct0 : Env → M D := fun _ => M.pure (.dat (.dict []))
theorem ev_dct0 : EV X W (.Dict [] [] pos) mDct0 := by
  refine ⟨PE.imp pe_dnewK fun σ H Q h => ?_⟩
  obtain ⟨R, ρ, st, S, E, h⟩ := h
  exact fun p hp => h.okN S hp (Pd.dct upd_same (S.notOwn hp) .nil)
end
end Ev
set_option Elab.async false
set_option linter.all false
set_option maxRecDepth 100000
set_option maxHeartbeats 4000000
/-! Ev11: defs by their names. -/
namespace Ev
open PySem PySem.Spec PyProof.Rows L2
open Classical
variable [τ : Tbl]

/-- the def st of the text stands under its name -/
def Df (K : PySem.W.Frag) (mg : Str → Option Value) (x : Str) (st : Stmt) (ps : List Str) : Prop :=
  ∃ (f : Addr) (fd : FuncData), Fun K x x st f fd ∧ mg x = some (.ref f) ∧ Binds K fd ps []
/-- .. and keeps what its function tells -/
def FnN (P : Program) (w : World) (K : PySem.W.Frag) (mg : Str → Option Value) (base : Heap) (k : Nat) (x : Str) (ps : List Str) (F : List D → M D) : Prop :=
  ∃ (f : Addr) (fd : FuncData), FnG P w K mg base k f fd ps F ∧ mg x = some (.ref f) ∧ PySem.W.keepIn K (.ref f) = true ∧ Binds K fd ps [] ∧ ∃ oc od osl, K.lookup f = some ⟨oc, od, .func fd, osl⟩
theorem df_mk {K : PySem.W.Frag} {h : Heap} {mg : Str → Option Value} (X : K.In h) (G : h.Ns mainGlobals mg) {x : Str} {st : Stmt} {ps : List Str} {f : Addr} {oc : Value} {od an : Option Addr} {osl : Array (Option Value)} {kV doc pm cdv ct : Value}
    (a : PySem.W.nsIn K mainGlobals x = some (some (.ref f))) (l : K.lookup f = some ⟨oc, od, .func (PySem.W.fnOf x x (defArgs st) (defBody st) (defScope st) .none kV doc pm an cdv ct), osl⟩) (c : PySem.W.codeIn K cdv x = true) (k : PySem.W.keepIn K (.ref f) = true)
    (hb : ∀ (kV doc pm : Value) (an : Option Addr) (cdv ct : Value) (us : List Value), us.length = ps.length → bindArgs (PySem.W.fnOf x x (defArgs st) (defBody st) (defScope st) .none kV doc pm an cdv ct) ⟨us, []⟩ = pure (ps.zip us)) : Df K mg x st ps := by
  have F := fun_mk l c k
  exact ⟨f, _, F, PySem.W.mg_of X G a, F.binds hb⟩
section
variable {P : Program} {w : World} {K : PySem.W.Frag} {mg : Str → Option Value} {base : Heap} {x : Str} {st : Stmt} {N ps : List Str} {k : Nat} {body : SM}
theorem FnN.mono {j : Nat} {F : List D → M D} (G : FnN P w K mg base j x ps F) (h : j ≤ k) : FnN P w K mg base k x ps F :=
  let ⟨f, fd, a, b⟩ := G
  ⟨f, fd, a.mono h, b⟩
theorem fnN_of {give : Nat → D → Sto → Res D} (hgive : GiveOk give) (D1 : Df K mg x st ps) (S : FnScope N ps (defScope st))
    (hb : ∀ (f : Addr) (cdv : Value) (A : Around) (outer : List PySem.Env) (s : Shared) (H : Hp) (E : XK), GC (cxOf (L2.CX P w) P w K mg base N x (defScope st) f cdv A outer s H E) (fun c d _ H' => E c d H') k →
      EVSs (cxOf (L2.CX P w) P w K mg base N x (defScope st) f cdv A outer s H E) (fun c d _ H' => E c d H') (defBody st) body) :
    FnN P w K mg base (k + 1) x ps (runBody give N.length ps.length body) := by
  obtain ⟨f, fd, F, hm, b⟩ := D1
  refine ⟨f, fd, fnG_of hgive F S (fun cdv A outer s H E _ hr hg => hb f cdv A outer s H E ⟨hr, hg, ?_⟩), hm, F.kp, b, ?_⟩
  · exact takes_of rfl rfl rfl rfl
  · obtain ⟨oc, od, kV, doc, pm, an, cdv, ct, osl, _, lk, _⟩ := F.ex
    exact ⟨oc, od, osl, lk⟩
end
section
variable {X : Cx} {W : WX} {k j : Nat} {ps : List Str} {F : List D → M D} {x : Str} {p pos : Pos} {e : Expr} {es : List Expr} {ms : Env → M (List D)}
theorem GC.mono (C : GC X W k) (h : j ≤ k) : GC X W j := ⟨C.room.mono h, C.gd, C.tk⟩
theorem GC.u64 (C : GC X W k) : X.A.units + 64 < cLine := by have := C.room.un; omega
theorem GC.u128 (C : GC X W k) : X.A.units + 128 < cLine := by have := C.room.un; omega
theorem GC.blk {s : Shared} {H : Hp} {scope : Scope} {cenv : PySem.Env} {fp : List Addr} (C : GC X W k) : GC (X.blk s H scope cenv fp) W0 k :=
  ⟨C.room, C.gd, fun u s' ⟨_, _, _, _, _, _, _, _, _, _, _, _, _, _, _, _, w⟩ => w.elim⟩
theorem ev_callN (G : FnN X.prog X.w X.K X.mg X.base j x ps F) (C : GC X W k) (h : j ≤ k) (hg : Gl X x) (ha : EVA X W (e :: es) ms)
    (hdb : (x == ("__debug__" : Str)) = false := by decide) (he : starEach (e :: es) X.env = (false, eval e X.env) :: starEach es X.env := by rfl) (hpl : (backTo pos (starEach es X.env)).any (·.1) = false := by rfl) :
    EV X W (.Call (.Name x p) (e :: es) [] pos) (mC F ms) := by
  obtain ⟨f, fd, a, b, c, d, _⟩ := G
  exact ev_call a (C.mono h) hg b c d ha hdb he hpl
end
section
variable {P : Program} {w : World} {K : PySem.W.Frag} {mg : Str → Option Value} {base : Heap} {N : List Str} {qual : Str} {scope : Scope} {f : Addr} {cd : Value} {A : Around} {outer : List PySem.Env} {s : Shared} {H : Hp} {E : XK}
theorem passes_cx : PassesOwn (model P w) (cxOf (L2.CX P w) P w K mg base N qual scope f cd A outer s H E).A (cxOf (L2.CX P w) P w K mg base N qual scope f cd A outer s H E).env (cxOf (L2.CX P w) P w K mg base N qual scope f cd A outer s H E).xe := passes_of rfl
end
/-- the end of a law, by its def's name -/
theorem end_lawN {l : PySem.W.OpenLaw} {n k : Nat} {q : Program} {loose : List Str} {XP : (Str → Option Value) → Heap → Prop} {YP : World → Heap → Prop} {d : DefRec} {x : Str} {F : List D → M D}
    (hn : l.most = some n) (hn2 : n ≤ sizeLine) (hdf : d.params.defaults = []) (hi : importsNone q = true) (rm : Room k callerA)
    (Fn : ∀ (w : World) (mg : Str → Option Value) (h : Heap), YP w h → XP mg h → h.Ns mainGlobals mg → ∃ K : PySem.W.Frag, K.In h ∧ ∀ bs : Heap, FnN (τ := noTbl) l.prog w K mg bs k d.name [x] F)
    (hv : ∀ ns : List Int, ns.length ≤ n → (∀ i ∈ ns, Builtin.Int.intBits i ≤ 1048576) → ∃ st', F [.fz (ns.map PyData.int)] [] = .ok (.dat (.bool true)) st') :
    PySem.W.WalkO q loose XP YP l.row.toRowW d [] (fun f vs => PySem.call f vs) := by
  refine Att.attach_callB hn hdf fun w s0 s1 mg mb fa o pm cd doc ad us ns G Y _ _ _ hmg hobj hints hlen hbits hgen => ?_
  obtain ⟨K, kin, hF⟩ := Fn w mg _ Y G.X G.T.g
  obtain ⟨f, fd, g0, m0, k0, b0, oc, od, osl, l0⟩ := hF s1.heap
  rw [hmg] at m0
  cases m0
  have bd := b0 s1 [.ref ad] kin rfl
  rw [List.append_nil] at bd
  refine end_call kin G.T.g G.T.b G.T.builtins G.T.nolimit (G.T.sysm hi) hgen hobj hints (Nat.le_trans hlen hn2) rm (fun bs _ _ => ?_) bd (hv ns hlen hbits)
  obtain ⟨f2, fd2, g2, m2, k2, b2, oc2, od2, osl2, l2⟩ := hF bs
  rw [hmg] at m2
  cases m2
  rw [l0] at l2
  cases l2
  exact g2
end Ev
set_option Elab.async false
set_option linter.all false
set_option maxRecDepth 100000
set_option maxHeartbeats 4000000
/-! Ev12: the words of a derivation. -/
namespace Ev
open PySem PySem.Spec PyProof.Rows L2
open Classical
variable [τ : Tbl]

section
variable {K : PySem.W.Frag} {mg : Str → Option Value}
theorem ok_sub : OpOk K mg (rI0 fun i j => .int (i - j)) dSub := ok_rI0
theorem ok_lt : OpOk K mg (rI0 fun i j => .bl (decide (i < j))) dLt := ok_rB0
theorem ok_le : OpOk K mg (rI0 fun i j => .bl (decide (i ≤ j))) dLe := ok_rB0
theorem ok_gt : OpOk K mg (rI0 fun i j => .bl (decide (j < i))) dGt := ok_rB0
theorem ok_ge : OpOk K mg (rI0 fun i j => .bl (decide (j ≤ i))) dGe := ok_rB0
theorem ok_mod : OpOk K mg (rI (fun _ j => j ≠ 0) fun i j => .int (i.fmod j)) dMod := ok_rI fun _ _ h => h
theorem ok_fdiv : OpOk K mg (rI (fun _ j => 0 < j ∧ wideI j ∨ j ≠ 0 ∧ j.natAbs < 1073741824) fun i j => .int (i.fdiv j)) dFdiv := ok_rI fun _ _ h => h
theorem ok_pow : OpOk K mg (rI (fun i j => 0 ≤ j ∧ (Builtin.Int.intBits i : Int) * j ≤ 100000) fun i j => .int (i ^ j.toNat)) dPow := ok_rI fun _ _ h => h
end
theorem loose_int {lv : List (Str × PySem.W.WData)} {mg : Str → Option Value} {h : Heap} (L : PySem.W.LooseAre lv mg h) {x : Str} {i : Int} (m : (x, PySem.W.WData.int i) ∈ lv) : ∃ t, mg x = some (.int i t) := by
  obtain ⟨v, e, r⟩ := L.val _ m
  cases r
  exact ⟨_, e⟩
theorem const_int {K : PySem.W.Frag} {h : Heap} {mg : Str → Option Value} (X : K.In h) (G : h.Ns mainGlobals mg) {x : Str} {v : Value} {i : Int} (a : PySem.W.nsIn K mainGlobals x = some (some v)) (r : RelV (.int i) v) : ∃ t, mg x = some (.int i t) := by
  obtain ⟨t, rfl⟩ := r
  exact ⟨t, PySem.W.mg_of X G a⟩
section
variable {X : Cx} {W : WX} {k : Nat} {a b c e : Expr} {ma mb mc me : Env → M D} {ms : Env → M (List D)} {pos p : Pos}
theorem x_add (ha : EV X W a ma) (hb : EV X W b mb) : EV X W (.BinOp a .Add b pos) (m2 dAdd ma mb) := ev_bin op_addAll ok_addAll ha hb
theorem x_sub (ha : EV X W a ma) (hb : EV X W b mb) : EV X W (.BinOp a .Sub b pos) (m2 dSub ma mb) := ev_bin op_sub ok_sub ha hb
theorem x_mul (ha : EV X W a ma) (hb : EV X W b mb) : EV X W (.BinOp a .Mult b pos) (m2 dMul ma mb) := ev_bin op_mulAll ok_mulAll ha hb
theorem x_mod (ha : EV X W a ma) (hb : EV X W b mb) : EV X W (.BinOp a .Mod b pos) (m2 dMod ma mb) := ev_bin op_mod2 ok_mod ha hb
theorem x_fdiv (ha : EV X W a ma) (hb : EV X W b mb) : EV X W (.BinOp a .FloorDiv b pos) (m2 dFdiv ma mb) := ev_bin op_fdiv2 ok_fdiv ha hb
theorem x_pow (ha : EV X W a ma) (hb : EV X W b mb) : EV X W (.BinOp a .Pow b pos) (m2 dPow ma mb) := ev_bin op_pow2 ok_pow ha hb
theorem x_lt (ha : EV X W a ma) (hb : EV X W b mb) : EV X W (.Compare a [.Lt] [b] pos) (m2 dLt ma mb) := ev_cmp op_lt ok_lt (nomark _) ha hb
theorem t_lt (ha : EV X W a ma) (hb : EV X W b mb) : EVT X W (.Compare a [.Lt] [b] pos) (mT (m2 dLt ma mb)) := evt_cmp op_lt ok_lt (nomark _) ha hb
theorem x_le (ha : EV X W a ma) (hb : EV X W b mb) : EV X W (.Compare a [.LtE] [b] pos) (m2 dLe ma mb) := ev_cmp op_le ok_le (nomark _) ha hb
theorem t_le (ha : EV X W a ma) (hb : EV X W b mb) : EVT X W (.Compare a [.LtE] [b] pos) (mT (m2 dLe ma mb)) := evt_cmp op_le ok_le (nomark _) ha hb
theorem x_gt (ha : EV X W a ma) (hb : EV X W b mb) : EV X W (.Compare a [.Gt] [b] pos) (m2 dGt ma mb) := ev_cmp op_gt ok_gt (nomark _) ha hb
theorem t_gt (ha : EV X W a ma) (hb : EV X W b mb) : EVT X W (.Compare a [.Gt] [b] pos) (mT (m2 dGt ma mb)) := evt_cmp op_gt ok_gt (nomark _) ha hb
theorem x_ge (ha : EV X W a ma) (hb : EV X W b mb) : EV X W (.Compare a [.GtE] [b] pos) (m2 dGe ma mb) := ev_cmp op_ge ok_ge (nomark _) ha hb
theorem t_ge (ha : EV X W a ma) (hb : EV X W b mb) : EVT X W (.Compare a [.GtE] [b] pos) (mT (m2 dGe ma mb)) := evt_cmp op_ge ok_ge (nomark _) ha hb
theorem x_eq (C : GC X W k) (ha : EV X W a ma) (hb : EV X W b mb) : EV X W (.Compare a [.Eq] [b] pos) (m2 dEq ma mb) := ev_cmp (op_eqAll C.u64) ok_eqAll (nomark _) ha hb
theorem t_eq (C : GC X W k) (ha : EV X W a ma) (hb : EV X W b mb) : EVT X W (.Compare a [.Eq] [b] pos) (mT (m2 dEq ma mb)) := evt_cmp (op_eqAll C.u64) ok_eqAll (nomark _) ha hb
theorem x_ne (C : GC X W k) (ha : EV X W a ma) (hb : EV X W b mb) : EV X W (.Compare a [.NotEq] [b] pos) (m2 dNe ma mb) := ev_cmp (op_neAll C.u64) ok_neAll (nomark _) ha hb
theorem t_ne (C : GC X W k) (ha : EV X W a ma) (hb : EV X W b mb) : EVT X W (.Compare a [.NotEq] [b] pos) (mT (m2 dNe ma mb)) := evt_cmp (op_neAll C.u64) ok_neAll (nomark _) ha hb
theorem x_neg (ha : EV X W a ma) : EV X W (.UnaryOp .USub a pos) (m1 dNeg ma) := ev_un un_neg ok_neg ha
theorem x_ix (ha : EV X W a ma) (hb : EV X W b mb) (hs : PlainIx b := by exact fun _ _ => rfl) : EV X W (.Subscript a b pos) (m2 dIx ma mb) := ev_ix ix_seq ok_ix hs ha hb
theorem x_lele (ha : EV X W a ma) (hb : EV X W b mb) (hc : EV X W c mc) (hm : lastMarks [.LtE, .LtE] [b, c] = false := by rfl) : EV X W (.Compare a [.LtE, .LtE] [b, c] pos) (mChain dLe dLe ma mb mc) := ev_chain op_le ok_le op_le ok_le hm ha hb hc
theorem t_lele (ha : EV X W a ma) (hb : EV X W b mb) (hc : EV X W c mc) (hm : lastMarks [.LtE, .LtE] [b, c] = false := by rfl) : EVT X W (.Compare a [.LtE, .LtE] [b, c] pos) (mT (mChain dLe dLe ma mb mc)) := evt_chain op_le ok_le op_le ok_le hm ha hb hc
theorem x_lelt (ha : EV X W a ma) (hb : EV X W b mb) (hc : EV X W c mc) (hm : lastMarks [.LtE, .Lt] [b, c] = false := by rfl) : EV X W (.Compare a [.LtE, .Lt] [b, c] pos) (mChain dLe dLt ma mb mc) := ev_chain op_le ok_le op_lt ok_lt hm ha hb hc
theorem t_lelt (ha : EV X W a ma) (hb : EV X W b mb) (hc : EV X W c mc) (hm : lastMarks [.LtE, .Lt] [b, c] = false := by rfl) : EVT X W (.Compare a [.LtE, .Lt] [b, c] pos) (mT (mChain dLe dLt ma mb mc)) := evt_chain op_le ok_le op_lt ok_lt hm ha hb hc
theorem x_ltle (ha : EV X W a ma) (hb : EV X W b mb) (hc : EV X W c mc) (hm : lastMarks [.Lt, .LtE] [b, c] = false := by rfl) : EV X W (.Compare a [.Lt, .LtE] [b, c] pos) (mChain dLt dLe ma mb mc) := ev_chain op_lt ok_lt op_le ok_le hm ha hb hc
theorem t_ltle (ha : EV X W a ma) (hb : EV X W b mb) (hc : EV X W c mc) (hm : lastMarks [.Lt, .LtE] [b, c] = false := by rfl) : EVT X W (.Compare a [.Lt, .LtE] [b, c] pos) (mT (mChain dLt dLe ma mb mc)) := evt_chain op_lt ok_lt op_le ok_le hm ha hb hc
theorem x_ltlt (ha : EV X W a ma) (hb : EV X W b mb) (hc : EV X W c mc) (hm : lastMarks [.Lt, .Lt] [b, c] = false := by rfl) : EV X W (.Compare a [.Lt, .Lt] [b, c] pos) (mChain dLt dLt ma mb mc) := ev_chain op_lt ok_lt op_lt ok_lt hm ha hb hc
theorem t_ltlt (ha : EV X W a ma) (hb : EV X W b mb) (hc : EV X W c mc) (hm : lastMarks [.Lt, .Lt] [b, c] = false := by rfl) : EVT X W (.Compare a [.Lt, .Lt] [b, c] pos) (mT (mChain dLt dLt ma mb mc)) := evt_chain op_lt ok_lt op_lt ok_lt hm ha hb hc
variable {es : List Expr} {x : Str}
theorem n_len (hm : X.mg "len" = none) (ha : EVA X W (e :: es) ms) (hg : Gl X "len" := by exact rfl) (he : starEach (e :: es) X.env = (false, eval e X.env) :: starEach es X.env := by rfl) (hpl : (backTo pos (starEach es X.env)).any (·.1) = false := by rfl) : EV X W (.Call (.Name "len" p) (e :: es) [] pos) (mC (on1 dLen) ms) := ev_callB call_lenAll ok_len hg hm boot_len ha (by decide) (by decide) he hpl
theorem n_isinstance (hm : X.mg "isinstance" = none) (ha : EVA X W (e :: es) ms) (hg : Gl X "isinstance" := by exact rfl) (he : starEach (e :: es) X.env = (false, eval e X.env) :: starEach es X.env := by rfl) (hpl : (backTo pos (starEach es X.env)).any (·.1) = false := by rfl) : EV X W (.Call (.Name "isinstance" p) (e :: es) [] pos) (mC (on2 dIsi) ms) := ev_callB call_isi ok_isi hg hm boot_isinstance ha (by decide) (by decide) he hpl
theorem n_all (hc : X.calm = true) (hm : X.mg "all" = none) (ha : EVA X W (e :: es) ms) (hg : Gl X "all" := by exact rfl) (he : starEach (e :: es) X.env = (false, eval e X.env) :: starEach es X.env := by rfl) (hpl : (backTo pos (starEach es X.env)).any (·.1) = false := by rfl) : EV X W (.Call (.Name "all" p) (e :: es) [] pos) (mC (on1 dAll) ms) := ev_callB (cr_all hc) ok_all hg hm boot_all ha (by decide) (by decide) he hpl
theorem n_any (hc : X.calm = true) (hm : X.mg "any" = none) (ha : EVA X W (e :: es) ms) (hg : Gl X "any" := by exact rfl) (he : starEach (e :: es) X.env = (false, eval e X.env) :: starEach es X.env := by rfl) (hpl : (backTo pos (starEach es X.env)).any (·.1) = false := by rfl) : EV X W (.Call (.Name "any" p) (e :: es) [] pos) (mC (on1 dAny) ms) := ev_callB (cr_any hc) ok_any hg hm boot_any ha (by decide) (by decide) he hpl
theorem n_abs (hm : X.mg "abs" = none) (ha : EVA X W (e :: es) ms) (hg : Gl X "abs" := by exact rfl) (he : starEach (e :: es) X.env = (false, eval e X.env) :: starEach es X.env := by rfl) (hpl : (backTo pos (starEach es X.env)).any (·.1) = false := by rfl) : EV X W (.Call (.Name "abs" p) (e :: es) [] pos) (mC (on1 dAbs) ms) := ev_callB call_abs ok_abs hg hm boot_abs ha (by decide) (by decide) he hpl
theorem n_max (hc : X.calm = true) (hm : X.mg "max" = none) (ha : EVA X W (e :: es) ms) (hg : Gl X "max" := by exact rfl) (he : starEach (e :: es) X.env = (false, eval e X.env) :: starEach es X.env := by rfl) (hpl : (backTo pos (starEach es X.env)).any (·.1) = false := by rfl) : EV X W (.Call (.Name "max" p) (e :: es) [] pos) (mC (on2 dMax2) ms) := ev_callB (call_max2 hc) ok_max2 hg hm boot_max ha (by decide) (by decide) he hpl
theorem n_min (hc : X.calm = true) (hm : X.mg "min" = none) (ha : EVA X W (e :: es) ms) (hg : Gl X "min" := by exact rfl) (he : starEach (e :: es) X.env = (false, eval e X.env) :: starEach es X.env := by rfl) (hpl : (backTo pos (starEach es X.env)).any (·.1) = false := by rfl) : EV X W (.Call (.Name "min" p) (e :: es) [] pos) (mC (on2 dMin2) ms) := ev_callB (call_min2 hc) ok_min2 hg hm boot_min ha (by decide) (by decide) he hpl
theorem n_sum (hc : X.calm = true) (hm : X.mg "sum" = none) (ha : EVA X W (e :: es) ms) (hg : Gl X "sum" := by exact rfl) (he : starEach (e :: es) X.env = (false, eval e X.env) :: starEach es X.env := by rfl) (hpl : (backTo pos (starEach es X.env)).any (·.1) = false := by rfl) : EV X W (.Call (.Name "sum" p) (e :: es) [] pos) (mC (on1 dSum) ms) := ev_callB (cr_sum hc) ok_sum hg hm boot_sum ha (by decide) (by decide) he hpl
theorem n_repr (C : GC X W k) (hm : X.mg "repr" = none) (ha : EVA X W (e :: es) ms) (hg : Gl X "repr" := by exact rfl) (he : starEach (e :: es) X.env = (false, eval e X.env) :: starEach es X.env := by rfl) (hpl : (backTo pos (starEach es X.env)).any (·.1) = false := by rfl) : EV X W (.Call (.Name "repr" p) (e :: es) [] pos) (mC (on1 dRepr) ms) := ev_callB (call_repr C.gd.1 C.gd.2 C.u128) ok_repr hg hm boot_repr ha (by decide) (by decide) he hpl
theorem n_int (hm : X.mg "int" = none) (ha : EVA X W (e :: es) ms) (hg : Gl X "int" := by exact rfl) (he : starEach (e :: es) X.env = (false, eval e X.env) :: starEach es X.env := by rfl) (hpl : (backTo pos (starEach es X.env)).any (·.1) = false := by rfl) : EV X W (.Call (.Name "int" p) (e :: es) [] pos) (mC (on1 dInt) ms) := ev_callTy call_int1 ok_int hg hm boot_int ha (by decide) (by decide) he hpl
theorem n_tuple (hm : X.mg "tuple" = none) (ha : EVA X W (e :: es) ms) (hg : Gl X "tuple" := by exact rfl) (he : starEach (e :: es) X.env = (false, eval e X.env) :: starEach es X.env := by rfl) (hpl : (backTo pos (starEach es X.env)).any (·.1) = false := by rfl) : EV X W (.Call (.Name "tuple" p) (e :: es) [] pos) (mC (on1 tupOf) ms) := ev_callTy call_tuple_of ok_tupOf hg hm boot_tuple ha (by decide) (by decide) he hpl
theorem n_list (hm : X.mg "list" = none) (ha : EVA X W (e :: es) ms) (hg : Gl X "list" := by exact rfl) (he : starEach (e :: es) X.env = (false, eval e X.env) :: starEach es X.env := by rfl) (hpl : (backTo pos (starEach es X.env)).any (·.1) = false := by rfl) : EV X W (.Call (.Name "list" p) (e :: es) [] pos) (mC (on1 lstOf) ms) := ev_callTy call_list_of ok_lstOf hg hm boot_list ha (by decide) (by decide) he hpl
theorem n_loc (hm : X.mg "list" = none) (ha : EVA X W (e :: es) ms) (hg : Gl X "list" := by exact rfl) (he : starEach (e :: es) X.env = (false, eval e X.env) :: starEach es X.env := by rfl) (hpl : (backTo pos (starEach es X.env)).any (·.1) = false := by rfl) : EV X W (.Call (.Name "list" p) (e :: es) [] pos) (mC (on1 locOf) ms) := ev_callTy call_list_of ok_locOf hg hm boot_list ha (by decide) (by decide) he hpl
end
end Ev
set_option Elab.async false
set_option linter.all false
set_option maxRecDepth 100000
set_option maxHeartbeats 4000000
/-! Ev13: raise, try. -/
namespace Ev
open PySem PySem.Spec PyProof.Rows L2
open Classical
variable [τ : Tbl]

/-- an own class of errors without an __init__ of its own -/
def ExN (K : PySem.W.Frag) (mg : Str → Option Value) (x : Str) : Prop :=
  ∃ (C : Addr) (bmB : List Value) (B newId initId : String), ExcBaseFacts B newId initId bmB ∧ PySem.W.excIn K C bmB newId = true ∧ mg x = some (.ref C) ∧ PySem.W.keepIn K (.ref C) = true ∧
    PySem.W.subIn K (.ref C) (.type "BaseException") = some true ∧ PySem.W.typeIn K (.ref C) = some (.type "type")
def sRaise (x : Str) : SM := fun ρ st => .exc ⟨x, []⟩ ρ st
section
variable {X : Cx} {W : WX} {k : Nat} {pos pos' p p2 : Pos}
theorem evs_raise {x m : Str} {j : Nat} (hc : X.calm = true) (C : GC X W k) (N : ExN X.K X.mg x) (hg : Gl X x) (hdb : (x == ("__debug__" : Str)) = false := by decide) :
    EVS X W (.Raise (some (.Call (.Name x p) [.Constant (.str m) j p2] [] pos)) none pos') (sRaise x) := by
  obtain ⟨c, bmB, B, n1, n2, F, q, gC, kC, b1, b2⟩ := N
  refine ⟨PS.imp (ps_raise hc C.tk (pmk_own F q gC kC (raises_own b1 b2) hg hdb)) fun D σ H h => ?_⟩
  obtain ⟨R, ρ, st, S, E, h⟩ := h
  exact h σ R H (.ref c) none .refl S E ⟨gC, .inl ⟨rfl, rfl⟩⟩
/-! ### try: .. except C as e: .. -/
def unI (i : Nat) : SRes → SRes
  | .nx ρ st => .nx (ρ.set i none) st
  | .rt d st => .rt d st
  | .bk ρ st => .bk (ρ.set i none) st
  | .ct ρ st => .ct (ρ.set i none) st
  | _ => .bad
/-- the suite told by where the error lies, its class, its dict: all that comes of it is the same wherever it lies -/
noncomputable def sTryAs (body : SM) (hit : Str → Option Bool) (i : Nat) (suite : Addr → Value → Option Addr → SM) : SM := fun ρ st =>
  match body ρ st with
  | .exc x ρ' st' => match hit x.cls with
    | some true => if h : ∃ r, ∀ a cls d, (x.flds = [] → d = none) → unI i (suite a cls d (ρ'.set i (some (.err (.ref a) cls d x))) st') = r then h.choose else .bad
    | some false => .exc x ρ' st'
    | none => .bad
  | r => r
theorem tryAs_exc {body : SM} {hit : Str → Option Bool} {i : Nat} {suite : Addr → Value → Option Addr → SM} {ρ ρ' : Env} {st st' : Sto} {x : Exc} {r : SRes} (h1 : body ρ st = .exc x ρ' st') (h2 : hit x.cls = some true)
    (h3 : ∀ a cls d, (x.flds = [] → d = none) → unI i (suite a cls d (ρ'.set i (some (.err (.ref a) cls d x))) st') = r) : sTryAs body hit i suite ρ st = r := by
  have h : ∃ r, ∀ a cls d, (x.flds = [] → d = none) → unI i (suite a cls d (ρ'.set i (some (.err (.ref a) cls d x))) st') = r := ⟨r, h3⟩
  unfold sTryAs
  rw [h1]
  dsimp only
  rw [h2]
  dsimp only
  rw [dif_pos h]
  exact (h.choose_spec 0 .none none fun _ => rfl).symm.trans (h3 0 .none none fun _ => rfl)
theorem tryAs_nx {body : SM} {hit : Str → Option Bool} {i : Nat} {suite : Addr → Value → Option Addr → SM} {ρ ρ' : Env} {st st' : Sto} (h1 : body ρ st = .nx ρ' st') : sTryAs body hit i suite ρ st = .nx ρ' st' := by
  unfold sTryAs
  rw [h1]
theorem tryAs_rt {body : SM} {hit : Str → Option Bool} {i : Nat} {suite : Addr → Value → Option Addr → SM} {ρ : Env} {st st' : Sto} {d : D} (h1 : body ρ st = .rt d st') : sTryAs body hit i suite ρ st = .rt d st' := by
  unfold sTryAs
  rw [h1]
theorem tryAs_pass {body : SM} {hit : Str → Option Bool} {i : Nat} {suite : Addr → Value → Option Addr → SM} {ρ ρ' : Env} {st st' : Sto} {x : Exc} (h1 : body ρ st = .exc x ρ' st') (h2 : hit x.cls = some false) : sTryAs body hit i suite ρ st = .exc x ρ' st' := by
  unfold sTryAs
  rw [h1]
  dsimp only
  rw [h2]
theorem PostS.unI {K : PySem.W.Frag} {mg : Str → Option Value} {R : Rg} {H : Hp} {st : Sto} {r : SRes} {i : Nat} {D : Ends} {W : WX} (h : PostS K mg R H st (unI i r) D W) :
    PostS K mg R H st r { nx := fun σ' H' => D.nx (σ'.set i none) H', rt := D.rt, bk := fun σ' H' => D.bk (σ'.set i none) H', ct := fun σ' H' => D.ct (σ'.set i none) H' } W0 := by
  cases r with
  | nx ρ st' => exact fun σ' R' H' e s q => h _ R' H' e s (q.unset i)
  | rt d st' => exact h
  | bk ρ st' => exact fun σ' R' H' e s q => h _ R' H' e s (q.unset i)
  | ct ρ st' => exact fun σ' R' H' e s q => h _ R' H' e s (q.unset i)
  | exc x ρ st' => exact h.elim
  | bad => exact h.elim
/-- which errors a clause's class catches -/
def Hits (K : PySem.W.Frag) (mg : Str → Option Value) (c : Value) (hit : Str → Option Bool) : Prop := ∀ x b cls, hit x = some b → mg x = some cls → PySem.W.exmOne K cls c = some b
theorem evs_tryAs {x n : Str} {c : Value} {i : Nat} {body suite : List Stmt} {b0 : Stmt} {np : Pos} {mb : SM} {hit : Str → Option Bool} {sm : Addr → Value → Option Addr → SM} (hs : X.stack = X.env :: X.outer) (hf : X.env.frame = some X.env.locals)
    (hN : X.N.Nodup) (hi : X.N[i]? = some n) (hln : X.env.kindOf n = some .local) (hc : Names X x c) (C : GC X W k) (hh : Hits X.K X.mg c hit)
    (hb : ∀ (W' : WX) (pn : List (Addr × Obj)) (xe : Value → Shared → Prop), GC (X.tr pn xe) W' k → PassesOwn (model X.prog X.w) X.A X.env xe → EVSs (X.tr pn xe) W' body mb)
    (hsu : ∀ (a : Addr) (oe : Obj) (cls : Value) (d : Option Addr) (pn : List (Addr × Obj)), Zc cls d oe → (∃ vs, oe.data = .fields vs) → EVSs (X.suite a ((a, oe) :: pn)) W0 (b0 :: suite) (sm a cls d)) :
    EVS X W (.Try body [.ExceptHandler (some (.Name x np)) (some n) (b0 :: suite) pos'] [] [] pos) (sTryAs mb hit i sm) := by
  refine ⟨PS.imp (ps_try_as (tb := fun W' => tS X.K X.mg W' mb) (ts := fun a cls d => tS X.K X.mg W0 (sm a cls d)) (Wout := W) hs hf hN hi hln hc C.tk
    (fun W' pn xe tk po => (hb W' pn xe ⟨C.room, C.gd, tk⟩ po).ps) (fun a oe cls d pn hz hv => (hsu a oe cls d pn hz hv).ps)) fun D σ H h => ?_⟩
  obtain ⟨R, ρ, st, S, E, h⟩ := h
  refine ⟨R, ρ, st, S, E, ?_⟩
  unfold sTryAs at h
  cases z : mb ρ st with
  | nx ρ' st' => rw [z] at h; exact h
  | rt d st' => rw [z] at h; exact h
  | bk ρ' st' => rw [z] at h; exact h
  | ct ρ' st' => rw [z] at h; exact h
  | bad => rw [z] at h; exact h
  | exc y ρ' st' =>
    rw [z] at h
    dsimp only at h
    intro σ' R' H' cls dx e' s' q ex
    cases hy : hit y.cls with
    | none => rw [hy] at h; exact h.elim
    | some b =>
      rw [hy] at h
      refine ⟨b, hh _ _ _ hy ex.1, fun hb1 a na => ?_, fun hb0 => ?_⟩
      · subst hb1
        dsimp only at h
        by_cases hr : ∃ r, ∀ a cls d, (y.flds = [] → d = none) → unI i (sm a cls d (ρ'.set i (some (.err (.ref a) cls d y))) st') = r
        · rw [dif_pos hr] at h
          have e := hr.choose_spec a cls dx fun z => by
            rcases ex.2 with ⟨_, q⟩ | ⟨_, _, nf, _⟩
            · exact q
            · exact absurd z nf
          rw [← e] at h
          exact ⟨R', _, st', s', q.set i (show Dv X.K X.mg R' st' H' (.ref a) (.err (.ref a) cls dx y) from ⟨rfl, ex⟩), PostS.unI (PostS.shift s' e' h)⟩
        · rw [dif_neg hr] at h
          exact h.elim
      · subst hb0
        exact h σ' R' H' cls dx e' s' q ex
/-! ### the caught error: isinstance, its fields -/
/-- a class as a value -/
def clsD (mg : Str → Option Value) : D → Value → Prop
  | .glob y, u => mg y = some u
  | .raw (.ty T), u => u = .type T
  | _, _ => False
noncomputable def dIsE (a : Addr) (cls : Value) (d : Option Addr) (isa : Str → D → Option Bool) : List D → M D
  | [.err v cls' d' x, c] => fun st => if v = .ref a ∧ cls' = cls ∧ d' = d ∧ d = none then match isa x.cls c with | some b => .ok (.dat (.bool b)) st | none => .bad else .bad
  | _ => M.bad
/-- what is known of the classes: isinstance(error of x, c) -/
def Isa (K : PySem.W.Frag) (mg : Str → Option Value) (isa : Str → D → Option Bool) : Prop :=
  ∀ x c b, isa x c = some b → ∃ (D0 : Addr) (cv : Value), mg x = some (.ref D0) ∧ ExcC K D0 ∧ PySem.W.kitOne K (.ref D0) cv = some b ∧ clsD mg c cv
theorem ev_isE {a : Addr} {oe : Obj} {cls : Value} {d : Option Addr} {pn : List (Addr × Obj)} {isa : Str → D → Option Bool} {e : Expr} {es : List Expr} {ms : Env → M (List D)} (hz : Zc cls d oe) (hf : ∃ vs, oe.data = .fields vs) (hi : Isa X.K X.mg isa) (hm : X.mg "isinstance" = none)
    (ha : EVA (X.suite a ((a, oe) :: pn)) W (e :: es) ms) (hg : Gl (X.suite a ((a, oe) :: pn)) "isinstance" := by exact rfl)
    (he : starEach (e :: es) X.env = (false, eval e X.env) :: starEach es X.env := by rfl) (hpl : (backTo pos (starEach es X.env)).any (·.1) = false := by rfl) :
    EV (X.suite a ((a, oe) :: pn)) W (.Call (.Name "isinstance" p) (e :: es) [] pos) (mC (dIsE a cls d isa) ms) := by
  have hcall : CallR (X.suite a ((a, oe) :: pn)) (.builtin "isinstance") (fun xs H Q => ∃ D0 : Addr, cls = .ref D0 ∧ ExcC X.K D0 ∧ d = none ∧ rIsE X.K D0 a xs H Q) := fun pins s σ H xs us Q I r ⟨D0, e1, EC, e2, h⟩ => by
    subst e1 e2
    exact call_isE EC hz hf pins s σ H xs us Q I r h
  refine ev_callB hcall (f := dIsE a cls d isa) (fun R H st vs ds Q W' S hD h => ?_) hg hm boot_isinstance ha (by decide) (by decide) he hpl
  unfold dIsE at h
  split at h
  · rename_i v cls' d' x c
    cases hD with
    | cons h1 hD =>
      cases hD with
      | cons h2 hD =>
        cases hD
        obtain ⟨rfl, ex⟩ := h1
        split at h
        · rename_i hc
          obtain ⟨rfl, rfl, e3, e4⟩ := hc
          cases hb : isa x.cls c with
          | none => rw [hb] at h; exact h.elim
          | some b =>
            rw [hb] at h
            obtain ⟨D1, cv, m1, EC, k1, cd⟩ := hi _ _ _ hb
            have q : X.mg x.cls = some cls' := ex.1
            have e5 : cls' = .ref D1 := by
              rw [m1] at q
              exact (Option.some.inj q).symm
            refine ⟨D1, e5, EC, e4, _, cv, b, rfl, fun u r => ?_, k1, h.okR S (Dv.bl b)⟩
            cases c with
            | glob y =>
              obtain ⟨a2, g2, e6⟩ := h2
              have g1 : X.mg y = some cv := cd
              have g2' : X.mg y = some (.ref a2) := g2
              rw [g1] at g2'
              cases g2'
              rw [e6] at r
              exact r
            | raw t =>
              have e6 : _ = t := h2
              rw [e6] at r
              cases t with
              | ty T =>
                have e2 : cv = .type T := cd
                rw [e2]
                exact r
              | _ => exact cd.elim
            | _ => exact cd.elim
        · exact h.elim
  · exact h.elim
end
end Ev
set_option Elab.async false
set_option linter.all false
set_option maxRecDepth 100000
set_option maxHeartbeats 4000000
/-! Ev14: targets, defs that call themselves, methods as statements. -/
namespace Ev
open PySem PySem.Spec PyProof.Rows L2
open Classical
variable [τ : Tbl]

/-! ### target = value -/
def sAsg (t : Tg) (m : Env → M D) : SM := sBind m fun d ρ st => match t d ρ with | some ρ' => .nx ρ' st | none => .bad
section
variable {X : Cx} {W : WX} {k : Nat} {pos : Pos} {e : Expr} {me : Env → M D}
theorem evs_asg {tg : Expr} {g : TG} {t : Tg} {sl : List Nat} (hg : EVG X tg g t sl) (he : EV X W e me) (hs : swapsWithSole [tg] e pos.line X.env = pure false := by rfl) (hw : swappedStores [tg] e X.env = pure none := by rfl)
    (h1 : (assignEach [tg] X.env).map (·.2) = [assign tg X.env] := by rfl) : EVS X W (.Assign [tg] e pos) (sAsg t me) := by
  refine ⟨PS.imp (ps_asg he.pe hg.pg hs hw h1) fun D σ H h => ?_⟩
  obtain ⟨R, ρ, st, S, E, h⟩ := h
  refine ⟨R, ρ, st, S, E, (PostS.bind (Rel := Dv X.K X.mg) E h).monoQ fun v H1 ⟨R1, st1, d, S1, E1, D1, h1⟩ => ?_⟩
  cases z : t d ρ with
  | none => rw [z] at h1; exact h1.elim
  | some ρ' =>
    rw [z] at h1
    exact hg.ok R1 st1 H1 σ v d ρ ρ' _ E1 D1 z fun σ' E' _ => h1 σ' R1 H1 .refl S1 E'
/-- a, b = x, y with plain names -/
def sPar (i j : Nat) (ms : Env → M (List D)) : SM := sBind ms fun ds ρ st => match ds with
  | [x, y] => .nx ((ρ.set i (some x)).set j (some y)) st
  | _ => .bad
theorem evs_par {i j : Nat} {x y : Str} {a b : Expr} {ms : Env → M (List D)} {px py pt : Pos} {kt k2 pt2} (hc : X.calm = true) (hN : X.N.Nodup) (hi : X.N[i]? = some x) (hj : X.N[j]? = some y) (hij : i ≠ j)
    (hx : X.env.scope.names.lookup x = some .local) (hy : X.env.scope.names.lookup y = some .local) (ha : EVA X W [a, b] ms)
    (hw : swappedStores [.Tuple [.Name x px, .Name y py] kt pt] (.Tuple [a, b] k2 pt2) X.env = pure (some [x, y]) := by rfl)
    (hs : swapsWithSole [.Tuple [.Name x px, .Name y py] kt pt] (.Tuple [a, b] k2 pt2) pos.line X.env = pure false := by rfl) :
    EVS X W (.Assign [.Tuple [.Name x px, .Name y py] kt pt] (.Tuple [a, b] k2 pt2) pos) (sPar i j ms) := by
  refine ⟨PS.imp (ps_par hc hN hi hj hij hx hy ha.pa hw hs) fun D σ H h => ?_⟩
  obtain ⟨R, ρ, st, S, E, h⟩ := h
  refine ⟨R, ρ, st, S, E, (PostS.bind (Rel := DvA X.K X.mg) E h).monoQ fun vs H1 ⟨R1, st1, ds, S1, E1, D1, h1⟩ => ?_⟩
  cases D1 with
  | nil => exact h1.elim
  | cons p q =>
    cases q with
    | nil => exact h1.elim
    | cons p2 q =>
      cases q with
      | nil => exact ⟨_, _, rfl, h1 _ R1 H1 .refl S1 ((E1.set i p).set j p2)⟩
      | cons _ _ => exact h1.elim
end
/-! ### a def that calls itself: so many times at most -/
noncomputable def recB (give : Nat → D → Sto → Res D) (n np : Nat) (body : (List D → M D) → SM) : Nat → List D → M D
  | 0 => fun _ => M.bad
  | k + 1 => runBody give n np (body (recB give n np body k))
theorem fnN_rec {P : Program} {w : World} {K : PySem.W.Frag} {mg : Str → Option Value} {base : Heap} {x : Str} {st : Stmt} {N ps : List Str} {j : Nat} {body : (List D → M D) → SM} {give : Nat → D → Sto → Res D} (hgive : GiveOk give) (D1 : Df K mg x st ps) (S : FnScope N ps (defScope st))
    (hb : ∀ (k : Nat) (F : List D → M D), FnN P w K mg base (j + k) x ps F → ∀ (f : Addr) (cdv : Value) (A : Around) (outer : List PySem.Env) (s : Shared) (H : Hp) (E : XK), GC (cxOf (L2.CX P w) P w K mg base N x (defScope st) f cdv A outer s H E) (fun c d _ H' => E c d H') (j + k) →
      EVSs (cxOf (L2.CX P w) P w K mg base N x (defScope st) f cdv A outer s H E) (fun c d _ H' => E c d H') (defBody st) (body F)) :
    ∀ k : Nat, FnN P w K mg base (j + k) x ps (recB give N.length ps.length body k)
  | 0 => by
    obtain ⟨f, fd, F, hm, b⟩ := D1
    refine ⟨f, fd, ⟨fun ds st _ => rfl, fun A outer s H args us vs Q E _ _ _ _ _ hsp => ?_⟩, hm, F.kp, b, ?_⟩
    · obtain ⟨R, sto, ds, _, _, hp⟩ := hsp
      exact hp.elim
    · obtain ⟨oc, od, kV, doc, pm, an, cdv, ct, osl, _, lk, _⟩ := F.ex
      exact ⟨oc, od, osl, lk⟩
  | k + 1 => fnN_of hgive D1 S fun f cdv A outer s H E C => hb k _ (fnN_rec hgive D1 S hb k) f cdv A outer s H E C
/-! ### in, not in -/
def inD (b : Bool) : PyData → PyData → M D
  | d, .list ds => if SeqAt.shaped d = true ∧ SeqAt.shaped (.list ds) = true then retB (b != ds.any fun z => PyData.eqv z d) else M.bad
  | d, .tuple ds => if SeqAt.shaped d = true ∧ SeqAt.shaped (.tuple ds) = true then retB (b != ds.any fun z => PyData.eqv z d) else M.bad
  | _, _ => M.bad
def dIn : D → D → M D := asData (inD false)
def dNin : D → D → M D := asData (inD true)
def rInA (K : PySem.W.Frag) (b : Bool) : R2 := fun x y H Q => ∃ d c ds, (c = .list ds ∨ c = .tuple ds) ∧ Dp K H x d ∧ Dp K H y c ∧ SeqAt.shaped d = true ∧ SeqAt.shaped c = true ∧ Q (.bl (b != ds.any fun z => PyData.eqv z d)) H
theorem room_in {A : Around} {d : PyData} {n : Nat} (sd : SeqAt.shaped d = true) (hu : A.units + 128 < cLine) : A.units + 1 + min n d.depth < cLine := by
  have h1 := SeqAt.depth_of_shaped sd
  have h2 : min n d.depth ≤ d.depth := Nat.min_le_right _ _
  omega
theorem op_inA {X : Cx} (hu : X.A.units + 128 < cLine) : OpR X (compareOp .In) (rInA X.K false) := by
  intro pins s σ H x y v u Q I rx ry h
  obtain ⟨d, c, ds, hc, hd, he, sd, se, q⟩ := h
  obtain ⟨as, r1⟩ := Dp.reads I d x v hd rx
  obtain ⟨bs, r2⟩ := Dp.reads I c y u he ry
  rw [Bool.false_bne] at q
  rcases hc with rfl | rfl
  · exact SeqAt.in_list_reads r2 r1 (SeqAt.canLay_of_shaped se) (SeqAt.canLay_of_shaped sd) (room_in sd hu) ⟨.bl _, H, I, rfl, q⟩
  · exact SeqAt.in_tuple_reads r2 r1 (SeqAt.canLay_of_shaped se) (SeqAt.canLay_of_shaped sd) (room_in sd hu) ⟨.bl _, H, I, rfl, q⟩
theorem op_ninA {X : Cx} (hu : X.A.units + 128 < cLine) : OpR X (compareOp .NotIn) (rInA X.K true) := by
  intro pins s σ H x y v u Q I rx ry h
  obtain ⟨d, c, ds, hc, hd, he, sd, se, q⟩ := h
  obtain ⟨as, r1⟩ := Dp.reads I d x v hd rx
  obtain ⟨bs, r2⟩ := Dp.reads I c y u he ry
  rw [Bool.true_bne] at q
  rcases hc with rfl | rfl
  · exact SeqAt.notIn_list_reads r2 r1 (SeqAt.canLay_of_shaped se) (SeqAt.canLay_of_shaped sd) (room_in sd hu) ⟨.bl _, H, I, rfl, q⟩
  · exact SeqAt.notIn_tuple_reads r2 r1 (SeqAt.canLay_of_shaped se) (SeqAt.canLay_of_shaped sd) (room_in sd hu) ⟨.bl _, H, I, rfl, q⟩
theorem ok_inA {K : PySem.W.Frag} {mg : Str → Option Value} (b : Bool) : OpOk K mg (rInA K b) (asData (inD b)) := by
  intro R H st v w d e Q W S h1 h2 h
  obtain ⟨x, y, e1, e2, h⟩ := okA h
  unfold inD at h
  split at h
  · split at h
    · rename_i z
      exact ⟨x, _, _, .inl rfl, (h1.data S e1).dp (SeqAt.canLay_of_shaped z.1), (h2.data S e2).dp (SeqAt.canLay_of_shaped z.2), z.1, z.2, h.okR S (Dv.bl _)⟩
    · exact h.elim
  · split at h
    · rename_i z
      exact ⟨x, _, _, .inr rfl, (h1.data S e1).dp (SeqAt.canLay_of_shaped z.1), (h2.data S e2).dp (SeqAt.canLay_of_shaped z.2), z.1, z.2, h.okR S (Dv.bl _)⟩
    · exact h.elim
  · exact h.elim
section
variable {X : Cx} {W : WX} {k : Nat} {pos : Pos} {a b : Expr} {ma mb : Env → M D}
theorem x_in (C : GC X W k) (ha : EV X W a ma) (hb : EV X W b mb) (hm : behindInMarks .In b = false := by rfl) : EV X W (.Compare a [.In] [b] pos) (m2 dIn ma mb) := ev_cmp (op_inA C.u128) (ok_inA false) hm ha hb
theorem x_nin (C : GC X W k) (ha : EV X W a ma) (hb : EV X W b mb) (hm : behindInMarks .NotIn b = false := by rfl) : EV X W (.Compare a [.NotIn] [b] pos) (m2 dNin ma mb) := ev_cmp (op_ninA C.u128) (ok_inA true) hm ha hb
theorem t_in (C : GC X W k) (ha : EV X W a ma) (hb : EV X W b mb) (hm : behindInMarks .In b = false := by rfl) : EVT X W (.Compare a [.In] [b] pos) (mT (m2 dIn ma mb)) := evt_cmp (op_inA C.u128) (ok_inA false) hm ha hb
theorem t_nin (C : GC X W k) (ha : EV X W a ma) (hb : EV X W b mb) (hm : behindInMarks .NotIn b = false := by rfl) : EVT X W (.Compare a [.NotIn] [b] pos) (mT (m2 dNin ma mb)) := evt_cmp (op_ninA C.u128) (ok_inA true) hm ha hb
theorem x_isN (ha : EV X W a ma) (hb : EV X W b mb) : EV X W (.Compare a [.Is] [b] pos) (m2 isN ma mb) := ev_cmp op_isA ok_isN (nomark _) ha hb
theorem t_isN (ha : EV X W a ma) (hb : EV X W b mb) : EVT X W (.Compare a [.Is] [b] pos) (mT (m2 isN ma mb)) := evt_cmp op_isA ok_isN (nomark _) ha hb
theorem x_isNotN (ha : EV X W a ma) (hb : EV X W b mb) : EV X W (.Compare a [.IsNot] [b] pos) (m2 isNotN ma mb) := ev_cmp op_notA ok_isNotN (nomark _) ha hb
theorem t_isNotN (ha : EV X W a ma) (hb : EV X W b mb) : EVT X W (.Compare a [.IsNot] [b] pos) (mT (m2 isNotN ma mb)) := evt_cmp op_notA ok_isNotN (nomark _) ha hb
/-- a tuple that stands at the module's top -/
def KTup (K : PySem.W.Frag) (mg : Str → Option Value) (x : Str) (ds : List PyData) : Prop := ∃ a, mg x = some (.ref a) ∧ ∀ U H, Pd K U H (.ref a) (.tuple ds)
theorem ev_gtup {x : Str} {ds : List PyData} (hg : Gl X x) (T : KTup X.K X.mg x ds) (hd : (x == ("__debug__" : Str)) = false := by decide) : EV X W (.Name x pos) (ct (.dat (.tuple ds))) := by
  obtain ⟨a, hm, p⟩ := T
  exact ⟨PE.imp (pe_glob hg hm (v := .ref a) rfl hd) fun _ _ _ h => tC_of (X := X) (d := .dat (.tuple ds)) (fun R st H => p _ _) h⟩
end
section
variable {X : Cx} {W : WX} {o e : Expr} {es : List Expr} {mo : Env → M D} {ms : Env → M (List D)} {apos cpos : Pos}
theorem m_append (ho : EV X W o mo) (ha : EVA X W (e :: es) ms)
    (hbase : attributeBase o "append" X.env (eval o X.env) = eval o X.env := by rfl)
    (hfew : ((backTo cpos (starEach (e :: es) X.env)).all (fun x => !x.1) && (backToKw cpos (keywordEach [] X.env)).all (fun x => x.1.isSome)
      && decide ((e :: es).length + ([] : List Keyword).length + (if ([] : List Keyword).isEmpty then 0 else 1) < 30)) = true := by rfl)
    (hline : (apos.endLine == cpos.line) = true := by rfl) (hs : starEach (e :: es) X.env = (false, eval e X.env) :: starEach es X.env := by rfl) (hplain : (backTo cpos (starEach es X.env)).any (·.1) = false := by rfl) :
    EV X W (.Call (.Attribute o "append" apos) (e :: es) [] cpos) (mMt dAppend mo ms) := ev_mt PySem.F.plainAttrs_list PySem.F.slot_list_append PySem.F.type_list_append mt_append ok_append ho ha hbase hfew hline hs hplain
theorem m_extend (ho : EV X W o mo) (ha : EVA X W (e :: es) ms)
    (hbase : attributeBase o "extend" X.env (eval o X.env) = eval o X.env := by rfl)
    (hfew : ((backTo cpos (starEach (e :: es) X.env)).all (fun x => !x.1) && (backToKw cpos (keywordEach [] X.env)).all (fun x => x.1.isSome)
      && decide ((e :: es).length + ([] : List Keyword).length + (if ([] : List Keyword).isEmpty then 0 else 1) < 30)) = true := by rfl)
    (hline : (apos.endLine == cpos.line) = true := by rfl) (hs : starEach (e :: es) X.env = (false, eval e X.env) :: starEach es X.env := by rfl) (hplain : (backTo cpos (starEach es X.env)).any (·.1) = false := by rfl) :
    EV X W (.Call (.Attribute o "extend" apos) (e :: es) [] cpos) (mMt dExtend mo ms) := ev_mt PySem.F.plainAttrs_list PySem.F.slot_list_extend PySem.F.type_list_extend mt_extend ok_extend ho ha hbase hfew hline hs hplain
end
/-! ### bool(x) -/
def dBool : D → M D
  | .dat (.int i) => retB (i != 0)
  | .dat (.bool b) => retB b
  | _ => M.bad
theorem ok_bool {K : PySem.W.Frag} {mg : Str → Option Value} : CallOk K mg (fun xs H Q => (∃ i, xs = [.int i] ∧ Q (.bl (i != 0)) H) ∨ ∃ k, xs = [.bl k] ∧ Q (.bl k) H) (on1 dBool) := by
  intro R H st vs ds Q W S hd h
  obtain ⟨v, d, rfl, rfl, h1, h⟩ := ok1 hd h
  unfold dBool at h
  split at h
  · cases h1
    exact .inl ⟨_, rfl, h.okR S (Dv.bl _)⟩
  · cases h1
    exact .inr ⟨_, rfl, h.okR S (Dv.bl _)⟩
  · exact h.elim
section
variable {X : Cx} {W : WX} {e : Expr} {es : List Expr} {ms : Env → M (List D)} {pos p : Pos}
theorem n_bool (hm : X.mg "bool" = none) (ha : EVA X W (e :: es) ms) (hg : Gl X "bool" := by exact rfl) (he : starEach (e :: es) X.env = (false, eval e X.env) :: starEach es X.env := by rfl) (hpl : (backTo pos (starEach es X.env)).any (·.1) = false := by rfl) :
    EV X W (.Call (.Name "bool" p) (e :: es) [] pos) (mC (on1 dBool) ms) := ev_callTy call_bool1 ok_bool hg hm boot_bool ha (by decide) (by decide) he hpl
end
end Ev
set_option Elab.async false
set_option linter.all false
set_option maxRecDepth 100000
set_option maxHeartbeats 4000000
/-! Ev15: defs with parameters by name, with defaults. -/
namespace Ev
open PySem PySem.Spec PyProof.Rows L2
open Classical
variable [τ : Tbl]

/-- the def st stands under its name (nothing said of how its arguments bind) -/
def DfV (K : PySem.W.Frag) (mg : Str → Option Value) (x : Str) (st : Stmt) : Prop := ∃ (f : Addr) (fd : FuncData), Fun K x x st f fd ∧ mg x = some (.ref f)
def FnV (P : Program) (w : World) (K : PySem.W.Frag) (mg : Str → Option Value) (base : Heap) (k : Nat) (x : Str) (ps : List Str) (F : List D → M D) : Prop :=
  ∃ (f : Addr) (fd : FuncData), FnG P w K mg base k f fd ps F ∧ mg x = some (.ref f) ∧ PySem.W.keepIn K (.ref f) = true ∧ ∃ oc od osl, K.lookup f = some ⟨oc, od, .func fd, osl⟩
/-- n values by their places, ks by their names: how they bind -/
def Bn (K : PySem.W.Frag) (mg : Str → Option Value) (x : Str) (ps : List Str) (n : Nat) (ks : List Str) (gV : List V → List V → List V) : Prop :=
  ∀ (f : Addr) (fd : FuncData) (oc : Value) (od : Option Addr) (osl : Array (Option Value)), mg x = some (.ref f) → K.lookup f = some ⟨oc, od, .func fd, osl⟩ → ∃ g, KBn K fd ps n ks g gV
/-- the same of what the values stand for -/
def BnD (n m : Nat) (gV : List V → List V → List V) (gD : List D → List D → List D) : Prop :=
  ∀ (K : PySem.W.Frag) (mg : Str → Option Value) (R : Rg) (st : Sto) (H : Hp) (vs zs : List V) (ds es : List D), vs.length = n → zs.length = m → DvA K mg R st H vs ds → DvA K mg R st H zs es → DvA K mg R st H (gV vs zs) (gD ds es)
section
variable {P : Program} {w : World} {K : PySem.W.Frag} {mg : Str → Option Value} {base : Heap} {x : Str} {st : Stmt} {N ps : List Str} {k : Nat} {body : SM}
theorem fnV_of {give : Nat → D → Sto → Res D} (hgive : GiveOk give) (D1 : DfV K mg x st) (S : FnScope N ps (defScope st))
    (hb : ∀ (f : Addr) (cdv : Value) (A : Around) (outer : List PySem.Env) (s : Shared) (H : Hp) (E : XK), GC (cxOf (L2.CX P w) P w K mg base N x (defScope st) f cdv A outer s H E) (fun c d _ H' => E c d H') k →
      EVSs (cxOf (L2.CX P w) P w K mg base N x (defScope st) f cdv A outer s H E) (fun c d _ H' => E c d H') (defBody st) body) :
    FnV P w K mg base (k + 1) x ps (runBody give N.length ps.length body) := by
  obtain ⟨f, fd, F, hm⟩ := D1
  refine ⟨f, fd, fnG_of hgive F S (fun cdv A outer s H E _ hr hg => hb f cdv A outer s H E ⟨hr, hg, ?_⟩), hm, F.kp, ?_⟩
  · exact takes_of rfl rfl rfl rfl
  · obtain ⟨oc, od, kV, doc, pm, an, cdv, ct, osl, _, lk, _⟩ := F.ex
    exact ⟨oc, od, osl, lk⟩
theorem FnN.v {F : List D → M D} (G : FnN P w K mg base k x ps F) : FnV P w K mg base k x ps F :=
  let ⟨f, fd, a, b, c, _, e⟩ := G
  ⟨f, fd, a, b, c, e⟩
end
def mK (F : List D → M D) (gD : List D → List D → List D) (ms mk : Env → M (List D)) : Env → M D := fun ρ => M.bind (ms ρ) fun ds => M.bind (mk ρ) fun es => F (gD ds es)
structure EVK (X : Cx) (W : WX) (kws : List Keyword) (m : Env → M (List D)) : Prop where
  pk : PK X kws (tMA X.K X.mg W m)
section
variable {X : Cx} {W : WX} {k j n : Nat} {ps ks : List Str} {F : List D → M D} {x : Str} {p pos : Pos} {e : Expr} {es : List Expr} {kws : List Keyword} {ms mk : Env → M (List D)} {gV : List V → List V → List V} {gD : List D → List D → List D}
/-- f(e, .., k = v, ..) -/
theorem ev_callK (G : FnV X.prog X.w X.K X.mg X.base j x ps F) (B : Bn X.K X.mg x ps n ks gV) (BD : BnD n ks.length gV gD) (C : GC X W k) (h : j ≤ k) (hg : Gl X x) (hna : ∀ ρ st ds st', ms ρ st = .ok ds st' → ds.length = n) (hnk : ∀ ρ st ds st', mk ρ st = .ok ds st' → ds.length = ks.length)
    (ha : EVA X W (e :: es) ms) (hkw : EVK X W kws mk) (hall : (backToKw pos (keywordEach kws X.env)).all (·.1.isSome) = true := by rfl) (hks : (backToKw pos (keywordEach kws X.env)).filterMap (·.1) = ks := by rfl)
    (hdb : (x == ("__debug__" : Str)) = false := by decide) (he : starEach (e :: es) X.env = (false, eval e X.env) :: starEach es X.env := by rfl)
    (hpl : ((backTo pos (starEach (e :: es) X.env)).any (·.1) || (backToKw pos (keywordEach kws X.env)).any (·.1.isNone)) = false := by rfl) :
    EV X W (.Call (.Name x p) (e :: es) kws pos) (mK F gD ms mk) := by
  obtain ⟨f, fd, a, hm, hk, oc, od, osl, lk⟩ := G
  obtain ⟨g, hb⟩ := B f fd oc od osl hm lk
  refine ⟨⟨fun pins s σ H Q I h0 => ?_⟩⟩
  refine wpAny_Call_Name_kw (ld_glob I hg hm ?_ hdb)
  obtain ⟨R, ρ, st, S, E, h0⟩ := h0
  have h1 := Post.bind (Rel := DvA X.K X.mg) (Rel2 := Dv X.K X.mg) h0
  -- the values by their places, then those by their names
  refine PySem.W.callWith_KW (h₀ := X.base) I.ok.mod.kin hk hall (thn (ha.pa.run pos pins s σ H (fun vs H1 => tMA X.K X.mg W mk σ H1 fun zs H2 => vs.length = n ∧ zs.length = ks.length ∧ SpF X.K X.mg F (gV vs zs) H2 Q (fun c d H' => W c d σ H')) I ⟨R, ρ, st, S, E, ?_⟩) fun us s1 ⟨vs, H1, I1, r, q⟩ => ?_) hpl he
  · cases z : ms ρ st with
    | bad => rw [z] at h1; exact h1
    | exc y st' => rw [z] at h1; exact h1
    | ok ds st1 =>
      have ld := hna _ _ _ _ z
      rw [z] at h1
      intro vs R1 H1 x1 S1 D1
      obtain ⟨R1', st1', ds', x1', S1', D1', h2⟩ := h1 vs R1 H1 x1 S1 D1
      have h3 := Post.bind (Rel := DvA X.K X.mg) (Rel2 := Dv X.K X.mg) h2
      refine ⟨R1', ρ, st1', S1', E.ext x1', ?_⟩
      cases z2 : mk ρ st1' with
      | bad => rw [z2] at h3; exact h3
      | exc y st' => rw [z2] at h3; exact h3
      | ok es2 st2 =>
        have lk2 := hnk _ _ _ _ z2
        rw [z2] at h3
        intro zs R2 H2 x2 S2 D2
        obtain ⟨R2', st2', es', x2', S2', D2', h4⟩ := h3 zs R2 H2 x2 S2 D2
        have lv : vs.length = n := by rw [D1.len]; exact ld
        have lz : zs.length = ks.length := by rw [D2.len]; exact lk2
        exact ⟨lv, lz, R2', st2', _, S2', BD _ _ _ _ _ _ _ _ _ lv lz (D1'.ext x2') D2', h4⟩
  · refine thn (hkw.pk.run pos pins s1 σ H1 _ I1 q) fun ws s2 ⟨zs, H2, I2, rz, l1, l2, q2⟩ => ⟨I2.kIn, ?_⟩
    rw [hks]
    have r2 := hb.rel r rz
    refine wpAny_call (codeAny_mono (runG a (C.mono h) I2 (hb.to s2 us ws I2.kIn (r.length.symm.trans l1) (rz.length.symm.trans l2)) r2 q2) fun r s' hq => ?_)
    cases r with
    | error e => exact hq
    | ok fl =>
      cases fl with
      | ret u => exact hq
      | next => exact hq.elim
      | brk => exact hq.elim
      | cont => exact hq.elim
end
/-- how many values a list of arguments gives -/
def AL (ms : Env → M (List D)) (n : Nat) : Prop := ∀ ρ st ds st', ms ρ st = .ok ds st' → ds.length = n
theorem al_nil : AL aNil 0 := fun ρ st ds st' h => by
  cases h
  rfl
theorem al_cons {m : Env → M D} {r : Env → M (List D)} {n : Nat} (h : AL r n) : AL (aCons m r) (n + 1) := fun ρ st ds st' e => by
  unfold aCons M.bind at e
  cases z : m ρ st with
  | bad => rw [z] at e; cases e
  | exc x s1 => rw [z] at e; cases e
  | ok d s1 =>
    rw [z] at e
    dsimp only at e
    cases z2 : r ρ s1 with
    | bad => rw [z2] at e; cases e
    | exc x s2 => rw [z2] at e; cases e
    | ok es s2 =>
      rw [z2] at e
      cases e
      rw [List.length_cons, h _ _ _ _ z2]
section
variable {X : Cx} {W : WX} {nm : Option Str} {kpos : Pos} {e : Expr} {kws : List Keyword} {me : Env → M D} {ms : Env → M (List D)}
theorem PK.imp {t u : TA} (h : PK X kws t) (q : ∀ σ H Q, u σ H Q → t σ H Q) : PK X kws u := ⟨fun pos pins s σ H Q I z => h.run pos pins s σ H Q I (q σ H Q z)⟩
theorem ek_nil : EVK X W [] aNil := by
  refine ⟨PK.imp pk_nil fun σ H Q h => ?_⟩
  obtain ⟨R, ρ, st, S, E, h⟩ := h
  exact h.okR S .nil
theorem ek_cons (ha : EV X W e me) (hr : EVK X W kws ms) : EVK X W (⟨nm, e, kpos⟩ :: kws) (aCons me ms) := by
  refine ⟨PK.imp (pk_cons ha.pe hr.pk) fun σ H Q h => ?_⟩
  obtain ⟨R, ρ, st, S, E, h⟩ := h
  refine ⟨R, ρ, st, S, E, (Post.bind (Rel := Dv X.K X.mg) (Rel2 := DvA X.K X.mg) h).monoQ fun v1 H1 ⟨R1, st1, d1, x1, S1, D1, h2⟩ => ?_⟩
  refine ⟨R1, ρ, st1, S1, E.ext x1, (Post.bind (Rel := DvA X.K X.mg) (Rel2 := DvA X.K X.mg) h2).monoQ fun vs H2 ⟨R2, st2, ds, x2, S2, D2, h4⟩ => ?_⟩
  exact h4.okR S2 (.cons (D1.ext x2) D2)
end
end Ev
set_option Elab.async false
set_option linter.all false
set_option maxRecDepth 100000
set_option maxHeartbeats 4000000
/-! Ev16: short words for try. -/
namespace Ev
open PySem PySem.Spec PyProof.Rows L2
open Classical
variable [τ : Tbl]
/-- the class x of the module catches just what hit tells -/
def Catch (K : PySem.W.Frag) (mg : Str → Option Value) (x : Str) (hit : Str → Option Bool) : Prop := ∃ c, mg x = some c ∧ Hits K mg c hit
section
variable {X : Cx} {W : WX} {k : Nat} {pos pos' p : Pos}
theorem evs_try1 {x n : Str} {i : Nat} {body suite : List Stmt} {b0 : Stmt} {np : Pos} {mb : SM} {hit : Str → Option Bool} {sm : Addr → Value → Option Addr → SM} (hs : X.stack = X.env :: X.outer) (hf : X.env.frame = some X.env.locals)
    (hN : X.N.Nodup) (hi : X.N[i]? = some n) (hln : X.env.kindOf n = some .local) (T : Catch X.K X.mg x hit) (hg : Gl X x) (C : GC X W k)
    (hb : ∀ (W' : WX) (pn : List (Addr × Obj)) (xe : Value → Shared → Prop), GC (X.tr pn xe) W' k → PassesOwn (model X.prog X.w) X.A X.env xe → EVSs (X.tr pn xe) W' body mb)
    (hsu : ∀ (a : Addr) (oe : Obj) (cls : Value) (d : Option Addr) (pn : List (Addr × Obj)), Zc cls d oe → (∃ vs, oe.data = .fields vs) → EVSs (X.suite a ((a, oe) :: pn)) W0 (b0 :: suite) (sm a cls d)) (hdb : (x == ("__debug__" : Str)) = false := by decide) :
    EVS X W (.Try body [.ExceptHandler (some (.Name x np)) (some n) (b0 :: suite) pos'] [] [] pos) (sTryAs mb hit i sm) := by
  obtain ⟨c, hm, hh⟩ := T
  exact evs_tryAs hs hf hN hi hln ⟨hg, hdb, .inl hm⟩ C hh hb hsu
/-- a class of Python's own, as a value -/
theorem ev_rawty {x : Str} {T : String} (hg : Gl X x) (hm : X.mg x = none) (hv : bootBuiltins x = some (.type T)) (hn : x ≠ "__name__" := by decide) (hd : (x == ("__debug__" : Str)) = false := by decide) : EV X W (.Name x pos) (ct (.raw (.ty T))) :=
  ⟨PE.imp (pe_bltn hg hm hv (v := .ty T) rfl hn hd) fun _ _ _ h => tC_of (X := X) (d := .raw (.ty T)) (fun _ _ _ => rfl) h⟩
/-- a class of the module, as a value -/
theorem ev_gcls {x : Str} (hg : Gl X x) (hm : ∃ f : Addr, X.mg x = some (.ref f)) (hd : (x == ("__debug__" : Str)) = false := by decide) : EV X W (.Name x pos) (ct (.glob x)) := by
  obtain ⟨f, hf⟩ := hm
  exact ev_gfun hg hf hd
end
@[simp] theorem dIsE_ap (a : Addr) (cls : Value) (isa : Str → D → Option Bool) (x : Exc) (c : D) (b : Bool) (st : Sto) (h : isa x.cls c = some b) : dIsE a cls none isa [.err (.ref a) cls none x, c] st = .ok (.dat (.bool b)) st := by
  show (if V.ref a = V.ref a ∧ cls = cls ∧ (none : Option Addr) = none ∧ (none : Option Addr) = none then _ else _) = _
  rw [if_pos ⟨rfl, rfl, rfl, rfl⟩, h]
theorem DvA.app {K : PySem.W.Frag} {mg : Str → Option Value} {R : Rg} {H : Hp} {st : Sto} : ∀ {vs : List V} {ds : List D} {ws : List V} {es : List D}, DvA K mg R st H vs ds → DvA K mg R st H ws es → DvA K mg R st H (vs ++ ws) (ds ++ es)
  | _, _, _, _, .nil, q => q
  | _, _, _, _, .cons p r, q => .cons p (DvA.app r q)
end Ev
set_option Elab.async false
set_option linter.all false
set_option maxRecDepth 100000
set_option maxHeartbeats 4000000
/-! Ev17: what the top has written: classes, tuples, defaults. -/
namespace Ev
open PySem PySem.Spec PyProof.Rows L2
open Classical
variable [τ : Tbl]
section
variable {K : PySem.W.Frag} {mg : Str → Option Value} {h : Heap}
def flatV : PyData → V
  | .int i => .int i
  | .str x => .str x
  | .bool b => .bl b
  | _ => .non
def flat : PyData → Bool
  | .int _ | .str _ | .bool _ | .none => true
  | _ => false
theorem flat_pd {U : Addr → Prop} {H : Hp} : ∀ {d : PyData}, flat d = true → Pd K U H (flatV d) d
  | .none, _ => .non
  | .bool b, _ => .bl b
  | .int i, _ => .int i
  | .str x, _ => .str x
theorem flat_pdA {U : Addr → Prop} {H : Hp} : ∀ {ds : List PyData}, ds.all flat = true → PdA K U H (ds.map flatV) ds
  | [], _ => .nil
  | d :: r, e => by
    rw [List.all_cons, Bool.and_eq_true] at e
    exact .cons (flat_pd e.1) (flat_pdA e.2)
theorem ktup_mk (X : K.In h) (G : h.Ns mainGlobals mg) {x : Str} {ds : List PyData} {ad : Addr} {dd : Option Addr} {its : Array Value} {n : Nat} {sl : Array (Option Value)} (a : PySem.W.nsIn K mainGlobals x = some (some (.ref ad)))
    (l : K.lookup ad = some ⟨.type "tuple", dd, .seq its n, sl⟩) (v : Vals (ds.map flatV) its.toList) (hz : its.size ≤ sizeLine) (hf : ds.all flat = true) : KTup K mg x ds :=
  ⟨ad, PySem.W.mg_of X G a, fun U H => .tup (.inr ⟨_, its, n, l, rfl, rfl, hz, v⟩) (flat_pdA hf)⟩
theorem hits_nil {c : Value} : Hits K mg c (fun _ => none) := fun x b cls e _ => by cases e
theorem hits_cons {c : Value} {hit : Str → Option Bool} {y : Str} {b : Bool} {A : Addr} (m : mg y = some (.ref A)) (e : PySem.W.exmOne K (.ref A) c = some b) (r : Hits K mg c hit) : Hits K mg c (fun x => if x = y then some b else hit x) := fun x b' cls hx hm => by
  by_cases q : x = y
  · subst q
    have hx' : (if x = x then some b else hit x) = some b' := hx
    rw [if_pos rfl] at hx'
    cases hx'
    rw [m] at hm
    cases hm
    exact e
  · have hx' : (if x = y then some b else hit x) = some b' := hx
    rw [if_neg q] at hx'
    exact r x b' cls hx' hm
theorem exn_mk (X : K.In h) (G : h.Ns mainGlobals mg) {x : Str} {C : Addr} {bmB : List Value} {B newId initId : String} (F : ExcBaseFacts B newId initId bmB) (a : PySem.W.nsIn K mainGlobals x = some (some (.ref C))) (q : PySem.W.excIn K C bmB newId = true)
    (k : PySem.W.keepIn K (.ref C) = true) (b : PySem.W.subIn K (.ref C) (.type "BaseException") = some true) (t : PySem.W.typeIn K (.ref C) = some (.type "type")) : ExN K mg x := ⟨C, bmB, B, newId, initId, F, q, PySem.W.mg_of X G a, k, b, t⟩
theorem cls_mk (X : K.In h) (G : h.Ns mainGlobals mg) {x : Str} {C : Addr} (a : PySem.W.nsIn K mainGlobals x = some (some (.ref C))) : ∃ f : Addr, mg x = some (.ref f) := ⟨C, PySem.W.mg_of X G a⟩
def IsaAt (K : PySem.W.Frag) (mg : Str → Option Value) (x : Str) (c : D) (b : Bool) : Prop := ∃ (D0 : Addr) (cv : Value), mg x = some (.ref D0) ∧ ExcC K D0 ∧ PySem.W.kitOne K (.ref D0) cv = some b ∧ clsD mg c cv
theorem kit_ref {D0 C : Addr} {b : Bool} (h1 : PySem.W.isClsIn K C = true) (h2 : PySem.W.typeIn K (.ref C) = some (.type "type")) (h3 : PySem.W.subIn K (.ref D0) (.ref C) = some b) (h4 : D0 = C → b = true) : PySem.W.kitOne K (.ref D0) (.ref C) = some b := by
  unfold PySem.W.kitOne
  by_cases e : D0 = C
  · subst e
    rw [if_pos (beq_self_eq_true _), h4 rfl]
  · rw [if_neg (fun z => e (Value.ref.inj (beq_iff_eq.mp z)))]
    have h1' : (PySem.W.clsIn K C).isSome = true := h1
    show (if ((PySem.W.clsIn K C).isSome && PySem.W.typeIn K (.ref C) == some (.type "type")) = true then PySem.W.subIn K (.ref D0) (.ref C) else none) = some b
    rw [h1', h2, if_pos (by rfl)]
    exact h3
theorem kit_type {D0 : Addr} {T : String} {b : Bool} (h1 : PySem.W.kitMeta T = true) (h3 : PySem.W.subIn K (.ref D0) (.type T) = some b) : PySem.W.kitOne K (.ref D0) (.type T) = some b := by
  unfold PySem.W.kitOne
  rw [if_neg (fun z => by cases beq_iff_eq.mp z)]
  show (if PySem.W.kitMeta T = true then PySem.W.subIn K (.ref D0) (.type T) else none) = some b
  rw [if_pos h1]
  exact h3
theorem isa_own (X : K.In h) (G : h.Ns mainGlobals mg) {x y : Str} {b : Bool} {C D0 : Addr} (a : PySem.W.nsIn K mainGlobals x = some (some (.ref D0))) (E : ExcC K D0) (a2 : PySem.W.nsIn K mainGlobals y = some (some (.ref C))) (k : PySem.W.kitOne K (.ref D0) (.ref C) = some b) : IsaAt K mg x (.glob y) b :=
  ⟨D0, .ref C, PySem.W.mg_of X G a, E, k, PySem.W.mg_of X G a2⟩
theorem isa_ty (X : K.In h) (G : h.Ns mainGlobals mg) {x : Str} {T : String} {b : Bool} {D0 : Addr} (a : PySem.W.nsIn K mainGlobals x = some (some (.ref D0))) (E : ExcC K D0) (k : PySem.W.kitOne K (.ref D0) (.type T) = some b) : IsaAt K mg x (.raw (.ty T)) b :=
  ⟨D0, .type T, PySem.W.mg_of X G a, E, k, rfl⟩
/-- a def with one parameter by its name alone, left out -/
theorem bn0 (X : K.In h) (G : h.Ns mainGlobals mg) {x kn : Str} {ps : List Str} {n : Nat} {v : V} {f Dk : Addr} {u : Value} {oc : Value} {od : Option Addr} {sl : Array (Option Value)} {fd : FuncData} (a : PySem.W.nsIn K mainGlobals x = some (some (.ref f))) (l : K.lookup f = some ⟨oc, od, .func fd, sl⟩)
    (d : PySem.W.nsIn K Dk kn = some (some u)) (r : RelV v u) (hb : ∀ us : List Value, us.length = n → KwChain Dk [(kn, u)] (bindArgs fd ⟨us, []⟩) (ps.zip (us ++ [u]))) : Bn K mg x ps n [] (fun vs _ => vs ++ [v]) := by
  intro f2 fd2 oc2 od2 sl2 hm hl
  rw [PySem.W.mg_of X G a] at hm
  cases hm
  rw [l] at hl
  cases hl
  refine ⟨fun us _ => us ++ [u], ⟨fun s us ws Xs hu hw => ?_, fun {vs us zs ws} r1 _ => r1.append (.cons r .nil)⟩⟩
  exact BindsTo.of_looks fun M => KwChain.looks Xs (fun q hq => by rw [List.mem_singleton.mp hq]; exact d) (hb us hu)
/-- .. given -/
theorem bn1 (X : K.In h) (G : h.Ns mainGlobals mg) {x kn : Str} {ps : List Str} {n : Nat} {f : Addr} {oc : Value} {od : Option Addr} {sl : Array (Option Value)} {fd : FuncData} (a : PySem.W.nsIn K mainGlobals x = some (some (.ref f))) (l : K.lookup f = some ⟨oc, od, .func fd, sl⟩)
    (hb : ∀ (us : List Value) (w : Value), us.length = n → bindArgs fd ⟨us, [(kn, w)]⟩ = pure (ps.zip (us ++ [w]))) : Bn K mg x ps n [kn] (fun vs zs => vs ++ zs) := by
  intro f2 fd2 oc2 od2 sl2 hm hl
  rw [PySem.W.mg_of X G a] at hm
  cases hm
  rw [l] at hl
  cases hl
  refine ⟨fun us ws => us ++ ws, ⟨fun s us ws Xs hu hw => ?_, fun {vs us zs ws} r1 r2 => r1.append r2⟩⟩
  match ws, hw with
  | [w], _ => exact .of_eq (hb us w hu)
theorem bn0f (X : K.In h) (G : h.Ns mainGlobals mg) {x kn : Str} {st : Stmt} {ps : List Str} {n : Nat} {v : V} {f Dk : Addr} {u : Value} {oc : Value} {od an : Option Addr} {sl : Array (Option Value)} {doc pm cd ct : Value} (a : PySem.W.nsIn K mainGlobals x = some (some (.ref f)))
    (l : K.lookup f = some ⟨oc, od, .func (PySem.W.fnOf x x (defArgs st) (defBody st) (defScope st) .none (.ref Dk) doc pm an cd ct), sl⟩) (d : PySem.W.nsIn K Dk kn = some (some u)) (r : RelV v u)
    (hb : ∀ (Dk : Addr) (doc pm : Value) (an : Option Addr) (cd ct u : Value) (us : List Value), us.length = n → KwChain Dk [(kn, u)] (bindArgs (PySem.W.fnOf x x (defArgs st) (defBody st) (defScope st) .none (.ref Dk) doc pm an cd ct) ⟨us, []⟩) (ps.zip (us ++ [u]))) :
    Bn K mg x ps n [] (fun vs _ => vs ++ [v]) := bn0 X G a l d r fun us hu => hb Dk doc pm an cd ct u us hu
theorem bn1f (X : K.In h) (G : h.Ns mainGlobals mg) {x kn : Str} {st : Stmt} {ps : List Str} {n : Nat} {f : Addr} {oc : Value} {od an : Option Addr} {sl : Array (Option Value)} {kV doc pm cd ct : Value} (a : PySem.W.nsIn K mainGlobals x = some (some (.ref f)))
    (l : K.lookup f = some ⟨oc, od, .func (PySem.W.fnOf x x (defArgs st) (defBody st) (defScope st) .none kV doc pm an cd ct), sl⟩)
    (hb : ∀ (kV doc pm : Value) (an : Option Addr) (cd ct : Value) (us : List Value) (w : Value), us.length = n → bindArgs (PySem.W.fnOf x x (defArgs st) (defBody st) (defScope st) .none kV doc pm an cd ct) ⟨us, [(kn, w)]⟩ = pure (ps.zip (us ++ [w]))) :
    Bn K mg x ps n [kn] (fun vs zs => vs ++ zs) := bn1 X G a l fun us w hu => hb kV doc pm an cd ct us w hu
theorem dfv_mk (X : K.In h) (G : h.Ns mainGlobals mg) {x : Str} {st : Stmt} {f : Addr} {oc : Value} {od an : Option Addr} {osl : Array (Option Value)} {kV doc pm cdv ct : Value}
    (a : PySem.W.nsIn K mainGlobals x = some (some (.ref f))) (l : K.lookup f = some ⟨oc, od, .func (PySem.W.fnOf x x (defArgs st) (defBody st) (defScope st) .none kV doc pm an cdv ct), osl⟩) (c : PySem.W.codeIn K cdv x = true) (k : PySem.W.keepIn K (.ref f) = true) : DfV K mg x st := by
  have F := fun_mk l c k
  exact ⟨f, _, F, PySem.W.mg_of X G a⟩
end
end Ev
set_option Elab.async false
set_option linter.all false
set_option maxRecDepth 100000
set_option maxHeartbeats 4000000
/-! Pu: reckoning with the functions. -/
namespace Ev
open PySem PySem.Spec PyProof.Rows L2
open Classical
theorem boolsOf_map (g : PyData → Bool) : ∀ xs : List PyData, boolsOf (xs.map fun x => .bool (g x)) = some (xs.map g)
  | [] => rfl
  | x :: r => by
    rw [List.map_cons]
    unfold boolsOf
    rw [boolsOf_map g r]
    rfl
theorem intsOf_map : ∀ xs : List Int, intsOf (xs.map PyData.int) = some xs
  | [] => rfl
  | x :: r => by
    rw [List.map_cons]
    unfold intsOf
    rw [intsOf_map r]
    rfl
section
variable {α β : Type} (ρ : Env) (st : Sto)
@[simp] theorem pure_ap (a : α) : M.pure a st = .ok a st := rfl
@[simp] theorem bad_ap : (M.bad : M α) st = .bad := rfl
/-- what follows a result -/
def Res.then (r : Res α) (f : α → M β) : Res β :=
  match r with
  | .ok a st' => f a st'
  | .exc x st' => .exc x st'
  | .bad => .bad
@[simp] theorem then_ok (a : α) (f : α → M β) : (Res.ok a st).then f = f a st := rfl
@[simp] theorem then_bad (f : α → M β) : (Res.bad : Res α).then f = .bad := rfl
@[simp] theorem then_exc (x : Exc) (f : α → M β) : (Res.exc x st : Res α).then f = .exc x st := rfl
@[simp] theorem bind_ap (m : M α) (f : α → M β) : M.bind m f st = (m st).then f := rfl
@[simp] theorem m2_ap (f : D → D → M D) (a b : Env → M D) : m2 f a b ρ st = (a ρ st).then fun x => M.bind (b ρ) fun y => f x y := rfl
@[simp] theorem m1_ap (f : D → M D) (a : Env → M D) : m1 f a ρ st = (a ρ st).then f := rfl
@[simp] theorem mC_ap (f : List D → M D) (a : Env → M (List D)) : mC f a ρ st = (a ρ st).then f := rfl
@[simp] theorem ct_ap (d : D) : ct d ρ st = .ok d st := rfl
@[simp] theorem aNil_ap : aNil ρ st = .ok [] st := rfl
@[simp] theorem aCons_ap (m : Env → M D) (r : Env → M (List D)) : aCons m r ρ st = (m ρ st).then fun x => M.bind (r ρ) fun xs => M.pure (x :: xs) := rfl
@[simp] theorem asB_ap (b : Bool) : asB (.dat (.bool b)) st = .ok b st := rfl
@[simp] theorem mT_ap (a : Env → M D) : mT a ρ st = (a ρ st).then asB := rfl
@[simp] theorem mNot_ap (a : Env → M Bool) : mNot a ρ st = (a ρ st).then fun b => M.pure !b := rfl
@[simp] theorem mAnd_ap (m n : Env → M Bool) : mAnd m n ρ st = (m ρ st).then fun b => if b = true then n ρ else M.pure false := rfl
@[simp] theorem mOr_ap (m n : Env → M Bool) : mOr m n ρ st = (m ρ st).then fun b => if b = true then M.pure true else n ρ := rfl
@[simp] theorem mAndV_ap (m n : Env → M D) : mAndV m n ρ st = (m ρ st).then fun x => M.bind (asB x) fun b => if b = true then n ρ else M.pure (.dat (.bool false)) := rfl
@[simp] theorem mOrV_ap (m n : Env → M D) : mOrV m n ρ st = (m ρ st).then fun x => M.bind (asB x) fun b => if b = true then M.pure (.dat (.bool true)) else n ρ := rfl
@[simp] theorem mNotV_ap (m : Env → M D) : mNotV m ρ st = (m ρ st).then fun x => M.bind (asB x) fun b => M.pure (.dat (.bool !b)) := rfl
@[simp] theorem mIf_ap (t : Env → M Bool) (m n : Env → M D) : mIf t m n ρ st = (t ρ st).then fun k => if k = true then m ρ else n ρ := rfl
@[simp] theorem mChain_ap (f g : D → D → M D) (ma mb mc : Env → M D) : mChain f g ma mb mc ρ st = (ma ρ st).then fun x => M.bind (mb ρ) fun y => M.bind (f x y) fun z => M.bind (asB z) fun k => if k = true then M.bind (mc ρ) fun w => g y w else M.pure (.dat (.bool false)) := rfl
@[simp] theorem on1_ap (f : D → M D) (d : D) : on1 f [d] st = f d st := rfl
@[simp] theorem on2_ap (f : D → D → M D) (d e : D) : on2 f [d, e] st = f d e st := rfl
@[simp] theorem retI_ap (i : Int) : retI i st = .ok (.dat (.int i)) st := rfl
@[simp] theorem retB_ap (i : Bool) : retB i st = .ok (.dat (.bool i)) st := rfl
@[simp] theorem guardM_ap (c : Prop) [Decidable c] (m : M D) : guardM c m st = if c then m st else .bad := by unfold guardM; split <;> rfl
@[simp] theorem notM_ap (m : M D) : notM m st = (m st).then fun x => M.bind (asB x) fun b => retB (!b) := rfl
/-- what follows, of statements -/
def Res.thenS (r : Res α) (ρ : Env) (f : α → SM) : SRes :=
  match r with
  | .ok a st' => f a ρ st'
  | .exc x st' => .exc x ρ st'
  | .bad => .bad
@[simp] theorem thenS_ok (a : α) (f : α → SM) : (Res.ok a st).thenS ρ f = f a ρ st := rfl
@[simp] theorem thenS_bad (f : α → SM) : (Res.bad : Res α).thenS ρ f = .bad := rfl
@[simp] theorem thenS_exc (x : Exc) (f : α → SM) : (Res.exc x st : Res α).thenS ρ f = .exc x ρ st := rfl
@[simp] theorem sBind_ap (m : Env → M α) (f : α → SM) : sBind m f ρ st = (m ρ st).thenS ρ f := rfl
def SRes.then (r : SRes) (n : SM) : SRes :=
  match r with
  | .nx ρ' st' => n ρ' st'
  | r => r
@[simp] theorem sthen_nx (n : SM) : (SRes.nx ρ st).then n = n ρ st := rfl
@[simp] theorem sthen_rt (n : SM) (d : D) : (SRes.rt d st).then n = .rt d st := rfl
@[simp] theorem sthen_bk (n : SM) : (SRes.bk ρ st).then n = .bk ρ st := rfl
@[simp] theorem sthen_ct (n : SM) : (SRes.ct ρ st).then n = .ct ρ st := rfl
@[simp] theorem sthen_exc (n : SM) (x : Exc) : (SRes.exc x ρ st).then n = .exc x ρ st := rfl
@[simp] theorem sthen_bad (n : SM) : SRes.bad.then n = .bad := rfl
@[simp] theorem sSeq_ap (m n : SM) : sSeq m n ρ st = (m ρ st).then n := by
  unfold sSeq SRes.then
  cases m ρ st <;> rfl
@[simp] theorem sNil_ap : sNil ρ st = .nx ρ st := rfl
@[simp] theorem sRet_ap (m : Env → M D) : sRet m ρ st = (m ρ st).thenS ρ fun d _ st => .rt d st := rfl
@[simp] theorem sRetN_ap : sRetN ρ st = .rt (.dat .none) st := rfl
@[simp] theorem sIf_ap (c : Env → M Bool) (m n : SM) : sIf c m n ρ st = (c ρ st).thenS ρ fun b => if b = true then m else n := rfl
@[simp] theorem sDrop_ap (m : Env → M D) : sDrop m ρ st = (m ρ st).thenS ρ fun _ ρ st => .nx ρ st := rfl
@[simp] theorem sSet_ap (i : Nat) (m : Env → M D) : sSet i m ρ st = (m ρ st).thenS ρ fun d ρ st => .nx (ρ.set i (some d)) st := rfl
@[simp] theorem sPass_ap : sPass ρ st = .nx ρ st := rfl
@[simp] theorem sBrk_ap : sBrk ρ st = .bk ρ st := rfl
@[simp] theorem sCnt_ap : sCnt ρ st = .ct ρ st := rfl
@[simp] theorem mSeq_ap (m : Env → M D) : mSeq m ρ st = (m ρ st).then srcOf := rfl
@[simp] theorem mYes_ap : mYes ρ st = .ok true st := rfl
@[simp] theorem mNoPart_ap : mNoPart ρ st = .ok none st := rfl
@[simp] theorem mPart_ap (m : Env → M D) : mPart m ρ st = (m ρ st).then asPart := rfl
@[simp] theorem asPart_ap (i : Int) : asPart (.dat (.int i)) st = .ok (some i) st := rfl
@[simp] theorem mSl_ap (m : Env → M D) (l u : Env → M (Option Int)) : mSl m l u ρ st = (m ρ st).then fun x => M.bind (l ρ) fun i => M.bind (u ρ) fun j => dSl x i j := rfl
@[simp] theorem mLc_ap (src : Env → M Src) (own : List Nat) (t : Tg) (test : Env → M Bool) (elt : Env → M D) : mLc src own t test elt ρ st = (src ρ st).then fun s => fun st => loopC s.ok t test elt (wipeE ρ own) s.items [] st := rfl
@[simp] theorem sFor_ap (src : Env → M Src) (t : Tg) (b : SM) : sFor src t b ρ st = (src ρ st).thenS ρ fun s => loopS s.ok t b s.items := rfl
@[simp] theorem mRng1_ap (m : Env → M (List D)) : mRng1 m ρ st = (m ρ st).then rng1 := rfl
@[simp] theorem mRng2_ap (m : Env → M (List D)) : mRng2 m ρ st = (m ρ st).then rng2 := rfl
@[simp] theorem dNil_ap : dNil ρ st = .ok [] st := rfl
@[simp] theorem dCons_ap (m : Env → M D) (r : Env → M (List PyData)) : dCons m r ρ st = (m ρ st).then fun x => M.bind (asDat x) fun y => M.bind (r ρ) fun ys => M.pure (y :: ys) := rfl
@[simp] theorem asDat_ap (y : PyData) : asDat (.dat y) st = .ok y st := rfl
@[simp] theorem mDct_ap (ks : List Key) (m : Env → M (List PyData)) : mDct ks m ρ st = (m ρ st).then fun ys => M.pure (.dat (.dict ((ks.map keyD).zip ys))) := rfl
@[simp] theorem mDct0_ap : mDct0 ρ st = .ok (.dat (.dict [])) st := rfl
/-- the end of a def -/
def SRes.fin (give : Nat → D → Sto → Res D) (n : Nat) (r : SRes) : Res D :=
  match r with
  | .nx _ st' => give n (.dat .none) st'
  | .rt d st' => give n d st'
  | .exc x _ st' => .exc x (st'.take n)
  | _ => .bad
@[simp] theorem fin_nx (give : Nat → D → Sto → Res D) (n : Nat) : (SRes.nx ρ st).fin give n = give n (.dat .none) st := rfl
@[simp] theorem fin_rt (give : Nat → D → Sto → Res D) (n : Nat) (d : D) : (SRes.rt d st).fin give n = give n d st := rfl
@[simp] theorem fin_exc (give : Nat → D → Sto → Res D) (n : Nat) (x : Exc) : (SRes.exc x ρ st).fin give n = .exc x (st.take n) := rfl
@[simp] theorem fin_bad (give : Nat → D → Sto → Res D) (n : Nat) : SRes.bad.fin give n = .bad := rfl
theorem run_ap (give : Nat → D → Sto → Res D) (n : Nat) (b : SM) (ds : List D) : runBody give n ds.length b ds st = (b (startE n ds) st).fin give st.length := by
  unfold runBody SRes.fin
  rw [if_pos rfl] <;> (cases b (startE n ds) st <;> rfl)
@[simp] theorem run1 (give : Nat → D → Sto → Res D) (n : Nat) (b : SM) (d1 : D) : runBody give n 1 b [d1] st = (b (startE n [d1]) st).fin give st.length := run_ap st give n b [d1]
@[simp] theorem run2 (give : Nat → D → Sto → Res D) (n : Nat) (b : SM) (d1 d2 : D) : runBody give n 2 b [d1, d2] st = (b (startE n [d1, d2]) st).fin give st.length := run_ap st give n b [d1, d2]
@[simp] theorem run3 (give : Nat → D → Sto → Res D) (n : Nat) (b : SM) (d1 d2 d3 : D) : runBody give n 3 b [d1, d2, d3] st = (b (startE n [d1, d2, d3]) st).fin give st.length := run_ap st give n b [d1, d2, d3]
@[simp] theorem run4 (give : Nat → D → Sto → Res D) (n : Nat) (b : SM) (d1 d2 d3 d4 : D) : runBody give n 4 b [d1, d2, d3, d4] st = (b (startE n [d1, d2, d3, d4]) st).fin give st.length := run_ap st give n b [d1, d2, d3, d4]
@[simp] theorem run5 (give : Nat → D → Sto → Res D) (n : Nat) (b : SM) (d1 d2 d3 d4 d5 : D) : runBody give n 5 b [d1, d2, d3, d4, d5] st = (b (startE n [d1, d2, d3, d4, d5]) st).fin give st.length := run_ap st give n b [d1, d2, d3, d4, d5]
end
@[simp] theorem startE_ap (n : Nat) (ds : List D) : startE n ds = ds.map some ++ List.replicate (n - ds.length) none := rfl
@[simp] theorem tgName_ap (i : Nat) (d : D) (ρ : Env) : tgName i d ρ = some (ρ.set i (some d)) := rfl
/-! operations on data -/
section
variable (st : Sto) (i j : Int)
@[simp] theorem dSub_ap : dSub (.dat (.int i)) (.dat (.int j)) st = .ok (.dat (.int (i - j))) st := rfl
@[simp] theorem dLt_ap : dLt (.dat (.int i)) (.dat (.int j)) st = .ok (.dat (.bool (decide (i < j)))) st := rfl
@[simp] theorem dLe_ap : dLe (.dat (.int i)) (.dat (.int j)) st = .ok (.dat (.bool (decide (i ≤ j)))) st := rfl
@[simp] theorem dGt_ap : dGt (.dat (.int i)) (.dat (.int j)) st = .ok (.dat (.bool (decide (j < i)))) st := rfl
@[simp] theorem dGe_ap : dGe (.dat (.int i)) (.dat (.int j)) st = .ok (.dat (.bool (decide (j ≤ i)))) st := rfl
theorem guard_ok {c : Prop} [Decidable c] {m : M D} {st : Sto} (h : c) : guardM c m st = m st := by
  unfold guardM
  rw [if_pos h]
theorem dMod_ap (h : j ≠ 0) : dMod (.dat (.int i)) (.dat (.int j)) st = .ok (.dat (.int (i.fmod j))) st := guard_ok (m := retI (i.fmod j)) h
theorem dFdiv_ap (h : 0 < j ∧ wideI j ∨ j ≠ 0 ∧ j.natAbs < 1073741824) : dFdiv (.dat (.int i)) (.dat (.int j)) st = .ok (.dat (.int (i.fdiv j))) st := guard_ok (m := retI (i.fdiv j)) h
theorem dPow_ap (h : 0 ≤ j ∧ (Builtin.Int.intBits i : Int) * j ≤ 100000) : dPow (.dat (.int i)) (.dat (.int j)) st = .ok (.dat (.int (i ^ j.toNat))) st := guard_ok (m := retI (i ^ j.toNat)) h
theorem dMul_ap (h : wideI i ∧ wideI j) : dMul (.dat (.int i)) (.dat (.int j)) st = .ok (.dat (.int (i * j))) st := guard_ok (m := retI (i * j)) h
@[simp] theorem dAdd_ap : dAdd (.dat (.int i)) (.dat (.int j)) st = .ok (.dat (.int (i + j))) st := rfl
@[simp] theorem dNeg_ap : dNeg (.dat (.int i)) st = .ok (.dat (.int (-i))) st := rfl
@[simp] theorem dAbs_ap : dAbs (.dat (.int i)) st = .ok (.dat (.int (iAbs i))) st := rfl
@[simp] theorem dMax_ap : dMax2 (.dat (.int i)) (.dat (.int j)) st = .ok (.dat (.int (iMax i j))) st := rfl
@[simp] theorem dMin_ap : dMin2 (.dat (.int i)) (.dat (.int j)) st = .ok (.dat (.int (iMin i j))) st := rfl
@[simp] theorem dInt_ap : dInt (.dat (.int i)) st = .ok (.dat (.int i)) st := rfl
@[simp] theorem dIntB_ap (b : Bool) : dInt (.dat (.bool b)) st = .ok (.dat (.int (if b then 1 else 0))) st := rfl
@[simp] theorem dIsi_ap (x : PyData) (t : Ty) : dIsi (.dat x) (.ty t) st = .ok (.dat (.bool (isi (tyOf x) t))) st := rfl
@[simp] theorem dLen_list (xs : List PyData) : dLen (.dat (.list xs)) st = .ok (.dat (.int xs.length)) st := rfl
@[simp] theorem dLen_tuple (xs : List PyData) : dLen (.dat (.tuple xs)) st = .ok (.dat (.int xs.length)) st := rfl
@[simp] theorem dLen_fz (xs : List PyData) : dLen (.fz xs) st = .ok (.dat (.int xs.length)) st := rfl
theorem dAdd_list {xs ys : List PyData} (h : xs.length + ys.length ≤ 100000) : dAdd (.dat (.list xs)) (.dat (.list ys)) st = .ok (.dat (.list (xs ++ ys))) st := by
  show ifLen _ _ st = _
  unfold ifLen
  rw [if_pos h]
  rfl
@[simp] theorem tupOf_list (xs : List PyData) : tupOf (.dat (.list xs)) st = .ok (.dat (.tuple xs)) st := rfl
@[simp] theorem tupOf_tuple (xs : List PyData) : tupOf (.dat (.tuple xs)) st = .ok (.dat (.tuple xs)) st := rfl
@[simp] theorem lstOf_list (xs : List PyData) : lstOf (.dat (.list xs)) st = .ok (.dat (.list xs)) st := rfl
@[simp] theorem lstOf_tuple (xs : List PyData) : lstOf (.dat (.tuple xs)) st = .ok (.dat (.list xs)) st := rfl
@[simp] theorem dSl_list (xs : List PyData) (lo hi : Option Int) : dSl (.dat (.list xs)) lo hi st = .ok (.dat (.list (cutD xs lo hi))) st := rfl
@[simp] theorem dSl_tuple (xs : List PyData) (lo hi : Option Int) : dSl (.dat (.tuple xs)) lo hi st = .ok (.dat (.tuple (cutD xs lo hi))) st := rfl
@[simp] theorem src_list (xs : List PyData) : srcOf (.dat (.list xs)) st = .ok (.data xs) st := rfl
@[simp] theorem src_tuple (xs : List PyData) : srcOf (.dat (.tuple xs)) st = .ok (.data xs) st := rfl
@[simp] theorem src_fz (xs : List PyData) : srcOf (.fz xs) st = .ok (.data xs) st := rfl
@[simp] theorem datas_nil : datas [] = some [] := rfl
@[simp] theorem datas_cons (x : PyData) (r : List D) : datas (.dat x :: r) = (datas r).map (x :: ·) := rfl
theorem mkTup_ap {ds : List D} {xs : List PyData} (h : datas ds = some xs) (hl : xs.length ≤ 100000) : mkTup ds st = .ok (.dat (.tuple xs)) st := by
  unfold mkTup
  rw [h]
  exact if_pos hl
theorem mkLst_ap {ds : List D} {xs : List PyData} (h : datas ds = some xs) (hl : xs.length ≤ 100000) : mkLst ds st = .ok (.dat (.list xs)) st := by
  unfold mkLst
  rw [h]
  exact if_pos hl
theorem mkLoc_ap {ds : List D} {xs : List PyData} (h : datas ds = some xs) (hl : xs.length ≤ 100000) : mkLoc ds st = .ok (.loc st.length) (st ++ [.lst xs]) := by
  unfold mkLoc
  rw [h]
  exact if_pos hl
theorem repr_ap {x : PyData} (h : reprOk x = true) : dRepr (.dat x) st = .ok (.dat (.str x.shown)) st := if_pos h
@[simp] theorem dEq_str (x y : Str) : dEq (.dat (.str x)) (.dat (.str y)) st = .ok (.dat (.bool (decide (x = y)))) st := rfl
@[simp] theorem dEq_bool (x y : Bool) : dEq (.dat (.bool x)) (.dat (.bool y)) st = .ok (.dat (.bool (x == y))) st := by cases x <;> cases y <;> rfl
@[simp] theorem dataOf_dat (x : PyData) : dataOf (.dat x) st = some x := rfl
@[simp] theorem dataOf_fz (x : List PyData) : dataOf (.fz x) st = none := rfl
@[simp] theorem dataOf_ty (x : Ty) : dataOf (.ty x) st = none := rfl
theorem all_ap (g : PyData → Bool) (xs : List PyData) : dAll (.dat (.list (xs.map fun x => .bool (g x)))) st = .ok (.dat (.bool (xs.all g))) st := by
  show onBools _ _ st = _
  unfold onBools
  rw [boolsOf_map]
  simp
theorem any_ap (g : PyData → Bool) (xs : List PyData) : dAny (.dat (.list (xs.map fun x => .bool (g x)))) st = .ok (.dat (.bool (xs.any g))) st := by
  show onBools _ _ st = _
  unfold onBools
  rw [boolsOf_map]
  simp
end
@[simp] theorem giveD_dat (n : Nat) (x : PyData) (st : Sto) : giveD n (.dat x) st = .ok (.dat x) (st.take n) := rfl
@[simp] theorem vr_zero (d : D) (ρ : Env) (st : Sto) : vr 0 (some d :: ρ) st = .ok d st := rfl
@[simp] theorem vr_succ (i : Nat) (d : Option D) (ρ : Env) (st : Sto) : vr (i + 1) (d :: ρ) st = vr i ρ st := by simp [vr]
@[simp] theorem ite_st {α : Type} (c : Prop) [Decidable c] (a b : M α) (st : Sto) : (if c then a else b) st = if c then a st else b st := by split <;> rfl
@[simp] theorem ite_sm (c : Prop) [Decidable c] (a b : SM) (ρ : Env) (st : Sto) : (if c then a else b) ρ st = if c then a ρ st else b ρ st := by split <;> rfl
@[simp] theorem ite_em {α : Type} (c : Prop) [Decidable c] (a b : Env → M α) (ρ : Env) : (if c then a else b) ρ = if c then a ρ else b ρ := by split <;> rfl
/-! ### loops -/
theorem loopC_ind {ok : Sto → Prop} {t : Tg} {test : Env → M Bool} {elt : Env → M D} {ρ : Env} (P : List D → List PyData → Sto → Prop) (Q : Res D → Prop)
    (h0 : ∀ acc st, P [] acc st → ok st ∧ Q (.ok (.dat (.list acc)) st))
    (h1 : ∀ d ds acc st, P (d :: ds) acc st → ok st ∧ acc.length ≤ 100000 ∧ ∃ ρ1 b st1, t d ρ = some ρ1 ∧ test ρ1 st = .ok b st1 ∧ (b = false → P ds acc st1) ∧ (b = true → ∃ y st2, elt ρ1 st1 = .ok (.dat y) st2 ∧ P ds (acc ++ [y]) st2)) :
    ∀ ds acc st, P ds acc st → Q (loopC ok t test elt ρ ds acc st)
  | [], acc, st, h => by
    obtain ⟨a, b⟩ := h0 acc st h
    unfold loopC
    rw [if_pos a]
    exact b
  | d :: ds, acc, st, h => by
    obtain ⟨a, l, ρ1, b, st1, e1, e2, f, g⟩ := h1 d ds acc st h
    unfold loopC
    rw [if_pos ⟨a, l⟩, e1]
    dsimp only
    rw [e2]
    cases b with
    | false => exact loopC_ind P Q h0 h1 ds acc st1 (f rfl)
    | true =>
      obtain ⟨y, st2, e3, p⟩ := g rfl
      dsimp only
      rw [e3]
      exact loopC_ind P Q h0 h1 ds (acc ++ [y]) st2 p
/-- nothing changes: the items by a function, those that a test lets by -/
theorem loopC_fm {ok : Sto → Prop} {t : Tg} {test : Env → M Bool} {elt : Env → M D} {ρ : Env} {st : Sto} (g : D → Bool) (f : D → PyData) (hok : ok st) (ds : List D) (acc : List PyData) (hl : acc.length + ds.length ≤ 100001)
    (h : ∀ d ∈ ds, ∃ ρ1, t d ρ = some ρ1 ∧ test ρ1 st = .ok (g d) st ∧ (g d = true → elt ρ1 st = .ok (.dat (f d)) st)) :
    loopC ok t test elt ρ ds acc st = .ok (.dat (.list (acc ++ (ds.filter g).map f))) st := by
  refine loopC_ind (fun ds' acc' st' => st' = st ∧ acc'.length + ds'.length ≤ 100001 ∧ (∀ d ∈ ds', d ∈ ds) ∧ acc' ++ (ds'.filter g).map f = acc ++ (ds.filter g).map f) (fun r => r = _) (fun acc' st' ⟨e, _, _, p⟩ => ?_) (fun d ds' acc' st' ⟨e, l, m, p⟩ => ?_) ds acc st ⟨rfl, hl, fun _ h => h, rfl⟩
  · subst e
    refine ⟨hok, ?_⟩
    rw [← p]
    simp
  · subst e
    obtain ⟨ρ1, e1, e2, e3⟩ := h d (m d (List.mem_cons_self))
    rw [List.length_cons] at l
    refine ⟨hok, by omega, ρ1, g d, st', e1, e2, fun z => ⟨rfl, by omega, fun x hx => m x (List.mem_cons_of_mem _ hx), ?_⟩, fun z => ⟨f d, st', e3 z, rfl, by simp; omega, fun x hx => m x (List.mem_cons_of_mem _ hx), ?_⟩⟩
    · rw [← p, List.filter_cons, if_neg (by rw [z]; exact Bool.false_ne_true)]
    · rw [← p, List.filter_cons, if_pos z, List.map_cons, List.append_assoc]
      rfl
theorem loopC_map {ok : Sto → Prop} {t : Tg} {elt : Env → M D} {ρ : Env} {st : Sto} (f : D → PyData) (hok : ok st) (ds : List D) (hl : ds.length ≤ 100001)
    (h : ∀ d ∈ ds, ∃ ρ1, t d ρ = some ρ1 ∧ elt ρ1 st = .ok (.dat (f d)) st) : loopC ok t mYes elt ρ ds [] st = .ok (.dat (.list (ds.map f))) st := by
  rw [loopC_fm (test := mYes) (fun _ => true) f hok ds [] (by simpa using hl) fun d hd => let ⟨ρ1, a, b⟩ := h d hd; ⟨ρ1, a, rfl, fun _ => b⟩]
  rw [List.nil_append, List.filter_eq_self.mpr (fun _ _ => rfl)]
theorem loopS_ind {ok : Sto → Prop} {t : Tg} {body : SM} (P : List D → Env → Sto → Prop) (Q : SRes → Prop) (h0 : ∀ ρ st, P [] ρ st → ok st ∧ Q (.nx ρ st))
    (h1 : ∀ d ds ρ st, P (d :: ds) ρ st → ok st ∧ ∃ ρ1, t d ρ = some ρ1 ∧ ((∃ ρ2 st2, (body ρ1 st = .nx ρ2 st2 ∨ body ρ1 st = .ct ρ2 st2) ∧ P ds ρ2 st2) ∨ (∃ ρ2 st2, body ρ1 st = .bk ρ2 st2 ∧ Q (.nx ρ2 st2)) ∨ (∃ d2 st2, body ρ1 st = .rt d2 st2 ∧ Q (.rt d2 st2)) ∨ ∃ x ρ2 st2, body ρ1 st = .exc x ρ2 st2 ∧ Q (.exc x ρ2 st2))) :
    ∀ ds ρ st, P ds ρ st → Q (loopS ok t body ds ρ st)
  | [], ρ, st, h => by
    obtain ⟨a, b⟩ := h0 ρ st h
    unfold loopS
    rw [if_pos a]
    exact b
  | d :: ds, ρ, st, h => by
    obtain ⟨a, ρ1, e1, e⟩ := h1 d ds ρ st h
    unfold loopS
    rw [if_pos a, e1]
    dsimp only
    rcases e with ⟨ρ2, st2, e | e, p⟩ | ⟨ρ2, st2, e, p⟩ | ⟨d2, st2, e, p⟩ | ⟨x, ρ2, st2, e, p⟩
    · rw [e]; exact loopS_ind P Q h0 h1 ds ρ2 st2 p
    · rw [e]; exact loopS_ind P Q h0 h1 ds ρ2 st2 p
    · rw [e]; exact p
    · rw [e]; exact p
    · rw [e]; exact p
end Ev
set_option Elab.async false
set_option linter.all false
set_option maxRecDepth 100000
set_option maxHeartbeats 4000000
/-! Pu2: how long a shown thing is at most; lists as data. -/
namespace Ev
open PySem PySem.Spec PyProof.Rows L2 PyProof
open Classical
mutual
def cost : PyData → Nat
  | .none => 4
  | .bool _ => 5
  | .int _ => 1922
  | .str x => (reprText x).length
  | .list xs => 2 + costA xs
  | .tuple xs => 4 + costA xs
  | .dict kvs => 2 + costK kvs
def costA : List PyData → Nat
  | [] => 0
  | x :: r => (cost x + 2) + costA r
def costK : List (PyData × PyData) → Nat
  | [] => 0
  | (k, v) :: r => (cost k + 2 + cost v + 2) + costK r
end
theorem textFrom_up : ∀ (ts : List Str) (k : Nat) (acc : Str), (textFrom k acc ts).length ≤ acc.length + piled ts
  | [], k, acc => by show acc.length ≤ acc.length + 0; omega
  | t :: r, k, acc => by
    have h := textFrom_up r (k + 1) (acc ++ (if k > 0 then ", " else "" : String) ++ t)
    have e : (acc ++ (if k > 0 then ", " else "" : String) ++ t).length = acc.length + (if k > 0 then 2 else 0) + t.length := by
      rw [strLen_append, strLen_append]
      congr 2
      split <;> rfl
    have e2 : (if k > 0 then 2 else 0 : Nat) ≤ 2 := by split <;> decide
    show (textFrom (k + 1) _ r).length ≤ _
    rw [piled_cons]
    omega
theorem join_up (ts : List Str) : (Str.join ", " ts).length ≤ piled ts := by
  cases ts with
  | nil => exact Nat.zero_le _
  | cons t r => have := join_length_add (t :: r) (by simp); omega
mutual
theorem shown_le : ∀ d : PyData, d.showable = true → d.shown.length ≤ cost d
  | .none, _ => by decide
  | .bool b, _ => by cases b <;> decide
  | .int i, h => by
    have h' : i.natAbs.log2 < 1920 := by simpa [PyData.showable] using h
    have := int_text_length_le (a := i) (k := 1920) (by decide) h'
    have e : (PyData.int i).shown.length = (toString i).length := by
      show (Str.ofString (toString i)).length = _
      exact PySem.ofString_length _
    rw [e]
    show _ ≤ 1922
    omega
  | .str x, _ => Nat.le_refl _
  | .list xs, h => by
    have q := shownA_le xs (by simpa [PyData.showable] using h)
    show (listText (PyData.shownAll xs)).length ≤ 2 + costA xs
    unfold listText
    rw [strLen_append]
    have := textFrom_up (PyData.shownAll xs) 0 "["
    have e1 : (("[" : String) : Str).length = 1 := rfl
    have e2 : (("]" : String) : Str).length = 1 := rfl
    omega
  | .tuple xs, h => by
    have q := shownA_le xs (by simpa [PyData.showable] using h)
    show (tupleText (PyData.shownAll xs)).length ≤ 4 + costA xs
    unfold tupleText
    rw [strLen_append, strLen_append]
    have := join_up (PyData.shownAll xs)
    have e1 : (("(" : String) : Str).length = 1 := rfl
    have e3 : (((if (PyData.shownAll xs).length == 1 then ",)" else ")" : String) : Str)).length ≤ 2 := by split <;> decide
    omega
  | .dict kvs, h => by
    have q := shownK_le kvs (by simpa [PyData.showable] using h)
    show (dictText (PyData.shownKv kvs)).length ≤ 2 + costK kvs
    unfold dictText
    rw [strLen_append, strLen_append]
    have := join_up (PyData.shownKv kvs)
    have e1 : (("{" : String) : Str).length = 1 := rfl
    have e2 : (("}" : String) : Str).length = 1 := rfl
    omega
theorem shownA_le : ∀ xs : List PyData, PyData.showableAll xs = true → piled (PyData.shownAll xs) ≤ costA xs
  | [], _ => Nat.zero_le _
  | x :: r, h => by
    simp only [PyData.showableAll, Bool.and_eq_true] at h
    have a := shown_le x h.1
    have b := shownA_le r h.2
    show piled (x.shown :: PyData.shownAll r) ≤ (cost x + 2) + costA r
    rw [piled_cons]
    omega
theorem shownK_le : ∀ xs : List (PyData × PyData), PyData.showableKv xs = true → piled (PyData.shownKv xs) ≤ costK xs
  | [], _ => Nat.zero_le _
  | (k, v) :: r, h => by
    simp only [PyData.showableKv, Bool.and_eq_true] at h
    have a := shown_le k h.1.1
    have a2 := shown_le v h.1.2
    have b := shownK_le r h.2
    show piled ((k.shown ++ ": " ++ v.shown) :: PyData.shownKv r) ≤ (cost k + 2 + cost v + 2) + costK r
    rw [piled_cons, strLen_append, strLen_append]
    have e1 : ((": " : String) : Str).length = 2 := rfl
    omega
end
/-- small: to be shown, so deep, so long; without dicts or without lists -/
structure Sm (dp c : Nat) (nd nl : Bool) (d : PyData) : Prop where
  sh : d.showable = true
  dp : d.depth ≤ dp
  co : cost d ≤ c
  nd : nd = true → d.hasDict = false
  nl : nl = true → noList d = true
theorem Sm.repr {dp c : Nat} {nd nl : Bool} {d : PyData} (h : Sm dp c nd nl d) (h1 : dp ≤ 64) (h2 : c ≤ 16000000) (h3 : nd = true ∨ nl = true) : reprOk d = true := by
  unfold reprOk
  rw [Bool.and_eq_true, Bool.and_eq_true]
  exact ⟨⟨h.sh, decide_eq_true (Nat.le_trans h.dp h1)⟩, decide_eq_true (Nat.le_trans (shown_le d h.sh) (Nat.le_trans h.co h2))⟩
theorem reprOk_of {d : PyData} {dp c : Nat} (sh : d.showable = true) (h1 : d.depth ≤ dp) (h2 : cost d ≤ c) (h3 : dp ≤ 64) (h4 : c ≤ 16000000) : reprOk d = true := by
  unfold reprOk
  rw [Bool.and_eq_true, Bool.and_eq_true]
  exact ⟨⟨sh, decide_eq_true (Nat.le_trans h1 h3)⟩, decide_eq_true (Nat.le_trans (shown_le d sh) (Nat.le_trans h2 h4))⟩
theorem Sm.mono {dp c dp' c' : Nat} {nd nl nd' nl' : Bool} {d : PyData} (h : Sm dp c nd nl d) (h1 : dp ≤ dp') (h2 : c ≤ c') (h3 : nd' = true → nd = true) (h4 : nl' = true → nl = true) : Sm dp' c' nd' nl' d :=
  ⟨h.sh, Nat.le_trans h.dp h1, Nat.le_trans h.co h2, fun z => h.nd (h3 z), fun z => h.nl (h4 z)⟩
theorem smA {dp c : Nat} {nd nl : Bool} : ∀ {xs : List PyData}, (∀ x ∈ xs, Sm dp c nd nl x) → PyData.showableAll xs = true ∧ PyData.depthAll xs ≤ dp ∧ costA xs ≤ (c + 2) * xs.length ∧ (nd = true → PyData.hasDictAll xs = false) ∧ (nl = true → noListA xs = true)
  | [], _ => ⟨rfl, Nat.zero_le _, Nat.zero_le _, fun _ => rfl, fun _ => rfl⟩
  | x :: r, h => by
    have a := h x List.mem_cons_self
    obtain ⟨b1, b2, b3, b4, b5⟩ := smA (xs := r) fun y hy => h y (List.mem_cons_of_mem _ hy)
    refine ⟨?_, ?_, ?_, fun z => ?_, fun z => ?_⟩
    · show (x.showable && PyData.showableAll r) = true
      rw [a.sh, b1] <;> rfl
    · show max x.depth (PyData.depthAll r) ≤ dp
      exact Nat.max_le.mpr ⟨a.dp, b2⟩
    · show (cost x + 2) + costA r ≤ (c + 2) * (r.length + 1)
      have := a.co
      rw [Nat.mul_add, Nat.mul_one]
      omega
    · show (x.hasDict || PyData.hasDictAll r) = false
      rw [a.nd z, b4 z] <;> rfl
    · show (noList x && noListA r) = true
      rw [a.nl z, b5 z] <;> rfl
theorem Sm.tuple {dp c n : Nat} {nd nl : Bool} {xs : List PyData} (h : ∀ x ∈ xs, Sm dp c nd nl x) (hn : xs.length ≤ n) : Sm (dp + 1) (4 + (c + 2) * n) nd nl (.tuple xs) := by
  obtain ⟨b1, b2, b3, b4, b5⟩ := smA h
  have := Nat.mul_le_mul_left (c + 2) hn
  exact ⟨b1, by show _ + 1 ≤ _; omega, by show 4 + _ ≤ _; omega, b4, b5⟩
theorem Sm.list {dp c n : Nat} {nd nl : Bool} {xs : List PyData} (h : ∀ x ∈ xs, Sm dp c nd nl x) (hn : xs.length ≤ n) : Sm (dp + 1) (4 + (c + 2) * n) nd false (.list xs) := by
  obtain ⟨b1, b2, b3, b4, b5⟩ := smA h
  have := Nat.mul_le_mul_left (c + 2) hn
  exact ⟨b1, by show _ + 1 ≤ _; omega, by show 2 + _ ≤ _; omega, b4, fun z => by cases z⟩
theorem Sm.int {i : Int} (h : i.natAbs.log2 < 1920) : Sm 0 1922 true true (.int i) := ⟨by simpa [PyData.showable] using h, Nat.le_refl _, Nat.le_refl _, fun _ => rfl, fun _ => rfl⟩
theorem log_small {i : Int} {k : Nat} (hk : k ≤ 1920) (h0 : 0 < k) (h : i.natAbs < 2 ^ k) : i.natAbs.log2 < 1920 :=
  Nat.lt_of_lt_of_le (PySem.Flt.log2_lt_of h0 h) hk
/-! ### == of a list and [] -/
theorem eqD_list (xs ys : List PyData) : eqD (.list xs) (.list ys) = if SeqAt.shaped (.list xs) = true ∧ SeqAt.shaped (.list ys) = true then retB (PyData.eqv (.list xs) (.list ys)) else if lenDiff (.list xs) (.list ys) = true then retB false else M.bad := rfl
theorem dEq_nil (ys : List PyData) (st : Sto) : dEq (.dat (.list ys)) (.dat (.list [])) st = .ok (.dat (.bool ys.isEmpty)) st := by
  show eqD (.list ys) (.list []) st = _
  rw [eqD_list]
  cases ys with
  | nil => rw [if_pos ⟨by decide, by decide⟩] <;> rfl
  | cons y r =>
    by_cases h : SeqAt.shaped (.list (y :: r)) = true ∧ SeqAt.shaped (.list []) = true
    · rw [if_pos h] <;> rfl
    · rw [if_neg h, if_pos (by rfl)] <;> rfl
/-- lists of what may lie in a text of data: by its own == -/
theorem eq_shaped {xs ys : List PyData} (h1 : SeqAt.shaped (.list xs) = true) (h2 : SeqAt.shaped (.list ys) = true) (st : Sto) : dEq (.dat (.list xs)) (.dat (.list ys)) st = .ok (.dat (.bool (PyData.eqvAll xs ys))) st := by
  show eqD (.list xs) (.list ys) st = _
  rw [eqD_list, if_pos ⟨h1, h2⟩]
  rfl
theorem ne_shaped {xs ys : List PyData} (h1 : SeqAt.shaped (.list xs) = true) (h2 : SeqAt.shaped (.list ys) = true) (st : Sto) : dNe (.dat (.list xs)) (.dat (.list ys)) st = .ok (.dat (.bool (!PyData.eqvAll xs ys))) st := by
  show notM (eqD (.list xs) (.list ys)) st = _
  rw [eqD_list, if_pos ⟨h1, h2⟩]
  rfl
theorem dEq_int (i j : Int) (st : Sto) : dEq (.dat (.int i)) (.dat (.int j)) st = .ok (.dat (.bool (i == j))) st := by
  have e : eqD (.int i) (.int j) = if SeqAt.shaped (.int i) = true ∧ SeqAt.shaped (.int j) = true then retB (PyData.eqv (.int i) (.int j)) else if lenDiff (.int i) (.int j) = true then retB false else M.bad := rfl
  show eqD (.int i) (.int j) st = _
  rw [e, if_pos ⟨by rfl, by rfl⟩]
  rfl
theorem ix_list {xs : List PyData} {i : Int} {d : PyData} (h : atI xs i = some d) (st : Sto) : dIx (.dat (.list xs)) (.dat (.int i)) st = .ok (.dat d) st := by
  show (match atI xs i with | some d => Res.ok (D.dat d) st | none => .bad) = _
  rw [h]
theorem ix_tuple {xs : List PyData} {i : Int} {d : PyData} (h : atI xs i = some d) (st : Sto) : dIx (.dat (.tuple xs)) (.dat (.int i)) st = .ok (.dat d) st := by
  show (match atI xs i with | some d => Res.ok (D.dat d) st | none => .bad) = _
  rw [h]
theorem ix_fz {xs : List PyData} {i : Int} {d : PyData} (h : atI xs i = some d) (st : Sto) : dIx (.fz xs) (.dat (.int i)) st = .ok (.dat d) st := by
  show (match atI xs i with | some d => Res.ok (D.dat d) st | none => .bad) = _
  rw [h]
theorem ix_loc {n : Nat} {xs : List PyData} {i : Int} {d : PyData} {st : Sto} (e : st[n]? = some (.lst xs)) (h : atI xs i = some d) : dIx (.loc n) (.dat (.int i)) st = .ok (.dat d) st := by
  show (match dataOf (.loc n) st with | some x => ixD i x st | none => .bad) = _
  unfold dataOf
  dsimp only
  rw [e]
  show (match atI xs i with | some d => Res.ok (D.dat d) st | none => .bad) = _
  rw [h]
/-- xs[i] = y, xs a list of the store -/
theorem setix_ap {mo mi me : Env → M D} {ρ : Env} {st : Sto} {n j : Nat} {k : Int} {xs : List PyData} {y : PyData} {st1 st2 st3 : Sto} (h1 : me ρ st = .ok (.dat y) st1) (h2 : mo ρ st1 = .ok (.loc n) st2) (h3 : mi ρ st2 = .ok (.dat (.int k)) st3) (e : st3[n]? = some (.lst xs)) (hj : ixN xs.length k = some j) :
    sSetIx mo mi me ρ st = .nx ρ (st3.set n (.lst (xs.set j y))) := by
  unfold sSetIx
  rw [sBind_ap, h1, thenS_ok, sBind_ap, h2, thenS_ok, sBind_ap, h3, thenS_ok, sBind_ap]
  have q : (onLoc (setAt k y) (.loc n) : M D) st3 = .ok (.dat .none) (st3.set n (.lst (xs.set j y))) := by
    unfold onLoc
    dsimp only
    rw [e]
    dsimp only
    unfold setAt
    rw [hj]
    rfl
  dsimp only
  rw [q]
  rfl
theorem mul_list {xs : List PyData} {k : Int} (h : k ≤ 1000 ∧ -1000 ≤ k ∧ xs.length ≤ 100) (st : Sto) : dMul (.dat (.list xs)) (.dat (.int k)) st = .ok (.dat (.list (repD k.toNat xs))) st := by
  show guardM (k ≤ 1000 ∧ -1000 ≤ k ∧ xs.length ≤ 100) (M.pure (.dat (.list (repD k.toNat xs)))) st = _
  rw [guard_ok h]
  rfl
theorem mul_tuple {xs : List PyData} {k : Int} (h : -1000 ≤ k ∧ k ≤ 1000 ∧ xs.length ≤ 100) (st : Sto) : dMul (.dat (.tuple xs)) (.dat (.int k)) st = .ok (.dat (.tuple (repD k.toNat xs))) st := by
  show guardM (-1000 ≤ k ∧ k ≤ 1000 ∧ xs.length ≤ 100) (M.pure (.dat (.tuple (repD k.toNat xs)))) st = _
  rw [guard_ok h]
  rfl
theorem loopS_nx {ok : Sto → Prop} {t : Tg} {body : SM} {d : D} {ds : List D} {ρ ρ1 ρ2 : Env} {st st2 : Sto} (h : ok st) (e1 : t d ρ = some ρ1) (e2 : body ρ1 st = .nx ρ2 st2) : loopS ok t body (d :: ds) ρ st = loopS ok t body ds ρ2 st2 := by
  rw [loopS]
  rw [if_pos h, e1]
  dsimp only
  rw [e2]
end Ev
set_option Elab.async false
set_option linter.all false
set_option maxRecDepth 100000
set_option maxHeartbeats 4000000
set_option exponentiation.threshold 5000
/-! Sack: the drawn numbers of the laws. -/
namespace Ev
open PySem PySem.Spec PyProof.Rows L2 PyProof
open Classical
theorem wide_of {i : Int} (k : Nat) (hk : k ≤ 4000) (h : i.natAbs < 2 ^ k) : wideI i := by
  unfold wideI
  exact Nat.lt_of_lt_of_le h (Nat.pow_le_pow_right (by decide) hk)
theorem wide64 {i : Int} (h1 : -18446744073709551616 < i) (h2 : i < 18446744073709551616) : wideI i := wide_of 64 (by decide) (by omega)
theorem bits10 : Builtin.Int.intBits 10 = 4 := by decide
def sackB : SM :=
    (sSeq (sSet 2 (m2 dAdd (m2 dMul (ct (.dat (.int 3))) (vr 1)) (ct (.dat (.int 1)))))
    (sSeq (sIf (mT (m2 dLt (vr 1) (mC (on1 dLen) (aCons (vr 0) aNil)))) (sSet 2 (m2 dIx (vr 0) (vr 1))) sNil)
    (sSeq (sSet 3 (m2 dMod (mC (on1 dAbs) (aCons (vr 2) aNil)) (m2 dPow (m2 dPow (ct (.dat (.int 10))) (ct (.dat (.int 60)))) (ct (.dat (.int 12))))))
    (sRet (mC mkLoc (aCons (mC (on2 dMax2) (aCons (ct (.dat (.int 0))) (aCons (m2 dSub (vr 3) (m2 dPow (ct (.dat (.int 10))) (ct (.dat (.int 16))))) aNil))) (aCons (m2 dMod (m2 dAdd (m2 dAdd (m2 dAdd (m2 dMul (vr 3) (ct (.dat (.int 6700417)))) (m2 dMul (ct (.dat (.int 524287))) (vr 1))) (m2 dMul (ct (.dat (.int 2))) (mC (on1 dInt) (aCons (m2 dLt (vr 2) (ct (.dat (.int 0)))) aNil)))) (ct (.dat (.int 11)))) (ct (.dat (.int 2147483647)))) (aCons (ct (.dat (.int 0))) aNil))))))))
def drawB : SM :=
    (sSeq (sIf (mT (m2 dGt (m2 dIx (vr 0) (ct (.dat (.int 0)))) (ct (.dat (.int 0))))) (sSeq (sSet 2 (m2 dMod (m2 dIx (vr 0) (ct (.dat (.int 0)))) (vr 1)))
    (sSeq (sSetIx (vr 0) (ct (.dat (.int 0))) (m2 dFdiv (m2 dIx (vr 0) (ct (.dat (.int 0)))) (vr 1)))
    (sRet (vr 2)))) sNil)
    (sSeq (sSetIx (vr 0) (ct (.dat (.int 2))) (m2 dAdd (m2 dIx (vr 0) (ct (.dat (.int 2)))) (ct (.dat (.int 1)))))
    (sSeq (sSet 3 (m2 dMod (m2 dAdd (m2 dIx (vr 0) (ct (.dat (.int 1)))) (m2 dMul (ct (.dat (.int 1299709))) (m2 dIx (vr 0) (ct (.dat (.int 2)))))) (ct (.dat (.int 2147483629)))))
    (sSeq (sSet 4 (m2 dAdd (m2 dMul (m2 dMod (m2 dMul (vr 3) (vr 3)) (ct (.dat (.int 2147483587)))) (vr 3)) (m2 dMul (ct (.dat (.int 7919))) (m2 dIx (vr 0) (ct (.dat (.int 2)))))))
    (sSeq (sSet 5 (m2 dMod (m2 dAdd (vr 4) (m2 dMod (m2 dIx (vr 0) (ct (.dat (.int 1)))) (ct (.dat (.int 65521))))) (ct (.dat (.int 2147483563)))))
    (sSeq (sSet 2 (m2 dAdd (m2 dFdiv (m2 dMod (m2 dMul (vr 5) (vr 5)) (ct (.dat (.int 2147483549)))) (ct (.dat (.int 32)))) (m2 dMul (m2 dMul (ct (.dat (.int 2147483563))) (vr 3)) (mC (on1 dInt) (aCons (m2 dGt (vr 1) (m2 dPow (ct (.dat (.int 10))) (ct (.dat (.int 6))))) aNil)))))
    (sRet (m2 dMod (vr 2) (vr 1)))))))))
abbrev topS : Int := 10 ^ 720
/-- a sack in the n-th cell of the store, drawn from m times without its first number at most -/
def SackAt (st : Sto) (n m : Nat) : Prop := ∃ a b c : Int, st[n]? = some (.lst [.int a, .int b, .int c]) ∧ 0 ≤ a ∧ a < topS ∧ 0 ≤ b ∧ b < 2147483648 ∧ 0 ≤ c ∧ c ≤ m
theorem SackAt.mono {st : Sto} {n m m' : Nat} (h : SackAt st n m) (hm : m ≤ m') : SackAt st n m' := by
  obtain ⟨a, b, c, h1, h2, h3, h4, h5, h6, h7⟩ := h
  exact ⟨a, b, c, h1, h2, h3, h4, h5, h6, by omega⟩
/-- the n-th cell alone is another one -/
def SameBut (n : Nat) (st st' : Sto) : Prop := ∃ c, st' = st.set n c
theorem SameBut.len {n : Nat} {st st' : Sto} (h : SameBut n st st') : st'.length = st.length := by
  obtain ⟨c, rfl⟩ := h
  simp
theorem SameBut.trans {n : Nat} {st st' st2 : Sto} (h : SameBut n st st') (h2 : SameBut n st' st2) : SameBut n st st2 := by
  obtain ⟨c, rfl⟩ := h
  obtain ⟨d, rfl⟩ := h2
  exact ⟨d, by rw [List.set_set]⟩
theorem SameBut.refl {n : Nat} {st : Sto} (h : n < st.length) : SameBut n st st := ⟨st[n], by simp⟩
theorem at3 (a b c : PyData) : atI [a, b, c] 0 = some a ∧ atI [a, b, c] 1 = some b ∧ atI [a, b, c] 2 = some c := ⟨rfl, rfl, rfl⟩
theorem fmod_bounds (i : Int) {j : Int} (h : 0 < j) : 0 ≤ i.fmod j ∧ i.fmod j < j := by
  rw [Int.fmod_eq_emod_of_nonneg _ (Int.le_of_lt h)]
  exact ⟨Int.emod_nonneg _ (by omega), Int.emod_lt_of_pos _ h⟩
theorem ten6 (st : Sto) : dPow (.dat (.int 10)) (.dat (.int 6)) st = .ok (.dat (.int 1000000)) st := by
  rw [dPow_ap _ _ _ (by rw [bits10]; decide)] <;> rfl
theorem draw_ok {st : Sto} {n m : Nat} (S : SackAt st n m) {many : Int} (h0 : 0 < many) (h1 : many < 18446744073709551616) (hm : m ≤ 1000000) :
    ∃ r st', runB 6 2 drawB [.loc n, .dat (.int many)] st = .ok (.dat (.int r)) st' ∧ 0 ≤ r ∧ r < many ∧ SameBut n st st' ∧ SackAt st' n (m + 1) := by
  obtain ⟨a, b, c, e, a0, a1, b0, b1, c0, c1⟩ := S
  have ln : n < st.length := (List.getElem?_eq_some_iff.mp e).1
  obtain ⟨i0, i1, i2⟩ := at3 (.int a) (.int b) (.int c)
  by_cases ha : 0 < a
  · have mo := fmod_bounds a h0
    have q := setix_ap (mo := vr 0) (mi := ct (.dat (.int 0))) (me := m2 dFdiv (m2 dIx (vr 0) (ct (.dat (.int 0)))) (vr 1)) (ρ := [some (.loc n), some (.dat (.int many)), some (.dat (.int (a.fmod many))), none, none, none]) (st := st) (k := 0) (j := 0) (n := n) (xs := [.int a, .int b, .int c]) (y := .int (a.fdiv many)) (st1 := st) (st2 := st) (st3 := st)
      (by simp [ix_loc e i0, dFdiv_ap st a many (.inl ⟨h0, wide64 (by omega) h1⟩)]) (by simp) (by simp) e (by rfl)
    refine ⟨a.fmod many, st.set n (.lst [.int (a.fdiv many), .int b, .int c]), ?_, mo.1, mo.2, ⟨_, rfl⟩, a.fdiv many, b, c, by rw [List.getElem?_set_self ln], ?_, ?_, b0, b1, c0, by omega⟩
    · simp [drawB, ix_loc e i0, ha, dMod_ap st a many (by omega), q, List.take_of_length_le]
    · rw [Int.fdiv_eq_ediv_of_nonneg _ (Int.le_of_lt h0)]
      exact Int.ediv_nonneg a0 (Int.le_of_lt h0)
    · rw [Int.fdiv_eq_ediv_of_nonneg _ (Int.le_of_lt h0)]
      exact Int.lt_of_le_of_lt (Int.ediv_le_self _ a0) a1
  · have e1 : (st.set n (.lst [.int a, .int b, .int (c + 1)]))[n]? = some (Cell.lst [.int a, .int b, .int (c + 1)]) := by rw [List.getElem?_set_self ln]
    obtain ⟨j0, j1, j2⟩ := at3 (.int a) (.int b) (.int (c + 1))
    have q := setix_ap (mo := vr 0) (mi := ct (.dat (.int 2))) (me := m2 dAdd (m2 dIx (vr 0) (ct (.dat (.int 2)))) (ct (.dat (.int 1)))) (ρ := [some (.loc n), some (.dat (.int many)), none, none, none, none]) (st := st) (k := 2) (j := 2) (n := n) (xs := [.int a, .int b, .int c]) (y := .int (c + 1)) (st1 := st) (st2 := st) (st3 := st)
      (by simp [ix_loc e i2]) (by simp) (by simp) e (by rfl)
    have q' : sSetIx (vr 0) (ct (.dat (.int 2))) (m2 dAdd (m2 dIx (vr 0) (ct (.dat (.int 2)))) (ct (.dat (.int 1)))) [some (.loc n), some (.dat (.int many)), none, none, none, none] st = .nx [some (.loc n), some (.dat (.int many)), none, none, none, none] (st.set n (.lst [.int a, .int b, .int (c + 1)])) := q
    generalize hs : st.set n (.lst [.int a, .int b, .int (c + 1)]) = st1 at e1 q'
    obtain ⟨one, ho⟩ : ∃ x, x = (b + 1299709 * (c + 1)).fmod 2147483629 := ⟨_, rfl⟩
    have bo := fmod_bounds (b + 1299709 * (c + 1)) (j := 2147483629) (by decide)
    rw [← ho] at bo
    obtain ⟨sq, hq⟩ : ∃ x, x = (one * one).fmod 2147483587 := ⟨_, rfl⟩
    have bq := fmod_bounds (one * one) (j := 2147483587) (by decide)
    rw [← hq] at bq
    obtain ⟨two, ht⟩ : ∃ x, x = (sq * one + 7919 * (c + 1) + b.fmod 65521).fmod 2147483563 := ⟨_, rfl⟩
    have bt := fmod_bounds (sq * one + 7919 * (c + 1) + b.fmod 65521) (j := 2147483563) (by decide)
    rw [← ht] at bt
    have w1 : wideI one := wide64 (by omega) (by omega)
    have w2 : wideI sq := wide64 (by omega) (by omega)
    have w3 : wideI two := wide64 (by omega) (by omega)
    have wc : wideI (c + 1) := wide64 (by omega) (by omega)
    have wk : ∀ k : Int, -1000000000000 < k → k < 1000000000000 → wideI k := fun k h1 h2 => wide64 (by omega) (by omega)
    have d1 := dMul_ap st1 1299709 (c + 1) ⟨wk _ (by decide) (by decide), wc⟩
    have d2 := dMul_ap st1 one one ⟨w1, w1⟩
    have d3 := dMul_ap st1 sq one ⟨w2, w1⟩
    have d4 := dMul_ap st1 7919 (c + 1) ⟨wk _ (by decide) (by decide), wc⟩
    have d5 := dMul_ap st1 two two ⟨w3, w3⟩
    have d6 := dMul_ap st1 2147483563 one ⟨wk _ (by decide) (by decide), w1⟩
    have d7 : ∀ k : Bool, dMul (.dat (.int (2147483563 * one))) (.dat (.int (if k then 1 else 0))) st1 = .ok (.dat (.int (2147483563 * one * (if k then 1 else 0)))) st1 := fun k => dMul_ap st1 _ _ ⟨wide64 (by omega) (by omega), by cases k <;> exact wk _ (by decide) (by decide)⟩
    have f1 := dMod_ap st1 (b + 1299709 * (c + 1)) 2147483629 (by decide)
    have f2 := dMod_ap st1 (one * one) 2147483587 (by decide)
    have f3 := dMod_ap st1 b 65521 (by decide)
    have f4 := dMod_ap st1 (sq * one + 7919 * (c + 1) + b.fmod 65521) 2147483563 (by decide)
    have f5 := dMod_ap st1 (two * two) 2147483549 (by decide)
    have f6 := dFdiv_ap st1 ((two * two).fmod 2147483549) 32 (.inr ⟨by decide, by decide⟩)
    rw [← ho] at f1
    rw [← hq] at f2
    rw [← ht] at f4
    obtain ⟨fo, hf⟩ : ∃ x, x = ((two * two).fmod 2147483549).fdiv 32 + 2147483563 * one * (if decide (1000000 < many) = true then 1 else 0) := ⟨_, rfl⟩
    have f7 := dMod_ap st1 fo many (by omega)
    have bf := fmod_bounds fo h0
    have x0 := ix_loc e i0
    have y1 := ix_loc e1 j1
    have y2 := ix_loc e1 j2
    have d7' := d7 (decide (1000000 < many))
    refine ⟨fo.fmod many, st1, ?_, bf.1, bf.2, ⟨_, hs.symm⟩, a, b, c + 1, e1, a0, a1, b0, b1, by omega, by omega⟩
    have l1 : st1.length = st.length := by rw [← hs]; simp
    have fin : giveD st.length (.dat (.int (fo.fmod many))) st1 = .ok (.dat (.int (fo.fmod many))) st1 := by
      show Res.ok _ (st1.take st.length) = _
      rw [← l1, List.take_length]
    simp only [drawB, run2, startE_ap, List.map_cons, List.map_nil, List.length_cons, List.length_nil, List.replicate, List.cons_append, List.nil_append, sSeq_ap, sIf_ap, mT_ap, m2_ap, vr_zero, vr_succ, ct_ap, then_ok, bind_ap, x0, dGt_ap, asB_ap, decide_eq_false ha, thenS_ok, ite_sm, Bool.false_eq_true, if_false, sNil_ap, sthen_nx, q']
    have p6 := ten6 st1
    simp only [sSeq_ap, sSet_ap, m2_ap, mC_ap, aCons_ap, aNil_ap, on1_ap, pure_ap, vr_zero, vr_succ, ct_ap, then_ok, bind_ap, thenS_ok, sthen_nx, y1, y2, d1, d2, d3, d4, d5, d6, f1, f2, f3, f4, f5, f6, dAdd_ap, dGt_ap, dIntB_ap, p6, d7', ← hf, f7, List.set_cons_succ, List.set_cons_zero, sRet_ap, fin_rt, fin]
theorem atI_nat {α : Type} {xs : List α} {k : Nat} {x : α} (h : xs[k]? = some x) : atI xs (k : Int) = some x := by
  have hk := (List.getElem?_eq_some_iff.mp h).1
  unfold atI ixN
  simp [hk]
  exact (List.getElem?_eq_some_iff.mp h).2
theorem top_pow : ((10 : Int) ^ 60) ^ 12 = topS := by decide +kernel
theorem p60 (st : Sto) : dPow (.dat (.int 10)) (.dat (.int 60)) st = .ok (.dat (.int (10 ^ 60))) st := by
  rw [dPow_ap _ _ _ (by rw [bits10]; decide)] <;> rfl
theorem bits60 : Builtin.Int.intBits (10 ^ 60) = 200 := by decide +kernel
theorem p12 (st : Sto) : dPow (.dat (.int (10 ^ 60))) (.dat (.int 12)) st = .ok (.dat (.int topS)) st := by
  rw [dPow_ap _ _ _ (by rw [bits60]; decide), ← top_pow] <;> rfl
theorem p16 (st : Sto) : dPow (.dat (.int 10)) (.dat (.int 16)) st = .ok (.dat (.int 10000000000000000)) st := by
  rw [dPow_ap _ _ _ (by rw [bits10]; decide)] <;> rfl
theorem wide_top {i : Int} (h0 : 0 ≤ i) (h : i < topS) : wideI i := by
  refine wide_of 2400 (by decide) ?_
  have : (topS : Int) ≤ ((2 ^ 2400 : Nat) : Int) := by decide +kernel
  omega
theorem giveL_new (st : Sto) (xs : List PyData) : giveL st.length (.loc st.length) (st ++ [.lst xs]) = .ok (.loc st.length) (st ++ [.lst xs]) := by
  unfold giveL
  dsimp only
  rw [if_neg (Nat.lt_irrefl _), List.getElem?_append_right (Nat.le_refl _), Nat.sub_self]
  simp
/-- the sack that a script's number makes -/
theorem sack_ok (ns : List Int) {k : Nat} (hk : k < 1000) (st : Sto) :
    ∃ xs, runL 4 2 sackB [.fz (ns.map PyData.int), .dat (.int k)] st = .ok (.loc st.length) (st ++ [.lst xs]) ∧ SackAt (st ++ [.lst xs]) st.length 0 := by
  have main : ∀ cell : Int, ∃ xs, ((sSeq (sSet 3 (m2 dMod (mC (on1 dAbs) (aCons (vr 2) aNil)) (m2 dPow (m2 dPow (ct (.dat (.int 10))) (ct (.dat (.int 60)))) (ct (.dat (.int 12))))))
      (sRet (mC mkLoc (aCons (mC (on2 dMax2) (aCons (ct (.dat (.int 0))) (aCons (m2 dSub (vr 3) (m2 dPow (ct (.dat (.int 10))) (ct (.dat (.int 16))))) aNil))) (aCons (m2 dMod (m2 dAdd (m2 dAdd (m2 dAdd (m2 dMul (vr 3) (ct (.dat (.int 6700417)))) (m2 dMul (ct (.dat (.int 524287))) (vr 1))) (m2 dMul (ct (.dat (.int 2))) (mC (on1 dInt) (aCons (m2 dLt (vr 2) (ct (.dat (.int 0)))) aNil)))) (ct (.dat (.int 11)))) (ct (.dat (.int 2147483647)))) (aCons (ct (.dat (.int 0))) aNil))))))
      [some (.fz (ns.map PyData.int)), some (.dat (.int k)), some (.dat (.int cell)), none] st).fin giveL st.length = .ok (.loc st.length) (st ++ [.lst xs]) ∧ SackAt (st ++ [.lst xs]) st.length 0 := fun cell => by
    obtain ⟨g, hg⟩ : ∃ x, x = (iAbs cell).fmod topS := ⟨_, rfl⟩
    have bg := fmod_bounds (iAbs cell) (j := topS) (by decide +kernel)
    rw [← hg] at bg
    have f1 := dMod_ap st (iAbs cell) topS (by decide +kernel)
    rw [← hg] at f1
    have wk : ∀ k : Int, -1000000000000 < k → k < 1000000000000 → wideI k := fun k h1 h2 => wide64 (by omega) (by omega)
    have d1 := dMul_ap st g 6700417 ⟨wide_top bg.1 bg.2, wk _ (by decide) (by decide)⟩
    have d2 := dMul_ap st 524287 k ⟨wk _ (by decide) (by decide), wk _ (by omega) (by omega)⟩
    have d3 := dMul_ap st 2 (if decide (cell < 0) = true then 1 else 0) ⟨wk _ (by decide) (by decide), by split <;> exact wk _ (by decide) (by decide)⟩
    obtain ⟨s, hs⟩ : ∃ x, x = (g * 6700417 + 524287 * k + 2 * (if decide (cell < 0) = true then 1 else 0) + 11).fmod 2147483647 := ⟨_, rfl⟩
    have bs := fmod_bounds (g * 6700417 + 524287 * k + 2 * (if decide (cell < 0) = true then 1 else 0) + 11) (j := 2147483647) (by decide)
    rw [← hs] at bs
    have f2 := dMod_ap st (g * 6700417 + 524287 * k + 2 * (if decide (cell < 0) = true then 1 else 0) + 11) 2147483647 (by decide)
    rw [← hs] at f2
    have a1 := p60 st
    have a2 := p12 st
    have a3 := p16 st
    have mk : mkLoc [.dat (.int (iMax 0 (g - 10000000000000000))), .dat (.int s), .dat (.int 0)] st = .ok (.loc st.length) (st ++ [.lst [.int (iMax 0 (g - 10000000000000000)), .int s, .int 0]]) := mkLoc_ap st (by rfl) (by simp)
    refine ⟨[.int (iMax 0 (g - 10000000000000000)), .int s, .int 0], ?_, _, _, _, by rw [List.getElem?_append_right (Nat.le_refl _), Nat.sub_self]; rfl, ?_, ?_, bs.1, by omega, Int.le_refl _, by decide⟩
    · simp only [sSeq_ap, sSet_ap, m2_ap, mC_ap, aCons_ap, aNil_ap, on1_ap, on2_ap, pure_ap, vr_zero, vr_succ, ct_ap, then_ok, bind_ap, thenS_ok, sthen_nx, a1, a2, a3, f1, f2, d1, d2, d3, dAdd_ap, dSub_ap, dAbs_ap, dMax_ap, dLt_ap, dIntB_ap, List.set_cons_succ, List.set_cons_zero, sRet_ap, fin_rt, mk, giveL_new]
    · unfold iMax; split <;> omega
    · unfold iMax
      have : (0 : Int) < topS := by decide +kernel
      split <;> omega
  have wk : ∀ k : Int, -1000000000000 < k → k < 1000000000000 → wideI k := fun k h1 h2 => wide64 (by omega) (by omega)
  have d0 := dMul_ap st 3 k ⟨wk _ (by decide) (by decide), wk _ (by omega) (by omega)⟩
  by_cases h : k < ns.length
  · obtain ⟨xs, e, S⟩ := main ns[k]
    refine ⟨xs, ?_, S⟩
    rw [← e]
    have i1 : dIx (.fz (ns.map PyData.int)) (.dat (.int k)) st = .ok (.dat (.int ns[k])) st := ix_fz (atI_nat (by rw [List.getElem?_map, List.getElem?_eq_getElem h]; rfl)) st
    have hlt : decide ((k : Int) < ((ns.map PyData.int).length : Int)) = true := by simp; exact h
    simp only [sackB, run2, startE_ap, List.map_cons, List.map_nil, List.length_cons, List.length_nil, List.replicate, List.cons_append, List.nil_append, sSeq_ap, sSet_ap, sIf_ap, mT_ap, m2_ap, mC_ap, aCons_ap, aNil_ap, on1_ap, pure_ap, vr_zero, vr_succ, ct_ap, then_ok, bind_ap, thenS_ok, sthen_nx, d0, dAdd_ap, dLen_fz, dLt_ap, asB_ap, hlt, ite_sm, if_true, i1, List.set_cons_succ, List.set_cons_zero]
  · obtain ⟨xs, e, S⟩ := main (3 * k + 1)
    refine ⟨xs, ?_, S⟩
    rw [← e]
    have hlt : decide ((k : Int) < ((ns.map PyData.int).length : Int)) = false := by simp; omega
    simp only [sackB, run2, startE_ap, List.map_cons, List.map_nil, List.length_cons, List.length_nil, List.replicate, List.cons_append, List.nil_append, sSeq_ap, sSet_ap, sIf_ap, mT_ap, m2_ap, mC_ap, aCons_ap, aNil_ap, on1_ap, pure_ap, vr_zero, vr_succ, ct_ap, then_ok, bind_ap, thenS_ok, sthen_nx, d0, dAdd_ap, dLen_fz, dLt_ap, asB_ap, hlt, ite_sm, Bool.false_eq_true, if_false, sNil_ap, List.set_cons_succ, List.set_cons_zero]
end Ev
namespace Ev
open PySem PySem.Spec PyProof.Rows L2 PyProof
open Classical
theorem giveD_same {n : Nat} {st : Sto} (h : st.length = n) (x : PyData) : giveD n (.dat x) st = .ok (.dat x) st := by
  show Res.ok _ (st.take n) = _
  rw [← h, List.take_length]
theorem atI_mem {α : Type} {xs : List α} {r : Int} (h0 : 0 ≤ r) (h1 : r < xs.length) : ∃ x, x ∈ xs ∧ atI xs r = some x := by
  obtain ⟨k, rfl⟩ := Int.eq_ofNat_of_zero_le h0
  have hk : k < xs.length := by omega
  exact ⟨xs[k], List.getElem_mem hk, atI_nat (List.getElem?_eq_getElem hk)⟩
theorem bits2 : Builtin.Int.intBits 2 = 2 := by decide
theorem pow10 (k : Nat) (st : Sto) (h : k ≤ 20000 := by decide) : dPow (.dat (.int 10)) (.dat (.int k)) st = .ok (.dat (.int (10 ^ k))) st := by
  rw [dPow_ap _ _ _ (by rw [bits10]; omega)] <;> rfl
theorem pow2 (k : Nat) (st : Sto) (h : k ≤ 20000 := by decide) : dPow (.dat (.int 2)) (.dat (.int k)) st = .ok (.dat (.int (2 ^ k))) st := by
  rw [dPow_ap _ _ _ (by rw [bits2]; omega)] <;> rfl
/-- what a draw leaves -/
structure Dn (n m : Nat) (st st' : Sto) : Prop where
  but : SameBut n st st'
  sack : SackAt st' n m
theorem Dn.len {n m : Nat} {st st' : Sto} (h : Dn n m st st') : st'.length = st.length := h.but.len
theorem Dn.trans {n m m' : Nat} {st st' st2 : Sto} (h : Dn n m st st') (h2 : Dn n m' st' st2) : Dn n m' st st2 := ⟨h.but.trans h2.but, h2.sack⟩
theorem Dn.mono {n m m' : Nat} {st st' : Sto} (h : Dn n m st st') (hm : m ≤ m') : Dn n m' st st' := ⟨h.but, h.sack.mono hm⟩
theorem draw_dn {st : Sto} {n m : Nat} (S : SackAt st n m) {many : Int} (h0 : 0 < many) (h1 : many < 18446744073709551616) (hm : m ≤ 1000000) :
    ∃ r st', runB 6 2 drawB [.loc n, .dat (.int many)] st = .ok (.dat (.int r)) st' ∧ 0 ≤ r ∧ r < many ∧ Dn n (m + 1) st st' := by
  obtain ⟨r, st', e, a, b, c, d⟩ := draw_ok S h0 h1 hm
  exact ⟨r, st', e, a, b, c, d⟩
end Ev
set_option Elab.async false
set_option linter.all false
set_option maxRecDepth 100000
set_option maxHeartbeats 4000000
/-! Ev18: raise C(e), C an own class over an error of Python's, whose __init__ calls the base's by name and keeps e. -/
namespace Ev
open PySem PySem.Spec PyProof.Rows L2
variable [τ : Tbl]
/-- what the written part says of such a class -/
structure OxG (K : PySem.W.Frag) (C : Addr) (bmB : List Value) (newId : String) : Prop where
  em : PySem.W.excInitIn K C bmB newId = true
  ov : PySem.W.excOver K C bmB = true
  hd : PySem.W.hasDictIn K C = true
  st : PySem.W.findIn K (.ref C) "__setattr__" = some (some (.builtin "object.__setattr__"))
  be : PySem.W.subIn K (.ref C) (.type "BaseException") = some true
  ty : PySem.W.typeIn K (.ref C) = some (.type "type")
  kp : PySem.W.keepIn K (.ref C) = true
section
variable {X : Cx} {pins : List (Addr × Obj)} {σ : L2.St} {H : Hp} {s : Shared} {a C : Addr} {f : Str} {y : V} {u : Value} {bmB : List Value} {B newId initId : String} {E : Value → Shared → Prop} {A : Around}
theorem oxg_store {Q : Unit → Shared → Prop} (SF : StoreFacts B bmB "object.__setattr__" "object") (T : OxG X.K C bmB newId) (I : L2.Inv X pins σ H s) (ea : H a = some (exo a C none)) (ht : PySem.W.takerIn X.K C f = some none) (ry : RelV y u)
    (nx : ∀ dd s', H dd = none → dd ≠ a → L2.Inv X pins σ (upd (upd H dd (exd dd [(f, y)])) a (exo a C (some dd))) s' → Q () s') : wpAny (model X.prog X.w) A (setAttr (.ref a) f u) Q E s := by
  obtain ⟨t1, he⟩ := exo_at I.hok ea
  obtain ⟨cd, hc, hh⟩ := PySem.W.any_some T.hd
  obtain ⟨hp, gs, dr, tk0, os⟩ := s
  refine PySem.W.set_plain (ox := PySem.W.excObj C t1 none .none) (od := none) I.kIn ⟨he, rfl, rfl, trivial⟩ T.st ?_
  refine PySem.W.osa_openX (ox := PySem.W.excObj C t1 none .none) (od := none) SF I.kIn ⟨he, rfl, rfl, trivial⟩ T.ov ht fun b => ?_
  refine wpAny_bind (wpAny_pure (wpAny_bind (PySem.W.instanceDict_exc he (PySem.W.looks_clsIn I.kIn hc) hh ?_)))
  show wpAny _ _ (Builtin.ObjectAttr.storeInDict hp.objs.size (.str f _) f u) _ _ _
  have hxs : a ≠ hp.objs.size := Nat.ne_of_lt (Heap.lt_size he)
  refine PySem.HandSPX.store_in_new ⟨_, #[], _, (Heap.get?_update_ne _ _ _ _ hxs.symm).trans (Heap.get?_push_at rfl rfl), rfl, (fun e z => absurd z (by simp)), fun _ => rfl⟩ fun h2 tk2 hn2 sb => ?_
  have fr : H hp.objs.size = none := I.hok.fresh (Nat.le_refl _)
  have kp : ∀ z w, z ≠ a → hp.get? z = some w → h2.get? z = some w := fun z w nz ez =>
    (sb.2 z (Nat.ne_of_lt (Heap.lt_size ez))).trans ((Heap.get?_update_ne _ _ _ _ nz).trans (Heap.get?_push_of_some _ ez))
  have at2 : h2.get? a = some (PySem.W.excObj C t1 (some hp.objs.size) .none) := (sb.2 a hxs).trans (Heap.get?_update_self _ (Heap.get?_push_of_some _ he) rfl)
  have nsz : ∀ {z : Addr} {w : Obj}, hp.get? z = some w → z ≠ hp.objs.size := fun ez => Nat.ne_of_lt (Heap.lt_size ez)
  have nA : ∀ {z : Addr}, H z = none → z ≠ a := fun n1 e1 => by rw [e1, ea] at n1; cases n1
  have un : Un X.fs [] H (upd (upd H hp.objs.size (exd hp.objs.size [(f, y)])) a (exo a C (some hp.objs.size))) hp h2 :=
    { keep := (fun z w e1 n1 _ _ => kp z w (nA n1) e1), slot := (fun z w e1 n1 _ _ => ⟨w.slots, kp z w (nA n1) e1⟩),
      free := (fun z w e1 n1 _ => by rw [upd_ne (nA n1), upd_ne (nsz e1), n1]),
      there := (fun z w e1 _ => if hz : z = a then ⟨_, hz ▸ at2⟩ else ⟨w, kp z w hz e1⟩),
      tups := (fun z l e1 => by rw [upd_ne (at_ne ea e1 exo_tup), upd_ne (ne_of_none e1 fr), e1]),
      frzs := (fun z w v e1 => by rw [upd_ne (at_ne ea e1 exo_frz), upd_ne (ne_of_none e1 fr), e1]),
      tbls := (fun z l e1 => ⟨#[], by rw [upd_ne (at_ne ea e1 exo_tbl), upd_ne (ne_of_none e1 fr), e1]; simp⟩) }
  refine nx hp.objs.size _ fr hxs.symm (I.un (t' := tk2) un fun z w e1 => ?_)
  by_cases hz : z = a
  · rw [hz, upd_same] at e1
    cases e1
    rw [hz]
    exact exo_ok at2
  · rw [upd_ne hz] at e1
    by_cases hw : z = hp.objs.size
    · rw [hw, upd_same] at e1
      cases e1
      rw [hw]
      exact exd_ok hn2 (relO_put (fs := []) ry fun _ => True.intro)
    · rw [upd_ne hw] at e1
      refine (I.hok z w e1).stay (fun c v hc ez => kp c v ?_ ez) (fun c hc => by rw [upd_ne (at_ne ea hc exo_own), upd_ne (ne_of_none hc fr), hc]) fun c l hc => by rw [upd_ne (at_ne ea hc exo_tup), upd_ne (ne_of_none hc fr), hc]
      rcases hc with hc | hc
      · rw [hc]; exact hz
      · exact at_ne ea hc exo_own
theorem oxg_init {us : List Value} {Q : Value → Shared → Prop} (F : ExcBaseFacts B newId initId bmB) (T : OxG X.K C bmB newId) (I : L2.Inv X pins σ H s) (ea : H a = some (exo a C none)) (hl : us.length ≤ sizeLine) (nx : ∀ s', L2.Inv X pins σ H s' → Q .none s') :
    wpAny (model X.prog X.w) A (call (.builtin initId) (.ref a :: us)) Q E s := by
  obtain ⟨_, _, _, _, bm, _, _, _, _, _, _, _, _, _, _, _, hC, hT⟩ := PySem.W.excInit_of I.kIn T.em
  obtain ⟨t1, he⟩ := exo_at I.hok ea
  obtain ⟨hp, gs, dr, tk0, os⟩ := s
  refine wpAny_call (PySem.HandSPX.init_base F hT hC he hl fun h2 t2 kp at2 => ?_)
  have J := I.write (t' := tk0) (x := a) (e := a) (o := exo a C none) (by rw [ea]; exact True.intro) (.inl rfl) kp ⟨_, at2⟩ (exo_ok at2)
  have same : upd H a (exo a C none) = H := funext fun z => by
    by_cases hz : z = a
    · rw [hz, upd_same, ea]
    · exact upd_ne hz
  exact nx _ (same ▸ J)
end
/-- what a base's facts are, by its name in the text -/
structure BsG (K : PySem.W.Frag) (mg : Str → Option Value) (bx : Str) (B newId initId : String) (bmB : List Value) : Prop where
  eb : ExcBaseFacts B newId initId bmB
  sf : StoreFacts B bmB "object.__setattr__" "object"
  no : mg bx = none
  bt : bootBuiltins bx = some (.type B)
  nm : bx ≠ "__name__"
  db : (bx == ("__debug__" : Str)) = false
  ty : typeOf (.type B) = pure (.type "type")
  sb : Manifest.isStub B = false
  hi : PySem.W.handedIn (.builtin initId) = true
  it : PySem.W.findCls K (.type B) (.type "type") "__init__" = some (.val (.builtin initId))
section
variable {X : Cx} {e o : Expr} {es : List Expr} {ta : TA} {to te : TE} {f bx : Str} {B newId initId : String} {bmB : List Value} {p p' p1 p2 pos : Pos}
def tBI (K : PySem.W.Frag) (bmB : List Value) (newId : String) (ta : TA) : TE := fun σ H Q => ta σ H fun vs H1 => ∃ (a C : Addr) (ws : List V), vs = .ref a :: ws ∧ ws.length ≤ 1000 ∧ OxG K C bmB newId ∧ H1 a = some (exo a C none) ∧ Q .non H1
theorem pe_base_init {pl : Sem Bool} (G : BsG X.K X.mg bx B newId initId bmB) (hg : Gl X bx) (ha : PA X (e :: es) ta)
    (hc : eval (.Call (.Attribute (.Name bx p1) "__init__" p2) (e :: es) [] pos) X.env = (do
      let w ← eval (.Name bx p1) X.env
      standAt p2.atName
      let (g, gs) ← holding [w] (getMethod w "__init__" pl)
      callWith pos g gs (backTo pos (starEach (e :: es) X.env)) (backToKw pos (keywordEach [] X.env))) := by rfl)
    (hs : starEach (e :: es) X.env = (false, eval e X.env) :: starEach es X.env := by rfl) (hpl : (backTo pos (starEach es X.env)).any (·.1) = false := by rfl) :
    PE X (.Call (.Attribute (.Name bx p1) "__init__" p2) (e :: es) [] pos) (tBI X.K bmB newId ta) := by
  refine ⟨fun pins s σ H Q I h => PySem.W.methodCall_KW (ld_blt I hg G.no G.bt ?_ G.nm G.db) hc⟩
  obtain ⟨m, fr⟩ := I.fr
  refine PySem.W.method_type fr I.ok.mod.kin G.ty G.sb G.it G.hi ?_
  refine PyProof.Rows.callWith_method1 (thn (ha.run pos pins _ σ H _ (I.tok _) h) fun us s1 ⟨vs, H1, I1, r1, a, C, ws, ev, hl, T, ea, q⟩ => ?_) hs hpl
  subst ev
  match us, r1 with
  | _ :: ur, .cons ra rw' =>
    cases (show _ = Value.ref a from ra)
    exact oxg_init G.eb T I1 ea (by rw [← Paired.length rw', sizeLine_eq]; omega) fun s' J => ⟨.non, H1, J, rfl, q⟩
def tSO (K : PySem.W.Frag) (bmB : List Value) (newId : String) (f : Str) (to te : TE) : TS := fun D σ H => te σ H fun y H1 => to σ H1 fun x H2 => ∃ a C : Addr, x = .ref a ∧ OxG K C bmB newId ∧ PySem.W.takerIn K C f = some none ∧ H2 a = some (exo a C none) ∧
  ∀ dd, H2 dd = none → dd ≠ a → D.nx σ (upd (upd H2 dd (exd dd [(f, y)])) a (exo a C (some dd)))
theorem ps_so (SF : StoreFacts B bmB "object.__setattr__" "object") (ho : PE X o to) (he : PE X e te) (hs : swapsWith e (some (.Attribute o f p')) pos.line X.env = pure false := by rfl) : PS X (.Assign [.Attribute o f p'] e pos) (tSO X.K bmB newId f to te) := by
  refine ⟨fun pins s σ H D I h => plainObj_wpAny_Assign_Attribute (thn (he.run pins s σ H _ I h) fun v s1 ⟨y, H1, I1, r1, q1⟩ => thn (ho.run pins s1 σ H1 _ I1 q1) fun w s2 ⟨x, H2, I2, r2, a, C, ex, T, ht, ea, q⟩ => ?_) hs⟩
  subst ex
  cases (show w = Value.ref a from r2)
  exact oxg_store SF T I2 ea ht r1 fun dd s' n1 n2 J => ⟨σ, _, J, q dd n1 n2⟩
end
/-- what such an __init__ keeps -/
def spI (K : PySem.W.Frag) (bmB : List Value) (newId : String) (f : Str) : Sp := fun vs H Q _ => ∃ (a C : Addr) (y : V), vs = [.ref a, y] ∧ OxG K C bmB newId ∧ PySem.W.takerIn K C f = some none ∧ H a = some (exo a C none) ∧
  ∀ dd, H dd = none → dd ≠ a → Q .non (upd (upd H dd (exd dd [(f, y)])) a (exo a C (some dd)))
/-- the base's __init__, called by name, as the text's reading opens it -/
def InitCall (st : Stmt) (sx bx m : Str) (j : Nat) (p1 p2 p3 p4 p5 : Pos) : Prop := ∀ (qual : Str) (n : Nat) (fI : Addr) (cdv : Value), ∃ pl : Sem Bool,
  eval (.Call (.Attribute (.Name bx p1) "__init__" p2) [.Name sx p3, .Constant (.str m) j p4] [] p5) (envOfC qual (defScope st) n fI cdv) = (do
    let w ← eval (.Name bx p1) (envOfC qual (defScope st) n fI cdv)
    standAt p2.atName
    let (g, gs) ← holding [w] (getMethod w "__init__" pl)
    callWith p5 g gs (backTo p5 (starEach [.Name sx p3, .Constant (.str m) j p4] (envOfC qual (defScope st) n fI cdv))) (backToKw p5 (keywordEach [] (envOfC qual (defScope st) n fI cdv))))
theorem init_ok {P : Program} {w : World} {K : PySem.W.Frag} {mg : Str → Option Value} {base : Heap} {qual : Str} {st : Stmt} {fI : Addr} {fd : FuncData} {k : Nat} {sx px f bx m : Str} {j : Nat} {p1 p2 p3 p4 p5 p6 p7 p8 p9 p10 : Pos} {B newId initId : String} {bmB : List Value}
    (F : Fun K "__init__" qual st fI fd) (S : FnScope [sx, px] [sx, px] (defScope st)) (G : BsG K mg bx B newId initId bmB)
    (hb : defBody st = [.Expr (.Call (.Attribute (.Name bx p1) "__init__" p2) [.Name sx p3, .Constant (.str m) j p4] [] p5) p6, .Assign [.Attribute (.Name sx p7) f p8] (.Name px p9) p10])
    (hg : ∀ (n : Nat) (g : Addr) (c : Value) (q : Str), (envOfC q (defScope st) n g c).kindOf bx = some .globalImplicit) (hc : InitCall st sx bx m j p1 p2 p3 p4 p5) (v0 : Vis (defScope st) sx) (v1 : Vis (defScope st) px)
    (d1 : (sx == ("__debug__" : Str)) = false) (d2 : (sx == ("__classdict__" : Str)) = false) (d3 : (px == ("__debug__" : Str)) = false) (d4 : (px == ("__classdict__" : Str)) = false) :
    FnOk P w K mg base C8.CX0 (k + 1) fI fd [sx, px] (spI K bmB newId f) := by
  obtain ⟨oc, od, kV, doc, pm, an, cdv, ct, osl, rfl, lk, hcd⟩ := F.ex
  refine L2.fn_of lk hcd S (fun vs H Q E h => by obtain ⟨_, _, _, e, _⟩ := h; rw [e]; rfl) fun A outer s H vs Q E hr hsp => ?_
  rw [hb]
  have X0 : Gl (cxOf C8.CX0 P w K mg base [sx, px] qual (defScope st) fI cdv A outer s H E).nox bx := hg _ _ _ _
  obtain ⟨pl, hpl⟩ := hc qual s.heap.objs.size fI cdv
  refine ⟨_, (pss_cons (ps_expr (pe_base_init (X := (cxOf C8.CX0 P w K mg base [sx, px] qual (defScope st) fI cdv A outer s H E).nox) G X0 (pa_cons (pe_var (i := 0) rfl v0 d1 d2) (pa_cons pe_str pa_nil)) hpl)) (pss_one (ps_so (newId := newId) G.sf (pe_var (i := 0) rfl v0 d1 d2) (pe_var (i := 1) rfl v1 d3 d4)))).nox, ?_⟩
  obtain ⟨a, C, y, rfl, T, ht, ea, q⟩ := hsp
  exact ⟨.ref a, rfl, a, C, [.str m], rfl, by simp, T, ea, y, rfl, .ref a, rfl, a, C, rfl, T, ht, ea, q⟩
end Ev
set_option Elab.async false
set_option linter.all false
set_option maxRecDepth 100000
set_option maxHeartbeats 400000
/-! Ev19: C(e), raised. -/
namespace Ev
open PySem PySem.Spec PyProof.Rows L2
variable [τ : Tbl]
/-- C(e) -/
def tMkG (C : Addr) (f : Str) (te : TE) : L2.St → Hp → XK → Prop := fun σ H Q => te σ H fun y H1 => ∀ d, H1 d = none → Q (.ref C) (some d) (upd H1 d (.xd [(f, y)]))
theorem mk_core {X : Cx} {f : Str} {C fI : Addr} {fd : FuncData} {ps : List Str} {bmB : List Value} {B newId initId : String} {pins : List (Addr × Obj)} {σ : L2.St} {H1 : Hp} {s1 : Shared} {Q : XK} {y : V} {u : Value} (F : ExcBaseFacts B newId initId bmB) (T : OxG X.K C bmB newId) (ht : PySem.W.takerIn X.K C f = some none)
    (iC : PySem.W.findIn X.K (.ref C) "__init__" = some (some (.ref fI))) (tI : PySem.W.typeIn X.K (.ref fI) = some (.type "function")) (F1 : FnOk X.prog X.w X.K X.mg X.base C8.CX0 1 fI fd ps (spI X.K bmB newId f)) (hl : ps.length = 2) (hr : Room 2 X.A) (hb : Binds X.K fd ps [])
    (I1 : L2.Inv X pins σ H1 s1) (ry : RelV y u) (q2 : ∀ d, H1 d = none → Q (.ref C) (some d) (upd H1 d (.xd [(f, y)]))) : wpAny (model X.prog X.w) X.A (call (.ref C) [u]) (MkP X pins σ Q) X.xe s1 := by
  show wpAny _ _ (call (.ref C) [u]) _ _ _
  obtain ⟨_, _, _, _, bm, _, _, _, _, _, _, _, _, _, _, _, hC, hT⟩ := PySem.W.excInit_of I1.kIn T.em
  obtain ⟨hp, gs, dr, tk, os⟩ := s1
  have sz1 : hp.objs.size ≤ hp.objs.size + 1 := Nat.le_succ _
  have hn : H1 (hp.objs.size + 1) = none := I1.hok.fresh sz1
  have kp : ∀ z w, hp.get? z = some w → ((hp.push (PySem.W.kdv_tup [u])).push (PySem.HandSPX.excO C hp.objs.size)).get? z = some w := fun z w ez => Heap.get?_push_of_some _ (Heap.get?_push_of_some _ ez)
  have I2 := I1.laid (t' := tk) (a := hp.objs.size + 1) (o := exo (hp.objs.size + 1) C none) (h' := (hp.push (PySem.W.kdv_tup [u])).push (PySem.HandSPX.excO C hp.objs.size)) kp sz1 (exo_ok (t1 := hp.objs.size) (d := none) (by heap_get))
  have sp : spI X.K bmB newId f [.ref (hp.objs.size + 1), y] (upd H1 (hp.objs.size + 1) (exo (hp.objs.size + 1) C none)) (fun v H2 => v = .non ∧ ∃ d, H1 d = none ∧ H2 = upd (upd (upd H1 (hp.objs.size + 1) (exo (hp.objs.size + 1) C none)) d (exd d [(f, y)])) (hp.objs.size + 1) (exo (hp.objs.size + 1) C (some d)) ∧ d ≠ hp.objs.size + 1) (fun _ _ _ => False) :=
    ⟨_, C, y, rfl, T, ht, upd_same, fun d hd ne => ⟨rfl, d, by rw [upd_ne ne] at hd; exact hd, rfl, ne⟩⟩
  have bd := hb ⟨(hp.push (PySem.W.kdv_tup [u])).push (PySem.HandSPX.excO C hp.objs.size), gs, dr, tk, os⟩ [Value.ref (hp.objs.size + 1), u] I2.kIn (by rw [hl]; rfl)
  refine wpAny_call (PySem.HandSPX.call_own F hT hC (PySem.W.looks_findIn I1.kIn iC) (fun self => PySem.W.bind_fn I1.kIn self tI) (by rw [sizeLine_eq]; simp) (codeAny_mono (F1.run _ X.stack _ _ ⟨[Value.ref (hp.objs.size + 1), u], []⟩ [Value.ref (hp.objs.size + 1), u] [V.ref (hp.objs.size + 1), y] _ _ (hr.make C [u] []) (I2.env0.make C [u] []) bd (.cons rfl (.cons ry .nil)) sp) fun r s' hq => ?_))
  cases r with
  | error _ => exact hq.elim
  | ok fl =>
    cases fl with
    | next => exact hq.elim
    | brk => exact hq.elim
    | cont => exact hq.elim
    | ret w =>
      obtain ⟨v, H2, os2, bare, un, hok, rv, ev, d, hd, eH, ne⟩ := hq
      subst ev
      subst eH
      obtain ⟨h2, g2, d2, t2, os'⟩ := s'
      refine ⟨rv, mk_end (raises_own T.be T.ty) I1 sz1 kp un hok os2 bare upd_same (by rw [upd_ne ne, upd_same]) hd ?_⟩
      have eq : upd (del (upd (upd (upd H1 (hp.objs.size + 1) (exo (hp.objs.size + 1) C none)) d (exd d [(f, y)])) (hp.objs.size + 1) (exo (hp.objs.size + 1) C (some d))) (hp.objs.size + 1)) d (.xd [(f, y)]) = upd H1 d (.xd [(f, y)]) := funext fun z => by
        by_cases hz : z = d
        · rw [hz, upd_same, upd_same]
        · rw [upd_ne hz, upd_ne hz]
          by_cases hw : z = hp.objs.size + 1
          · rw [hw, del_same, hn]
          · rw [del_ne hw, upd_ne hw, upd_ne hz, upd_ne hw]
      rw [eq]
      exact q2 d hd
theorem pmk_oxg {X : Cx} {e : Expr} {te : TE} {x f : Str} {C fI : Addr} {fd : FuncData} {ps : List Str} {bmB : List Value} {B newId initId : String} {p pos : Pos} (F : ExcBaseFacts B newId initId bmB) (T : OxG X.K C bmB newId) (ht : PySem.W.takerIn X.K C f = some none)
    (iC : PySem.W.findIn X.K (.ref C) "__init__" = some (some (.ref fI))) (tI : PySem.W.typeIn X.K (.ref fI) = some (.type "function")) (F1 : FnOk X.prog X.w X.K X.mg X.base C8.CX0 1 fI fd ps (spI X.K bmB newId f)) (hl : ps.length = 2) (hr : Room 2 X.A) (hb : Binds X.K fd ps [])
    (hg : Gl X x) (gC : X.mg x = some (.ref C)) (he : PE X e te) (hdb : (x == ("__debug__" : Str)) = false := by decide) (hs : starEach [e] X.env = (false, eval e X.env) :: starEach [] X.env := by rfl) (hpl : (backTo pos (starEach [] X.env)).any (·.1) = false := by rfl) :
    PMk X (.Call (.Name x p) [e] [] pos) (tMkG C f te) := by
  intro pins s σ H Q I h
  refine wpAny_Call_Name_kw (ld_glob I hg gC ?_ hdb)
  refine PySem.W.callWith_K (h₀ := X.base) I.ok.mod.kin T.kp (thn ((pa_cons he pa_nil hs).run pos pins s σ H (fun vs H1 => match vs with | [y] => ∀ d, H1 d = none → Q (.ref C) (some d) (upd H1 d (.xd [(f, y)])) | _ => False) I h) fun us s1 ⟨vs, H1, I1, r1, q1⟩ => ⟨I1.kIn, ?_⟩) hs hpl
  obtain ⟨y, rfl⟩ : ∃ y, vs = [y] := by
    cases vs with
    | nil => exact q1.elim
    | cons y r =>
      cases r with
      | nil => exact ⟨y, rfl⟩
      | cons _ _ => exact q1.elim
  have q2 : ∀ d, H1 d = none → Q (.ref C) (some d) (upd H1 d (.xd [(f, y)])) := q1
  obtain ⟨u, rfl, ry⟩ := vals1 r1
  exact mk_core F T ht iC tI F1 hl hr hb I1 ry q2
end Ev
set_option Elab.async false
set_option linter.all false
set_option maxRecDepth 100000
set_option maxHeartbeats 1000000
/-! Ev20: raise C(e) as a function; the fields of a caught error. -/
namespace Ev
open PySem PySem.Spec PyProof.Rows L2
open Classical
variable [τ : Tbl]
/-- an __init__ that calls the base's by name and keeps its word -/
structure IniS (st : Stmt) (sx px f bx : Str) : Prop where
  sc : FnScope [sx, px] [sx, px] (defScope st)
  bd : ∃ (m : Str) (j : Nat) (p1 p2 p3 p4 p5 p6 p7 p8 p9 p10 : Pos), defBody st = [.Expr (.Call (.Attribute (.Name bx p1) "__init__" p2) [.Name sx p3, .Constant (.str m) j p4] [] p5) p6, .Assign [.Attribute (.Name sx p7) f p8] (.Name px p9) p10] ∧ InitCall st sx bx m j p1 p2 p3 p4 p5
  gl : ∀ (n : Nat) (g : Addr) (c : Value) (q : Str), (envOfC q (defScope st) n g c).kindOf bx = some .globalImplicit
  v0 : Vis (defScope st) sx
  v1 : Vis (defScope st) px
  d1 : (sx == ("__debug__" : Str)) = false
  d2 : (sx == ("__classdict__" : Str)) = false
  d3 : (px == ("__debug__" : Str)) = false
  d4 : (px == ("__classdict__" : Str)) = false
def ExI (K : PySem.W.Frag) (mg : Str → Option Value) (x f : Str) : Prop :=
  ∃ (C fI : Addr) (fd : FuncData) (bmB : List Value) (B newId initId : String) (st : Stmt) (qual sx px bx : Str), mg x = some (.ref C) ∧ OxG K C bmB newId ∧ PySem.W.takerIn K C f = some none ∧ PySem.W.findIn K (.ref C) "__init__" = some (some (.ref fI)) ∧
    PySem.W.typeIn K (.ref fI) = some (.type "function") ∧ Fun K "__init__" qual st fI fd ∧ Binds K fd [sx, px] [] ∧ BsG K mg bx B newId initId bmB ∧ IniS st sx px f bx
noncomputable def sRaiseF (x f : Str) (me : Env → M D) : SM := sBind me fun d ρ st => match d with | .dat y => .exc ⟨x, [(f, y)]⟩ ρ st | _ => .bad
section
variable {X : Cx} {W : WX} {k : Nat} {pos pos' p p2 : Pos} {e : Expr} {me : Env → M D}
theorem evs_raiseF {x f : Str} (hc : X.calm = true) (C : GC X W k) (hk : 2 ≤ k) (N : ExI X.K X.mg x f) (hg : Gl X x) (he : EV X W e me) (hdb : (x == ("__debug__" : Str)) = false := by decide) (hs : starEach [e] X.env = (false, eval e X.env) :: starEach [] X.env := by rfl) (hpl : (backTo pos (starEach [] X.env)).any (·.1) = false := by rfl) :
    EVS X W (.Raise (some (.Call (.Name x p) [e] [] pos)) none pos') (sRaiseF x f me) := by
  obtain ⟨c, fI, fd, bmB, B, n1, n2, st, qual, sx, px, bx, gC, T, ht, iC, tI, F, bd, G, IS⟩ := N
  obtain ⟨m, j, p1, p2, p3, p4, p5, p6, p7, p8, p9, p10, hb, hcl⟩ := IS.bd
  have F1 := init_ok (P := X.prog) (w := X.w) (base := X.base) (k := 0) F IS.sc G hb IS.gl hcl IS.v0 IS.v1 IS.d1 IS.d2 IS.d3 IS.d4
  refine ⟨PS.imp (ps_raise hc C.tk (pmk_oxg G.eb T ht iC tI F1 rfl (C.room.mono hk) bd hg gC he.pe hdb hs hpl)) fun D σ H h => ?_⟩
  obtain ⟨R, ρ, st0, S, E, h⟩ := h
  refine ⟨R, ρ, st0, S, E, (PostS.bind (Rel := Dv X.K X.mg) E h).monoQ fun v H1 ⟨R1, st1, d, S1, E1, D1, h1⟩ => fun dd hd => ?_⟩
  cases d with
  | dat y =>
    exact h1 σ R1 (upd H1 dd (.xd [(f, v)])) (.ref c) (some dd) (.new hd) (S1.new hd) (E1.ext (.new hd)) ⟨gC, .inr ⟨dd, [(f, v)], by simp, rfl, S1.notOwn hd, upd_same, fun g z hz => by
      have hz' : (match g == f with | true => some y | false => none) = some z := hz
      cases q : g == f with
      | false => rw [q] at hz'; cases hz'
      | true =>
        rw [q] at hz'
        cases hz'
        refine ⟨v, ?_, Pd.stays (Ext.new hd).stays D1⟩
        show (match g == f with | true => some v | false => none) = some v
        rw [q]⟩⟩
  | _ => exact h1.elim
/-! ### e.f in a suite -/
def FldC (K : PySem.W.Frag) (mg : Str → Option Value) (cn f : Str) : Prop := ∃ C : Addr, mg cn = some (.ref C) ∧ XfC K C ∧ PySem.W.findIn K (.ref C) f = some none
noncomputable def dFld (a : Addr) (cls : Value) (d : Option Addr) (cn f : Str) : D → M D
  | .err v cls' d' x => fun st => if v = .ref a ∧ cls' = cls ∧ d' = d ∧ x.cls = cn then match x.flds.lookup f with | some y => .ok (.dat y) st | none => .bad else .bad
  | _ => M.bad
theorem ev_fld {a : Addr} {oe : Obj} {cls : Value} {d : Option Addr} {pn : List (Addr × Obj)} {cn f : Str} (hz : Zc cls d oe) (hf : ∃ vs, oe.data = .fields vs) (F : FldC X.K X.mg cn f) (he : EV (X.suite a ((a, oe) :: pn)) W e me)
    (hb : attributeBase e f X.env (eval e X.env) = eval e X.env := by rfl) : EV (X.suite a ((a, oe) :: pn)) W (.Attribute e f pos) (m1 (dFld a cls d cn f) me) := by
  obtain ⟨C, gC, T, hno⟩ := F
  refine ⟨PE.imp (pe_xf T hno hz hf he.pe hb) fun σ H Q h => ?_⟩
  obtain ⟨R, ρ, st, S, E, h⟩ := h
  refine ⟨R, ρ, st, S, E, (Post.bind (Rel := Dv X.K X.mg) (Rel2 := Dv X.K X.mg) h).monoQ fun v H1 ⟨R1, st1, dv, x1, S1, D1, h1⟩ => ?_⟩
  cases dv with
  | err u c' d' x =>
    unfold dFld at h1
    dsimp only at h1
    split at h1
    · rename_i hh
      obtain ⟨rfl, rfl, rfl, hx⟩ := hh
      obtain ⟨rfl, ex1, ex2⟩ := D1
      rw [hx] at ex1
      have gC' : X.mg cn = some (.ref C) := gC
      have ex1' : X.mg cn = some c' := ex1
      rw [gC'] at ex1'
      cases hl : x.flds.lookup f with
      | none => rw [hl] at h1; exact h1.elim
      | some y =>
        rw [hl] at h1
        rcases ex2 with ⟨z, _⟩ | ⟨dd, fs, _, hd, no, at_, all⟩
        · rw [z] at hl; cases hl
        · obtain ⟨w, hw, pd⟩ := all f y hl
          exact ⟨rfl, (Option.some.inj ex1').symm, dd, fs, w, hd, at_, hw, h1.okR S1 pd⟩
    · exact h1.elim
  | _ => exact h1.elim
end
@[simp] theorem sRaiseF_ap (x f : Str) (me : Env → M D) (ρ : Env) (st : Sto) : sRaiseF x f me ρ st = (me ρ st).thenS ρ fun d ρ st => match d with | .dat y => .exc ⟨x, [(f, y)]⟩ ρ st | _ => .bad := rfl
theorem dFld_ap (a : Addr) (cls : Value) (d : Option Addr) (cn f : Str) (y : PyData) (st : Sto) : dFld a cls d cn f (.err (.ref a) cls d ⟨cn, [(f, y)]⟩) st = .ok (.dat y) st := by
  unfold dFld
  dsimp only
  rw [if_pos ⟨rfl, rfl, rfl, rfl⟩]
  have : List.lookup f [(f, y)] = some y := by simp [List.lookup]
  rw [this]
end Ev
set_option Elab.async false
set_option linter.all false
set_option maxRecDepth 100000
set_option maxHeartbeats 1000000
/-! Ev21: isinstance of a caught error, with fields or without; of one class or of several. -/
namespace Ev
open PySem PySem.Spec PyProof.Rows L2
open Classical
variable [τ : Tbl]
def rIsG (K : PySem.W.Frag) (D0 a : Addr) (d : Option Addr) : List V → Hp → VK → Prop := fun xs H Q => (d = none ∨ ∃ dd fs, d = some dd ∧ H dd = some (.xd fs)) ∧
  ((∃ (c : V) (cv : Value) (b : Bool), xs = [.ref a, c] ∧ (∀ u, RelV c u → u = cv) ∧ PySem.W.kitOne K (.ref D0) cv = some b ∧ Q (.bl b) H) ∨
    ∃ (p : Addr) (cs : List V) (cvs : List Value) (b : Bool), xs = [.ref a, .ref p] ∧ H p = some (.tup cs) ∧ (∀ us, Vals cs us → us = cvs) ∧ PySem.W.kitAny K (.ref D0) cvs = some b ∧ Q (.bl b) H)
theorem call_isG {X : Cx} {a D0 : Addr} {oe : Obj} {d : Option Addr} {pn : List (Addr × Obj)} (C : ExcC X.K D0) (hz : Zc (.ref D0) d oe) (hf : ∃ vs, oe.data = .fields vs) : CallR (X.suite a ((a, oe) :: pn)) (.builtin "isinstance") (rIsG X.K D0 a d) := by
  intro pins s σ H xs us Q I r ⟨hd, h⟩
  obtain ⟨at_, _⟩ := I.pin (a, oe) (List.mem_append_left _ List.mem_cons_self)
  obtain ⟨fv, hv⟩ := hf
  obtain ⟨od, J⟩ : ∃ od, PySem.W.InstAt s.heap a oe D0 od := by
    have nc : PySem.W.notCls oe = true := by unfold PySem.W.notCls; rw [hv] <;> rfl
    rcases hd with e | ⟨dd, fs, e, hh⟩
    · exact ⟨none, at_, hz.1, nc, by rw [hz.2, e]; exact trivial⟩
    · obtain ⟨o, ho⟩ := objOk_get (I.hok dd _ hh)
      exact ⟨some o, at_, hz.1, nc, by rw [hz.2, e]; exact ho⟩
  obtain ⟨cd, hc, _⟩ := PySem.W.any_some C.hd
  have Z := PySem.W.kitx_exc (x := a) (od := od) (ox := oe) (by rw [hc]; rfl) C.hg C.hk C.hs C.ha C.hn C.ht C.hm
  rcases h with ⟨c, cv, b, rfl, hcv, e, q⟩ | ⟨p, cs, cvs, b, rfl, hp, hcv, e, q⟩
  · obtain ⟨ua, ub, rfl, ra, rb⟩ := vals2 r
    cases ra
    rw [hcv _ rb]
    exact PySem.W.kia_one Z I.kIn J e (fun z => nomatch z) fun tk => ⟨.bl b, H, I.kept (t' := tk) fun _ _ z => z, rfl, q⟩
  · obtain ⟨ua, ub, rfl, ra, rb⟩ := vals2 r
    cases ra
    cases rb
    obtain ⟨its, rv, ⟨o, ho, hcl, n, hdt⟩, _⟩ := I.tuple (.inl (.inl hp))
    have ei := hcv _ rv
    obtain ⟨oc, od2, oda, osl⟩ := o
    dsimp only at hcl hdt
    subst hcl hdt
    exact PySem.W.kia_tup (its := its) Z I.kIn J (by simpa using ho) (by rw [ei]; exact e) (fun z => nomatch z) fun tk => ⟨.bl b, H, I.kept (t' := tk) fun _ _ z => z, rfl, q⟩
noncomputable def dIsG (a : Addr) (cls : Value) (d : Option Addr) (isa : Str → D → Option Bool) : List D → M D
  | [.err v cls' d' x, c] => fun st => if v = .ref a ∧ cls' = cls ∧ d' = d then match isa x.cls c with | some b => .ok (.dat (.bool b)) st | none => .bad else .bad
  | _ => M.bad
def isaAny (isa : Str → D → Option Bool) (x : Str) : List D → Option Bool
  | [] => some false
  | c :: r => match isa x c, isaAny isa x r with
    | some b, some b' => some (b || b')
    | _, _ => none
noncomputable def dIsT (a : Addr) (cls : Value) (d : Option Addr) (isa : Str → D → Option Bool) (e : D) (cs : List D) : M D :=
  match e with
  | .err v cls' d' x => fun st => if v = .ref a ∧ cls' = cls ∧ d' = d ∧ cs.length ≤ 1000 then match isaAny isa x.cls cs with | some b => (match isa x.cls (cs.headD (.dat .none)) with | some _ => .ok (.dat (.bool b)) st | none => .bad) | none => .bad else .bad
  | _ => M.bad
theorem clsD_of {K : PySem.W.Frag} {mg : Str → Option Value} {R : Rg} {st : Sto} {H : Hp} {v : V} {c : D} {cv : Value} (h : Dv K mg R st H v c) (cd : clsD mg c cv) : ∀ u, RelV v u → u = cv := fun u r => by
  cases c with
  | glob y =>
    obtain ⟨a2, g2, e6⟩ := h
    have g1 : mg y = some cv := cd
    have g2' : mg y = some (.ref a2) := g2
    rw [g1] at g2'
    cases g2'
    rw [e6] at r
    exact r
  | raw t =>
    have e6 : v = t := h
    rw [e6] at r
    cases t with
    | ty T =>
      have e2 : cv = .type T := cd
      rw [e2]
      exact r
    | _ => exact cd.elim
  | _ => exact cd.elim
theorem isaAny_kit {K : PySem.W.Frag} {mg : Str → Option Value} {isa : Str → D → Option Bool} (hi : Isa K mg isa) {x : Str} {D0 : Addr} (hx : mg x = some (.ref D0)) {R : Rg} {st : Sto} {H : Hp} : ∀ {cs : List D} {vs : List V} {b : Bool}, DvA K mg R st H vs cs → isaAny isa x cs = some b →
    ∃ cvs, (∀ us, Vals vs us → us = cvs) ∧ PySem.W.kitAny K (.ref D0) cvs = some b
  | [], _, b, .nil, e => ⟨[], fun us r => by cases r; rfl, by have e' : some false = some b := e; cases e'; rfl⟩
  | c :: r, _, b, .cons h q, e => by
    unfold isaAny at e
    split at e
    · rename_i b1 b2 e1 e2
      cases e
      obtain ⟨D1, cv, m1, EC, k1, cd⟩ := hi _ _ _ e1
      have eD : D0 = D1 := by rw [hx] at m1; cases m1; rfl
      subst eD
      obtain ⟨cvs, hu, hk⟩ := isaAny_kit hi hx q e2
      refine ⟨cv :: cvs, fun us r => ?_, ?_⟩
      · cases r with
        | cons r1 r2 => rw [clsD_of h cd _ r1, hu _ r2]
      · unfold PySem.W.kitAny
        rw [k1]
        cases b1 with
        | true => rfl
        | false => exact hk
    · cases e
section
variable {X : Cx} {W : WX} {p pos : Pos}
theorem exc_dict {K : PySem.W.Frag} {mg : Str → Option Value} {U : Addr → Prop} {H : Hp} {x : Exc} {cls : Value} {dx : Option Addr} (h : ExcR K mg U H x cls dx) : dx = none ∨ ∃ dd fs, dx = some dd ∧ H dd = some (.xd fs) := by
  rcases h.2 with ⟨_, e⟩ | ⟨d, fs, _, e, _, q, _⟩
  · exact .inl e
  · exact .inr ⟨d, fs, e, q⟩
theorem ev_isG {a : Addr} {oe : Obj} {cls : Value} {d : Option Addr} {pn : List (Addr × Obj)} {isa : Str → D → Option Bool} {e : Expr} {es : List Expr} {ms : Env → M (List D)} (hz : Zc cls d oe) (hf : ∃ vs, oe.data = .fields vs) (hi : Isa X.K X.mg isa) (hm : X.mg "isinstance" = none)
    (ha : EVA (X.suite a ((a, oe) :: pn)) W (e :: es) ms) (hg : Gl (X.suite a ((a, oe) :: pn)) "isinstance" := by exact rfl)
    (he : starEach (e :: es) X.env = (false, eval e X.env) :: starEach es X.env := by rfl) (hpl : (backTo pos (starEach es X.env)).any (·.1) = false := by rfl) :
    EV (X.suite a ((a, oe) :: pn)) W (.Call (.Name "isinstance" p) (e :: es) [] pos) (mC (dIsG a cls d isa) ms) := by
  have hcall : CallR (X.suite a ((a, oe) :: pn)) (.builtin "isinstance") (fun xs H Q => ∃ D0 : Addr, cls = .ref D0 ∧ ExcC X.K D0 ∧ rIsG X.K D0 a d xs H Q) := fun pins s σ H xs us Q I r ⟨D0, e1, EC, h⟩ => by
    subst e1
    exact call_isG EC hz hf pins s σ H xs us Q I r h
  refine ev_callB hcall (f := dIsG a cls d isa) (fun R H st vs ds Q W' S hD h => ?_) hg hm boot_isinstance ha (by decide) (by decide) he hpl
  unfold dIsG at h
  split at h
  · rename_i v cls' d' x c
    cases hD with
    | cons h1 hD =>
      cases hD with
      | cons h2 hD =>
        cases hD
        obtain ⟨rfl, ex⟩ := h1
        split at h
        · rename_i hc
          obtain ⟨rfl, rfl, rfl⟩ := hc
          cases hb : isa x.cls c with
          | none => rw [hb] at h; exact h.elim
          | some b =>
            rw [hb] at h
            obtain ⟨D1, cv, m1, EC, k1, cd⟩ := hi _ _ _ hb
            have q : X.mg x.cls = some cls' := ex.1
            have e5 : cls' = .ref D1 := by
              rw [m1] at q
              exact (Option.some.inj q).symm
            exact ⟨D1, e5, EC, exc_dict ex, .inl ⟨_, cv, b, rfl, clsD_of h2 cd, k1, h.okR S (Dv.bl b)⟩⟩
        · exact h.elim
  · exact h.elim
theorem ev_isT {a : Addr} {oe : Obj} {cls : Value} {d : Option Addr} {pn : List (Addr × Obj)} {isa : Str → D → Option Bool} {e : Expr} {cs : List Expr} {me : Env → M D} {mcs : Env → M (List D)} {kd tp} (hz : Zc cls d oe) (hf : ∃ vs, oe.data = .fields vs) (hi : Isa X.K X.mg isa) (hm : X.mg "isinstance" = none)
    (ha : EV (X.suite a ((a, oe) :: pn)) W e me) (hcs : EVA (X.suite a ((a, oe) :: pn)) W cs mcs) (hg : Gl (X.suite a ((a, oe) :: pn)) "isinstance" := by exact rfl)
    (he : starEach [e, .Tuple cs kd tp] X.env = (false, eval e X.env) :: starEach [.Tuple cs kd tp] X.env := by rfl) (he2 : starEach [.Tuple cs kd tp] X.env = (false, eval (.Tuple cs kd tp) X.env) :: starEach [] X.env := by rfl) (hpl : (backTo pos (starEach [.Tuple cs kd tp] X.env)).any (·.1) = false := by rfl) :
    EV (X.suite a ((a, oe) :: pn)) W (.Call (.Name "isinstance" p) [e, .Tuple cs kd tp] [] pos) (fun ρ => M.bind (me ρ) fun x => M.bind (mcs ρ) fun ds => dIsT a cls d isa x ds) := by
  have hcall : CallR (X.suite a ((a, oe) :: pn)) (.builtin "isinstance") (fun xs H Q => ∃ D0 : Addr, cls = .ref D0 ∧ ExcC X.K D0 ∧ rIsG X.K D0 a d xs H Q) := fun pins s σ H xs us Q I r ⟨D0, e1, EC, h⟩ => by
    subst e1
    exact call_isG EC hz hf pins s σ H xs us Q I r h
  refine ⟨PE.imp (pe_callB hcall hg hm boot_isinstance (pa_cons ha.pe (pa_cons (pe_tup hcs.pa) pa_nil he2) he) (by decide) (by decide) he hpl) fun σ H Q h => ?_⟩
  obtain ⟨R, ρ, st, S, E, h⟩ := h
  refine ⟨R, ρ, st, S, E, (Post.bind (Rel := Dv X.K X.mg) (Rel2 := Dv X.K X.mg) h).monoQ fun v H1 ⟨R1, st1, x, x1, S1, D1, h1⟩ => ?_⟩
  refine ⟨R1, ρ, st1, S1, E.ext x1, (Post.bind (Rel := DvA X.K X.mg) (Rel2 := Dv X.K X.mg) h1).monoQ fun vs H2 ⟨R2, st2, ds, x2, S2, D2, h2⟩ => ?_⟩
  cases x with
  | err u cls' d' y =>
    unfold dIsT at h2
    dsimp only at h2
    split at h2
    · rename_i hc
      obtain ⟨rfl, rfl, rfl, hl⟩ := hc
      obtain ⟨rfl, ex⟩ := D1
      cases hb : isaAny isa y.cls ds with
      | none => rw [hb] at h2; exact h2.elim
      | some b =>
        rw [hb] at h2
        dsimp only at h2
        cases hb0 : isa y.cls (ds.headD (.dat .none)) with
        | none => rw [hb0] at h2; exact h2.elim
        | some b0 =>
          rw [hb0] at h2
          obtain ⟨D0, cv, m1, EC, _, _⟩ := hi _ _ _ hb0
          have q : X.mg y.cls = some cls' := ex.1
          have e5 : cls' = .ref D0 := by
            rw [m1] at q
            exact (Option.some.inj q).symm
          obtain ⟨cvs, hu, hk⟩ := isaAny_kit hi m1 D2 hb
          exact ⟨by rw [D2.len, sizeLine_eq]; omega, fun p hp => ⟨D0, e5, EC, exc_dict ((ex.stays x2.stays).stays (Ext.new hp).stays), .inr ⟨p, vs, cvs, b, rfl, upd_same, hu, hk, h2.okN S2 hp (Dv.bl b)⟩⟩⟩
    · exact h2.elim
  | _ => exact h2.elim
end
theorem dIsG_ap (a : Addr) (cls : Value) (d : Option Addr) (isa : Str → D → Option Bool) (x : Exc) (c : D) (b : Bool) (st : Sto) (h : isa x.cls c = some b) : dIsG a cls d isa [.err (.ref a) cls d x, c] st = .ok (.dat (.bool b)) st := by
  show (if V.ref a = V.ref a ∧ cls = cls ∧ d = d then _ else _) = _
  rw [if_pos ⟨rfl, rfl, rfl⟩, h]
theorem dIsT_ap (a : Addr) (cls : Value) (d : Option Addr) (isa : Str → D → Option Bool) (x : Exc) (c : D) (r : List D) (b b0 : Bool) (st : Sto) (h : isaAny isa x.cls (c :: r) = some b) (h0 : isa x.cls c = some b0) (hl : r.length ≤ 999) : dIsT a cls d isa (.err (.ref a) cls d x) (c :: r) st = .ok (.dat (.bool b)) st := by
  unfold dIsT
  dsimp only
  rw [if_pos ⟨rfl, rfl, rfl, by rw [List.length_cons]; omega⟩, h]
  dsimp only [List.headD]
  rw [h0]
end Ev
set_option Elab.async false
set_option linter.all false
set_option maxRecDepth 100000
set_option maxHeartbeats 1000000
/-! Ev22: what the top has written of such classes. -/
namespace Ev
open PySem PySem.Spec PyProof.Rows L2
variable [τ : Tbl]
section
variable {K : PySem.W.Frag} {mg : Str → Option Value} {h : Heap}
theorem bsg_ArithmeticError (no : mg "ArithmeticError" = none) (it : PySem.W.findCls K (.type "ArithmeticError") (.type "type") "__init__" = some (.val (.builtin "ArithmeticError.__init__"))) : BsG K mg "ArithmeticError" "ArithmeticError" "ArithmeticError.__new__" "ArithmeticError.__init__" [.type "ArithmeticError", .type "Exception", .type "BaseException", .type "object"] :=
  ⟨PySem.F.excBase_ArithmeticError, PySem.F.store_ArithmeticError, no, PyProof.Rows.Boot.«ArithmeticError», by decide, by decide, by kernel_rfl, by decide +kernel, by decide +kernel, it⟩
theorem bsg_IndexError (no : mg "IndexError" = none) (it : PySem.W.findCls K (.type "IndexError") (.type "type") "__init__" = some (.val (.builtin "IndexError.__init__"))) : BsG K mg "IndexError" "IndexError" "IndexError.__new__" "IndexError.__init__" [.type "IndexError", .type "LookupError", .type "Exception", .type "BaseException", .type "object"] :=
  ⟨PySem.F.excBase_IndexError, PySem.F.store_IndexError, no, PyProof.Rows.Boot.«IndexError», by decide, by decide, by kernel_rfl, by decide +kernel, by decide +kernel, it⟩
theorem exi_mk (X : K.In h) (G : h.Ns mainGlobals mg) {x f : Str} {C fI : Addr} {bmB : List Value} {B newId initId : String} {st : Stmt} {qual sx px bx : Str} {oc : Value} {od an : Option Addr} {osl : Array (Option Value)} {kV doc pm cdv ct : Value}
    (a : PySem.W.nsIn K mainGlobals x = some (some (.ref C))) (o1 : PySem.W.excInitIn K C bmB newId = true) (o2 : PySem.W.excOver K C bmB = true) (o3 : PySem.W.hasDictIn K C = true) (o4 : PySem.W.findIn K (.ref C) "__setattr__" = some (some (.builtin "object.__setattr__")))
    (o5 : PySem.W.subIn K (.ref C) (.type "BaseException") = some true) (o6 : PySem.W.typeIn K (.ref C) = some (.type "type")) (o7 : PySem.W.keepIn K (.ref C) = true) (tk : PySem.W.takerIn K C f = some none) (fi : PySem.W.findIn K (.ref C) "__init__" = some (some (.ref fI)))
    (ti : PySem.W.typeIn K (.ref fI) = some (.type "function")) (l : K.lookup fI = some ⟨oc, od, .func (PySem.W.fnOf "__init__" qual (defArgs st) (defBody st) (defScope st) .none kV doc pm an cdv ct), osl⟩) (c : PySem.W.codeIn K cdv qual = true) (kf : PySem.W.keepIn K (.ref fI) = true)
    (hb : ∀ (kV doc pm : Value) (an : Option Addr) (cdv ct : Value) (us : List Value), us.length = [sx, px].length → bindArgs (PySem.W.fnOf "__init__" qual (defArgs st) (defBody st) (defScope st) .none kV doc pm an cdv ct) ⟨us, []⟩ = pure ([sx, px].zip us))
    (BG : BsG K mg bx B newId initId bmB) (IS : IniS st sx px f bx) : ExI K mg x f := by
  have F := fun_mk l c kf
  exact ⟨C, fI, _, bmB, B, newId, initId, st, qual, sx, px, bx, PySem.W.mg_of X G a, ⟨o1, o2, o3, o4, o5, o6, o7⟩, tk, fi, ti, F, F.binds hb, BG, IS⟩
theorem fldc_mk (X : K.In h) (G : h.Ns mainGlobals mg) {x f : Str} {C : Addr} (a : PySem.W.nsIn K mainGlobals x = some (some (.ref C))) (x1 : PySem.W.findIn K (.ref C) "__getattribute__" = some (some (.builtin "BaseException.__getattribute__")))
    (x2 : PySem.W.findIn K (.ref C) "__getattr__" = some none) (x3 : PySem.W.subIn K (.ref C) (.type "BaseException") = some true) (x4 : PySem.W.hasDictIn K C = true) (x5 : PySem.W.findIn K (.ref C) f = some none) : FldC K mg x f :=
  ⟨C, PySem.W.mg_of X G a, ⟨x1, x2, x3, x4⟩, x5⟩
end
noncomputable def mIsT (a : Addr) (cls : Value) (d : Option Addr) (isa : Str → D → Option Bool) (me : Env → M D) (mcs : Env → M (List D)) : Env → M D := fun ρ => M.bind (me ρ) fun x => M.bind (mcs ρ) fun ds => dIsT a cls d isa x ds
@[simp] theorem mIsT_ap (a : Addr) (cls : Value) (d : Option Addr) (isa : Str → D → Option Bool) (me : Env → M D) (mcs : Env → M (List D)) (ρ : Env) (st : Sto) : mIsT a cls d isa me mcs ρ st = (me ρ st).then fun x => M.bind (mcs ρ) fun ds => dIsT a cls d isa x ds := rfl
theorem fnV_rec {P : Program} {w : World} {K : PySem.W.Frag} {mg : Str → Option Value} {base : Heap} {x : Str} {st : Stmt} {N ps : List Str} {j : Nat} {body : (List D → M D) → SM} {give : Nat → D → Sto → Res D} (hgive : GiveOk give) (D1 : DfV K mg x st) (S : FnScope N ps (defScope st))
    (hb : ∀ (k : Nat) (F : List D → M D), FnV P w K mg base (j + k) x ps F → ∀ (f : Addr) (cdv : Value) (A : Around) (outer : List PySem.Env) (s : Shared) (H : Hp) (E : XK), GC (cxOf (L2.CX P w) P w K mg base N x (defScope st) f cdv A outer s H E) (fun c d _ H' => E c d H') (j + k) →
      EVSs (cxOf (L2.CX P w) P w K mg base N x (defScope st) f cdv A outer s H E) (fun c d _ H' => E c d H') (defBody st) (body F)) :
    ∀ k : Nat, FnV P w K mg base (j + k) x ps (recB give N.length ps.length body k)
  | 0 => by
    obtain ⟨f, fd, F, hm⟩ := D1
    refine ⟨f, fd, ⟨fun ds st _ => rfl, fun A outer s H args us vs Q E _ _ _ _ _ hsp => ?_⟩, hm, F.kp, ?_⟩
    · obtain ⟨R, sto, ds, _, _, hp⟩ := hsp
      exact hp.elim
    · obtain ⟨oc, od, kV, doc, pm, an, cdv, ct, osl, _, lk, _⟩ := F.ex
      exact ⟨oc, od, osl, lk⟩
  | k + 1 => fnV_of hgive D1 S fun f cdv A outer s H E C => hb k _ (fnV_rec hgive D1 S hb k) f cdv A outer s H E C
end Ev
set_option Elab.async false
set_option linter.all false
set_option maxRecDepth 100000
set_option maxHeartbeats 4000000
/-! Ev23: xs.pop(i); list(range(n)) and [x] * n that change; enumerate of a list, of a tuple. -/
namespace Ev
open PySem PySem.Spec PyProof.Rows L2
open Classical
variable [τ : Tbl]

section
variable {X : Cx} {W : WX} {o e : Expr} {es : List Expr} {mo : Env → M D} {ms : Env → M (List D)} {apos cpos : Pos}
theorem m_pop (ho : EV X W o mo) (ha : EVA X W (e :: es) ms)
    (hbase : attributeBase o "pop" X.env (eval o X.env) = eval o X.env := by rfl)
    (hfew : ((backTo cpos (starEach (e :: es) X.env)).all (fun x => !x.1) && (backToKw cpos (keywordEach [] X.env)).all (fun x => x.1.isSome)
      && decide ((e :: es).length + ([] : List Keyword).length + (if ([] : List Keyword).isEmpty then 0 else 1) < 30)) = true := by rfl)
    (hline : (apos.endLine == cpos.line) = true := by rfl) (hs : starEach (e :: es) X.env = (false, eval e X.env) :: starEach es X.env := by rfl) (hplain : (backTo cpos (starEach es X.env)).any (·.1) = false := by rfl) :
    EV X W (.Call (.Attribute o "pop" apos) (e :: es) [] cpos) (mMt dPopAt mo ms) := ev_mt PySem.F.plainAttrs_list PySem.F.slot_list_pop PySem.F.type_list_pop mt_popAt ok_popAt ho ha hbase hfew hline hs hplain
end

/-! ### list(range(n)) that changes -/
def rgD (n : Int) : List PyData := (List.range n.toNat).map fun i : Nat => PyData.int (i : Int)
def locRg (d : D) : M D := fun st =>
  match d with
  | .dat (.int n) => if -16777216 ≤ n ∧ n ≤ 16777216 then .ok (.loc st.length) (st ++ [.lst (rgD n)]) else .bad
  | _ => .bad
theorem pda_ints {K : PySem.W.Frag} {U : Addr → Prop} {H : Hp} (f : Nat → Int) : ∀ l : List Nat, PdA K U H (l.map fun i => V.int (f i)) (l.map fun i => PyData.int (f i))
  | [] => .nil
  | _ :: r => .cons (.int _) (pda_ints f r)
section
variable {X : Cx} {W : WX} {e : Expr} {m : Env → M D} {p p' pos pos' : Pos}
theorem n_locRg (hc : X.calm = true) (hm : X.mg "list" = none) (hr : X.mg "range" = none) (h : EV X W e m) (hg : Gl X "list" := by exact rfl) (hg' : Gl X "range" := by exact rfl)
    (na : starEach [e] X.env = (false, eval e X.env) :: starEach [] X.env := by rfl)
    (nb : starEach [.Call (.Name "range" p') [e] [] pos'] X.env = (false, eval (.Call (.Name "range" p') [e] [] pos') X.env) :: starEach [] X.env := by rfl) :
    EV X W (.Call (.Name "list" p) [.Call (.Name "range" p') [e] [] pos'] [] pos) (m1 locRg m) := by
  refine ⟨PE.imp (pe_listRg hc hg hm (prg_1 hg' hr h.pe na) nb) fun σ H Q hh => ?_⟩
  obtain ⟨R, ρ, st, S, E, hh⟩ := hh
  refine ⟨R, ρ, st, S, E, (Post.bind (Rel := Dv X.K X.mg) (Rel2 := Dv X.K X.mg) hh).monoQ fun v H1 ⟨R1, st1, d, x1, S1, D1, h1⟩ => ?_⟩
  unfold locRg at h1
  split at h1
  · rename_i n
    cases D1
    split at h1
    · rename_i z
      refine ⟨n, rfl, ⟨by decide, by decide, by omega, by omega, ?_⟩, fun q hq => ?_⟩
      · omega
      · have e1 : rgV 0 n = (List.range n.toNat).map fun i : Nat => V.int ((i : Nat) : Int) := by
          unfold rgV
          rw [Int.sub_zero]
          simp only [Int.zero_add]
        rw [e1]
        have pa : PdA X.K (Own R1 st1) H1 ((List.range n.toNat).map fun i : Nat => V.int ((i : Nat) : Int)) (rgD n) := pda_ints (fun i => (i : Int)) _
        obtain ⟨x2, S2⟩ := ext_loc S1 hq pa
        exact h1 _ _ _ x2 S2 ⟨q, put_at S1, rfl⟩
    · exact h1.elim
  · exact h1.elim
end

/-! ### [x, ..] * n that changes -/
def dMulLoc (d e : D) : M D := fun st =>
  match dataOf d st, dataOf e st with
  | some (.list xs), some (.int k) => if k ≤ 1000 ∧ -1000 ≤ k ∧ xs.length ≤ 100 then .ok (.loc st.length) (st ++ [.lst (repD k.toNat xs)]) else .bad
  | _, _ => .bad
theorem ok_mulLoc {K : PySem.W.Frag} {mg : Str → Option Value} : OpOk K mg rRep dMulLoc := by
  intro R H st v w d e Q W S h1 h2 h
  unfold dMulLoc at h
  split at h
  · rename_i e1 e2
    obtain ⟨a, vs, rfl, ha, pa⟩ := h1.dataL S e1
    have b := h2.dataI e2
    subst b
    split at h
    · rename_i z
      obtain ⟨z1, z2, z3⟩ := z
      refine ⟨a, _, vs, rfl, rfl, ha, by omega, by omega, ?_, fun p hp => ?_⟩
      · rw [pa.len, sizeLine_eq]
        exact Nat.le_trans (Nat.mul_le_mul z3 (show _ ≤ 1000 by omega)) (by decide)
      · obtain ⟨x2, S2⟩ := ext_loc S hp (pa.rep _)
        exact h _ _ _ x2 S2 ⟨p, put_at S, rfl⟩
    · exact h.elim
  · exact h.elim
theorem x_mulLoc {X : Cx} {W : WX} {a b : Expr} {ma mb : Env → M D} {pos : Pos} (ha : EV X W a ma) (hb : EV X W b mb) : EV X W (.BinOp a .Mult b pos) (m2 dMulLoc ma mb) := ev_bin op_rep ok_mulLoc ha hb

/-! ### enumerate -/
def enFrom : Nat → List PyData → List D
  | _, [] => []
  | k, x :: r => .dat (.tuple [.int (k : Int), x]) :: enFrom (k + 1) r
theorem enFrom_len : ∀ (k : Nat) (xs : List PyData), (enFrom k xs).length = xs.length
  | _, [] => rfl
  | k, _ :: r => by show (enFrom (k + 1) r).length + 1 = r.length + 1; rw [enFrom_len (k + 1) r]
theorem enFrom_at : ∀ (xs : List PyData) (k i : Nat), (enFrom k xs)[i]? = (xs[i]?).map fun x => D.dat (.tuple [.int ((k + i : Nat) : Int), x])
  | [], _, _ => rfl
  | x :: r, k, 0 => rfl
  | x :: r, k, i + 1 => by
    show (enFrom (k + 1) r)[i]? = (r[i]?).map _
    rw [enFrom_at r (k + 1) i, show k + 1 + i = k + (i + 1) by omega]
def enumOf (d : D) : M Src := fun st =>
  match d with
  | .loc n => match st[n]? with
    | some (.lst xs) => .ok ⟨enFrom 0 xs, fun st' => st'[n]? = some (.lst xs)⟩ st
    | _ => .bad
  | .dat (.list xs) => .ok ⟨enFrom 0 xs, fun _ => True⟩ st
  | .dat (.tuple xs) => .ok ⟨enFrom 0 xs, fun _ => True⟩ st
  | _ => .bad
def mEnum (m : Env → M D) : Env → M Src := fun ρ => M.bind (m ρ) enumOf
/-- the tuple at a, each item in a new pair -/
def IteT (K : PySem.W.Frag) (a : Addr) : It :=
  ⟨fun i H => ∃ (xs : List V) (x : V), SqT K H a xs ∧ xs[i]? = some x, fun i H v H' => ∃ T x, v = .ref T ∧ H T = none ∧ H' = upd H T (.tup [.int (i : Nat), x]) ∧ ∀ xs, SqT K H a xs → xs[i]? = some x, fun i H => ∃ xs : List V, SqT K H a xs ∧ xs.length ≤ i⟩
theorem turn_enumT {P : Program} {w : World} {K : PySem.W.Frag} {elts : List Expr} {kk : Nat} {tpos : Pos} (a e it : Addr) :
    Turn P w K (.Tuple elts kk tpos) (IteT K a) [e, it] e (fun i h => (∃ old, IsEnum h e it ((i : Nat) : Int) old) ∧ h.IsTupleIter it a i ∧ e ≠ it) where
  mem := by simp
  obj := fun i h st b hb => by
    obtain ⟨⟨old, he⟩, ⟨o, ho, hc, hd⟩, _⟩ := st
    have e' : b = e ∨ b = it := by simpa using hb
    rcases e' with z | z
    · rw [z]; exact ⟨_, he, fun v q => nomatch q⟩
    · rw [z]; exact ⟨o, ho, fun v q => by rw [hd] at q; cases q⟩
  keep := fun i h h' st k => let ⟨⟨old, he⟩, hi, hne⟩ := st; ⟨⟨old, k e (by simp) _ he⟩, hi.at fun o q => k it (by simp) o q, hne⟩
  item := by
    intro X hP hw hK hc i pins s σ H E I hf st hg
    subst hP hw hK
    obtain ⟨⟨old, he⟩, hit, hne⟩ := st
    obtain ⟨xs, x, hq, hx⟩ := hg
    obtain ⟨its, rv, p, hz⟩ := I.tuple hq
    obtain ⟨u, hu, ru⟩ := rv.get hx
    have hel : e < s.heap.objs.size := Heap.lt_size he
    have hil : it < s.heap.objs.size := by obtain ⟨_, q, _⟩ := hit; exact Heap.lt_size q
    have pt : s.heap.IsTuple a its.toArray := p
    obtain ⟨ot, hot, hct, _⟩ := id pt
    have nit : a ≠ it := fun z => by
      obtain ⟨o, ho, hc', _⟩ := hit
      rw [← z, hot] at ho
      cases ho
      rw [hct] at hc'
      injection hc' with q
      exact absurd q (by decide)
    have nea : e ≠ a := fun z => by
      have h1 := he
      rw [z] at h1
      have h2 := hot.symm.trans h1
      cases h2
      injection hct with q
      exact absurd q (by decide)
    have hlt : i < its.toArray.size := by
      have := List.getElem?_eq_some_iff.mp hu
      obtain ⟨q, _⟩ := this
      simpa using q
    refine wpAny_pyNext_enum_itemD (Draws.tuple (A := X.A.in1) (I.ok.hd hc) it a nit its.toArray) he ⟨hit, pt⟩ hlt hne (by simp [hne, nea]) fun x' h' tk hpx ho hst hT hsz hk => ?_
    obtain ⟨hit', _⟩ := hst
    have hxu : x' = u := by
      have : its[i]? = some x' := by simpa using hpx
      rw [hu] at this
      cases this
      rfl
    subst hxu
    refine ⟨_, rfl, wpAny_letOwnedTupleGo_enum (s := { s with heap := h', toks := tk + 1 }) ho fun h'' he' sb => ?_⟩
    have hT2 : h''.get? s.heap.objs.size = some { cls := .type "tuple", data := .seq #[.int i tk, x'] } := (sb.2 _ (Nat.ne_of_gt hel)).trans hT
    have new : ObjOk X.prog X.w (upd H s.heap.objs.size (.tup [.int (i : Nat), x])) h'' s.heap.objs.size (.tup [.int (i : Nat), x]) :=
      ⟨by show 2 ≤ sizeLine; decide, [.int i tk, x'], .cons ⟨_, rfl⟩ (.cons ru .nil), ⟨_, hT2, rfl, _, rfl⟩⟩
    have I1 : Inv X pins σ (upd H s.heap.objs.size (.tup [.int (i : Nat), x])) { s with heap := h'', toks := tk + 1 } :=
      I.turnedNew (ch := [e, it]) (fun b ob hb q => (sb.2 b (fun z => hb (by simp [z]))).trans (hk b ob (fun z => hb (by simp [z])) (fun z => hb (by simp [z])) q)) hf (Nat.le_refl _) new
    refine ⟨.ref s.heap.objs.size, _, I1, rfl, ⟨_, x, rfl, I.hok.fresh (Nat.le_refl _), rfl, fun ys hy => by rw [I.tuple_inj hy hq]; exact hx⟩, ⟨⟨x', ?_⟩, hit'.at fun o q => (sb.2 it (Ne.symm hne)).trans q, hne⟩, fun b hb => ?_⟩
    · have e1 : ((i + 1 : Nat) : Int) = (i : Int) + 1 := by omega
      rw [e1]; exact he'
    · have hb' : b < s.heap.objs.size := by
        have e' : b = e ∨ b = it := by simpa using hb
        rcases e' with z | z
        · rw [z]; exact hel
        · rw [z]; exact hil
      rw [upd_ne (Nat.ne_of_lt hb')]
      exact (hf b hb).1
  done := by
    intro X hP hw hK hc i pins s σ H E I hf st hg
    subst hP hw hK
    obtain ⟨⟨old, he⟩, hit, hne⟩ := st
    obtain ⟨xs, hq, hx⟩ := hg
    obtain ⟨its, rv, p, hz⟩ := I.tuple hq
    obtain ⟨f0, f1, f2, f3, f4, f5⟩ := hf it (by simp)
    have hl := rv.length
    have pt : s.heap.IsTuple a its.toArray := p
    obtain ⟨ot, hot, hct, _⟩ := id pt
    have nit : a ≠ it := fun z => by
      obtain ⟨o, ho, hc', _⟩ := hit
      rw [← z, hot] at ho
      cases ho
      rw [hct] at hc'
      injection hc' with q
      exact absurd q (by decide)
    have hT : s.TypeIs (.ref e) "enumerate" := ⟨_, he, rfl⟩
    unfold pyNext
    refine wpAny_bind (wpAny_attempt (wpAny_callSpecial?_slot (name := Str.ofString "__next__") hT PySem.F.slot_enumerate_next
      (wpAny_call_entry PySem.F.slot_enumerate_next hT PySem.F.entry_enumerate_next ?_ (PySem.F.args_enumerate_next_1 _))))
    show wpAny _ _ (field (.ref e) 2 >>= _) _ _ _
    refine wpAny_bind (wpAny_field he rfl (x := .ref it) rfl ?_)
    refine wpAny_bind (wpAny_nextOf_tuple_end (show X.A.in1.handled = none from I.ok.hd hc) hit pt (by simp; omega) fun h' ex eb hx' => ?_)
    obtain ⟨o, ho, hc'⟩ := hx'
    refine wpAny_bind (wpAny_isInstance (T := "StopIteration") (b := true) ⟨o, ho, hc'⟩ isSubtype_stop ?_)
    exact wpAny_pure ⟨rfl, I.turned (t' := s.toks) (fun b o hb q => eb b o hb q) f0 f1 f3 f4 f5⟩
  self := fun A i s Q E st h => let ⟨⟨_, he⟩, _⟩ := st; wpAny_pyIter_enum he h

theorem meets_enum1 {v : Value} {o : Obj} {H : Heap → Prop} (B : Begins v o H) :
    Meets (Builtin.«enumerate.__new__» ⟨[.type "enumerate", v], []⟩) (fun _ R s => H s.heap ∧
      R (.ok (.ret (.ref (s.heap.push o).objs.size))) { s with heap := (s.heap.push o).push { cls := .type "enumerate", data := .fields #[.none, .bool false, .ref s.heap.objs.size, rawInt 0, .none, .none] } }) :=
  .of_wp fun prog w A R s h => by
    obtain ⟨hp, g, d, tk, os⟩ := s; obtain ⟨h1, h⟩ := h
    have hsub := sub_enumerate
    have q1 : ∀ {A' : Around} {E : Value → Shared → Prop} {Q : Value → Shared → Prop}, Q (.ref hp.objs.size) ⟨hp.push o, g, d, tk, os⟩ → wpAny (model prog w) A' (pyIter v) Q E ⟨hp, g, d, tk, os⟩ :=
      fun q => B.iter prog w _ _ ⟨hp, g, d, tk, os⟩ _ h1 q
    wp_walk using q1
    refine wpAny_stack_any fun st => wpAny_pure ?_
    split
    · rename_i c _ _ _ _ _
      cases (c == Value.type "enumerate")
      · wp_walk using q1
        exact ⟨_, rfl, h⟩
      · wp_walk using q1
        exact ⟨_, rfl, h⟩
    · wp_walk using q1
      exact ⟨_, rfl, h⟩
theorem enum1_begins {prog : Program} {w : World} {A : Around} {E : Value → Shared → Prop} {s : Shared} {v : Value} {o : Obj} {H : Heap → Prop} {Q : Value → Shared → Prop} (B : Begins v o H) (h1 : H s.heap)
    (h : ∀ h', IsEnum h' (s.heap.objs.size + 1) s.heap.objs.size 0 .none → h'.get? s.heap.objs.size = some o → h'.objs.size = s.heap.objs.size + 2 →
      (∀ b o, s.heap.get? b = some o → h'.get? b = some o) → Q (.ref (s.heap.objs.size + 1)) { s with heap := h' }) :
    wpAny (model prog w) A (call (.type "enumerate") [v]) Q E s := by
  refine callType_new PySem.F.called_enumerate (by decide) (PySem.F.typeCall_enumerate_1 _) (PySem.F.newCall_enumerate_1 _) (fun obj => PySem.F.args_object_init_2 obj _) PySem.F.entry_enumerate_new
    (meets_enum1 B) ⟨h1, ?_⟩
  have hz : (s.heap.push o).objs.size = s.heap.objs.size + 1 := Heap.size_push ..
  show _ ∧ _
  rw [hz]
  have he : IsEnum ((s.heap.push o).push { cls := .type "enumerate", data := .fields #[.none, .bool false, .ref s.heap.objs.size, rawInt 0, .none, .none] }) (s.heap.objs.size + 1) s.heap.objs.size 0 .none := by
    have := Heap.get?_push_size (s.heap.push o) (o := { cls := .type "enumerate", data := .fields #[.none, .bool false, .ref s.heap.objs.size, rawInt 0, .none, .none] }) rfl
    rw [hz] at this; exact this
  refine ⟨⟨_, he, rfl⟩, h _ he (Heap.get?_push_of_some _ (Heap.get?_push_size _ B.free)) (by rw [Heap.size_push, hz]) fun b o x => Heap.get?_push_of_some _ (Heap.get?_push_of_some _ x)⟩
section
variable {K : PySem.W.Frag} {mg : Str → Option Value} {R : Rg} {H : Hp} {st : Sto} {a : Addr} {xs : List PyData}
theorem en_yld {R' : Rg} {H' H2 : Hp} {st' : Sto} {x : V} {i : Nat} {vs : List V} (hi : i < xs.length) (S : Sim K R' H' st') (pa : PdA K (Own R' st') H' vs xs) (T : Addr) (u : V) (ex : x = .ref T) (hT : H' T = none) (e2 : H2 = upd H' T (.tup [.int (i : Nat), u])) (hu : vs[i]? = some u) :
    Ext R' H' st' R' H2 st' ∧ Sim K R' H2 st' ∧ ∃ d, (enFrom 0 xs)[i]? = some d ∧ Dv K mg R' st' H2 x d := by
  subst ex e2
  obtain ⟨v, e1, e3⟩ := pa.at_ (i := i) (d := xs[i]) (by simp [hi])
  rw [e1] at hu
  cases hu
  refine ⟨.new hT, S.new hT, .dat (.tuple [.int (i : Nat), xs[i]]), ?_, newTup S hT (.cons (.int _) (.cons e3 .nil))⟩
  rw [enFrom_at, Nat.zero_add]
  simp [hi]
theorem wk_enL {s : Src} (hs : s.items = enFrom 0 xs) (q : ∀ R' H' st', Lat R H st R' H' st' → Sim K R' H' st' → s.ok st' → ∃ vs, SqL K H' a vs ∧ PdA K (Own R' st') H' vs xs) : Wk K mg R st H (Ite K a) s := by
  have hl : s.items.length = xs.length := by rw [hs, enFrom_len]
  refine ⟨fun i R' H' st' hi E S o => ?_, fun R' H' st' E S o => ?_, fun i R' H' st' x H2 hi E S o y => ?_⟩
  · obtain ⟨vs, h1, h2⟩ := q R' H' st' E S o
    have hv : i < vs.length := by rw [h2.len]; omega
    exact ⟨vs, vs[i], h1, by simp [hv]⟩
  · obtain ⟨vs, h1, h2⟩ := q R' H' st' E S o
    exact ⟨vs, h1, by rw [h2.len, hl]; exact Nat.le_refl _⟩
  · obtain ⟨vs, h1, h2⟩ := q R' H' st' E S o
    obtain ⟨T, u, ex, hT, e2, y⟩ := y
    rw [hs]
    exact en_yld (by omega) S h2 T u ex hT e2 (y vs h1)
theorem wk_enT {s : Src} (hs : s.items = enFrom 0 xs) (q : ∀ R' H' st', Lat R H st R' H' st' → Sim K R' H' st' → s.ok st' → ∃ vs, SqT K H' a vs ∧ PdA K (Own R' st') H' vs xs) : Wk K mg R st H (IteT K a) s := by
  have hl : s.items.length = xs.length := by rw [hs, enFrom_len]
  refine ⟨fun i R' H' st' hi E S o => ?_, fun R' H' st' E S o => ?_, fun i R' H' st' x H2 hi E S o y => ?_⟩
  · obtain ⟨vs, h1, h2⟩ := q R' H' st' E S o
    have hv : i < vs.length := by rw [h2.len]; omega
    exact ⟨vs, vs[i], h1, by simp [hv]⟩
  · obtain ⟨vs, h1, h2⟩ := q R' H' st' E S o
    exact ⟨vs, h1, by rw [h2.len, hl]; exact Nat.le_refl _⟩
  · obtain ⟨vs, h1, h2⟩ := q R' H' st' E S o
    obtain ⟨T, u, ex, hT, e2, y⟩ := y
    rw [hs]
    exact en_yld (by omega) S h2 T u ex hT e2 (y vs h1)
theorem enumOf_wk {v : V} {d : D} {Q : It → Hp → Prop} {W : XK} (S : Sim K R H st) (D1 : Dv K mg R st H v d) (h : Post K mg (RelI K mg) R H st (enumOf d st) Q W) :
    ∃ a, v = .ref a ∧ ((∃ ws, SqL K H a ws) ∧ Q (Ite K a) H ∨ (∃ ws, SqT K H a ws) ∧ Q (IteT K a) H) := by
  unfold enumOf at h
  split at h
  · rename_i n
    obtain ⟨a, ha, rfl⟩ := D1
    split at h
    · rename_i xs z
      obtain ⟨ws, e1, e2⟩ := S.at_ n a xs ha z
      exact ⟨a, rfl, .inl ⟨⟨ws, .inl (.inl e1)⟩, h.okR S (wk_enL rfl fun R' H' st' E S' o => by
        obtain ⟨ws', e3, e4⟩ := S'.at_ n a xs (E.at_ n a ha) o
        exact ⟨ws', .inl (.inl e3), e4⟩)⟩⟩
    · exact h.elim
  · have D2 : Pd K (Own R st) H v (.list _) := D1
    cases D2 with
    | lst h1 h2 h3 => exact ⟨_, rfl, .inl ⟨⟨_, .inl (.inl h1)⟩, h.okR S (wk_enL rfl fun R' H' st' E _ _ => ⟨_, .inl (.inl (E.stays.keep _ _ h1 h2 (fun _ z => by cases z))), h3.stays E.stays⟩)⟩⟩
  · have D2 : Pd K (Own R st) H v (.tuple _) := D1
    cases D2 with
    | tup h1 h3 => exact ⟨_, rfl, .inr ⟨⟨_, h1.seq⟩, h.okR S (wk_enT rfl fun R' H' st' E _ _ => ⟨_, (h1.stays E.stays).seq, h3.stays E.stays⟩)⟩⟩
  · exact h.elim
end
section
variable {X : Cx} {W : WX} {l : Expr} {m : Env → M D} {p pos tpos : Pos} {elts : List Expr} {kk : Nat}
theorem evi_enum (hm : X.mg "enumerate" = none) (hl : EV X W l m) (hg : Gl X "enumerate" := by exact rfl) (hs : starEach [l] X.env = (false, eval l X.env) :: starEach [] X.env := by rfl) :
    EVI X W (.Tuple elts kk tpos) (.Call (.Name "enumerate" p) [l] [] pos) (mEnum m) := by
  refine ⟨⟨fun pins s σ H Rr I hh => ?_⟩⟩
  obtain ⟨R, ρ, st, S, E, hh⟩ := hh
  refine Call_ (ld_blt I hg hm boot_enumerate (PyProof.Rows.callWith_type1 (args_cons (thn (hl.pe.run pins s σ H (fun v H1 => ∃ a, v = .ref a ∧ ((∃ ws, SqL X.K H1 a ws) ∧ Rr (Ite X.K a) H1 ∨ (∃ ws, SqT X.K H1 a ws) ∧ Rr (IteT X.K a) H1)) I
    ⟨R, ρ, st, S, E, (Post.bind (Rel := Dv X.K X.mg) (Rel2 := RelI X.K X.mg) hh).monoQ fun v H1 ⟨R1, st1, d, x1, S1, D1, h1⟩ => enumOf_wk S1 D1 h1⟩) fun v s1 ⟨x, H1, I1, r1, a, ex, q⟩ => args_nil ?_) hs) hs))
  subst ex
  cases r1
  have fin : ∀ (h' : Heap), (∀ b o, s1.heap.get? b = some o → h'.get? b = some o) → Inv X pins σ H1 { s1 with heap := h' } := fun h' hk => I1.kept (t' := s1.toks) hk
  have mem : ∀ b, b ∈ [s1.heap.objs.size + 1, s1.heap.objs.size] → s1.heap.objs.size ≤ b := fun b hb => by
    have e' : b = s1.heap.objs.size + 1 ∨ b = s1.heap.objs.size := by simpa using hb
    rcases e' with z | z
    · rw [z]; exact Nat.le_add_right _ _
    · rw [z]; exact Nat.le_refl _
  rcases q with ⟨⟨ws, hq⟩, q⟩ | ⟨⟨ws, hq⟩, q⟩
  · obtain ⟨its, rv, p', hz⟩ := I1.list hq
    refine call_enumerate_list p'.isList fun h' he hit hsz hk => wpAny_pyIter_enum he ?_
    exact ⟨s1.heap.objs.size + 1, [s1.heap.objs.size + 1, s1.heap.objs.size], _, _, H1, rfl, fin h' hk, turn_enum a (s1.heap.objs.size + 1) s1.heap.objs.size, ⟨⟨.none, he⟩, hit, Nat.succ_ne_self _⟩, fun b hb => I1.fpOk (mem b hb) (I1.hok.fresh (mem b hb)), q⟩
  · obtain ⟨its, rv, p', hz⟩ := I1.tuple hq
    refine enum1_begins (begins_tuple a its.toArray) (show s1.heap.IsTuple a its.toArray from p') fun h' he hit hsz hk => wpAny_pyIter_enum he ?_
    exact ⟨s1.heap.objs.size + 1, [s1.heap.objs.size + 1, s1.heap.objs.size], _, _, H1, rfl, fin h' hk, turn_enumT a (s1.heap.objs.size + 1) s1.heap.objs.size, ⟨⟨.none, he⟩, ⟨_, hit, rfl, rfl⟩, Nat.succ_ne_self _⟩, fun b hb => I1.fpOk (mem b hb) (I1.hok.fresh (mem b hb)), q⟩
end
end Ev
set_option Elab.async false
set_option linter.all false
set_option maxRecDepth 100000
set_option maxHeartbeats 4000000
/-! Ev24: min and max of a list of numbers; zip of two lists, of two tuples. -/
namespace Ev
open PySem PySem.Spec PyProof.Rows L2
open Classical
variable [τ : Tbl]
def minI : List Int → Int
  | [] => 0
  | x :: r => if r = [] then x else if x ≤ minI r then x else minI r
def maxI : List Int → Int
  | [] => 0
  | x :: r => if r = [] then x else if maxI r ≤ x then x else maxI r
theorem minI_ok : ∀ ns : List Int, ns ≠ [] → minI ns ∈ ns ∧ ∀ y ∈ ns, minI ns ≤ y
  | [], h => absurd rfl h
  | x :: r, _ => by
    unfold minI
    by_cases hr : r = []
    · rw [if_pos hr, hr]
      exact ⟨List.mem_cons_self, fun y hy => by rw [List.mem_singleton.mp hy]; exact Int.le_refl _⟩
    · obtain ⟨h1, h2⟩ := minI_ok r hr
      rw [if_neg hr]
      split
      · rename_i q
        exact ⟨List.mem_cons_self, fun y hy => (List.mem_cons.mp hy).elim (fun z => by rw [z]; exact Int.le_refl _) fun z => Int.le_trans q (h2 y z)⟩
      · rename_i q
        exact ⟨List.mem_cons_of_mem _ h1, fun y hy => (List.mem_cons.mp hy).elim (fun z => by rw [z]; omega) (h2 y)⟩
theorem maxI_ok : ∀ ns : List Int, ns ≠ [] → maxI ns ∈ ns ∧ ∀ y ∈ ns, y ≤ maxI ns
  | [], h => absurd rfl h
  | x :: r, _ => by
    unfold maxI
    by_cases hr : r = []
    · rw [if_pos hr, hr]
      exact ⟨List.mem_cons_self, fun y hy => by rw [List.mem_singleton.mp hy]; exact Int.le_refl _⟩
    · obtain ⟨h1, h2⟩ := maxI_ok r hr
      rw [if_neg hr]
      split
      · rename_i q
        exact ⟨List.mem_cons_self, fun y hy => (List.mem_cons.mp hy).elim (fun z => by rw [z]; exact Int.le_refl _) fun z => Int.le_trans (h2 y z) q⟩
      · rename_i q
        exact ⟨List.mem_cons_of_mem _ h1, fun y hy => (List.mem_cons.mp hy).elim (fun z => by rw [z]; omega) (h2 y)⟩
def dMin1 : D → M D := itemsOf (onInts fun ns => if ns = [] then M.bad else retI (minI ns))
def dMax1 : D → M D := itemsOf (onInts fun ns => if ns = [] then M.bad else retI (maxI ns))
section
variable {K : PySem.W.Frag} {mg : Str → Option Value}
theorem ok_min1 : CallOk K mg (rMin K) (on1 dMin1) := by
  intro R H st vs ds Q W S hd h
  obtain ⟨v, d, rfl, rfl, h1, h⟩ := ok1 hd h
  obtain ⟨a, vs, xs, rfl, ha, pa, h⟩ := okIt S h1 h
  obtain ⟨bs, e, h⟩ := okIs h
  have q := intsOf_vals pa e
  subst q
  by_cases hn : bs = []
  · rw [if_pos hn] at h; exact h.elim
  · rw [if_neg hn] at h
    obtain ⟨m1, m2⟩ := minI_ok bs hn
    refine ⟨a, bs, rfl, .inl (.inl ha), List.length_pos_iff.mpr hn, fun m hm hy => ?_⟩
    have e : m = minI bs := Int.le_antisymm (hy _ m1) (m2 m hm)
    rw [e]
    exact h.okR S (Dv.int _)
theorem ok_max1 : CallOk K mg (rMax K) (on1 dMax1) := by
  intro R H st vs ds Q W S hd h
  obtain ⟨v, d, rfl, rfl, h1, h⟩ := ok1 hd h
  obtain ⟨a, vs, xs, rfl, ha, pa, h⟩ := okIt S h1 h
  obtain ⟨bs, e, h⟩ := okIs h
  have q := intsOf_vals pa e
  subst q
  by_cases hn : bs = []
  · rw [if_pos hn] at h; exact h.elim
  · rw [if_neg hn] at h
    obtain ⟨m1, m2⟩ := maxI_ok bs hn
    refine ⟨a, bs, rfl, .inl (.inl ha), List.length_pos_iff.mpr hn, fun m hm hy => ?_⟩
    have e : m = maxI bs := Int.le_antisymm (m2 m hm) (hy _ m1)
    rw [e]
    exact h.okR S (Dv.int _)
end
section
variable {X : Cx} {W : WX} {e : Expr} {es : List Expr} {ms : Env → M (List D)} {pos p : Pos}
theorem n_min1 (hc : X.calm = true) (hm : X.mg "min" = none) (ha : EVA X W (e :: es) ms) (hg : Gl X "min" := by exact rfl) (he : starEach (e :: es) X.env = (false, eval e X.env) :: starEach es X.env := by rfl) (hpl : (backTo pos (starEach es X.env)).any (·.1) = false := by rfl) : EV X W (.Call (.Name "min" p) (e :: es) [] pos) (mC (on1 dMin1) ms) := ev_callB (cr_min hc) ok_min1 hg hm boot_min ha (by decide) (by decide) he hpl
theorem n_max1 (hc : X.calm = true) (hm : X.mg "max" = none) (ha : EVA X W (e :: es) ms) (hg : Gl X "max" := by exact rfl) (he : starEach (e :: es) X.env = (false, eval e X.env) :: starEach es X.env := by rfl) (hpl : (backTo pos (starEach es X.env)).any (·.1) = false := by rfl) : EV X W (.Call (.Name "max" p) (e :: es) [] pos) (mC (on1 dMax1) ms) := ev_callB (cr_max hc) ok_max1 hg hm boot_max ha (by decide) (by decide) he hpl
end

/-! ### zip -/
def zipD (xs ys : List PyData) : List D := (xs.zip ys).map fun p => D.dat (.tuple [p.1, p.2])
/-- a list's items, and when they stay -/
def seqL (d : D) (st : Sto) : Option (List PyData × (Sto → Prop)) :=
  match d with
  | .loc n => match st[n]? with
    | some (.lst xs) => some (xs, fun st' => st'[n]? = some (.lst xs))
    | _ => none
  | .dat (.list xs) => some (xs, fun _ => True)
  | _ => none
def zipOf : List D → M Src
  | [.dat (.tuple xs), .dat (.tuple ys)] => fun st => .ok ⟨zipD xs ys, fun _ => True⟩ st
  | [d, e] => fun st => match seqL d st, seqL e st with
    | some a, some b => .ok ⟨zipD a.1 b.1, fun s => a.2 s ∧ b.2 s⟩ st
    | _, _ => .bad
  | _ => M.bad
def mZip (m : Env → M (List D)) : Env → M Src := fun ρ => M.bind (m ρ) zipOf
theorem zipD_len (xs ys : List PyData) : (zipD xs ys).length = min xs.length ys.length := by
  unfold zipD
  rw [List.length_map, List.length_zip]
theorem zipD_at {xs ys : List PyData} {i : Nat} {x y : PyData} (h1 : xs[i]? = some x) (h2 : ys[i]? = some y) : (zipD xs ys)[i]? = some (.dat (.tuple [x, y])) := by
  unfold zipD
  rw [List.getElem?_map, List.getElem?_zip_eq_some (z := (x, y)) |>.mpr ⟨h1, h2⟩] <;> rfl
section
variable {K : PySem.W.Frag} {mg : Str → Option Value} {R : Rg} {H : Hp} {st : Sto}
theorem seqL_ok {v : V} {d : D} {a : List PyData × (Sto → Prop)} (S : Sim K R H st) (D1 : Dv K mg R st H v d) (e : seqL d st = some a) :
    ∃ p, v = .ref p ∧ (∃ ws, SqL K H p ws) ∧ ∀ R' H' st', Lat R H st R' H' st' → Sim K R' H' st' → a.2 st' → ∃ vs, SqL K H' p vs ∧ PdA K (Own R' st') H' vs a.1 := by
  unfold seqL at e
  split at e
  · rename_i n
    obtain ⟨p, hp, rfl⟩ := D1
    split at e
    · rename_i xs z
      cases e
      obtain ⟨ws, e1, e2⟩ := S.at_ n p xs hp z
      exact ⟨p, rfl, ⟨ws, .inl (.inl e1)⟩, fun R' H' st' E S' o => by
        obtain ⟨ws', e3, e4⟩ := S'.at_ n p xs (E.at_ n p hp) o
        exact ⟨ws', .inl (.inl e3), e4⟩⟩
    · cases e
  · cases e
    have D2 : Pd K (Own R st) H v (.list _) := D1
    cases D2 with
    | lst h1 h2 h3 => exact ⟨_, rfl, ⟨_, .inl (.inl h1)⟩, fun R' H' st' E _ _ => ⟨_, .inl (.inl (E.stays.keep _ _ h1 h2 (fun _ z => by cases z))), h3.stays E.stays⟩⟩
  · cases e
theorem zip_yld {R' : Rg} {H' H2 : Hp} {st' : Sto} {x : V} {i : Nat} {vs ws : List V} {xs ys : List PyData} (hi : i < (zipD xs ys).length) (S : Sim K R' H' st') (pa : PdA K (Own R' st') H' vs xs) (pb : PdA K (Own R' st') H' ws ys) (T : Addr) (u v : V) (ex : x = .ref T) (hT : H' T = none) (e2 : H2 = upd H' T (.tup [u, v])) (hu : vs[i]? = some u) (hv : ws[i]? = some v) :
    Ext R' H' st' R' H2 st' ∧ Sim K R' H2 st' ∧ ∃ d, (zipD xs ys)[i]? = some d ∧ Dv K mg R' st' H2 x d := by
  subst ex e2
  rw [zipD_len] at hi
  obtain ⟨u', e1, e3⟩ := pa.at_ (i := i) (d := xs[i]'(by omega)) (List.getElem?_eq_getElem _)
  obtain ⟨v', f1, f3⟩ := pb.at_ (i := i) (d := ys[i]'(by omega)) (List.getElem?_eq_getElem _)
  rw [e1] at hu
  cases hu
  rw [f1] at hv
  cases hv
  exact ⟨.new hT, S.new hT, .dat (.tuple [xs[i]'(by omega), ys[i]'(by omega)]), zipD_at (List.getElem?_eq_getElem _) (List.getElem?_eq_getElem _), newTup S hT (.cons e3 (.cons f3 .nil))⟩
theorem wk_zipL {s : Src} {a b : Addr} {xs ys : List PyData} (hs : s.items = zipD xs ys) (q : ∀ R' H' st', Lat R H st R' H' st' → Sim K R' H' st' → s.ok st' → ∃ vs ws, (SqL K H' a vs ∧ PdA K (Own R' st') H' vs xs) ∧ SqL K H' b ws ∧ PdA K (Own R' st') H' ws ys) : Wk K mg R st H (Itz K a b) s := by
  have hl : s.items.length = min xs.length ys.length := by rw [hs, zipD_len]
  refine ⟨fun i R' H' st' hi E S o => ?_, fun R' H' st' E S o => ?_, fun i R' H' st' x H2 hi E S o y => ?_⟩
  · obtain ⟨vs, ws, ⟨h1, h2⟩, h3, h4⟩ := q R' H' st' E S o
    have hv : i < vs.length := by rw [h2.len]; omega
    have hw : i < ws.length := by rw [h4.len]; omega
    exact ⟨vs, ws, vs[i], ws[i], h1, h3, by simp [hv], by simp [hw]⟩
  · obtain ⟨vs, ws, ⟨h1, h2⟩, h3, h4⟩ := q R' H' st' E S o
    exact ⟨vs, ws, h1, h3, by rw [h2.len, h4.len, hl]; omega⟩
  · obtain ⟨vs, ws, ⟨h1, h2⟩, h3, h4⟩ := q R' H' st' E S o
    obtain ⟨T, u, v, ex, hT, e2, y1, y2⟩ := y
    rw [hs] at hi ⊢
    exact zip_yld hi S h2 h4 T u v ex hT e2 (y1 vs h1) (y2 ws h3)
theorem wk_zipT {s : Src} {a b : Addr} {xs ys : List PyData} (hs : s.items = zipD xs ys) (q : ∀ R' H' st', Lat R H st R' H' st' → Sim K R' H' st' → s.ok st' → ∃ vs ws, (SqT K H' a vs ∧ PdA K (Own R' st') H' vs xs) ∧ SqT K H' b ws ∧ PdA K (Own R' st') H' ws ys) : Wk K mg R st H (RZ.ItzT K a b) s := by
  have hl : s.items.length = min xs.length ys.length := by rw [hs, zipD_len]
  refine ⟨fun i R' H' st' hi E S o => ?_, fun R' H' st' E S o => ?_, fun i R' H' st' x H2 hi E S o y => ?_⟩
  · obtain ⟨vs, ws, ⟨h1, h2⟩, h3, h4⟩ := q R' H' st' E S o
    have hv : i < vs.length := by rw [h2.len]; omega
    have hw : i < ws.length := by rw [h4.len]; omega
    exact ⟨vs, ws, vs[i], ws[i], h1, h3, by simp [hv], by simp [hw]⟩
  · obtain ⟨vs, ws, ⟨h1, h2⟩, h3, h4⟩ := q R' H' st' E S o
    exact ⟨vs, ws, h1, h3, by rw [h2.len, h4.len, hl]; omega⟩
  · obtain ⟨vs, ws, ⟨h1, h2⟩, h3, h4⟩ := q R' H' st' E S o
    obtain ⟨T, u, v, ex, hT, e2, y1, y2⟩ := y
    rw [hs] at hi ⊢
    exact zip_yld hi S h2 h4 T u v ex hT e2 (y1 vs h1) (y2 ws h3)
end
section
variable {X : Cx} {W : WX} {e e2 : Expr} {ms : Env → M (List D)} {p pos tpos : Pos} {elts : List Expr} {kk : Nat}
theorem evi_zip (hm : X.mg "zip" = none) (ha : EVA X W [e, e2] ms) (hg : Gl X "zip" := by exact rfl) (hs : starEach [e, e2] X.env = (false, eval e X.env) :: starEach [e2] X.env := by rfl) (hpl : (backTo pos (starEach [e2] X.env)).any (·.1) = false := by rfl) :
    EVI X W (.Tuple elts kk tpos) (.Call (.Name "zip" p) [e, e2] [] pos) (mZip ms) := by
  refine ⟨PI.imp (RZ.pi_zipA hg hm ha.pa hs hpl) fun σ H Q h => ?_⟩
  obtain ⟨R, ρ, st, S, E, h⟩ := h
  refine ⟨R, ρ, st, S, E, (Post.bind (Rel := DvA X.K X.mg) (Rel2 := RelI X.K X.mg) h).monoQ fun vs H1 ⟨R1, st1, ds, x1, S1, D1, h1⟩ => ?_⟩
  unfold zipOf at h1
  split at h1
  · cases D1 with
    | cons a b =>
      cases b with
      | cons b c =>
        cases c
        have A : Pd X.K (Own R1 st1) H1 _ (.tuple _) := a
        have B : Pd X.K (Own R1 st1) H1 _ (.tuple _) := b
        cases A with
        | tup a1 a3 =>
          cases B with
          | tup b1 b3 => exact ⟨_, _, _, _, rfl, .inr ⟨a1.seq, b1.seq, h1.okR S1 (wk_zipT rfl fun R' H' st' E' _ _ => ⟨_, _, ⟨(a1.stays E'.stays).seq, a3.stays E'.stays⟩, (b1.stays E'.stays).seq, b3.stays E'.stays⟩)⟩⟩
  · rename_i d e _
    cases D1 with
    | cons a b =>
      cases b with
      | cons b c =>
        cases c
        dsimp only at h1
        split at h1
        · rename_i q1 q2
          obtain ⟨p1, rfl, ⟨ws, hw⟩, f1⟩ := seqL_ok S1 a q1
          obtain ⟨p2, rfl, ⟨us, hu⟩, f2⟩ := seqL_ok S1 b q2
          exact ⟨_, _, _, _, rfl, .inl ⟨hw, hu, h1.okR S1 (wk_zipL rfl fun R' H' st' E' S' o => by
            obtain ⟨vs, k1, k2⟩ := f1 R' H' st' E' S' o.1
            obtain ⟨ws', k3, k4⟩ := f2 R' H' st' E' S' o.2
            exact ⟨vs, ws', ⟨k1, k2⟩, k3, k4⟩)⟩⟩
        · exact h1.elim
  · exact h1.elim
end
end Ev
set_option Elab.async false
set_option linter.all false
set_option maxRecDepth 100000
set_option maxHeartbeats 4000000
/-! Ev25: comprehensions whose tests or elements raise: the exception on its way out of the block. The library's comprehension_at and CompFails say what is owed. -/
namespace Ev
open PySem PySem.Spec PyProof.Rows L2
open Classical
variable [τ : Tbl]
/-- a frame is noted by what an env tells of it alone -/
theorem note_same {ce env : PySem.Env} (h : ce.frame = env.frame) (x : Value) : noteFrame x ce = noteFrame x env := by
  unfold noteFrame PySem.frameOf
  rw [h]
/-- the block's context, what it lets out told by xe -/
abbrev blkE (X : Cx) (s : Shared) (H : Hp) (scope : Scope) (cenv : PySem.Env) (fp : List Addr) (xe : Value → Shared → Prop) : Cx := { X.blk s H scope cenv fp with xe := xe }
theorem inv_xe {X : Cx} {s0 : Shared} {H0 : Hp} {scope : Scope} {ce : PySem.Env} {fp : List Addr} {xe : Value → Shared → Prop} {pins : List (Addr × Obj)} {σ : L2.St} {H : Hp} {s : Shared} (I : Inv (X.blk s0 H0 scope ce fp) pins σ H s) : Inv (blkE X s0 H0 scope ce fp xe) pins σ H s :=
  ⟨⟨I.ok.1, I.ok.2, I.ok.3, I.ok.4, I.ok.5, I.ok.6, I.ok.7, I.ok.8, I.ok.9, I.ok.10, I.ok.11, I.ok.12, I.ok.13, I.ok.14, I.ok.15, I.ok.16, I.ok.17, I.ok.18⟩, I.os, I.bare, I.base, I.loc, I.cell, I.free, I.freeC, I.pin, I.hok, I.len⟩
/-- what is written into the record of a traceback is seen there alone -/
structure Cleared (h : Heap) (T : Addr) (h1 : Heap) : Prop where
  off : ∀ b, b ≠ T → h1.get? b = h.get? b
  plain : ∀ b o, h.get? b = some o → (∀ vs, o.data ≠ .fields vs) → h1.get? b = some o
theorem cleared_of {h : Heap} {T : Addr} {oT : Obj} {ts : Array Value} (g : Array Value → Array Value) (e : h.get? T = some oT) (d : oT.data = .fields ts) : Cleared h T (h.update T (Obj.mapFields g)) := by
  have off : ∀ b, b ≠ T → (h.update T (Obj.mapFields g)).get? b = h.get? b := fun b n => Heap.get?_update_other _ _ n.symm
  refine ⟨off, fun b o hb nf => ?_⟩
  by_cases z : b = T
  · subst z
    exact absurd d (by cases hb.symm.trans e; exact nf ts)
  · rw [off b z, hb]
/-- a frame is noted, from whatever other one the exception comes -/
theorem note_from {M : Model} {A : Around} {E : Value → Shared → Prop} {env : PySem.Env} {outer : List PySem.Env} {s : Shared} {base : Heap} {L a : Addr} {fl : Value} {Z : Obj → Prop} {Q : Unit → Shared → Prop} (st : HandSPX.Steady Z) (fr : A.frames = some (env :: outer)) (ef : env.frame = some L)
    (nf : (fl == rawInt L) = false) (stays : base.StaysIn s.heap) (new : base.get? a = none) (ff : s.heap.FunFrames base (env :: outer)) (tr : HandSPX.TracedZ s.heap base a Z fl)
    (k : ∀ h', HandSPX.HeldZ base (env :: outer) a Z L h' → s.heap.UpToSlots h' → Q () { s with heap := h' }) : wpAny M A (noteFrame (.ref a) env) Q E s := by
  rcases tr with ⟨oa, va, T, oT, ts, ga, za, da, v1, bT, Ta, gT, dT, t3⟩
  have cl := cleared_of (·.setIfInBounds 3 Value.none) gT dT
  have n1 : (Value.ref T != Value.none) = true := by simp
  unfold noteFrame
  simp only [ef]
  apply wpAny_bind
  refine wpAny_field ga da v1 ?_
  rw [n1, if_pos rfl]
  apply wpAny_bind
  refine wpAny_field gT dT t3 ?_
  rw [nf, if_neg Bool.false_ne_true]
  apply wpAny_bind
  refine wpAny_setField gT dT (Array.getElem?_eq_some_iff.mp t3).1 ?_
  refine HandSPX.wpAny_entryZ (Z := Z) (base := base) st fr ?_ ef ((cl.off a Ta.symm).trans ga) ?_ new da (Array.getElem?_eq_some_iff.mp v1).1 za fun h' nt => ?_
  · exact ff.of_keeps fun b o hb nb => ⟨o, cl.plain b o hb nb, rfl⟩
  · intro b o hb
    have : b ≠ T := fun z => by subst z; rw [bT] at hb; cases hb
    exact (cl.off b this).trans (stays b o hb)
  · exact k h' ⟨nt.1, new, nt.2.1, nt.2.2.1⟩ fun b o hb nb => nt.2.2.2 b o (cl.plain b o hb nb) nb
theorem frames_but {B B' h h' : Heap} : ∀ {l : List PySem.Env}, h.FunFrames B l → (∀ L ∈ frs l, h'.get? L = h.get? L) → (∀ b, B.get? b = none → B'.get? b = none) → h'.FunFrames B' l
  | [], _, _, _ => trivial
  | env :: l, hh, hk, hn => by
    obtain ⟨k, ⟨L, o, hf, hb, ho, hd⟩, hr⟩ := hh
    exact ⟨k, ⟨L, o, hf, hn L hb, (hk L (List.mem_filterMap.mpr ⟨env, List.mem_cons_self, hf⟩)).trans ho, hd⟩, frames_but hr (fun b hb => by
      obtain ⟨e, he, q⟩ := List.mem_filterMap.mp hb
      exact hk b (List.mem_filterMap.mpr ⟨e, List.mem_cons_of_mem _ he, q⟩)) hn⟩
theorem takes_blk {X : Cx} {W : WX} (tk : Takes X W) (hs : X.stack = X.env :: X.outer) (hf : X.env.frame = some X.env.locals) {s3 : Shared} {H3 : Hp} {scope : Scope} {ce : PySem.Env} {fp : List Addr} {pins : List (Addr × Obj)} {σ : L2.St}
    (hce : ce.frame = X.env.frame) (hC : ce.locals = s3.heap.objs.size) (I3 : Inv X pins σ H3 s3)
    (f3 : ∀ b ∈ fp, (b ∈ X.ex ∨ X.s_0.heap.objs.size ≤ b) ∧ b ≠ X.env.locals ∧ (∀ x c, X.env.cells.lookup x = some c → c ≠ b) ∧ ∀ p ∈ X.pn ++ pins, p.1 ≠ b) :
    Takes (blkE X s3 H3 scope ce fp (notedBy (model X.prog X.w) X.A ce (CompFails (model X.prog X.w) X.A X.xe ce))) (fun c d _ H => W c d σ H) := by
  intro u s' x
  obtain ⟨a, B, sI, pins', σ1, H, cls, d, rfl, I, nb, up, sky, na, os, ag, w⟩ := x
  obtain ⟨C, hCe⟩ : ∃ C, C = s3.heap.objs.size := ⟨_, rfl⟩
  rw [← hCe] at hC
  show wpAny (model X.prog X.w) X.A (noteFrame (.ref a) ce) (fun _ s'' => CompFails (model X.prog X.w) X.A X.xe ce (.ref a) s'') _ s'
  rw [note_same hce]
  have hfr : X.A.frames = some (X.env :: X.outer) := by rw [I3.ok.frames, hs]
  have nC : H C = none := by
    have z : H ce.locals = none := I.free
    rw [hC] at z
    exact z
  have fok : FpOk X pins H C := I3.fpOk (by rw [hCe]; exact Nat.le_refl _) nC
  obtain ⟨f0, f1, f2, f4, f5, f6⟩ := fok
  have frC : ∀ L ∈ frs X.stack, L ≠ C := fun L hL z => by
    obtain ⟨_, o, ho, _⟩ := I3.stack.mem hL
    have := Heap.lt_size ho
    rw [z, hCe] at this
    exact Nat.lt_irrefl _ this
  have I7 : Inv X pins σ H sI := I3.call' (ch := fp) I.os I.base I.hok I.bare f3
  have I8 : Inv X pins σ H { sI with heap := PySem.W.hideAll sI.heap [C] } := I7.turned (t' := sI.toks) (fun b o hb e => PySem.W.hideAll_get _ e (by simpa using hb)) f0 f1 f4 f5 f6
  have hidN : ∀ (h : Heap) (b : Addr), h.get? b = none → (PySem.W.hideAll h [C]).get? b = none := fun h b e => by
    cases q : (PySem.W.hideAll h [C]).get? b with
    | none => rfl
    | some o =>
      have z := PySem.W.of_hideAll _ q
      rw [e] at z; cases z
  have hidS : ∀ (h : Heap) (b : Addr) (o : Obj), (PySem.W.hideAll h [C]).get? b = some o → h.get? b = some o ∧ b ≠ C := fun h b o e => ⟨PySem.W.of_hideAll _ e, fun z => by
    rw [PySem.W.hideAll_none [C] (by rw [z]; exact List.mem_cons_self)] at e
    cases e⟩
  have fin : ∀ h1, HandSPX.HeldZ B (X.env :: X.outer) a (Zc cls d) X.env.locals h1 → s'.heap.UpToSlots h1 → CompFails (model X.prog X.w) X.A X.xe ce (.ref a) { s' with heap := h1 } := fun h1 hh up1 => by
    obtain ⟨hkb, hen, hl, oe, vs, T, oT, ts, he, hz, hd, v1, hnT, hTe, hT, hdT, h3⟩ := hh
    have up2 : sI.heap.UpToSlots h1 := up.trans up1
    obtain ⟨m, hn, _⟩ := I.loc
    have hn : sI.heap.Ns C m := by rw [← hC]; exact hn
    have hn1 : h1.Ns C m := by
      obtain ⟨o, es, ep, ho, hdd, r⟩ := hn
      obtain ⟨sl, q⟩ := up2 C o ho (fun vs z => by rw [hdd] at z; cases z)
      exact ⟨_, es, ep, q, hdd, r⟩
    have nf : ∀ (b : Addr) (o : Obj) (vs : Array Value), h1.get? b = some o → o.data = .fields vs → b ≠ C := fun b o vs e q z => by
      obtain ⟨o', es, ep, ho, hdd, _⟩ := hn1
      rw [z, ho] at e
      cases e
      rw [hdd] at q
      cases q
    refine ⟨m, by rw [hC]; exact hn1, fun h' m' _ sb => ?_⟩
    rw [hC] at sb
    ·
      have keep : ∀ b, b ≠ C → h'.get? b = h1.get? b := fun b hb => sb.2 b hb
      have he' : h'.get? a = some oe := (keep a (nf a oe vs he hd)).trans he
      have hT' : h'.get? T = some oT := (keep T (nf T oT ts hT hdT)).trans hT
      have held : HandSPX.HeldZ (PySem.W.hideAll B [C]) (X.env :: X.outer) a (Zc cls d) X.env.locals h' :=
        ⟨fun b o e => by
          obtain ⟨e1, e2⟩ := hidS B b o e
          exact (keep b e2).trans (hkb b o e1), hidN B a hen, frames_but hl (fun L hL => keep L (frC L (by rw [hs]; exact hL))) (hidN B), oe, vs, T, oT, ts, he', hz, hd, v1, hidN B T hnT, hTe, hT', hdT, h3⟩
      unfold PySem.passOn
      refine wpAny_bind (wpAny_field he' hd v1 ?_)
      rw [if_neg (show ¬ ((Value.ref T == Value.none) = true) from by simp)]
      rw [hce, hf]
      refine wpAny_bind (HandSPX.setFlight_onZ held fun h2 hh2 up3 => wpAny_throw (tk _ _ ⟨a, PySem.W.hideAll B [C], { sI with heap := PySem.W.hideAll sI.heap [C] }, pins, σ, H, cls, d, rfl, I8, fun b o e hb => ?_, fun b o e hnf => ?_, ?_, na, os, ag, w⟩))
      · obtain ⟨e1, e2⟩ := hidS sI.heap b o e
        exact PySem.W.hideAll_get _ (nb b o e1 hb) (by simpa using e2)
      · obtain ⟨e1, e2⟩ := hidS sI.heap b o e
        obtain ⟨sl, q⟩ := up2 b o e1 hnf
        obtain ⟨sl2, q2⟩ := up3 b _ ((keep b e2).trans q) hnf
        exact ⟨sl2, q2⟩
      · rw [hs]
        exact .inr (.inr hh2)
  have sky' : Sky B (X.env :: X.outer) a (Zc cls d) C s'.heap := by
    rw [← hC, ← hs]
    exact sky
  rcases sky' with ⟨hB, hn, hl, oe, vs, he, hz, hd, h1⟩ | ⟨q1, q2, q3, q4⟩ | ⟨q1, q2, q3, q4⟩
  · exact HandSPX.look_newZ Zc.steady hfr hl hf he hB hn hd h1 hz fin
  · exact note_from Zc.steady hfr hf (by simp [rawInt]) q1 q2 q3 q4 fin
  · refine note_from Zc.steady hfr hf ?_ q1 q2 q3 q4 fin
    have : C ≠ X.env.locals := f1
    simp [rawInt]
    exact fun z => this (Int.ofNat.inj z)
end Ev
set_option Elab.async false
set_option linter.all false
set_option maxRecDepth 100000
set_option maxHeartbeats 4000000
/-! Ev26: such a comprehension from its begin to its end: what stands as its block opens; what a turn leaves; the whole. -/
namespace Ev
open PySem PySem.Spec PyProof.Rows L2
open Classical
variable [τ : Tbl]
abbrev cellsOf (X : Cx) (scope : Scope) (n : Addr) : List (Str × Addr) := cellsFrom (n + 1) scope.names (cloFrom X.env.cells scope.names [])
/-- the block stands open: the list at D, the state of the def's own (s3), the block's (s4) -/
structure Opened (X : Cx) (pins : List (Addr × Obj)) (σ : L2.St) (H : Hp) (scope : Scope) (vs : List Nat) (fp : List Addr) (s2 s3 s4 : Shared) (ce : PySem.Env) : Prop where
  outer : Inv X pins σ H s3
  inner : Inv (X.blk s3 H scope ce fp) [] (wipe σ vs) H s4
  apart : ∀ b ∈ fp, FpOk X pins H b
  still : ∀ b o, s2.heap.get? b = some o → s4.heap.get? b = some o
  place : ce.locals = s3.heap.objs.size
  frame : ce.frame = X.env.frame
theorem opened_of {X : Cx} {pins : List (Addr × Obj)} {σ : L2.St} {H : Hp} {scope : Scope} {own : List (Str × Nat)} {fp : List Addr} {s2 : Shared} {D : Addr} (I : Inv X pins σ H s2) (ok : BlkOk X.N X.env.scope scope own) (hN : X.N.Nodup) (hD : s2.heap.objs.size = D)
    (away : ∀ b ∈ fp, FpOk X pins H b) (there : ∀ b ∈ fp, ∃ o, s2.heap.get? b = some o) :
    ∀ s3 : Shared, s3 = { s2 with heap := s2.heap.push { cls := .type "list", data := .seq ([] : List Value).toArray } } →
    Opened X pins σ (upd H D (.lst [])) scope (own.map (·.2)) fp s2 s3 { s3 with heap := pushCells (s3.heap.push { cls := .type "dict", data := .dict #[] }) scope.names } (compEnvC scope (cellsOf X scope s3.heap.objs.size) s3.heap.objs.size X.env) := by
  intro s3 e3
  have grown : s3.heap.objs.size = D + 1 := by rw [e3, ← hD]; exact Heap.size_push ..
  have old : ∀ b o, s2.heap.get? b = some o → s3.heap.get? b = some o := fun b o e => by rw [e3]; exact Heap.get?_push_of_some _ e
  have low : ∀ b ∈ fp, b < D := fun b hb => let ⟨o, e⟩ := there b hb; hD ▸ Heap.lt_size e
  have new : ObjOk X.prog X.w (upd H D (.lst [])) s3.heap D (.lst []) := ⟨Nat.zero_le _, [], 0, .nil, by rw [e3, ← hD]; exact Heap.get?_push_size _ rfl⟩
  have J : Inv X pins σ (upd H D (.lst [])) s3 := by
    have z := I.laid (t' := s2.toks) old (Nat.le_of_eq hD) new
    rw [e3] at z ⊢
    exact z
  have away' : ∀ b ∈ fp, FpOk X pins (upd H D (.lst [])) b := fun b hb => by
    have z := away b hb
    exact ⟨by rw [upd_ne (Nat.ne_of_lt (low b hb))]; exact z.1, z.2⟩
  exact ⟨J, block_start J ok hN fun b hb => ⟨away' b hb, by rw [grown]; exact Nat.lt_succ_of_lt (low b hb)⟩, away', fun b o e => pushCells_keeps _ _ _ _ (Heap.get?_push_of_some _ (old b o e)), rfl, rfl⟩
section
variable {X : Cx} {σ σ8 : L2.St} {H H' : Hp} {scope : Scope} {vs : List Nat} {fp : List Addr} {s3 s' : Shared} {ce : PySem.Env} {xe : Value → Shared → Prop}
/-- no object of the iterator's is one of the block's -/
theorem Inv.fpB (I : Inv (blkE X s3 H scope ce fp xe) [] σ H' s') (n : ∀ b ∈ fp, H' b = none) : ∀ b ∈ fp, FpOk (blkE X s3 H scope ce fp xe) [] H' b := fun b hb => by
  have ex := I.ok.exf b hb
  refine ⟨n b hb, ex.1, I.ok.exfs b hb, Or.inl hb, fun x c e => ex.2 x c e, fun p hp => ?_⟩
  have hp' : p ∈ ([] : List (Addr × Obj)) ++ [] := hp
  cases hp'
/-- what a turn leaves, when its own names are forgotten -/
theorem turn_left {h7 : Heap} (I : Inv (blkE X s3 H scope ce fp xe) ([] ++ pinsAt fp h7) σ8 H' s') (hw : wipe σ8 vs = wipe σ vs) (there : ∀ b ∈ fp, ∃ o, h7.get? b = some o) :
    Inv (blkE X s3 H scope ce fp xe) [] (wipe σ vs) H' s' ∧ (∀ b ∈ fp, ∀ o, h7.get? b = some o → s'.heap.get? b = some o) ∧ ∀ b ∈ fp, H' b = none := by
  have pin : ∀ b ∈ fp, ∀ o, h7.get? b = some o → s'.heap.get? b = some o ∧ H' b = none := fun b hb o e => by
    have m : (b, o) ∈ (blkE X s3 H scope ce fp xe).pn ++ ([] ++ pinsAt fp h7) := List.mem_append.mpr (.inr (List.mem_append.mpr (.inr (mem_pinsAt hb e))))
    exact ⟨(I.pin (b, o) m).1, (I.pin (b, o) m).2.1⟩
  have W : Inv (blkE X s3 H scope ce fp xe) [] (wipe σ8 vs) H' s' := (I.unpinned (pins := [])).weak (wipe_length ..) fun i v e => (wipe_some e).1
  rw [hw] at W
  exact ⟨W, fun b hb o e => (pin b hb o e).1, fun b hb => let ⟨o, e⟩ := there b hb; (pin b hb o e).2⟩
end
/-- a list comprehension whose tests and element may raise, in a def's own context -/
theorem lc_raise {X : Cx} {WW : WX} {pins : List (Addr × Obj)} {s : Shared} {σ : L2.St} {H : Hp} {Q : VK} {elt tg iter : Expr} {ifs : List Expr} {scope : Scope} {own : List (Str × Nat)} {pos pos' : Pos} {wi : TI} {g : TG} {tt : TT} {te : TE} {use : Option (Value → Sem Unit)} {Qf : Value → Shared → Prop}
    (tk : Takes X WW) (hst : X.stack = X.env :: X.outer) (hfm : X.env.frame = some X.env.locals) (hc : X.calm = true) (hN : X.N.Nodup) (I : Inv X pins σ H s) (hi : PI X tg iter wi) (ok : BlkOk X.N X.env.scope scope own)
    (hg : ∀ (s : Shared) (H : Hp) (C : Addr) (cl : List (Str × Addr)) (fp : List Addr) (xe : Value → Shared → Prop), PG (blkE X s H scope (compEnvC scope cl C X.env) fp xe) tg g)
    (ht : ∀ (s : Shared) (H : Hp) (C : Addr) (cl : List (Str × Addr)) (fp : List Addr) (xe : Value → Shared → Prop), Takes (blkE X s H scope (compEnvC scope cl C X.env) fp xe) (fun c d _ H => WW c d σ H) → PTs (blkE X s H scope (compEnvC scope cl C X.env) fp xe) ifs tt)
    (he : ∀ (s : Shared) (H : Hp) (C : Addr) (cl : List (Str × Addr)) (fp : List Addr) (xe : Value → Shared → Prop), Takes (blkE X s H scope (compEnvC scope cl C X.env) fp xe) (fun c d _ H => WW c d σ H) → PE (blkE X s H scope (compEnvC scope cl C X.env) fp xe) elt te) (hs : ∀ x, foldedSetIterable iter X.env x = pure x)
    (h : tLc wi g tt te (own.map (·.2)) σ H Q)
    (hRR : ∀ D (ce : PySem.Env) s' m H', Inv X pins σ H' s' → Q (.ref D) H' → s'.heap.Ns ce.locals m → FpOk X pins H' ce.locals → compEnds (model X.prog X.w) X.A X.xe use Qf (.ref D) ce (.ok .next) s') :
    wpAny (model X.prog X.w) X.A (comprehension (.ListComp elt [⟨tg, iter, ifs, 0⟩] scope pos) scope X.env pos' (newList []) false (eval iter X.env) use) Qf X.xe s := by
  have cells : closureFor scope X.env = pure (cloFrom X.env.cells scope.names []) := closure_ok fun y hy e => I.ok.has _ (ok.free y hy e)
  have first := hi.run pins s σ H _ I h
  refine comprehension_at (use := use) (cl := cloFrom X.env.cells scope.names []) rfl hs cells ok.kind (fun y hy e => by rw [ok.uniq y hy, e]) (thn first fun _ _ k => thn k ?_)
  rintro _ s2 ⟨it, fp, tn, J, H2, rfl, I2, T, at0, f2, q⟩
  refine wpAny_newObj_type (newEnv_comp ?_) (by show 0 ≤ sizeLine; decide)
  obtain ⟨D, hD⟩ : ∃ D, s2.heap.objs.size = D := ⟨_, rfl⟩
  obtain ⟨W, ⟨m0, w0⟩, turn⟩ := q D (I2.hok.fresh (Nat.le_of_eq hD))
  rw [hD]
  have seen : ∀ i (h : Heap), tn i h → ∀ b ∈ fp, ∃ o, h.get? b = some o := fun i h t b hb => let ⟨o, e, _⟩ := T.obj i h t b hb; ⟨o, e⟩
  have O := opened_of I2 ok hN hD f2 (seen _ _ at0) _ rfl
  generalize ({ s2 with heap := s2.heap.push { cls := .type "list", data := .seq ([] : List Value).toArray } } : Shared) = s3 at O ⊢
  change codeAny _ _ (.compStart _ 0 (.ref it) (.ref D) (compEnvC scope (cellsOf X scope s3.heap.objs.size) s3.heap.objs.size X.env)) (compEnds _ _ _ _ _ _ (compEnvC scope (cellsOf X scope s3.heap.objs.size) s3.heap.objs.size X.env)) _
  have G := fun xe => hg s3 (upd H2 D (.lst [])) s3.heap.objs.size (cellsOf X scope s3.heap.objs.size) fp xe
  have Te := fun xe => ht s3 (upd H2 D (.lst [])) s3.heap.objs.size (cellsOf X scope s3.heap.objs.size) fp xe
  have El := fun xe => he s3 (upd H2 D (.lst [])) s3.heap.objs.size (cellsOf X scope s3.heap.objs.size) fp xe
  generalize compEnvC scope (cellsOf X scope s3.heap.objs.size) s3.heap.objs.size X.env = ce at O G Te El ⊢
  generalize ({ s3 with heap := pushCells (s3.heap.push { cls := .type "dict", data := .dict #[] }) scope.names } : Shared) = s4 at O ⊢
  generalize upd H2 D (.lst []) = H3 at O G Te El w0
  have far : ∀ b ∈ fp, (b ∈ X.ex ∨ X.s_0.heap.objs.size ≤ b) ∧ b ≠ X.env.locals ∧ (∀ x c, X.env.cells.lookup x = some c → c ≠ b) ∧ ∀ p ∈ X.pn ++ pins, p.1 ≠ b := fun b hb => by
    obtain ⟨_, p1, _, p3, p4, p5⟩ := O.apart b hb
    exact ⟨p3, p1, p4, p5⟩
  obtain ⟨xe, exe⟩ : ∃ xe, xe = notedBy (model X.prog X.w) X.A ce fun e s' => compEnds (model X.prog X.w) X.A X.xe use Qf (.ref D) ce (.error e) s' := ⟨_, rfl⟩
  have tkE : Takes (blkE X s3 H3 scope ce fp xe) (fun c d _ H => WW c d σ H) := by
    rw [exe]
    exact takes_blk (scope := scope) tk hst hfm O.frame O.place O.outer far
  replace G := G xe
  replace Te := Te xe tkE
  replace El := El xe tkE
  have at4 : tn 0 s4.heap := T.keep _ _ _ at0 fun b _ o e => O.still b o e
  -- what holds between two turns: i turns are done, n bounds those that are left
  let Now : Nat → Shared → Prop := fun n s' => ∃ i H', Inv (blkE X s3 H3 scope ce fp xe) [] (wipe σ (own.map (·.2))) H' s' ∧ tn i s'.heap ∧ (∀ b ∈ fp, H' b = none) ∧ W i n H'
  have all : codeAny (model X.prog X.w) X.A (.compLoop (.ListComp elt [⟨tg, iter, ifs, 0⟩] scope pos) 0 (.ref it) (.ref D) ce) (compEnds (model X.prog X.w) X.A X.xe use Qf (.ref D) ce) s4 := by
    refine compLoop_any Now (fun n s5 now => ?_) m0 ⟨0, H3, inv_xe O.inner, at4, fun b hb => (O.apart b hb).1, w0⟩
    obtain ⟨i, H5, I5, at5, no5, w5⟩ := now
    rw [← exe]
    have fpI := Inv.fpB I5 no5
    rcases turn i n H5 w5 with ⟨stop, fin⟩ | ⟨go, Nx, less, step⟩
    · -- no item is left
      refine thnF (T.done (blkE X s3 H3 scope ce fp xe) rfl rfl rfl hc i [] s5 _ H5 (fun _ _ => False) I5 fpI at5 stop) ?_
      rintro _ s6 ⟨rfl, I6⟩
      have back : Inv X pins σ H5 s6 := O.outer.call' (ch := fp) I6.os I6.base I6.hok I6.bare far
      have here := I6.loc
      have free : H5 ce.locals = none := I6.free
      exact hRR D ce s6 _ H5 back fin here.choose_spec.1 (O.outer.fpOk (Nat.le_of_eq O.place.symm) free)
    · refine thnF (T.item (blkE X s3 H3 scope ce fp xe) rfl rfl rfl hc i [] s5 _ H5 (fun _ _ => False) I5 fpI at5 go) ?_
      rintro _ s6 ⟨u, rfl, to⟩
      refine thnF to ?_
      rintro _ s7 ⟨x, H7, I7, r7, y7, at7, no7⟩
      have th7 := seen _ _ at7
      have P7 := Inv.pinned I7 (Inv.fpB I7 no7) (T.obj _ _ at7)
      refine thn (G.run _ s7 _ H7 x u _ P7 r7 (step x H7 y7)) ?_
      rintro _ s8 ⟨σ8, H8, I8, hw8, q8⟩
      have next : ∀ {s' : Shared} {H' : Hp}, Inv (blkE X s3 H3 scope ce fp xe) ([] ++ pinsAt fp s7.heap) σ8 H' s' → Nx H' → ∃ m, m < n ∧ Now m s' := fun {s' H'} I' nx => by
        obtain ⟨m, lt, w'⟩ := less H' nx
        obtain ⟨a1, a2, a3⟩ := turn_left I' hw8 th7
        exact ⟨m, lt, i + 1, H', a1, T.keep _ _ _ at7 a2, a3, w'⟩
      refine thn (Te.run _ s8 σ8 H8 _ I8 q8) ?_
      rintro b s9 ⟨H9, I9, q9⟩
      cases b
      · rw [if_neg Bool.false_ne_true] at q9 ⊢
        exact next I9 q9
      · rw [if_pos rfl] at q9 ⊢
        refine thn (El.run _ s9 σ8 H9 _ I9 q9) ?_
        rintro v s10 ⟨yv, H10, I10, r10, acc, eD, la, nx⟩
        exact app_ok (X := blkE X s3 H3 scope ce fp xe) I10 eD la r10 fun s11 I11 => next I11 nx
  exact codeAny_compStart_list all (T.self X.A 0 _ _ _ at4 all)
end Ev
set_option Elab.async false
set_option linter.all false
set_option maxRecDepth 100000
set_option maxHeartbeats 4000000
/-! Ev27: [x for y in z if c], x or c may raise. -/
namespace Ev
open PySem PySem.Spec PyProof.Rows L2
open Classical
variable [τ : Tbl]
/-- as loopC, an exception goes on -/
noncomputable def loopX (ok : Sto → Prop) (t : Tg) (test : Env → M Bool) (elt : Env → M D) (ρ : Env) : List D → List PyData → Sto → Res D
  | [], acc, st => if ok st then .ok (.dat (.list acc)) st else .bad
  | d :: ds, acc, st => if ok st ∧ acc.length ≤ 100000 then match t d ρ with
      | some ρ1 => match test ρ1 st with
        | .ok true st1 => match elt ρ1 st1 with
          | .ok (.dat y) st2 => loopX ok t test elt ρ ds (acc ++ [y]) st2
          | .exc x st2 => .exc x st2
          | _ => .bad
        | .ok false st1 => loopX ok t test elt ρ ds acc st1
        | .exc x st1 => .exc x st1
        | _ => .bad
      | none => .bad
    else .bad
noncomputable def mLcX (src : Env → M Src) (own : List Nat) (t : Tg) (test : Env → M Bool) (elt : Env → M D) : Env → M D := fun ρ => M.bind (src ρ) fun s => fun st => loopX s.ok t test elt (wipeE ρ own) s.items [] st
theorem loopX_ok {ok : Sto → Prop} {t : Tg} {test : Env → M Bool} {elt : Env → M D} {ρ : Env} {ds : List D} {acc : List PyData} {st : Sto} (h : loopX ok t test elt ρ ds acc st ≠ .bad) : ok st := by
  by_cases z : ok st
  · exact z
  · cases ds with
    | nil => exact absurd (by simp [loopX, z]) h
    | cons d ds => exact absurd (by simp [loopX, z]) h
theorem excback {K : PySem.W.Frag} {mg : Str → Option Value} {R R' R4 : Rg} {H H4 : Hp} {st st4 : Sto} {D : Addr} {o : HO} {Q : V → Hp → Prop} {W : XK} {x : Exc} {cls : Value} {dx : Option Addr} (hm : ∀ x ∈ τ.t, x.1 ∈ R.p) (hD : H D = none) (e3 : R'.p = D :: R.p) (xe : Ext (R.hide D) (upd H D o) st R4 H4 st4) (e4 : R4.p = R'.p) (S4 : Sim K R4 H4 st4) (ex : ExcR K mg (Own R4 st4) H4 x cls dx) (h : Post K mg (Dv K mg) R H st (.exc x st4) Q W) : W cls dx H4 :=
  h _ _ _ _ (ext_back hD xe) (sim_back (e4.trans e3) hm S4) (ex.stays (Stays.weak fun b z => by
    rcases z with z | z
    · exact .inl z
    · exact .inr (by rw [e4, e3]; exact List.mem_cons_of_mem _ z)))
section
variable {X : Cx} {W : WX} {elt tg iter : Expr} {ifs : List Expr} {scope : Scope} {own : List (Str × Nat)} {pos : Pos} {src : Env → M Src} {g : TG} {t : Tg} {sl : List Nat} {mt : Env → M Bool} {me : Env → M D}
theorem tLcX_of (hg : ∀ (R : Rg) (st : Sto) (H : Hp) (σ : L2.St) (v : V) (d : D) (ρ ρ' : Env) (Q : L2.St → Hp → Prop), EnvR X.K X.mg R st H σ ρ → Dv X.K X.mg R st H v d → t d ρ = some ρ' →
      (∀ σ', EnvR X.K X.mg R st H σ' ρ' → (∀ vs, (∀ i ∈ sl, i ∈ vs) → wipe σ' vs = wipe σ vs) → Q σ' H) → g v σ H Q) (hsl : ∀ i ∈ sl, i ∈ own.map (·.2)) {σ : L2.St} {H : Hp} {Q : VK}
    (h : tM X.K X.mg W (mLcX src (own.map (·.2)) t mt me) σ H Q) :
    tLc (tMI X.K X.mg W src) g (tMB X.K X.mg (fun c d _ H => W c d σ H) mt) (tM X.K X.mg (fun c d _ H => W c d σ H) me) (own.map (·.2)) σ H Q := by
  obtain ⟨R, ρ, st, S, E, h⟩ := h
  refine ⟨R, ρ, st, S, E, ?_⟩
  have hb := Post.bind (Rel := RelI X.K X.mg) (Rel2 := Dv X.K X.mg) h
  refine hb.monoQ fun J H1 ⟨R1, st1, s, x1, S1, wk, h1⟩ => fun D hD => ?_
  have E1 := E.ext x1
  -- Pv: the turns left tell what is wanted
  let Pv : Nat → Hp → Prop := fun i H' => ∃ R' st' acc vs, Ext (R1.hide D) (upd H1 D (.lst vs)) st1 R' H' st' ∧ Sim X.K R' H' st' ∧ H' D = some (.lst vs) ∧ PdA X.K (Own R' st') H' vs acc ∧
    Post X.K X.mg (Dv X.K X.mg) R1 H1 st1 (loopX s.ok t mt me (wipeE ρ (own.map (·.2))) (s.items.drop i) acc st') Q (fun c d H' => W c d σ H')
  refine ⟨fun i m H' => m = s.items.length - i ∧ i ≤ s.items.length ∧ Pv i H', ⟨s.items.length, by simp, Nat.zero_le _, R1.hide D, st1, [], [], .refl, sim_hide S1 hD, upd_same, .nil, h1⟩, ?_⟩
  rintro i m H' ⟨rfl, hi, R', st', acc, vs, xe, S', eD, pa, h'⟩
  have okk := loopX_ok h'.nb
  have eb := ext_back hD xe
  have e3 : R'.p = D :: R1.p := xe.pe
  have Sb : Sim X.K (R1.back R') H' st' := sim_back e3 (fun x hx => (S1.fx.tb x hx).1) S'
  have latR : Lat R1 H1 st1 R' H' st' := by
    refine ⟨fun n a h => eb.at_ h, ⟨fun a u z n nt => eb.stays.keep a u z n nt, fun a z => ?_, eb.stays.there⟩⟩
    by_cases h : a = D
    · exact .inr (h ▸ Fr.none hD)
    · refine eb.stays.own a ?_
      rcases z with z | z
      · exact .inl z
      · rw [e3] at z
        rcases List.mem_cons.mp z with z | z
        · exact absurd z h
        · exact .inr z
  have hDp : D ∈ R'.p := by rw [e3]; exact List.mem_cons_self
  by_cases hlt : i < s.items.length
  · refine .inr ⟨wk.go i R' H' st' hlt latR S' okk, Pv (i + 1), fun H'' z => ⟨s.items.length - (i + 1), by omega, rfl, hlt, z⟩, fun x H2 y => ?_⟩
    obtain ⟨d0, ed0, dr⟩ : ∃ d, s.items[i]? = some d ∧ s.items.drop i = d :: s.items.drop (i + 1) := ⟨s.items[i], by simp [hlt], List.drop_eq_getElem_cons hlt⟩
    obtain ⟨x2, S2, d, ed, D2⟩ := wk.yld i R' H' st' x H2 hlt latR S' okk y
    rw [ed0] at ed
    obtain rfl : d0 = d := Option.some.inj ed
    rw [dr] at h'
    unfold loopX at h'
    have lena : acc.length ≤ 100000 := by
      by_cases q : acc.length ≤ 100000
      · exact q
      · rw [if_neg (fun z => q z.2)] at h'; exact h'.elim
    rw [if_pos ⟨okk, lena⟩] at h'
    have E0 : EnvR X.K X.mg R' st' H' (wipe σ (own.map (·.2))) (wipeE ρ (own.map (·.2))) := by
      refine EnvR.wipe ⟨E1.len, fun j e q => ?_⟩ _
      obtain ⟨v, q1, q2⟩ := E1.at_ j e q
      refine ⟨v, q1, ?_⟩
      cases e with
      | dat e => exact Pd.stays latR.stays q2
      | loc n => obtain ⟨a, h1, h2⟩ := q2; exact ⟨a, latR.at_ n a h1, h2⟩
      | glob x => exact q2
      | fz ds => obtain ⟨a, xs, h1, h2, h3⟩ := q2; exact ⟨a, xs, h1, h2.stays latR.stays, h3.stays latR.stays⟩
      | ty t => exact q2
      | raw t => exact q2
      | lam => exact q2
      | err u cls d x => exact ⟨q2.1, q2.2.stays latR.stays⟩
    cases z : t d0 (wipeE ρ (own.map (·.2))) with
    | none => rw [z] at h'; exact h'.elim
    | some ρ1 =>
      rw [z] at h'
      dsimp only at h'
      refine hg R' st' H2 _ x d0 _ ρ1 _ (E0.ext x2) D2 z fun σ1 E1' w1 => ⟨?_, ?_⟩
      · have a1 := w1 (own.map (·.2)) hsl
        rw [a1]
        have ww : ∀ (vs ws : List Nat), (∀ i ∈ vs, i ∈ ws) → wipe (wipe σ ws) vs = wipe σ ws := fun vs => by
          induction vs with
          | nil => intro _ _; rfl
          | cons v vs ih =>
            intro ws hw
            show (wipe (wipe σ ws) vs).set v none = wipe σ ws
            rw [ih ws fun i hi => hw i (List.mem_cons_of_mem _ hi)]
            have hv := hw v List.mem_cons_self
            refine List.ext_getElem? fun j => ?_
            by_cases hj : v = j
            · subst hj
              by_cases hl : v < (wipe σ ws).length
              · rw [List.getElem?_set_self hl]
                cases q : (wipe σ ws)[v]? with
                | none => rw [List.getElem?_eq_none_iff] at q; omega
                | some u =>
                  cases u with
                  | none => rfl
                  | some u => exact absurd hv (wipe_some q).2
              · rw [List.getElem?_eq_none (by simpa using hl), List.getElem?_eq_none (by simpa using hl)]
            · rw [List.getElem?_set_ne hj]
        exact ww _ _ fun _ h => h
      · have eD2 : H2 D = some (.lst vs) := x2.prv D hDp _ eD (fun _ z => by cases z)
        have pa2 : PdA X.K (Own R' st') H2 vs acc := pa.stays x2.stays
        have xe2 := xe.trans S' x2
        refine ⟨R', ρ1, st', S2, E1', ?_⟩
        cases zt : mt ρ1 st' with
        | bad => rw [zt] at h'; exact h'
        | exc x0 st2 =>
          rw [zt] at h'
          intro R4 H4 cls dx x4 S4 ex
          exact excback (fun x hx => (S1.fx.tb x hx).1) hD e3 (xe2.trans S2 x4) x4.pe S4 ex h'
        | ok b st2 =>
          rw [zt] at h'
          intro b' R3 H3 x3 S3 eb3
          obtain rfl : b' = b := eb3
          have eD3 : H3 D = some (.lst vs) := x3.prv D hDp _ eD2 (fun _ z => by cases z)
          have pa3 : PdA X.K (Own R3 st2) H3 vs acc := pa2.stays x3.stays
          have xe3 := xe2.trans S2 x3
          cases b' with
          | false =>
            rw [if_neg Bool.false_ne_true]
            exact ⟨R3, st2, acc, vs, xe3, S3, eD3, pa3, h'⟩
          | true =>
            rw [if_pos rfl]
            refine ⟨R3, ρ1, st2, S3, E1'.ext x3, ?_⟩
            dsimp only at h'
            cases zm : me ρ1 st2 with
            | bad => rw [zm] at h'; exact h'
            | exc x0 st3 =>
              rw [zm] at h'
              intro R4 H4 cls dx x4 S4 ex
              exact excback (fun x hx => (S1.fx.tb x hx).1) hD e3 (xe3.trans S3 x4) (x4.pe.trans x3.pe) S4 ex h'
            | ok y3 st3 =>
              rw [zm] at h'
              cases y3 with
              | dat yd =>
                intro yv R4 H4 x4 S4 D4
                have e4 : R4.p = D :: R1.p := by rw [x4.pe, x3.pe, e3]
                have hD4 : D ∈ R4.p := by rw [e4]; exact List.mem_cons_self
                have hD3 : D ∈ R3.p := by rw [x3.pe]; exact hDp
                have eD4 : H4 D = some (.lst vs) := x4.prv D hD3 _ eD3 (fun _ z => by cases z)
                have pa4 : PdA X.K (Own R4 st3) H4 (vs ++ [yv]) (acc ++ [yd]) := (pa3.stays x4.stays).snoc D4
                have xe4 := xe3.trans S3 x4
                refine ⟨vs, eD4, by rw [pa.len, sizeLine_eq]; omega, R4, st3, acc ++ [yd], vs ++ [yv], ?_, sim_prv S4 hD4 (.inl ⟨_, eD4⟩), upd_same, ?_, h'⟩
                · have q := ext_prv (o' := .lst (vs ++ [yv])) (show D ∈ (R1.hide D).p from List.mem_cons_self) xe4
                  exact q
                · exact pa4.stays ⟨fun b u e n _ => by rw [upd_ne (show b ≠ D from fun z => n (.inr (z ▸ hD4)))]; exact e, fun b z => .inl z, fun _ h => upd_frN (fun _ z => by cases z) h⟩
              | loc _ => exact h'.elim
              | glob _ => exact h'.elim
              | fz _ => exact h'.elim
              | ty _ => exact h'.elim
              | raw _ => exact h'.elim
              | err _ _ _ _ => exact h'.elim
              | lam => exact h'.elim
  · have e : i = s.items.length := by omega
    subst e
    refine .inl ⟨wk.stop R' H' st' latR S' okk, ?_⟩
    rw [List.drop_length] at h'
    unfold loopX at h'
    rw [if_pos okk] at h'
    refine h' _ _ H' eb Sb ?_
    refine Pd.lst eD (fun z => ?_) (pa.stays (Stays.weak fun b z => ?_))
    · rcases z with ⟨n, ys, z1, _⟩ | z
      · exact S'.nr D (List.mem_of_getElem? z1) hDp
      · exact S1.freshP hD z
    · rcases z with z | z
      · exact .inl z
      · exact .inr (by rw [e3]; exact List.mem_cons_of_mem _ z)
theorem GC.blkE {X : Cx} {W W' : WX} {k : Nat} {s : Shared} {H : Hp} {scope : Scope} {ce : PySem.Env} {fp : List Addr} {xe : Value → Shared → Prop} (C : GC X W k) (tk : Takes (Ev.blkE X s H scope ce fp xe) W') : GC (Ev.blkE X s H scope ce fp xe) W' k := ⟨C.room, C.gd, tk⟩
/-- the block of names let go -/
theorem gone {X : Cx} {pins : List (Addr × Obj)} {σ : L2.St} {H : Hp} {s : Shared} {C : Addr} {h' : Heap} (I : Inv X pins σ H s) (f : FpOk X pins H C) (sb : Heap.SameBut C s.heap h') : Inv X pins σ H { s with heap := h' } :=
  I.turned (it := C) (t' := s.toks) (fun b o n e => by rw [sb.2 b n]; exact e) f.1 f.2.1 f.2.2.2.1 f.2.2.2.2.1 f.2.2.2.2.2
theorem ev_lcX {k : Nat} (GX : GC X W k) (hst : X.stack = X.env :: X.outer) (hfm : X.env.frame = some X.env.locals) (hc : X.calm = true) (hN : X.N.Nodup) (hi : EVI X W tg iter src) (ok : BlkOk X.N X.env.scope scope own)
    (hg : ∀ (s : Shared) (H : Hp) (C : Addr) (cl : List (Str × Addr)) (fp : List Addr) (xe : Value → Shared → Prop), EVG (Ev.blkE X s H scope (compEnvC scope cl C X.env) fp xe) tg g t sl) (hsl : ∀ i ∈ sl, i ∈ own.map (·.2))
    (ht : ∀ (s : Shared) (H : Hp) (C : Addr) (cl : List (Str × Addr)) (fp : List Addr) (xe : Value → Shared → Prop) (W' : WX), GC (Ev.blkE X s H scope (compEnvC scope cl C X.env) fp xe) W' k → EVTs (Ev.blkE X s H scope (compEnvC scope cl C X.env) fp xe) W' ifs mt)
    (he : ∀ (s : Shared) (H : Hp) (C : Addr) (cl : List (Str × Addr)) (fp : List Addr) (xe : Value → Shared → Prop) (W' : WX), GC (Ev.blkE X s H scope (compEnvC scope cl C X.env) fp xe) W' k → EV (Ev.blkE X s H scope (compEnvC scope cl C X.env) fp xe) W' elt me) (hs : ∀ x, foldedSetIterable iter X.env x = pure x := by intro _; rfl) :
    EV X W (.ListComp elt [⟨tg, iter, ifs, 0⟩] scope pos) (mLcX src (own.map (·.2)) t mt me) := by
  refine ⟨⟨fun pins s σ H Q I h => ?_⟩⟩
  rw [eval_ListComp]
  refine lc_raise (WW := W) GX.tk hst hfm hc hN I hi.pi ok (fun s H C cl fp xe => (hg s H C cl fp xe).pg) (fun s H C cl fp xe tk => (ht s H C cl fp xe _ (GX.blkE tk)).pts) (fun s H C cl fp xe tk => (he s H C cl fp xe _ (GX.blkE tk)).pe) hs
    (tLcX_of (hg s H 0 [] [] X.xe).ok hsl h) fun D ce s' m H' I' q hn f => ⟨m, hn, fun h'' sb => ?_⟩
  exact ⟨V.ref D, H', gone I' f sb, rfl, q⟩
theorem evs_setLcX {k i : Nat} {y : Str} {py spos : Pos} (GX : GC X W k) (hst : X.stack = X.env :: X.outer) (hfm : X.env.frame = some X.env.locals) (hc : X.calm = true) (hN : X.N.Nodup) (hy : X.N[i]? = some y) (hyl : X.env.scope.names.lookup y = some .local)
    (hsw : swapsWith (.ListComp elt [⟨tg, iter, ifs, 0⟩] scope pos) (some (.Name y py)) spos.line X.env = pure true) (hi : EVI X W tg iter src) (ok : BlkOk X.N X.env.scope scope own)
    (hg : ∀ (s : Shared) (H : Hp) (C : Addr) (cl : List (Str × Addr)) (fp : List Addr) (xe : Value → Shared → Prop), EVG (Ev.blkE X s H scope (compEnvC scope cl C X.env) fp xe) tg g t sl) (hsl : ∀ i ∈ sl, i ∈ own.map (·.2))
    (ht : ∀ (s : Shared) (H : Hp) (C : Addr) (cl : List (Str × Addr)) (fp : List Addr) (xe : Value → Shared → Prop) (W' : WX), GC (Ev.blkE X s H scope (compEnvC scope cl C X.env) fp xe) W' k → EVTs (Ev.blkE X s H scope (compEnvC scope cl C X.env) fp xe) W' ifs mt)
    (he : ∀ (s : Shared) (H : Hp) (C : Addr) (cl : List (Str × Addr)) (fp : List Addr) (xe : Value → Shared → Prop) (W' : WX), GC (Ev.blkE X s H scope (compEnvC scope cl C X.env) fp xe) W' k → EV (Ev.blkE X s H scope (compEnvC scope cl C X.env) fp xe) W' elt me) (hs : ∀ x, foldedSetIterable iter X.env x = pure x := by intro _; rfl) :
    EVS X W (.Assign [.Name y py] (.ListComp elt [⟨tg, iter, ifs, 0⟩] scope pos) spos) (sSet i (mLcX src (own.map (·.2)) t mt me)) := by
  constructor
  constructor
  intro pins s σ H Dn I h
  have told := lc_raise (pos := pos) (pos' := firstIterPos [⟨tg, iter, ifs, 0⟩] pos) (use := some (assign (.Name y py) X.env)) (Qf := fun _ s' => SP X pins Dn .next s') (WW := W) GX.tk hst hfm hc hN I hi.pi ok (fun s H C cl fp xe => (hg s H C cl fp xe).pg) (fun s H C cl fp xe tk => (ht s H C cl fp xe _ (GX.blkE tk)).pts) (fun s H C cl fp xe tk => (he s H C cl fp xe _ (GX.blkE tk)).pe) hs
    (tLcX_of (W := W) (Q := fun x H1 => gName i x σ H1 Dn.nx) (hg s H 0 [] [] X.xe).ok hsl (tAsg_of h)) fun D ce s' m H' I' q hn f => by
      refine wpAny_assign_Name (store_ok2 (v := V.ref D) I' hN hy (.inl hyl) rfl (fun s2 I2 ⟨b, sb, hb⟩ => ?_) (.inr hyl))
      have apart : ce.locals ≠ b := hb.elim (fun z => z ▸ f.2.1) fun z w => f.2.2.2.2.1 y b z w.symm
      exact ⟨m, hn.sameBut sb apart, fun h3 sb3 => ⟨_, H', gone I2 f sb3, q⟩⟩
  rw [exec_Assign_Name_used _ _ _ _ hsw]
  apply wpAny_bind
  apply wpAny_standAt
  apply wpAny_bind
  exact wpAny_bind (thn told fun _ _ z => wpAny_pure (wpAny_pure z))
end
/-- eg_tup, K named: for a block, whose context is not the def's -/
theorem eg_tupK {X : Cx} {es : List Expr} {k : Nat} {pos : Pos} {gs : TGs} {u : Tgs} {n : Nat} {sl : List Nat} (K : PySem.W.Frag) (hK : X.K = K) (hc : X.calm = true) (h : EVGs X es gs u n sl) (hn : (assignEach es X.env).length = n := by rfl) (hst : (assignEach es X.env).findIdx? (·.1) = none := by rfl) :
    EVG X (.Tuple es k pos) (gTup K n gs) (tgTup u) sl := by
  subst hK
  exact eg_tup hc h hn hst
end Ev
set_option Elab.async false
set_option linter.all false
set_option maxRecDepth 100000
set_option maxHeartbeats 4000000
/-! Ev28: xs[::-1]. -/
namespace Ev
open PySem PySem.Spec PyProof.Rows L2
open Classical
variable [τ : Tbl]
section
variable {prog : Program} {w : World} {A : Around} {E : Value → Shared → Prop} {s : Shared}
theorem back_places (n : Nat) : Builtin.Slice.slicePlaces ((n : Int) - 1) (-1) (-1) = n := by
  unfold Builtin.Slice.slicePlaces
  rw [if_neg (by decide)]
  split
  · rw [show (-(-1 : Int)) = 1 by decide, Int.ediv_one]; omega
  · omega
/-- what a slice object with the step -1 comes to -/
theorem back_applied {sl : Addr} {u : Tok} {n : Nat} {Q : Int × Int × Nat → Shared → Prop} (hs : s.heap.IsSliceOf sl .none .none (.int (-1) u)) (h : Q ((n : Int) - 1, -1, n) s) : wpAny (model prog w) A (Builtin.Slice.sliceApplied (.ref sl) (pure (n : Int))) Q E s := by
  obtain ⟨o, e, _, d⟩ := hs
  have fs : ∀ {R : Value × Value × Value → Shared → Prop}, R (.none, .none, .int (-1) u) s → wpAny (model prog w) A (Builtin.Slice.sliceFields (.ref sl)) R E s := fun r => by
    unfold Builtin.Slice.sliceFields
    apply wpAny_bind; refine wpAny_field e d (x := .none) rfl ?_
    apply wpAny_bind; refine wpAny_field e d (x := .none) rfl ?_
    apply wpAny_bind; refine wpAny_field e d (x := .int (-1) u) rfl ?_
    exact wpAny_pure r
  unfold Builtin.Slice.sliceApplied
  apply wpAny_bind
  refine fs ?_
  apply wpAny_bind
  refine slicePart_int ?_
  change wpAny _ _ (if ((-1 : Int) == 0) = true then _ else _) _ _ s
  rw [if_neg (by decide)]
  apply wpAny_bind; refine slicePart_none ?_
  apply wpAny_bind; refine slicePart_none ?_
  apply wpAny_bind; refine wpAny_pure ?_
  change wpAny _ _ (pure ((n : Int) - 1, (-1 : Int), Builtin.Slice.slicePlaces ((n : Int) - 1) (-1) (-1))) _ _ s
  rw [back_places]
  exact wpAny_pure h
theorem back_pick (xs : Array Value) : ((List.range xs.size).filterMap fun (m : Nat) => xs[(((xs.size : Int) - 1) + (m : Int) * (-1)).toNat]?).toArray = xs.toList.reverse.toArray := by
  have e : ∀ l : List Nat, (∀ m ∈ l, m < xs.size) → l.filterMap (fun (m : Nat) => xs[(((xs.size : Int) - 1) + (m : Int) * (-1)).toNat]?) = l.filterMap fun m => xs[xs.size - 1 - m]? := fun l => by
    induction l with
    | nil => intro _; rfl
    | cons m l ih =>
      intro hm
      have := hm m List.mem_cons_self
      rw [List.filterMap_cons, List.filterMap_cons, ih fun k hk => hm k (List.mem_cons_of_mem _ hk), show (((xs.size : Int) - 1) + (m : Int) * (-1)).toNat = xs.size - 1 - m by omega]
  replace e := e (List.range xs.size) fun m hm => List.mem_range.mp hm
  have e2 : ((List.range xs.size).map (fun k => xs.size - 1 - k)).filterMap (xs[·]?) = (List.range xs.size).filterMap fun m => xs[xs.size - 1 - m]? := by
    rw [List.filterMap_map]
    rfl
  rw [e, ← e2, PySem.W.krv_range, List.filterMap_reverse, PySem.W.krv_all]
theorem back_tuple {t sl : Addr} {items : Array Value} {u : Tok} {Q : Value → Shared → Prop} (ht : IsTup s.heap t items) (hs : s.heap.IsSliceOf sl .none .none (.int (-1) u)) (hsz : items.size ≤ sizeLine)
    (h : Q (.ref s.heap.objs.size) { s with heap := s.heap.push { cls := .type "tuple", data := .seq items.toList.reverse.toArray } }) : wpAny (model prog w) A (getItem (.ref t) (.ref sl)) Q E s := by
  have okz : sizeOk (.seq items.toList.reverse.toArray) := by
    show items.toList.reverse.toArray.size ≤ sizeLine
    simpa using hsz
  have ty : s.TypeIs (.ref sl) "slice" := let ⟨o, e, c, _⟩ := hs; ⟨o, e, c⟩
  unfold getItem
  try with_reducible refine wpAny_holding ?_
  first | refine wpAny_bind (wpAny_pure ?_) | skip
  apply wpAny_bind
  refine wpAny_sequenceKey ht.typeIs (by decide) ?_
  apply wpAny_bind
  refine wpAny_callSpecial?_slot (name := Str.ofString "__getitem__") ht.typeIs PyProof.Rows.slot_tuple_getitem ?_
  refine wpAny_call_entry PyProof.Rows.slot_tuple_getitem ht.typeIs entry_tuple_getitem ?_ (args_tuple_getitem _ _)
  change wpAny _ _ (Builtin.Tuple.tupleItemsOf (.ref t) >>= _) _ _ s
  apply wpAny_bind
  refine tupleItemsOf_ ht ?_
  apply wpAny_bind
  refine wpAny_typeOf ty ?_
  rw [if_pos (by decide)]
  apply wpAny_bind
  refine back_applied hs ?_
  change wpAny _ _ (if ((((items.size : Int) - 1) == 0 && (-1 : Int) == 1 && items.size == items.size) = true) then _ else _) _ _ s
  rw [if_neg (by rw [show ((-1 : Int) == 1) = false by decide, Bool.and_false, Bool.false_and]; exact Bool.false_ne_true), back_pick]
  first
    | exact wpAny_bind (m := Builtin.Tuple.tupleExact _) (wpAny_newObj_type (wpAny_pure ⟨_, rfl, wpAny_pure h⟩) okz)
    | exact wpAny_bind (m := Builtin.Tuple.tupleExact _) (wpAny_newObj_type (wpAny_bind (wpAny_pure (wpAny_pure ⟨_, rfl, wpAny_pure h⟩))) okz)
    | exact wpAny_bind (wpAny_bind (m := Builtin.Tuple.tupleExact _) (wpAny_newObj_type (wpAny_pure (wpAny_pure ⟨_, rfl, wpAny_pure h⟩)) okz))
    | exact wpAny_bind (wpAny_bind (m := Builtin.Tuple.tupleExact _) (wpAny_newObj_type (wpAny_pure ⟨_, rfl, wpAny_pure h⟩) okz))
end
/-- xs[::step], the step -1 -/
def tBack (K : PySem.W.Frag) (te ts : TE) : TE := fun σ H Q => te σ H fun x H1 => ts σ H1 fun y H2 => y = .int (-1) ∧
  ((∃ a xs, x = .ref a ∧ SqT K H2 a xs ∧ ∀ p, H2 p = none → Q (.ref p) (upd H2 p (.tup xs.reverse))) ∨ ∃ a xs, x = .ref a ∧ SqL K H2 a xs ∧ ∀ p, H2 p = none → Q (.ref p) (upd H2 p (.lst xs.reverse)))
theorem vals_reverse : ∀ {xs : List V} {us : List Value}, Vals xs us → Vals xs.reverse us.reverse
  | _, _, .nil => .nil
  | _, _, .cons h r => by
    rw [List.reverse_cons, List.reverse_cons]
    exact (vals_reverse r).append (.cons h .nil)
section
variable {X : Cx} {e st : Expr} {te ts : TE} {pos p2 : Pos}
theorem pe_back (he : PE X e te) (hs : PE X st ts) : PE X (.Subscript e (.Slice none none (some st) p2) pos) (tBack X.K te ts) := by
  constructor
  intro pins s σ H Q I h
  apply Subscript_
  refine thn (he.run pins s σ H _ I h) ?_
  rintro v s1 ⟨x, H1, I1, r1, q1⟩
  apply wpAny_Slice
  rw [evalPart_none, evalPart_some]
  apply wpAny_pure
  apply wpAny_pure
  refine thn (hs.run pins s1 σ H1 _ I1 q1) ?_
  rintro v3 s2 ⟨y, H2, I2, r2, rfl, q2⟩
  obtain ⟨u, rfl⟩ := r2
  have J : Inv X pins σ H2 { s2 with heap := s2.heap.push { cls := .type "slice", data := .fields #[.none, .none, .int (-1) u] } } := I2.kept (t' := s2.toks) fun b o z => Heap.get?_push_of_some _ z
  generalize hs3 : ({ s2 with heap := s2.heap.push { cls := .type "slice", data := .fields #[.none, .none, .int (-1) u] } } : Shared) = s3 at J
  have sl : s3.heap.IsSliceOf s2.heap.objs.size .none .none (.int (-1) u) := by rw [← hs3]; exact Heap.IsSliceOf.new ..
  change wpAny (model X.prog X.w) X.A (subscriptTail e (.Slice none none (some st) p2) v (.ref s2.heap.objs.size)) (EP X pins σ Q) X.xe s3
  have keep : ∀ {h : Heap} (o : Obj) (b : Addr) (z : Obj), h.get? b = some z → (h.push o).get? b = some z := fun o b z q => Heap.get?_push_of_some _ q
  rcases q2 with ⟨a, xs, rfl, hx, q⟩ | ⟨a, xs, rfl, hx, q⟩
  · cases r1
    obtain ⟨us, r, t, z⟩ := J.tuple hx
    refine tail_any (ops := [.ref a, .ref s2.heap.objs.size]) t.typeIs PyProof.Rows.slot_tuple_getitem.lookup (back_tuple t sl (by rw [List.size_toArray, ← r.length]; exact z) ?_) (by with_unfolding_all rfl)
    refine ⟨.ref s3.heap.objs.size, _, J.laid (t' := s3.toks) (o := .tup xs.reverse) (keep _) (Nat.le_refl _) ⟨by rw [List.length_reverse]; exact z, us.reverse, vals_reverse r, ?_⟩, rfl, q _ (J.hok.fresh (Nat.le_refl _))⟩
    exact IsTup.new _ _
  · cases r1
    obtain ⟨us, r, t, z⟩ := J.list hx
    refine tail_any (ops := [.ref a, .ref s2.heap.objs.size]) t.isList.typeIs slot_list_getitem.lookup (wpAny_getItem_list_slice t.isList sl .none .none (.int (-1) u) (by decide) ?_ (by rw [List.size_toArray, ← r.length]; exact z)) (by with_unfolding_all rfl)
    rw [PySem.W.krv_pick]
    refine ⟨.ref s3.heap.objs.size, _, J.laid (t' := s3.toks) (o := .lst xs.reverse) (keep _) (Nat.le_refl _) ⟨by rw [List.length_reverse]; exact z, us.reverse, 0, vals_reverse r, Heap.get?_push_size _ rfl⟩, rfl, q _ (J.hok.fresh (Nat.le_refl _))⟩
end
def dBack (d : D) : M D := fun st =>
  match dataOf d st with
  | some (.tuple xs) => .ok (.dat (.tuple xs.reverse)) st
  | some (.list xs) => .ok (.dat (.list xs.reverse)) st
  | _ => .bad
def stepBack (x y : D) : M D := match y with
  | .dat (.int i) => if i = -1 then dBack x else M.bad
  | _ => M.bad
def mBack (m ms : Env → M D) : Env → M D := fun ρ => M.bind (m ρ) fun x => M.bind (ms ρ) fun y => stepBack x y
theorem PdA.reverse {K : PySem.W.Frag} {U : Addr → Prop} {H : Hp} : ∀ {ds : List PyData} {vs : List V}, PdA K U H vs ds → PdA K U H vs.reverse ds.reverse
  | _, _, .nil => .nil
  | _, _, .cons h q => by
    rw [List.reverse_cons, List.reverse_cons]
    exact (PdA.reverse q).snoc h
theorem ev_back {X : Cx} {W : WX} {e st : Expr} {me ms : Env → M D} {pos p2 : Pos} (he : EV X W e me) (hs : EV X W st ms) : EV X W (.Subscript e (.Slice none none (some st) p2) pos) (mBack me ms) := by
  refine ⟨PE.imp (pe_back he.pe hs.pe) fun σ H Q h => ?_⟩
  obtain ⟨R, ρ, s0, S, E, h⟩ := h
  refine ⟨R, ρ, s0, S, E, (Post.bind (Rel := Dv X.K X.mg) (Rel2 := Dv X.K X.mg) h).monoQ fun v H1 ⟨R1, st1, d, x1, S1, D1, h2⟩ => ?_⟩
  refine ⟨R1, ρ, st1, S1, E.ext x1, (Post.bind (Rel := Dv X.K X.mg) (Rel2 := Dv X.K X.mg) h2).monoQ fun w H2 ⟨R2, st2, d2, x2, S2, D2, h3⟩ => ?_⟩
  have D1 := D1.ext x2
  unfold stepBack at h3
  split at h3
  · rename_i i
    split at h3
    · rename_i ei
      subst ei
      cases D2
      refine ⟨rfl, ?_⟩
      unfold dBack at h3
      split at h3
      · rename_i xs z
        cases D1.dataT z with
        | tup ta pa => exact .inl ⟨_, _, rfl, ta.seq, fun p hp => h3.okN S2 hp (newTup S2 hp pa.reverse)⟩
      · rename_i xs z
        obtain ⟨a, vs, rfl, ha, pa⟩ := D1.dataL S2 z
        exact .inr ⟨a, vs, rfl, .inl (.inl ha), fun p hp => h3.okN S2 hp (newLst S2 hp pa.reverse)⟩
      · exact h3.elim
    · exact h3.elim
  · exact h3.elim
end Ev
set_option Elab.async false
set_option linter.all false
set_option maxRecDepth 100000
set_option maxHeartbeats 4000000
/-! Pu3: more words for reckoning: == of truths, tuples put together, appends, loops over a range. -/
namespace Ev
open PySem PySem.Spec PyProof.Rows L2
open Classical
theorem dAdd_tuple {xs ys : List PyData} (h : xs.length + ys.length ≤ 100000) (st : Sto) : dAdd (.dat (.tuple xs)) (.dat (.tuple ys)) st = .ok (.dat (.tuple (xs ++ ys))) st := by
  show ifLen _ _ st = _
  unfold ifLen
  rw [if_pos h] <;> rfl
theorem dNe_bool (a b : Bool) (st : Sto) : dNe (.dat (.bool a)) (.dat (.bool b)) st = .ok (.dat (.bool (a != b))) st := by
  cases a <;> cases b <;> rfl
theorem dNe_str (x y : Str) (st : Sto) : dNe (.dat (.str x)) (.dat (.str y)) st = .ok (.dat (.bool (!decide (x = y)))) st := rfl
theorem dNe_int' (i j : Int) (st : Sto) : dNe (.dat (.int i)) (.dat (.int j)) st = .ok (.dat (.bool (!(i == j)))) st := by
  show notM (eqD (.int i) (.int j)) st = _
  have e : eqD (.int i) (.int j) st = .ok (.dat (.bool (i == j))) st := dEq_int i j st
  rw [notM_ap, e] <;> rfl
theorem append_ap {mo : Env → M D} {ms : Env → M (List D)} {ρ : Env} {st st1 st2 : Sto} {n : Nat} {xs zs : List PyData} {y : PyData} (h1 : mo ρ st = .ok (.loc n) st1) (h2 : st1[n]? = some (.lst zs)) (h3 : ms ρ st1 = .ok [.dat y] st2) (e : st2[n]? = some (.lst xs)) (hl : xs.length ≤ 100000) :
    mMt dAppend mo ms ρ st = .ok (.dat .none) (st2.set n (.lst (xs ++ [y]))) := by
  unfold mMt
  rw [bind_ap, h1, then_ok, bind_ap]
  have q : isLoc (.loc n) st1 = .ok (.loc n) st1 := by
    unfold isLoc
    dsimp only
    rw [h2]
  rw [q, then_ok, bind_ap, h3, then_ok]
  show onLoc _ (.loc n) st2 = _
  unfold onLoc
  dsimp only
  rw [e]
  dsimp only
  rw [if_pos hl]
theorem sPar_ap {i j : Nat} {ms : Env → M (List D)} {ρ : Env} {st st1 : Sto} {x y : D} (h : ms ρ st = .ok [x, y] st1) : sPar i j ms ρ st = .nx ((ρ.set i (some x)).set j (some y)) st1 := by
  unfold sPar
  rw [sBind_ap, h] <;> rfl
@[simp] theorem mK_ap (F : List D → M D) (g : List D → List D → List D) (ms mk : Env → M (List D)) (ρ : Env) (st : Sto) : mK F g ms mk ρ st = (ms ρ st).then fun ds => M.bind (mk ρ) fun es => F (g ds es) := rfl
theorem rng_ap {k : Int} (h0 : 0 ≤ k) (h1 : k < 1000) (st : Sto) : rng1 [.dat (.int k)] st = .ok (rangeD 0 k.toNat) st := by
  show (if -(2 ^ 62) ≤ k ∧ k < 2 ^ 62 then M.pure (rangeD 0 k.toNat) else M.bad) st = _
  rw [if_pos ⟨by omega, by omega⟩]
  rfl
theorem rng_items (k : Nat) : (rangeD 0 k).items = (List.range k).map (fun i : Nat => D.dat (.int (0 + (i : Int)))) := id rfl
theorem rng_ok (k : Nat) : (rangeD 0 k).ok = fun _ => True := id rfl
theorem data_items (xs : List PyData) : (Src.data xs).items = xs.map D.dat := id rfl
theorem data_ok (xs : List PyData) : (Src.data xs).ok = fun _ => True := id rfl
theorem loopS_end {t : Tg} {body : SM} {ρ : Env} {st : Sto} : loopS (fun _ => True) t body [] ρ st = .nx ρ st := by
  rw [loopS, if_pos trivial]
/-- a loop whose turns change the slots from 1 on in any way, the store in any way -/
theorem loop_any {t : Tg} {body : SM} {x : Option D} {N : Nat} (ds : List D) (h : ∀ d ∈ ds, ∀ (ρ : Env) (st : Sto), ρ.length = N → ∃ ρ1, t d (x :: ρ) = some ρ1 ∧ ∃ ρ2 st2, body ρ1 st = .nx (x :: ρ2) st2 ∧ ρ2.length = N) :
    ∀ (ρ : Env) (st : Sto), ρ.length = N → ∃ ρ2 st2, loopS (fun _ => True) t body ds (x :: ρ) st = .nx (x :: ρ2) st2 ∧ ρ2.length = N := by
  induction ds with
  | nil => intro ρ st hl; exact ⟨ρ, st, loopS_end, hl⟩
  | cons d r ih =>
    intro ρ st hl
    obtain ⟨ρ1, e1, ρ2, st2, e2, l2⟩ := h d List.mem_cons_self ρ st hl
    obtain ⟨ρ3, st3, e3, l3⟩ := ih (fun y hy => h y (List.mem_cons_of_mem _ hy)) ρ2 st2 l2
    exact ⟨ρ3, st3, by rw [loopS_nx trivial e1 e2, e3], l3⟩
/-- slots, one by one -/
theorem env1 {ρ : Env} {n : Nat} (h : ρ.length = n + 1) : ∃ a r, ρ = a :: r ∧ r.length = n := by
  cases ρ with
  | nil => cases h
  | cons a r => exact ⟨a, r, rfl, by simpa using h⟩
theorem env0 {ρ : Env} (h : ρ.length = 0) : ρ = [] := List.length_eq_zero_iff.mp h
theorem loopC_list {α : Type} {t : Tg} {elt : Env → M D} {ρ : Env} {st : Sto} (enc : α → D) (val : α → PyData) : ∀ (es : List α) (acc : List PyData), acc.length + es.length ≤ 100001 → (∀ a ∈ es, ∃ ρ1, t (enc a) ρ = some ρ1 ∧ elt ρ1 st = .ok (.dat (val a)) st) →
    loopC (fun _ => True) t mYes elt ρ (es.map enc) acc st = .ok (.dat (.list (acc ++ es.map val))) st
  | [], acc, _, _ => by
    rw [List.map_nil, loopC, if_pos trivial, List.map_nil, List.append_nil]
  | a :: r, acc, hl, h => by
    obtain ⟨ρ1, e1, e2⟩ := h a List.mem_cons_self
    rw [List.length_cons] at hl
    rw [List.map_cons, loopC, if_pos ⟨trivial, by omega⟩, e1]
    show (match elt ρ1 st with | .ok (.dat y) st2 => loopC (fun _ => True) t mYes elt ρ (r.map enc) (acc ++ [y]) st2 | _ => .bad) = _
    rw [e2]
    show loopC (fun _ => True) t mYes elt ρ (r.map enc) (acc ++ [val a]) st = _
    rw [loopC_list enc val r (acc ++ [val a]) (by rw [List.length_append, List.length_singleton]; omega) fun b hb => h b (List.mem_cons_of_mem _ hb), List.map_cons, List.append_assoc]
    rfl
/-- a comprehension whose element changes the store -/
theorem loopC_st {t : Tg} {elt : Env → M D} {ρ : Env} (P : Nat → Sto → Prop) (Q : PyData → Prop) : ∀ (ds : List D) (k : Nat) (acc : List PyData) (st : Sto), acc.length + ds.length ≤ 100001 → P k st →
    (∀ d ∈ ds, ∃ ρ1, t d ρ = some ρ1 ∧ ∀ j st, P j st → j < k + ds.length → ∃ y st', elt ρ1 st = .ok (.dat y) st' ∧ Q y ∧ P (j + 1) st') →
    ∃ ys st', loopC (fun _ => True) t mYes elt ρ ds acc st = .ok (.dat (.list (acc ++ ys))) st' ∧ ys.length = ds.length ∧ (∀ y ∈ ys, Q y) ∧ P (k + ds.length) st'
  | [], k, acc, st, _, hp, _ => ⟨[], st, by rw [loopC, if_pos trivial, List.append_nil], rfl, (fun y h => by cases h), hp⟩
  | d :: r, k, acc, st, hl, hp, h => by
    obtain ⟨ρ1, e1, f⟩ := h d List.mem_cons_self
    rw [List.length_cons] at hl
    obtain ⟨y, st1, e2, qy, p1⟩ := f k st hp (by rw [List.length_cons]; omega)
    obtain ⟨ys, st2, e3, l3, q3, p3⟩ := loopC_st P Q r (k + 1) (acc ++ [y]) st1 (by rw [List.length_append, List.length_singleton]; omega) p1 fun b hb => by
      obtain ⟨ρ2, a, b⟩ := h b (List.mem_cons_of_mem _ hb)
      exact ⟨ρ2, a, fun j st hj hl => b j st hj (by rw [List.length_cons]; omega)⟩
    refine ⟨y :: ys, st2, ?_, by rw [List.length_cons, l3, List.length_cons], fun z hz => ?_, by rw [List.length_cons, show k + (r.length + 1) = k + 1 + r.length by omega]; exact p3⟩
    · rw [loopC, if_pos ⟨trivial, by omega⟩, e1]
      show (match elt ρ1 st with | .ok (.dat y) st2 => loopC (fun _ => True) t mYes elt ρ r (acc ++ [y]) st2 | _ => .bad) = _
      rw [e2]
      show loopC (fun _ => True) t mYes elt ρ r (acc ++ [y]) st1 = _
      rw [e3, List.append_assoc]
      rfl
    · rcases List.mem_cons.mp hz with h | h
      · rw [h]; exact qy
      · exact q3 z h
theorem mkTup_go (ds : List D) (st : Sto) : mkTup ds st = match datas ds with
  | some xs => if xs.length ≤ 100000 then .ok (.dat (.tuple xs)) st else .bad
  | none => .bad := rfl
theorem mkLst_go (ds : List D) (st : Sto) : mkLst ds st = match datas ds with
  | some xs => if xs.length ≤ 100000 then .ok (.dat (.list xs)) st else .bad
  | none => .bad := rfl
theorem Dn.rf {n m : Nat} {st : Sto} (S : SackAt st n m) : Dn n m st st := by
  obtain ⟨a, b, c, e, _⟩ := id S
  exact ⟨SameBut.refl (List.getElem?_eq_some_iff.mp e).1, S⟩
/-- numbers, told as such -/
theorem ints_of {P : Int → Prop} : ∀ {ys : List PyData}, (∀ y ∈ ys, ∃ v : Int, y = .int v ∧ P v) → ∃ r : List Int, ys = r.map PyData.int ∧ (∀ i ∈ r, P i) ∧ r.length = ys.length
  | [], _ => ⟨[], rfl, (fun i h => by cases h), rfl⟩
  | y :: ys, h => by
    obtain ⟨v, rfl, pv⟩ := h y List.mem_cons_self
    obtain ⟨r, rfl, pr, hl⟩ := ints_of (ys := ys) fun z hz => h z (List.mem_cons_of_mem _ hz)
    refine ⟨v :: r, rfl, fun i hi => ?_, by simp⟩
    rcases List.mem_cons.mp hi with z | z
    · rw [z]; exact pv
    · exact pr i z
theorem Sm.pair {d1 d2 c1 c2 : Nat} {x y : PyData} {a b a' b' : Bool} (h : Sm d1 c1 a b x) (k : Sm d2 c2 a' b' y) : Sm (max d1 d2 + 1) (8 + c1 + c2) false false (.tuple [x, y]) := by
  refine ⟨?_, ?_, ?_, (fun z => by cases z), fun z => by cases z⟩
  · show (x.showable && (y.showable && true)) = true
    rw [h.sh, k.sh] <;> rfl
  · show max x.depth (max y.depth 0) + 1 ≤ _
    have := h.dp; have := k.dp; omega
  · show 4 + ((cost x + 2) + ((cost y + 2) + 0)) ≤ _
    have := h.co; have := k.co; omega
theorem Sm.ok {d c : Nat} {x : PyData} {a b : Bool} (h : Sm d c a b x) (h1 : d ≤ 64) (h2 : c ≤ 16000000) : reprOk x = true := reprOk_of h.sh h.dp h.co h1 h2
end Ev
set_option Elab.async false
set_option linter.all false
set_option maxRecDepth 100000
set_option maxHeartbeats 4000000
/-! Wp: what must hold ahead, so that something holds behind: reckoning with the functions, head first. -/
namespace Ev
open PySem PySem.Spec PyProof.Rows L2
open Classical
/-- what is wanted of a result -/
structure Rst (α : Type) where
  ok : α → Sto → Prop
  xc : Exc → Sto → Prop
/-- what is wanted of a statement -/
structure Pst where
  nx : Env → Sto → Prop
  rt : D → Sto → Prop
  bk : Env → Sto → Prop
  ct : Env → Sto → Prop
  xc : Exc → Env → Sto → Prop
def holdsR {α : Type} (r : Res α) (P : Rst α) : Prop := match r with
  | .ok a st => P.ok a st
  | .exc x st => P.xc x st
  | .bad => False
def holdsS (r : SRes) (P : Pst) : Prop := match r with
  | .nx ρ st => P.nx ρ st
  | .rt d st => P.rt d st
  | .bk ρ st => P.bk ρ st
  | .ct ρ st => P.ct ρ st
  | .exc x ρ st => P.xc x ρ st
  | .bad => False
/-- r comes to what is wanted; nothing is unfolded by itself -/
structure wpR {α : Type} (r : Res α) (P : Rst α) : Prop where
  un : holdsR r P
structure wpS (r : SRes) (P : Pst) : Prop where
  un : holdsS r P
theorem wpR_def {α : Type} (r : Res α) (P : Rst α) : wpR r P = holdsR r P := propext ⟨fun h => h.un, fun h => ⟨h⟩⟩
theorem wpS_def (r : SRes) (P : Pst) : wpS r P = holdsS r P := propext ⟨fun h => h.un, fun h => ⟨h⟩⟩
section
variable {α β : Type}
def Rst.thn (P : Rst β) (f : α → M β) : Rst α := ⟨fun a st => wpR (f a st) P, P.xc⟩
def Pst.thnS (P : Pst) (ρ : Env) (f : α → SM) : Rst α := ⟨fun a st => wpS (f a ρ st) P, fun x st => P.xc x ρ st⟩
def Pst.seq (P : Pst) (n : SM) : Pst := ⟨fun ρ st => wpS (n ρ st) P, P.rt, P.bk, P.ct, P.xc⟩
def Rst.fin (P : Rst D) (give : Nat → D → Sto → Res D) (n : Nat) : Pst := ⟨fun _ st => wpR (give n (.dat .none) st) P, fun d st => wpR (give n d st) P, fun _ _ => False, fun _ _ => False, fun x _ st => P.xc x (st.take n)⟩
theorem wpR_okE (a : α) (st : Sto) (P : Rst α) : wpR (.ok a st) P = P.ok a st := wpR_def _ _
theorem wpR_excE (x : Exc) (st : Sto) (P : Rst α) : wpR (.exc x st) P = P.xc x st := wpR_def _ _
theorem wpR_then (r : Res α) (f : α → M β) (P : Rst β) : wpR (r.then f) P = wpR r (P.thn f) := by
  rw [wpR_def, wpR_def]
  cases r with
  | ok a st => exact (wpR_def (f a st) P).symm
  | exc x st => rfl
  | bad => rfl
theorem thn_ok (P : Rst β) (f : α → M β) (a : α) (st : Sto) : (P.thn f).ok a st = wpR (f a st) P := rfl
theorem thn_xc (P : Rst β) (f : α → M β) (x : Exc) (st : Sto) : (P.thn f).xc x st = P.xc x st := rfl
theorem wpS_thenS (r : Res α) (ρ : Env) (f : α → SM) (P : Pst) : wpS (r.thenS ρ f) P = wpR r (P.thnS ρ f) := by
  rw [wpR_def, wpS_def]
  cases r with
  | ok a st => exact (wpS_def (f a ρ st) P).symm
  | exc x st => rfl
  | bad => rfl
theorem thnS_ok (P : Pst) (ρ : Env) (f : α → SM) (a : α) (st : Sto) : (P.thnS ρ f).ok a st = wpS (f a ρ st) P := rfl
theorem thnS_xc (P : Pst) (ρ : Env) (f : α → SM) (x : Exc) (st : Sto) : (P.thnS ρ f).xc x st = P.xc x ρ st := rfl
theorem wpS_nxE (ρ : Env) (st : Sto) (P : Pst) : wpS (.nx ρ st) P = P.nx ρ st := wpS_def _ _
theorem wpS_rtE (d : D) (st : Sto) (P : Pst) : wpS (.rt d st) P = P.rt d st := wpS_def _ _
theorem wpS_bkE (ρ : Env) (st : Sto) (P : Pst) : wpS (.bk ρ st) P = P.bk ρ st := wpS_def _ _
theorem wpS_ctE (ρ : Env) (st : Sto) (P : Pst) : wpS (.ct ρ st) P = P.ct ρ st := wpS_def _ _
theorem wpS_excE (x : Exc) (ρ : Env) (st : Sto) (P : Pst) : wpS (.exc x ρ st) P = P.xc x ρ st := wpS_def _ _
theorem wpS_then (r : SRes) (n : SM) (P : Pst) : wpS (r.then n) P = wpS r (P.seq n) := by
  rw [wpS_def, wpS_def]
  cases r with
  | nx ρ st => exact (wpS_def (n ρ st) P).symm
  | _ => rfl
theorem seq_nxE (P : Pst) (n : SM) (ρ : Env) (st : Sto) : (P.seq n).nx ρ st = wpS (n ρ st) P := rfl
theorem seq_rtE (P : Pst) (n : SM) (d : D) (st : Sto) : (P.seq n).rt d st = P.rt d st := rfl
theorem seq_bkE (P : Pst) (n : SM) (ρ : Env) (st : Sto) : (P.seq n).bk ρ st = P.bk ρ st := rfl
theorem seq_ctE (P : Pst) (n : SM) (ρ : Env) (st : Sto) : (P.seq n).ct ρ st = P.ct ρ st := rfl
theorem seq_xcE (P : Pst) (n : SM) (x : Exc) (ρ : Env) (st : Sto) : (P.seq n).xc x ρ st = P.xc x ρ st := rfl
theorem wpR_fin (r : SRes) (give : Nat → D → Sto → Res D) (n : Nat) (P : Rst D) : wpR (r.fin give n) P = wpS r (P.fin give n) := by
  rw [wpR_def, wpS_def]
  cases r with
  | nx ρ st => exact (wpR_def (give n (.dat .none) st) P).symm
  | rt d st => exact (wpR_def (give n d st) P).symm
  | _ => rfl
theorem fin_nxE (P : Rst D) (give : Nat → D → Sto → Res D) (n : Nat) (ρ : Env) (st : Sto) : (P.fin give n).nx ρ st = wpR (give n (.dat .none) st) P := rfl
theorem fin_rtE (P : Rst D) (give : Nat → D → Sto → Res D) (n : Nat) (d : D) (st : Sto) : (P.fin give n).rt d st = wpR (give n d st) P := rfl
theorem fin_xcE (P : Rst D) (give : Nat → D → Sto → Res D) (n : Nat) (x : Exc) (ρ : Env) (st : Sto) : (P.fin give n).xc x ρ st = P.xc x (st.take n) := rfl
theorem giveD_datW (P : Rst D) (n : Nat) (x : PyData) (st : Sto) : wpR (giveD n (.dat x) st) P = P.ok (.dat x) (st.take n) := wpR_def _ _
theorem wpR.to {r : Res α} {P P' : Rst α} (h : wpR r P) (k : ∀ a st, P.ok a st → P'.ok a st) (kx : ∀ x st, P.xc x st → P'.xc x st) : wpR r P' := by
  have h := h.un
  refine ⟨?_⟩
  cases r with
  | ok a st => exact k a st h
  | exc x st => exact kx x st h
  | bad => exact h
theorem wpS.to {r : SRes} {P P' : Pst} (h : wpS r P) (k1 : ∀ a st, P.nx a st → P'.nx a st) (k2 : ∀ a st, P.rt a st → P'.rt a st) (k3 : ∀ a st, P.bk a st → P'.bk a st) (k4 : ∀ a st, P.ct a st → P'.ct a st) (k5 : ∀ x a st, P.xc x a st → P'.xc x a st) : wpS r P' := by
  have h := h.un
  refine ⟨?_⟩
  cases r with
  | nx ρ st => exact k1 _ _ h
  | rt ρ st => exact k2 _ _ h
  | bk ρ st => exact k3 _ _ h
  | ct ρ st => exact k4 _ _ h
  | exc x ρ st => exact k5 _ _ _ h
  | bad => exact h
/-- told as an equation -/
theorem wpR_eq {r : Res α} {a : α} {st : Sto} {P : Rst α} (e : r = .ok a st) (h : P.ok a st) : wpR r P := by rw [e]; exact ⟨h⟩
theorem wpR_iff {r : Res α} {a : α} {st : Sto} : wpR r ⟨fun b s => b = a ∧ s = st, fun _ _ => False⟩ ↔ r = .ok a st := by
  rw [wpR_def]
  cases r with
  | ok b s => exact ⟨fun ⟨h1, h2⟩ => by rw [h1, h2], fun h => by cases h; exact ⟨rfl, rfl⟩⟩
  | exc x s => exact ⟨fun h => h.elim, fun h => by cases h⟩
  | bad => exact ⟨fun h => h.elim, fun h => by cases h⟩
theorem wpR_ex {r : Res α} {Q : α → Sto → Prop} (h : wpR r ⟨Q, fun _ _ => False⟩) : ∃ a st, r = .ok a st ∧ Q a st := by
  have h := h.un
  cases r with
  | ok b s => exact ⟨b, s, rfl, h⟩
  | exc x s => exact h.elim
  | bad => exact h.elim
theorem wpR_xiff {r : Res α} {x : Exc} {st : Sto} : wpR r ⟨fun _ _ => False, fun y s => y = x ∧ s = st⟩ ↔ r = .exc x st := by
  rw [wpR_def]
  cases r with
  | exc b s => exact ⟨fun ⟨h1, h2⟩ => by rw [h1, h2], fun h => by cases h; exact ⟨rfl, rfl⟩⟩
  | ok x s => exact ⟨fun h => h.elim, fun h => by cases h⟩
  | bad => exact ⟨fun h => h.elim, fun h => by cases h⟩
end
/-! ### loops -/
theorem wp_loop {t : Tg} {body : SM} {P : Pst} : ∀ (ds : List D) (I : Nat → Env → Sto → Prop) (ρ : Env) (st : Sto), I 0 ρ st →
    (∀ (k : Nat) (hk : k < ds.length) (ρ : Env) (st : Sto), I k ρ st → ∃ ρ1, t ds[k] ρ = some ρ1 ∧ wpS (body ρ1 st) ⟨I (k + 1), P.rt, P.nx, I (k + 1), P.xc⟩) →
    (∀ ρ st, I ds.length ρ st → P.nx ρ st) → wpS (loopS (fun _ => True) t body ds ρ st) P
  | [], I, ρ, st, h0, _, h2 => by
    rw [loopS, if_pos trivial]
    exact ⟨h2 ρ st h0⟩
  | d :: ds, I, ρ, st, h0, h1, h2 => by
    obtain ⟨ρ1, e1, w⟩ := h1 0 (Nat.succ_pos _) ρ st h0
    have e1' : t d ρ = some ρ1 := e1
    rw [loopS, if_pos trivial, e1']
    dsimp only
    have ih := fun ρ2 st2 (h : I 1 ρ2 st2) => wp_loop (P := P) (t := t) (body := body) ds (fun k => I (k + 1)) ρ2 st2 h (fun k hk => h1 (k + 1) (Nat.succ_lt_succ hk)) h2
    cases e : body ρ1 st with
    | nx ρ2 st2 => rw [e] at w; exact ih ρ2 st2 w.un
    | ct ρ2 st2 => rw [e] at w; exact ih ρ2 st2 w.un
    | bk ρ2 st2 => rw [e] at w; exact ⟨w.un⟩
    | rt d2 st2 => rw [e] at w; exact ⟨w.un⟩
    | exc x ρ2 st2 => rw [e] at w; exact ⟨w.un⟩
    | bad => rw [e] at w; exact w.un.elim
/-- over n numbers -/
theorem wp_range {t : Tg} {body : SM} {P : Pst} {n : Nat} {lo : Int} {ρ : Env} {st : Sto} (I : Nat → Env → Sto → Prop) (h0 : I 0 ρ st)
    (h1 : ∀ (k : Nat) (ρ : Env) (st : Sto), k < n → I k ρ st → ∃ ρ1, t (.dat (.int (lo + (k : Int)))) ρ = some ρ1 ∧ wpS (body ρ1 st) ⟨I (k + 1), P.rt, P.nx, I (k + 1), P.xc⟩)
    (h2 : ∀ ρ st, I n ρ st → P.nx ρ st) : wpS (loopS (fun _ => True) t body ((List.range n).map fun i : Nat => D.dat (.int (lo + (i : Int)))) ρ st) P := by
  refine wp_loop _ I ρ st h0 (fun k hk ρ st h => ?_) (fun ρ st h => h2 ρ st (by simpa using h))
  obtain ⟨ρ1, e, w⟩ := h1 k ρ st (by simpa using hk) h
  exact ⟨ρ1, by simpa using e, w⟩
/-- over things told by a list -/
theorem wp_each {α : Type} {t : Tg} {body : SM} {P : Pst} {enc : α → D} {xs : List α} {ρ : Env} {st : Sto} (I : Nat → Env → Sto → Prop) (h0 : I 0 ρ st)
    (h1 : ∀ (k : Nat) (hk : k < xs.length) (ρ : Env) (st : Sto), I k ρ st → ∃ ρ1, t (enc xs[k]) ρ = some ρ1 ∧ wpS (body ρ1 st) ⟨I (k + 1), P.rt, P.nx, I (k + 1), P.xc⟩)
    (h2 : ∀ ρ st, I xs.length ρ st → P.nx ρ st) : wpS (loopS (fun _ => True) t body (xs.map enc) ρ st) P := by
  refine wp_loop _ I ρ st h0 (fun k hk ρ st h => ?_) (fun ρ st h => h2 ρ st (by simpa using h))
  obtain ⟨ρ1, e, w⟩ := h1 k (by simpa using hk) ρ st h
  exact ⟨ρ1, by simpa using e, w⟩
theorem wp_lc {t : Tg} {test : Env → M Bool} {elt : Env → M D} {ρ : Env} {P : Rst D} : ∀ (ds : List D) (I : Nat → List PyData → Sto → Prop) (acc : List PyData) (st : Sto), acc.length + ds.length ≤ 100000 → I 0 acc st →
    (∀ (k : Nat) (hk : k < ds.length) (acc : List PyData) (st : Sto), I k acc st → ∃ ρ1, t ds[k] ρ = some ρ1 ∧ wpR (test ρ1 st) ⟨fun b st1 => (b = true → wpR (elt ρ1 st1) ⟨fun y st2 => ∃ x, y = .dat x ∧ I (k + 1) (acc ++ [x]) st2, fun _ _ => False⟩) ∧ (b = false → I (k + 1) acc st1), fun _ _ => False⟩) →
    (∀ acc st, I ds.length acc st → P.ok (.dat (.list acc)) st) → wpR (loopC (fun _ => True) t test elt ρ ds acc st) P
  | [], I, acc, st, _, h0, _, h2 => by
    rw [loopC, if_pos trivial]
    exact ⟨h2 acc st h0⟩
  | d :: ds, I, acc, st, hl, h0, h1, h2 => by
    rw [List.length_cons] at hl
    obtain ⟨ρ1, e1, w⟩ := h1 0 (Nat.succ_pos _) acc st h0
    have e1' : t d ρ = some ρ1 := e1
    rw [loopC, if_pos ⟨trivial, by omega⟩, e1']
    dsimp only
    have ih := fun acc2 st2 (hl : acc2.length + ds.length ≤ 100000) (h : I 1 acc2 st2) => wp_lc (P := P) (t := t) (test := test) (elt := elt) (ρ := ρ) ds (fun k => I (k + 1)) acc2 st2 hl h (fun k hk => h1 (k + 1) (Nat.succ_lt_succ hk)) h2
    obtain ⟨b, st1, e2, wt, wf⟩ := wpR_ex w
    rw [e2]
    cases b with
    | false => exact ih acc st1 (by omega) (wf rfl)
    | true =>
      obtain ⟨y, st2, e3, x, rfl, i2⟩ := wpR_ex (wt rfl)
      dsimp only
      rw [e3]
      exact ih (acc ++ [x]) st2 (by rw [List.length_append, List.length_singleton]; omega) i2
/-- all of them, nothing changes -/
theorem wp_map {α : Type} {t : Tg} {elt : Env → M D} {ρ : Env} {st : Sto} {P : Rst D} {enc : α → D} (val : α → PyData) {xs : List α} (hl : xs.length ≤ 100000)
    (h1 : ∀ x ∈ xs, ∃ ρ1, t (enc x) ρ = some ρ1 ∧ wpR (elt ρ1 st) ⟨fun y s => y = .dat (val x) ∧ s = st, fun _ _ => False⟩) (h2 : P.ok (.dat (.list (xs.map val))) st) : wpR (loopC (fun _ => True) t mYes elt ρ (xs.map enc) [] st) P := by
  refine wpR_eq (loopC_list enc val xs [] (by simp; omega) fun a ha => ?_) (by simpa using h2)
  obtain ⟨ρ1, e, w⟩ := h1 a ha
  exact ⟨ρ1, e, wpR_iff.mp w⟩
/-- drawn ones: each as Q wants it, told by the step -/
theorem wp_gen {t : Tg} {elt : Env → M D} {ρ : Env} {P : Rst D} {ds : List D} {st : Sto} (J : Nat → Sto → Prop) (Q : PyData → Prop) (hl : ds.length ≤ 100000) (h0 : J 0 st)
    (h1 : ∀ (k : Nat) (hk : k < ds.length) (st : Sto), J k st → ∃ ρ1, t ds[k] ρ = some ρ1 ∧ wpR (elt ρ1 st) ⟨fun y s => ∃ x, y = .dat x ∧ Q x ∧ J (k + 1) s, fun _ _ => False⟩)
    (h2 : ∀ xs st, xs.length = ds.length → (∀ x ∈ xs, Q x) → J ds.length st → P.ok (.dat (.list xs)) st) : wpR (loopC (fun _ => True) t mYes elt ρ ds [] st) P := by
  refine wp_lc ds (fun k acc s => acc.length = k ∧ (∀ x ∈ acc, Q x) ∧ J k s) [] st (by simpa using hl) ⟨rfl, (fun x h => by cases h), h0⟩ (fun k hk acc s ⟨la, qa, j⟩ => ?_) (fun acc s ⟨la, qa, j⟩ => h2 acc s la qa j)
  obtain ⟨ρ1, e, w⟩ := h1 k hk s j
  refine ⟨ρ1, e, ⟨fun _ => w.to (fun y s2 ⟨x, e, q, j2⟩ => ⟨x, e, by rw [List.length_append, la]; rfl, fun z hz => ?_, j2⟩) (fun _ _ h => h), (fun h => by cases h)⟩⟩
  rcases List.mem_append.mp hz with h | h
  · exact qa z h
  · rw [List.mem_singleton.mp h]; exact q
theorem wp_lx {t : Tg} {elt : Env → M D} {ρ : Env} {P : Rst D} : ∀ (ds : List D) (I : Nat → List PyData → Sto → Prop) (acc : List PyData) (st : Sto), acc.length + ds.length ≤ 100000 → I 0 acc st →
    (∀ (k : Nat) (hk : k < ds.length) (acc : List PyData) (st : Sto), I k acc st → ∃ ρ1, t ds[k] ρ = some ρ1 ∧ wpR (elt ρ1 st) ⟨fun y st2 => ∃ x, y = .dat x ∧ I (k + 1) (acc ++ [x]) st2, P.xc⟩) →
    (∀ acc st, I ds.length acc st → P.ok (.dat (.list acc)) st) → wpR (loopX (fun _ => True) t mYes elt ρ ds acc st) P
  | [], I, acc, st, _, h0, _, h2 => by
    rw [loopX, if_pos trivial]
    exact ⟨h2 acc st h0⟩
  | d :: ds, I, acc, st, hl, h0, h1, h2 => by
    rw [List.length_cons] at hl
    obtain ⟨ρ1, e1, w⟩ := h1 0 (Nat.succ_pos _) acc st h0
    have e1' : t d ρ = some ρ1 := e1
    rw [loopX, if_pos ⟨trivial, by omega⟩, e1']
    have ih := fun acc2 st2 (hl : acc2.length + ds.length ≤ 100000) (h : I 1 acc2 st2) => wp_lx (P := P) (t := t) (elt := elt) (ρ := ρ) ds (fun k => I (k + 1)) acc2 st2 hl h (fun k hk => h1 (k + 1) (Nat.succ_lt_succ hk)) h2
    show wpR (match elt ρ1 st with | .ok (.dat y) st2 => loopX (fun _ => True) t mYes elt ρ ds (acc ++ [y]) st2 | .exc x st2 => .exc x st2 | _ => .bad) P
    cases e3 : elt ρ1 st with
    | ok y st2 =>
      rw [e3] at w
      obtain ⟨x, e, i2⟩ := w.un
      rw [e]
      exact ih (acc ++ [x]) st2 (by rw [List.length_append, List.length_singleton]; omega) i2
    | exc x st2 => rw [e3] at w; exact ⟨w.un⟩
    | bad => rw [e3] at w; exact w.un.elim
theorem mLcX_ap (src : Env → M Src) (own : List Nat) (t : Tg) (test : Env → M Bool) (elt : Env → M D) (ρ : Env) (st : Sto) : mLcX src own t test elt ρ st = (src ρ st).then fun s => fun st => loopX s.ok t test elt (wipeE ρ own) s.items [] st := rfl
/-! ### lists that change -/
section
variable {n : Nat} {st : Sto} {P : Rst D} {xs : List PyData} {y : PyData}
theorem wp_isLoc (e : st[n]? = some (.lst xs)) (h : P.ok (.loc n) st) : wpR (isLoc (.loc n) st) P := by
  refine wpR_eq ?_ h
  unfold isLoc
  dsimp only
  rw [e]
theorem wp_append (e : st[n]? = some (.lst xs)) (hl : xs.length ≤ 100000) (h : P.ok (.dat .none) (st.set n (.lst (xs ++ [y])))) : wpR (dAppend (.loc n) [.dat y] st) P := by
  refine wpR_eq ?_ h
  show onLoc _ (.loc n) st = _
  unfold onLoc
  dsimp only
  rw [e]
  dsimp only
  rw [if_pos hl]
theorem top_at (st : Sto) (c : Cell) : (st ++ [c])[st.length]? = some c := by
  rw [List.getElem?_append_right (Nat.le_refl _), Nat.sub_self]
  rfl
theorem top_set (st : Sto) (c c' : Cell) : (st ++ [c]).set st.length c' = st ++ [c'] := by
  rw [List.set_append_right _ _ (Nat.le_refl _), Nat.sub_self]
  rfl
theorem top_take (st : Sto) (c : List Cell) : (st ++ c).take st.length = st := by simp
end
/-- found.append(y), found the newest list -/
theorem wp_app {mo : Env → M D} {ms : Env → M (List D)} {ρ : Env} {st : Sto} {l : Nat} {xs : List PyData} {P : Rst D} (h1 : mo ρ (st ++ [.lst xs]) = .ok (.loc l) (st ++ [.lst xs])) (hl : l = st.length) (hx : xs.length ≤ 100000)
    (h : wpR (ms ρ (st ++ [.lst xs])) ⟨fun ds s => ∃ y st', ds = [.dat y] ∧ s = st' ++ [.lst xs] ∧ st'.length = st.length ∧ P.ok (.dat .none) (st' ++ [.lst (xs ++ [y])]), P.xc⟩) : wpR (mMt dAppend mo ms ρ (st ++ [.lst xs])) P := by
  subst hl
  unfold mMt
  rw [bind_ap, h1, then_ok, bind_ap, wpR_then]
  refine wp_isLoc (top_at st _) ?_
  rw [thn_ok, bind_ap, wpR_then]
  refine h.to (fun ds s ⟨y, st', e1, e2, e3, p⟩ => ?_) (fun _ _ h => h)
  subst e1 e2
  rw [thn_ok]
  exact wp_append (xs := xs) (by rw [← e3]; exact top_at st' _) hx (by rw [← e3, top_set]; exact p)
/-! ### the sack -/
theorem SackAt.app {s : Sto} {n m : Nat} (h : SackAt s n m) (tl : Sto) : SackAt (s ++ tl) n m := by
  obtain ⟨a, b, c, e, r⟩ := h
  exact ⟨a, b, c, by rw [List.getElem?_append_left (List.getElem?_eq_some_iff.mp e).1]; exact e, r⟩
theorem SackAt.lt {s : Sto} {n m : Nat} (h : SackAt s n m) : n < s.length := by
  obtain ⟨a, b, c, e, r⟩ := h
  exact (List.getElem?_eq_some_iff.mp e).1
theorem SackAt.un {s tl : Sto} {n m : Nat} (h : SackAt (s ++ tl) n m) (hn : n < s.length) : SackAt s n m := by
  obtain ⟨a, b, c, e, r⟩ := h
  exact ⟨a, b, c, by rw [← e, List.getElem?_append_left hn], r⟩
theorem Dn.split {s tl s2 : Sto} {n m : Nat} (h : Dn n m (s ++ tl) s2) (hn : n < s.length) : ∃ s', s2 = s' ++ tl ∧ Dn n m s s' := by
  obtain ⟨⟨c, e⟩, k⟩ := h
  rw [List.set_append_left _ _ hn] at e
  refine ⟨s.set n c, e, ⟨c, rfl⟩, ?_⟩
  rw [e] at k
  exact k.un (by simpa using hn)
theorem wp_drawB {st : Sto} {n m : Nat} {many : Int} {P : Rst D} (S : SackAt st n m) (h0 : 0 < many) (h1 : many < 18446744073709551616) (hm : m ≤ 1000000) (h : ∀ r st', 0 ≤ r → r < many → Dn n (m + 1) st st' → P.ok (.dat (.int r)) st') : wpR (runB 6 2 drawB [.loc n, .dat (.int many)] st) P := by
  obtain ⟨r, st', e, a, b, c⟩ := draw_dn S h0 h1 hm
  exact wpR_eq e (h r st' a b c)
end Ev
set_option Elab.async false
set_option linter.all false
set_option maxRecDepth 100000
set_option maxHeartbeats 4000000
set_option exponentiation.threshold 5000
/-! Wp2: rules by hand for single steps. -/
namespace Ev
open PySem PySem.Spec PyProof.Rows L2
open Classical
section
variable {α β : Type} {st : Sto} {P : Rst D} {S : Pst}
theorem p10_6 (st : Sto) : dPow (.dat (.int 10)) (.dat (.int 6)) st = .ok (.dat (.int 1000000)) st := pow10 6 st
theorem p10_7 (st : Sto) : dPow (.dat (.int 10)) (.dat (.int 7)) st = .ok (.dat (.int 10000000)) st := pow10 7 st
theorem p10_8 (st : Sto) : dPow (.dat (.int 10)) (.dat (.int 8)) st = .ok (.dat (.int 100000000)) st := pow10 8 st
theorem p10_9 (st : Sto) : dPow (.dat (.int 10)) (.dat (.int 9)) st = .ok (.dat (.int 1000000000)) st := pow10 9 st
theorem p10_30 (st : Sto) : dPow (.dat (.int 10)) (.dat (.int 30)) st = .ok (.dat (.int 1000000000000000000000000000000)) st := pow10 30 st
theorem dMul_sm (st : Sto) (i j : Int) (h1 : -1000000000000000000 < i) (h2 : i < 1000000000000000000) (h3 : -1000000000000000000 < j) (h4 : j < 1000000000000000000) : dMul (.dat (.int i)) (.dat (.int j)) st = .ok (.dat (.int (i * j))) st := dMul_ap st i j ⟨wide64 (by omega) (by omega), wide64 (by omega) (by omega)⟩
theorem wpS_ite {c : Prop} [Decidable c] {a b : SRes} (h1 : c → wpS a S) (h2 : ¬ c → wpS b S) : wpS (if c then a else b) S := by split <;> rename_i h; exact h1 h; exact h2 h
theorem wpR_ite {c : Prop} [Decidable c] {a b : Res α} {P : Rst α} (h1 : c → wpR a P) (h2 : ¬ c → wpR b P) : wpR (if c then a else b) P := by split <;> rename_i h; exact h1 h; exact h2 h
/-- one of a list's things, whichever -/
theorem wp_ix {xs : List PyData} {r : Int} (Q : PyData → Prop) (h0 : 0 ≤ r) (h1 : r < xs.length) (hq : ∀ x ∈ xs, Q x) (h : ∀ x, Q x → P.ok (.dat x) st) : wpR (dIx (.dat (.list xs)) (.dat (.int r)) st) P := by
  obtain ⟨k, rfl⟩ := Int.eq_ofNat_of_zero_le h0
  have hk : k < xs.length := by omega
  exact wpR_eq (ix_list (atI_nat (List.getElem?_eq_getElem hk)) st) (h _ (hq _ (List.getElem_mem hk)))
theorem wp_ixT {xs : List PyData} {r : Int} (Q : PyData → Prop) (h0 : 0 ≤ r) (h1 : r < xs.length) (hq : ∀ x ∈ xs, Q x) (h : ∀ x, Q x → P.ok (.dat x) st) : wpR (dIx (.dat (.tuple xs)) (.dat (.int r)) st) P := by
  obtain ⟨k, rfl⟩ := Int.eq_ofNat_of_zero_le h0
  have hk : k < xs.length := by omega
  exact wpR_eq (ix_tuple (atI_nat (List.getElem?_eq_getElem hk)) st) (h _ (hq _ (List.getElem_mem hk)))
theorem thenS_ite {c : Prop} [Decidable c] (a b : Res α) (ρ : Env) (f : α → SM) : (if c then a else b).thenS ρ f = if c then a.thenS ρ f else b.thenS ρ f := by split <;> rfl
theorem take_self (st : Sto) : st.take st.length = st := List.take_length
theorem Dn.take {n m : Nat} {s s' : Sto} (h : Dn n m s s') : s'.take s.length = s' := by rw [← h.len, List.take_length]
theorem Dn.take2 {n m : Nat} {s s' tl : Sto} (h : Dn n m s s') : (s' ++ tl).take s.length = s' := by rw [← h.len]; simp
theorem tuple_none (n : Nat) (x : PyData) (st : Sto) : giveD n (.dat x) st = .ok (.dat x) (st.take n) := rfl
def isNone : PyData → Bool
  | .none => true
  | _ => false
theorem isNone0 : isNone .none = true := rfl
theorem isNone1 (b : Bool) : isNone (.bool b) = false := rfl
theorem isNone2 (i : Int) : isNone (.int i) = false := rfl
theorem isNone3 (i : Str) : isNone (.str i) = false := rfl
theorem isNone4 (i : List PyData) : isNone (.tuple i) = false := rfl
theorem isNone5 (i : List PyData) : isNone (.list i) = false := rfl
theorem isNone6 (i : List (PyData × PyData)) : isNone (.dict i) = false := rfl
theorem isN_none (d : PyData) (st : Sto) : isN (.dat d) (.dat .none) st = .ok (.dat (.bool (isNone d))) st := by
  cases d <;> rfl
theorem isNotN_none (d : PyData) (st : Sto) : isNotN (.dat d) (.dat .none) st = .ok (.dat (.bool (!isNone d))) st := by
  cases d <;> rfl
theorem mkLoc_go (ds : List D) (st : Sto) : mkLoc ds st = match datas ds with
  | some xs => if xs.length ≤ 100000 then .ok (.loc st.length) (st ++ [.lst xs]) else .bad
  | none => .bad := rfl
theorem tupOf_top (st : Sto) (xs : List PyData) : tupOf (.loc st.length) (st ++ [.lst xs]) = .ok (.dat (.tuple xs)) (st ++ [.lst xs]) := by
  unfold tupOf dataOf
  dsimp only
  rw [top_at]
theorem sPar_go (i j : Nat) (ms : Env → M (List D)) (ρ : Env) (st : Sto) : sPar i j ms ρ st = (ms ρ st).thenS ρ fun ds ρ st => match ds with
  | [x, y] => .nx ((ρ.set i (some x)).set j (some y)) st
  | _ => .bad := rfl
theorem sAsg_go (t : Tg) (m : Env → M D) (ρ : Env) (st : Sto) : sAsg t m ρ st = (m ρ st).thenS ρ fun d ρ st => match t d ρ with | some ρ' => .nx ρ' st | none => .bad := rfl
theorem giveL_top {st s' : Sto} (hl : s'.length = st.length) (xs : List PyData) : giveL st.length (.loc st.length) (s' ++ [.lst xs]) = .ok (.loc st.length) (s' ++ [.lst xs]) := by
  rw [← hl]
  exact giveL_new s' xs
theorem wp_try {body : SM} {hit : Str → Option Bool} {i : Nat} {suite : Addr → Value → Option Addr → SM} {ρ : Env} {st : Sto} {P : Pst}
    (hb : wpS (body ρ st) ⟨P.nx, P.rt, P.bk, P.ct, fun x ρ' st' => (hit x.cls = some false ∧ P.xc x ρ' st') ∨ (hit x.cls = some true ∧ ∃ r, (∀ a cls d, (x.flds = [] → d = none) → unI i (suite a cls d (ρ'.set i (some (.err (.ref a) cls d x))) st') = r) ∧ wpS r P)⟩) : wpS (sTryAs body hit i suite ρ st) P := by
  cases e : body ρ st with
  | nx ρ' st' => rw [e] at hb; rw [tryAs_nx e]; exact ⟨hb.un⟩
  | rt d st' => rw [e] at hb; rw [tryAs_rt e]; exact ⟨hb.un⟩
  | bk ρ' st' => rw [e] at hb; unfold sTryAs; rw [e]; exact ⟨hb.un⟩
  | ct ρ' st' => rw [e] at hb; unfold sTryAs; rw [e]; exact ⟨hb.un⟩
  | exc x ρ' st' =>
    rw [e] at hb
    rcases hb.un with ⟨h1, h2⟩ | ⟨h1, r, h2, h3⟩
    · rw [tryAs_pass e h1]; exact ⟨h2⟩
    · rw [tryAs_exc e h1 h2]; exact h3
  | bad => rw [e] at hb; exact hb.un.elim
theorem tupOf_at {s : Sto} {l : Nat} {xs : List PyData} (e : s[l]? = some (.lst xs)) : tupOf (.loc l) s = .ok (.dat (.tuple xs)) s := by
  unfold tupOf dataOf
  dsimp only
  rw [e]
theorem Dn.other {n m l : Nat} {s s' : Sto} (h : Dn n m s s') (hl : l ≠ n) : s'[l]? = s[l]? := by
  obtain ⟨⟨c, rfl⟩, _⟩ := h
  exact List.getElem?_set_ne (Ne.symm hl)
theorem wp_sackB (ns : List Int) {K : Int} (h0 : 0 ≤ K) (h1 : K < 1000) {st : Sto} {P : Rst D} (h : ∀ xs, SackAt (st ++ [.lst xs]) st.length 0 → P.ok (.loc st.length) (st ++ [.lst xs])) : wpR (runL 4 2 sackB [.fz (ns.map PyData.int), .dat (.int K)] st) P := by
  obtain ⟨k, rfl⟩ := Int.eq_ofNat_of_zero_le h0
  obtain ⟨xs, e, S⟩ := sack_ok ns (k := k) (by omega) st
  exact wpR_eq e (h xs S)
end
end Ev
set_option Elab.async false
set_option linter.all false
set_option maxRecDepth 100000
set_option maxHeartbeats 4000000
/-! Who: the program's words of whole numbers, alike wherever they are linked. -/
namespace Ev
open PySem PySem.Spec PyProof.Rows L2
open Classical
local macro_rules | `(tactic| walk_at "s") => `(tactic| simp -implicitDefEqProofs only [wpR_okE, wpR_excE, wpR_then, thn_ok, thn_xc, wpS_thenS, thnS_ok, thnS_xc, wpS_nxE, wpS_rtE, wpS_bkE, wpS_ctE, wpS_excE, wpS_then, seq_nxE, seq_rtE, seq_bkE, seq_ctE, seq_xcE, wpR_fin, fin_nxE, fin_rtE, fin_xcE, giveD_datW, run1, run2, run3, run4, run5, startE_ap, List.map_cons, List.map_nil, List.length_cons, List.length_nil, List.replicate, List.cons_append, List.nil_append, Nat.reduceSub, Nat.reduceAdd, Nat.reduceLeDiff, if_true, if_false, reduceIte, Bool.false_eq_true, pure_ap, bind_ap, then_ok, then_exc, m2_ap, m1_ap, mC_ap, ct_ap, aNil_ap, aCons_ap, asB_ap, mT_ap, mNot_ap, mAnd_ap, mOr_ap, mAndV_ap, mOrV_ap, mNotV_ap, mIf_ap, mChain_ap, on1_ap, on2_ap, retI_ap, retB_ap, mK_ap, thenS_ok, thenS_exc, sBind_ap, sthen_nx, sthen_rt, sthen_bk, sthen_ct, sthen_exc, sSeq_ap, sNil_ap, sRet_ap, sRetN_ap, sIf_ap, sDrop_ap, sSet_ap, sPass_ap, sBrk_ap, sCnt_ap, mSeq_ap, mYes_ap, mNoPart_ap, mPart_ap, asPart_ap, mSl_ap, mLc_ap, mLcX_ap, sFor_ap, mRng1_ap, mRng2_ap, dNil_ap, dCons_ap, asDat_ap, mDct_ap, mDct0_ap, tgName_ap, List.set_cons_succ, List.set_cons_zero, vr_zero, vr_succ, wipeE, data_items, data_ok, Ev.src_list, Ev.src_tuple, Ev.src_fz, rng_items, rng_ok, dSub_ap, dLt_ap, dLe_ap, dGt_ap, dGe_ap, dAdd_ap, dNeg_ap, dAbs_ap, dMax_ap, dMin_ap, dInt_ap, dIntB_ap, dIsi_ap, dLen_list, dLen_tuple, dLen_fz, tupOf_list, tupOf_tuple, lstOf_list, lstOf_tuple, dSl_list, dSl_tuple, datas_nil, datas_cons, Option.map_some, mkTup_go, mkLst_go, mkLoc_go, Nat.zero_le, sPar_go, sAsg_go, dAdd_list, dAdd_tuple, dEq_str, dEq_bool, dEq_int, dNe_str, dNe_bool, dNe_int', isN_none, isNotN_none, isNone0, isNone1, isNone2, isNone3, isNone4, isNone5, isNone6, tyOf, isi, ite_st, ite_sm, ite_em, Bool.not_true, Bool.not_false, Bool.not_not, decide_true, decide_false, p10_6, p10_7, p10_8, p10_9, p10_30, take_self, top_take, dMul_sm, Int.reduceNeg, Int.reduceLT, Int.reduceMul, Int.reduceAdd, Int.reduceSub, Int.neg_neg])
local macro_rules | `(tactic| walk_at "t") => `(tactic| try walk_at "s")
def isW : PyData → Bool
  | .int _ => true
  | _ => false
def isFr (lo hi : Int) : PyData → Bool
  | .int i => decide (lo ≤ i) && decide (i ≤ hi)
  | _ => false
def isSev (lo hi : Int) : PyData → Bool
  | .tuple xs => decide (lo ≤ (xs.length : Int)) && decide ((xs.length : Int) ≤ hi)
  | _ => false
def wholeB : SM := sRet (mAndV (mC (on2 dIsi) (aCons (vr 0) (aCons (ct (.ty .int)) aNil))) (mNotV (mC (on2 dIsi) (aCons (vr 0) (aCons (ct (.ty .bool)) aNil)))))
def wholeF : List D → M D := runB 1 1 wholeB
def fromB : SM := sRet (mAndV (mC wholeF (aCons (vr 0) aNil)) (mChain dLe dLe (vr 1) (vr 0) (vr 2)))
def fromF : List D → M D := runB 3 3 fromB
def severalB : SM := sRet (mAndV (mC (on2 dIsi) (aCons (vr 0) (aCons (ct (.ty .tuple)) aNil))) (mChain dLe dLe (vr 1) (mC (on1 dLen) (aCons (vr 0) aNil)) (vr 2)))
def severalF : List D → M D := runB 3 3 severalB
def checkB : SM := sIf (mNot (mT (mC fromF (aCons (vr 0) (aCons (vr 1) (aCons (vr 2) aNil)))))) (sRaise "NoNumber") sNil
def checkF : List D → M D := runB 3 3 checkB
theorem whole_go (x : PyData) (st : Sto) : wholeF [.dat x] st = .ok (.dat (.bool (isW x))) st := by
  cases x <;> simp [wholeF, wholeB, isW]
theorem from_go (x : PyData) (lo hi : Int) (st : Sto) : fromF [.dat x, .dat (.int lo), .dat (.int hi)] st = .ok (.dat (.bool (isFr lo hi x))) st := by
  cases x with
  | int i => by_cases h : lo ≤ i <;> simp [fromF, fromB, whole_go, isW, isFr, h]
  | _ => simp [fromF, fromB, whole_go, isW, isFr]
theorem several_go (x : PyData) (lo hi : Int) (st : Sto) : severalF [.dat x, .dat (.int lo), .dat (.int hi)] st = .ok (.dat (.bool (isSev lo hi x))) st := by
  cases x with
  | tuple xs => by_cases h : lo ≤ (xs.length : Int) <;> simp [severalF, severalB, isSev, h]
  | _ => simp [severalF, severalB, isSev]
theorem check_go (x : PyData) (lo hi : Int) (st : Sto) : checkF [.dat x, .dat (.int lo), .dat (.int hi)] st = if isFr lo hi x = true then .ok (.dat .none) st else .exc ⟨"NoNumber", []⟩ st := by
  have e := from_go x lo hi st
  cases h : isFr lo hi x with
  | true => rw [h] at e; simp [checkF, checkB, e]
  | false => rw [h] at e; simp [checkF, checkB, e, sRaise]
theorem isFr_int (lo hi i : Int) : isFr lo hi (.int i) = (decide (lo ≤ i) && decide (i ≤ hi)) := rfl
/-! == with a text, in a row of texts -/
def hs (s : Str) : PyData → Bool
  | .str t => decide (t = s)
  | _ => false
theorem eq_hs {h : PyData} (s : Str) (sh : SeqAt.shaped h = true) (ss : SeqAt.shaped (.str s) = true) (st : Sto) : dEq (.dat h) (.dat (.str s)) st = .ok (.dat (.bool (hs s h))) st := by
  cases h with
  | str t => exact dEq_str st t s
  | none => show (if SeqAt.shaped _ = true ∧ SeqAt.shaped _ = true then _ else _ : M D) st = _; rw [if_pos ⟨sh, ss⟩]; rfl
  | bool b => show (if SeqAt.shaped _ = true ∧ SeqAt.shaped _ = true then _ else _ : M D) st = _; rw [if_pos ⟨sh, ss⟩]; rfl
  | int b => show (if SeqAt.shaped _ = true ∧ SeqAt.shaped _ = true then _ else _ : M D) st = _; rw [if_pos ⟨sh, ss⟩]; rfl
  | list b => show (if SeqAt.shaped _ = true ∧ SeqAt.shaped _ = true then _ else _ : M D) st = _; rw [if_pos ⟨sh, ss⟩]; rfl
  | tuple b => show (if SeqAt.shaped _ = true ∧ SeqAt.shaped _ = true then _ else _ : M D) st = _; rw [if_pos ⟨sh, ss⟩]; rfl
  | dict b => exact absurd sh (by simp [SeqAt.shaped, PyData.canLay0])
theorem in_row {h : PyData} {xs : List PyData} (sh : SeqAt.shaped h = true) (ss : SeqAt.shaped (.tuple xs) = true) (st : Sto) : dIn (.dat h) (.dat (.tuple xs)) st = .ok (.dat (.bool (xs.any fun z => PyData.eqv z h))) st := by
  have e : inD false h (.tuple xs) = if SeqAt.shaped h = true ∧ SeqAt.shaped (.tuple xs) = true then retB (false != xs.any fun z => PyData.eqv z h) else M.bad := by cases h <;> rfl
  show inD false h (.tuple xs) st = _
  rw [e, if_pos ⟨sh, ss⟩, Bool.false_bne]
  rfl
theorem nin_row {h : PyData} {xs : List PyData} (sh : SeqAt.shaped h = true) (ss : SeqAt.shaped (.tuple xs) = true) (st : Sto) : dNin (.dat h) (.dat (.tuple xs)) st = .ok (.dat (.bool (!xs.any fun z => PyData.eqv z h))) st := by
  have e : inD true h (.tuple xs) = if SeqAt.shaped h = true ∧ SeqAt.shaped (.tuple xs) = true then retB (true != xs.any fun z => PyData.eqv z h) else M.bad := by cases h <;> rfl
  show inD true h (.tuple xs) st = _
  rw [e, if_pos ⟨sh, ss⟩, Bool.true_bne]
  rfl
/-! == of data in general -/
theorem eq_tups {xs ys : List PyData} (h1 : SeqAt.shaped (.tuple xs) = true) (h2 : SeqAt.shaped (.tuple ys) = true) (st : Sto) : dEq (.dat (.tuple xs)) (.dat (.tuple ys)) st = .ok (.dat (.bool (PyData.eqvAll xs ys))) st := by
  show (if SeqAt.shaped _ = true ∧ SeqAt.shaped _ = true then _ else _ : M D) st = _
  rw [if_pos ⟨h1, h2⟩]
  rfl
theorem ne_tups {xs ys : List PyData} (h1 : SeqAt.shaped (.tuple xs) = true) (h2 : SeqAt.shaped (.tuple ys) = true) (st : Sto) : dNe (.dat (.tuple xs)) (.dat (.tuple ys)) st = .ok (.dat (.bool (!PyData.eqvAll xs ys))) st := by
  have e := eq_tups h1 h2 st
  have e' : eqD (.tuple xs) (.tuple ys) st = .ok (.dat (.bool (PyData.eqvAll xs ys))) st := e
  show notM (eqD _ _) st = _
  rw [notM_ap, e'] <;> rfl
theorem eq_tup0 (xs : List PyData) (st : Sto) : dEq (.dat (.tuple xs)) (.dat (.tuple [])) st = .ok (.dat (.bool xs.isEmpty)) st := by
  show (if SeqAt.shaped _ = true ∧ SeqAt.shaped _ = true then _ else _ : M D) st = _
  cases xs with
  | nil => rw [if_pos ⟨by decide, by decide⟩] <;> rfl
  | cons x r =>
    by_cases h : SeqAt.shaped (.tuple (x :: r)) = true ∧ SeqAt.shaped (.tuple []) = true
    · rw [if_pos h] <;> rfl
    · rw [if_neg h, if_pos (by rfl)] <;> rfl
theorem ne_tup0 (xs : List PyData) (st : Sto) : dNe (.dat (.tuple xs)) (.dat (.tuple [])) st = .ok (.dat (.bool (!xs.isEmpty))) st := by
  have e' : eqD (.tuple xs) (.tuple []) st = .ok (.dat (.bool xs.isEmpty)) st := eq_tup0 xs st
  show notM (eqD _ _) st = _
  rw [notM_ap, e'] <;> rfl
/-- a row of numbers -/
theorem eqvA_ints : ∀ xs ys : List Int, PyData.eqvAll (xs.map PyData.int) (ys.map PyData.int) = decide (xs = ys)
  | [], [] => rfl
  | [], y :: ys => rfl
  | x :: xs, [] => rfl
  | x :: xs, y :: ys => by
    show (PyData.eqv (.int x) (.int y) && PyData.eqvAll (xs.map PyData.int) (ys.map PyData.int)) = _
    rw [eqvA_ints xs ys]
    by_cases h : x = y
    · subst h
      have e : PyData.eqv (.int x) (.int x) = true := by show (x == x) = true; simp
      rw [e]
      simp
    · have e : PyData.eqv (.int x) (.int y) = false := by show (x == y) = false; simpa using h
      rw [e]
      simp [h]
end Ev
set_option Elab.async false
set_option linter.all false
set_option maxRecDepth 100000
set_option maxHeartbeats 4000000
/-! Ev29: a lambda without parameters, handed to a def that calls it. -/
namespace Ev
open PySem PySem.Spec PyProof.Rows L2
open Classical

/-! ### two ways of keeping beside -/
structure Over (τ0 τ1 : Tbl) : Prop where
  t : τ1.t = τ0.t
  c : ∀ v d, τ0.c v d → τ1.c v d
  k : ∀ a q, τ0.k a q → τ1.k a q
section
variable {τ1 : Tbl} [τ : Tbl] {K : PySem.W.Frag} {mg : Str → Option Value} {R R' : Rg} {H H' : Hp} {st st' : Sto}
theorem Sim.down (o : Over τ τ1) (S : @Sim τ1 K R H st) : Sim K R H st := by
  obtain ⟨ot, oc, ok⟩ := o
  obtain ⟨s1, s2, s3, s4, s6, s5, f1, f2, f3⟩ := S
  exact ⟨s1, s2, s3, fun a ha => (s4 a ha).imp id fun z => ot ▸ z, fun a ha => (s6 a ha).imp (fun z => ot ▸ z) id, s5, ⟨fun x hx => f1 x (ot ▸ hx), fun v d hv => f2 v d (oc v d hv), fun c q hq => f3 c q (ok c q hq)⟩⟩
theorem Sim.up (o : Over τ τ1) (S1 : @Sim τ1 K R H st) (e : Ext R H st R' H' st') (S0 : Sim K R' H' st') : @Sim τ1 K R' H' st' := by
  obtain ⟨ot, oc, ok⟩ := o
  obtain ⟨_, _, _, _, _, _, f1, f2, f3⟩ := S1
  refine @Sim.mk τ1 K R' H' st' S0.len S0.nd S0.nr (fun a ha => (S0.trk a ha).imp id fun z => ot ▸ z) (fun a ha => (S0.pl a ha).imp (fun z => ot ▸ z) id) S0.at_ (@Fix.mk τ1 K R' H' st' (fun x hx => S0.fx.tb x (ot ▸ hx)) (fun v d hv => (f2 v d hv).stays e.stays) fun c q hq => ?_)
  have no : ∀ ps, LamX.CodeO c q ≠ .tbl ps := LamX.codeO_ne
  obtain ⟨a, b⟩ := f3 c q hq
  exact ⟨e.stays.keep _ _ a b no, e.stays.not a b no⟩
/-- no lambda comes back -/
def noLam : D → M D
  | .lam => M.bad
  | d => M.pure d
theorem Post.lamless {Q : VK} {W : XK} (o : Over τ τ1) (S1 : @Sim τ1 K R H st) (m : M D) (h : @Post τ1 D V K mg (@Dv τ1 K mg) R H st (M.bind m noLam st) Q W) : Post K mg (Dv K mg) R H st (m st) Q W := by
  unfold M.bind at h
  cases e : m st with
  | bad => rw [e] at h; exact h
  | exc x st1 =>
    rw [e] at h
    exact fun R' H' cls dx e' S' q => h R' H' cls dx e' (Sim.up o S1 e' S') q
  | ok d st1 =>
    rw [e] at h
    intro v R' H' e' S' q
    have S2 := Sim.up o S1 e' S'
    cases d with
    | lam => exact h.elim
    | dat y => exact h v R' H' e' S2 q
    | loc n => exact h v R' H' e' S2 q
    | glob x => exact h v R' H' e' S2 q
    | fz ds => exact h v R' H' e' S2 q
    | ty t => exact h v R' H' e' S2 q
    | raw u => exact h v R' H' e' S2 q
    | err u cls dd y => exact h v R' H' e' S2 q
end

section
variable {τ1 : Tbl} [τ : Tbl] {K : PySem.W.Frag} {mg : Str → Option Value} {R : Rg} {H : Hp} {st : Sto}
theorem Post.lamup {Q : VK} {W : XK} (o : Over τ τ1) (m : M D) (h : Post K mg (Dv K mg) R H st (M.bind m noLam st) Q W) : @Post τ1 D V K mg (@Dv τ1 K mg) R H st (m st) Q W := by
  unfold M.bind at h
  cases e : m st with
  | bad => rw [e] at h; exact h
  | exc x st1 =>
    rw [e] at h
    exact fun R' H' cls dx e' S' q => h R' H' cls dx e' (Sim.down o S') q
  | ok d st1 =>
    rw [e] at h
    intro v R' H' e' S' q
    have S2 := Sim.down o S'
    cases d with
    | lam => exact h.elim
    | dat y => exact h v R' H' e' S2 q
    | loc n => exact h v R' H' e' S2 q
    | glob x => exact h v R' H' e' S2 q
    | fz ds => exact h v R' H' e' S2 q
    | ty t => exact h v R' H' e' S2 q
    | raw u => exact h v R' H' e' S2 q
    | err u cls dd y => exact h v R' H' e' S2 q
end

/-! ### what the lambda sees of its maker's names -/
def keepD : Option D → Option D
  | some (.dat d) => some (.dat d)
  | some (.glob x) => some (.glob x)
  | _ => none
def keepE : List Bool → Env → Env
  | true :: bs, o :: ρ => keepD o :: keepE bs ρ
  | false :: bs, _ :: ρ => none :: keepE bs ρ
  | [], _ :: ρ => none :: keepE [] ρ
  | _, [] => []
theorem keepE_len : ∀ (bs : List Bool) (ρ : Env), (keepE bs ρ).length = ρ.length
  | true :: bs, o :: ρ => congrArg (· + 1) (keepE_len bs ρ)
  | false :: bs, o :: ρ => congrArg (· + 1) (keepE_len bs ρ)
  | [], o :: ρ => congrArg (· + 1) (keepE_len [] ρ)
  | [], [] => rfl
  | _ :: _, [] => by simp [keepE]
theorem keepD_is {o : Option D} {d : D} (h : keepD o = some d) : o = some d ∧ ((∃ y, d = .dat y) ∨ ∃ x, d = .glob x) := by
  unfold keepD at h
  split at h
  · cases h; exact ⟨rfl, .inl ⟨_, rfl⟩⟩
  · cases h; exact ⟨rfl, .inr ⟨_, rfl⟩⟩
  · cases h
theorem keepE_at : ∀ (bs : List Bool) (ρ : Env) (i : Nat) (d : D), (keepE bs ρ)[i]? = some (some d) → ρ[i]? = some (some d) ∧ ((∃ y, d = .dat y) ∨ ∃ x, d = .glob x)
  | true :: bs, o :: ρ, 0, d, h => by
    obtain ⟨a, b⟩ := keepD_is (Option.some.inj h)
    exact ⟨congrArg some a, b⟩
  | true :: bs, o :: ρ, i + 1, d, h => keepE_at bs ρ i d h
  | false :: bs, o :: ρ, 0, d, h => by cases h
  | false :: bs, o :: ρ, i + 1, d, h => keepE_at bs ρ i d h
  | [], o :: ρ, 0, d, h => by cases h
  | [], o :: ρ, i + 1, d, h => keepE_at [] ρ i d h
  | [], [], _, d, h => by simp [keepE] at h
  | _ :: _, [], _, d, h => by simp [keepE] at h

/-! ### the lambda called -/
/-- called, the lambda at fl does what th tells, while what stood at s stands -/
structure LamG [τ : Tbl] (P : Program) (w : World) (K : PySem.W.Frag) (mg : Str → Option Value) (base : Heap) (k : Nat) (fl : Addr) (outer : List PySem.Env) (s : Shared) (H : Hp) (th : M D) : Prop where
  at_ : ∀ (s1 : Shared) (H1 : Hp), Un (frs outer) [] H H1 s.heap s1.heap → PySem.W.FnAt fl s1.heap
  run : ∀ (A : Around) (out : List PySem.Env) (s1 : Shared) (H1 : Hp) (Q : VK) (E : XK), Room k A → Gd A base → Env0 P w K mg base A out s1 H1 → Un (frs outer) [] H H1 s.heap s1.heap → (∃ R st, Sim K R H1 st ∧ Post K mg (Dv K mg) R H1 st (th st) Q E) →
    codeAny (model P w) A (.call (.ref fl) ⟨[], []⟩) (CR (L2.CX P w) out P w H1 s1 Q E) s1
/-- the function that a lambda is -/
abbrev lamF (X : Cx) (params : Arguments) (body : Expr) (scope : Scope) (pm cv ctv : Value) : FuncData := PySem.W.kla_fn "<lambda>" (X.env.qual ++ "<lambda>") params body scope (cloFrom X.env.cells scope.names []) pm cv ctv
section
variable {X : Cx} {pins : List (Addr × Obj)} {σ : L2.St} {H : Hp} {s : Shared} {τ1 : Tbl} [τ : Tbl]
theorem lam_does {ρ : Env} {params : Arguments} {body : Expr} {scope : Scope} {pm ctv : Value} {f c' : Addr} {k : Nat} {mb : Env → M D} (bs : List Bool) (o : Over τ τ1) (I : L2.Inv X pins σ H s) (L : LamX.LamS X.env.scope scope)
    (hf : s.heap.get? f = some { cls := .type "function", data := .func (lamF X params body scope pm (.ref c') ctv) }) (hfn : H f = none) (hfr : f ∉ frs X.stack) (hb : bindArgs (lamF X params body scope pm (.ref c') ctv) ⟨[], []⟩ = pure [])
    (hk : @Tbl.k τ1 c' (X.env.qual ++ "<lambda>")) (hl : σ.length = ρ.length) (hc : ∀ (i : Nat) (d : PyData), ρ[i]? = some (some (D.dat d)) → ∃ v, σ[i]? = some (some v) ∧ @Tbl.c τ1 v d) (hg : ∀ (i : Nat) (x : Str), ρ[i]? = some (some (D.glob x)) → ∃ a, σ[i]? = some (some (V.ref a)) ∧ X.mg x = some (.ref a))
    (body_ : ∀ (A : Around) (outer : List PySem.Env) (s : Shared) (H : Hp) (E : XK), GC (LamX.lamCx X A outer s H E scope f c') (fun c d _ H' => E c d H') k → EV (LamX.lamCx X A outer s H E scope f c') (fun c d _ H' => E c d H') body mb) :
    @LamG τ1 X.prog X.w X.K X.mg X.base (k + 1) f X.stack s H (M.bind (mb (keepE bs ρ)) noLam) := by
  refine @LamG.mk τ1 _ _ _ _ _ _ _ _ _ _ _ (fun s1 H1 un => ⟨_, _, _, _, un.keep f _ hf hfn hfr List.not_mem_nil⟩) ?_
  rintro A out s1 H1 Q E room gd e0 un ⟨R, st, S1, h⟩
  obtain ⟨_, _, _, _, _, _, f1, f2, f3⟩ := id S1
  have atf := un.keep f _ hf hfn hfr List.not_mem_nil
  obtain ⟨⟨oc, vs, t, o1, o2, o3⟩, _⟩ := e0.hok c' _ (f3 c' _ hk).1
  have lim : s1.heap.NoLimit := e0.mod.nolimit.keeps fun b o e => (e0.bs b o e).1
  have env1 : EnvR X.K X.mg R st H1 σ (keepE bs ρ) := by
    refine ⟨by rw [keepE_len]; exact hl, fun i d q => ?_⟩
    obtain ⟨q1, ⟨y, rfl⟩ | ⟨x, rfl⟩⟩ := keepE_at bs ρ i d q
    · obtain ⟨v, v1, v2⟩ := hc i y q1
      exact ⟨v, v1, f2 v y v2⟩
    · obtain ⟨a, v1, v2⟩ := hg i x q1
      exact ⟨_, v1, a, v2, rfl⟩
  refine PySem.W.kla_callFunE room.depth atf rfl L.co L.gen rfl ⟨c', oc, vs, t, rfl, o1, o2, o3⟩ ?_
  rw [hb]
  refine wpAny_pure ?_
  refine wpAny_newFunctionEnv (fun y z => (L.own y z).2) (fun y z => (List.not_mem_nil z).elim) (fun h2 ns sb => And.intro (lim.fresh _ sb) ?_) L.kind
  have stays : ∀ b u, s1.heap.get? b = some u → h2.get? b = some u := fun b u e => sb.extBut b u (Nat.ne_of_lt (Heap.lt_size e)) (Heap.get?_push_of_some _ e)
  have J := LamX.lam_start2 (E := E) (c' := c') (f := f) (tk := s1.toks + ([] : List (Str × Value)).length) I L e0 room.hd un ns stays
  have C : GC (LamX.lamCx X A out s1 H1 E scope f c') (fun c d _ H' => E c d H') k := ⟨room.deeper _, gd, takes_of rfl rfl rfl rfl⟩
  have run := (body_ A out s1 H1 E C).pe.run [] _ σ H1 Q J ⟨R, _, st, Sim.down o S1, env1, Post.lamless o S1 _ h⟩
  refine PySem.W.kla_codeExpr (wpAny_mono run (fun v s' ⟨u, H', J', rv, q⟩ => ?_) fun _ _ q => q)
  exact ⟨u, H', J'.os, J'.bare, J'.base, J'.hok, rv, q⟩
end

/-! ### the def that calls what it was given -/
def mTh (i : Nat) (th : M D) : Env → M D := fun ρ => match ρ[i]? with
  | some (some .lam) => th
  | _ => M.bad
/-- in X the name a (slot i) is the lambda -/
structure LC [τ : Tbl] (X : Cx) (k : Nat) (a : Str) (i : Nat) (th : M D) : Prop where
  nm : X.N[i]? = some a
  vis : Vis X.env.scope a
  ex : X.ex = []
  l : ∃ fl, τ.l = some fl ∧ LamG X.prog X.w X.K X.mg X.base k fl X.outer X.s_0 X.H_0 th
section
variable [τ : Tbl] {X : Cx} {W : WX} {k i : Nat} {a : Str} {th : M D} {p pos : Pos}
theorem LC.tr {pn : List (Addr × Obj)} {xe : Value → Shared → Prop} (L : LC X k a i th) : LC (X.tr pn xe) k a i th := ⟨L.nm, L.vis, L.ex, L.l⟩
/-- x() -/
theorem ev_act (L : LC X k a i th) (C : GC X W k) (hd : (a == ("__debug__" : Str)) = false := by decide) (hcd : (a == ("__classdict__" : Str)) = false := by decide) : EV X W (.Call (.Name a p) [] [] pos) (mTh i th) := by
  refine ⟨⟨fun pins s σ H Q I h => ?_⟩⟩
  obtain ⟨R, ρ, st, S, E, h⟩ := h
  by_cases q : ρ[i]? = some (some .lam)
  · have em : mTh i th ρ = th := by unfold mTh; rw [q]
    rw [em] at h
    obtain ⟨v, e1, fl, rfl, e2⟩ := E.at_ i .lam q
    obtain ⟨fl', e3, G⟩ := L.l
    obtain rfl : fl = fl' := Option.some.inj (e2.symm.trans e3)
    refine wpAny_Call_Name_kw (thn ((pe_var (pos := p) (i := i) L.nm L.vis hd hcd).run pins s σ H (fun v H1 => v = .ref fl ∧ H1 = H) I ⟨.ref fl, e1, rfl, rfl⟩) fun u s1 ⟨v1, H1, I1, r1, ev, eH⟩ => ?_)
    subst ev eH
    obtain rfl : u = Value.ref fl := r1
    have un : Un (frs X.outer) [] X.H_0 H1 X.s_0.heap s1.heap := by
      have b := I1.base
      rw [L.ex] at b
      exact b
    refine PySem.W.callWith_F0 (G.at_ s1 H1 un) (wpAny_call (codeAny_mono (G.run X.A X.stack s1 H1 Q _ C.room C.gd I1.env0 un ⟨R, st, S, h⟩) fun r s' hq => ?_))
    cases r with
    | error e => exact passAt C.tk σ pins H1 s1 e s' I1 hq
    | ok fw =>
      cases fw with
      | ret u => exact I1.after hq
      | next => exact hq.elim
      | brk => exact hq.elim
      | cont => exact hq.elim
  · have em : mTh i th ρ = M.bad := by
      unfold mTh
      split
      · rename_i z
        exact absurd z q
      · rfl
    rw [em] at h
    exact h.elim
end
/-- a def whose one parameter is a lambda: what it tells, by what the lambda does -/
structure FnLG (P : Program) (w : World) (K : PySem.W.Frag) (mg : Str → Option Value) (base : Heap) (k : Nat) (f : Addr) (fd : FuncData) (a : Str) (F : M D → List D → M D) : Prop where
  run : ∀ (τ1 : Tbl) (A : Around) (outer : List PySem.Env) (s : Shared) (H : Hp) (us : List Value) (vs : List V) (Q : VK) (E : XK) (th : M D) (fl : Addr), Room (k + 1) A → Gd A base → Env0 P w K mg base A outer s H → BindsTo s fd ⟨us, []⟩ ([a].zip us) → Vals vs us →
    @Tbl.l τ1 = some fl → @LamG τ1 P w K mg base k fl outer s H th → @SpF τ1 K mg (F th) vs H Q E → codeAny (model P w) A (.call (.ref f) ⟨us, []⟩) (CR (L2.CX P w) outer P w H s Q E) s
def FnL (P : Program) (w : World) (K : PySem.W.Frag) (mg : Str → Option Value) (base : Heap) (k : Nat) (x : Str) (a : Str) (F : M D → List D → M D) : Prop :=
  ∃ (f : Addr) (fd : FuncData), FnLG P w K mg base k f fd a F ∧ mg x = some (.ref f) ∧ PySem.W.keepIn K (.ref f) = true ∧ Binds K fd [a] []
theorem fnL_of {P : Program} {w : World} {K : PySem.W.Frag} {mg : Str → Option Value} {base : Heap} {x a : Str} {st : Stmt} {N : List Str} {k : Nat} {body : M D → SM} {give : Nat → D → Sto → Res D} (hgive : ∀ [Tbl], GiveOk give) (D1 : Df K mg x st [a]) (S : FnScope N [a] (defScope st)) (hN : N[0]? = some a) (hv : Vis (defScope st) a)
    (hb : ∀ [Tbl] (th : M D) (f : Addr) (cdv : Value) (A : Around) (outer : List PySem.Env) (s : Shared) (H : Hp) (E : XK), GC (cxOf (L2.CX P w) P w K mg base N x (defScope st) f cdv A outer s H E) (fun c d _ H' => E c d H') k →
      LC (cxOf (L2.CX P w) P w K mg base N x (defScope st) f cdv A outer s H E) k a 0 th →
      EVSs (cxOf (L2.CX P w) P w K mg base N x (defScope st) f cdv A outer s H E) (fun c d _ H' => E c d H') (defBody st) (body th)) :
    FnL P w K mg base k x a (fun th => runBody give N.length 1 (body th)) := by
  obtain ⟨f, fd, F, hm, b⟩ := D1
  refine ⟨f, fd, ⟨fun τ1 A outer s H us vs Q E th fl room gd e0 bd rv el G h => ?_⟩, hm, F.kp, b⟩
  refine @def_run τ1 P w K mg base x x st f fd N [a] k (body th) give hgive F S A outer s H _ us vs Q E (fun cdv _ r => ?_) room e0 bd rv h
  exact @hb τ1 th f cdv A outer s H E ⟨r, gd, takes_of rfl rfl rfl rfl⟩ ⟨hN, hv, rfl, fl, el, G⟩

/-! ### the def that makes it -/
/-- behind the making of a lambda -/
theorem Sim.made [τ : Tbl] {K : PySem.W.Frag} {R : Rg} {H H1 : Hp} {st : Sto} (S : Sim K R H st) (eN : LamX.ExtN H H1) (T1 : LamX.Tabs τ.t H1) : Ext R H st R H1 st ∧ Sim K R H1 st := by
  have fr : ∀ a, Fr H1 a → Fr H a := fun a f o e => Classical.byContradiction fun n => n (f o (eN a o e fun ps z => n ⟨ps, z⟩))
  have sy : Stays (Own R st) (Own R st) H H1 := ⟨fun a o e _ nt => eN a o e nt, fun a z => .inl z, fr⟩
  refine ⟨⟨⟨[], by simp, fun _ h => by cases h⟩, rfl, fun a _ o e nt => eN a o e nt, sy⟩, S.len, S.nd, S.nr, fun a ha => (S.trk a ha).mono (fr a), fun a ha => (S.pl a ha).imp id fun z => ?_, fun n a xs h1 h2 => ?_, ⟨fun x hx => ⟨(S.fx.tb x hx).1, T1 x hx⟩, fun v d h => (S.fx.cp v d h).stays sy, fun c q h => ?_⟩⟩
  · rcases z with ⟨vs, z⟩ | ⟨vs, z⟩
    · exact .inl ⟨vs, eN _ _ z fun _ z => by cases z⟩
    · exact .inr ⟨vs, eN _ _ z fun _ z => by cases z⟩
  · obtain ⟨vs, e, q⟩ := S.at_ n a xs h1 h2
    exact ⟨vs, eN _ _ e (fun _ z => by cases z), q.stays sy⟩
  · obtain ⟨e, n⟩ := S.fx.ck c q h
    exact ⟨eN _ _ e LamX.codeO_ne, n⟩
/-- a code object is no list -/
theorem Sim.noCode [τ : Tbl] {K : PySem.W.Frag} {R : Rg} {H : Hp} {st : Sto} {c : Addr} {q : Str} (S : Sim K R H st) (h : H c = some (LamX.CodeO c q)) : ¬ Own R st c := fun z => by
  rcases z with ⟨n, xs, z1, z2⟩ | z
  · obtain ⟨vs, e, _⟩ := S.at_ n c xs z1 z2
    rw [h] at e
    unfold LamX.CodeO at e
    cases e
  · rcases S.pl c z with ⟨x, hx, rfl⟩ | ⟨vs, e⟩ | ⟨vs, e⟩
    · obtain ⟨ps, e, _⟩ := (S.fx.tb x hx).2
      rw [h] at e
      exact LamX.codeO_ne ps (Option.some.inj e)
    · rw [h] at e
      unfold LamX.CodeO at e
      cases e
    · rw [h] at e
      unfold LamX.CodeO at e
      cases e
/-- a def's code, its table -/
structure TabAt [τ : Tbl] (base : Heap) (mg : Str → Option Value) (c P : Addr) (q : Str) : Prop where
  tb : LamX.TabB base mg c P
  mem : (P, q) ∈ τ.t
  un : ∀ p ∈ τ.t, p.1 = P → p.2 = q
/-- kept beside while the lambda at f stands: its maker's data, its code object -/
def lamT (τ : Tbl) (σ : L2.St) (ρ : Env) (c' : Addr) (q : Str) (f : Addr) : Tbl := ⟨τ.t, fun v d => τ.c v d ∨ ∃ i : Nat, σ[i]? = some (some v) ∧ ρ[i]? = some (some (D.dat d)), fun b y => τ.k b y ∨ (b = c' ∧ y = q), some f⟩
theorem lamT_over (τ : Tbl) (σ : L2.St) (ρ : Env) (c' : Addr) (q : Str) (f : Addr) : Over τ (lamT τ σ ρ c' q f) := ⟨rfl, fun _ _ z => .inl z, fun _ _ z => .inl z⟩
def mLam (F : M D → List D → M D) (bs : List Bool) (mb : Env → M D) : Env → M D := fun ρ => M.bind (F (M.bind (mb (keepE bs ρ)) noLam) [.lam]) noLam
section
variable [τ : Tbl] {X : Cx} {W : WX} {k : Nat} {a x : Str} {p pos lpos : Pos} {params : Arguments} {body : Expr} {scope : Scope} {F : M D → List D → M D} {mb : Env → M D} {c P : Addr}
theorem ev_lam (bs : List Bool) (G : FnL X.prog X.w X.K X.mg X.base (k + 1) x a F) (C : GC X W (k + 2)) (T : TabAt X.base X.mg c P (X.env.qual ++ "<lambda>")) (hcode : X.env.code = .ref c) (hg : Gl X x) (L : LamX.LamS X.env.scope scope)
    (body_ : ∀ (A : Around) (outer : List PySem.Env) (s : Shared) (H : Hp) (E : XK) (f c' : Addr), GC (LamX.lamCx X A outer s H E scope f c') (fun c d _ H' => E c d H') k → EV (LamX.lamCx X A outer s H E scope f c') (fun c d _ H' => E c d H') body mb)
    (hb : ∀ (pm cv ctv : Value), bindArgs (lamF X params body scope pm cv ctv) ⟨[], []⟩ = pure []) (hdef : defaultsOf params X.env = ([], []) := by rfl) (hdb : (x == ("__debug__" : Str)) = false := by decide) :
    EV X W (.Call (.Name x p) [.Lambda params body scope lpos] [] pos) (mLam F bs mb) := by
  obtain ⟨g, fd, G, hm, hk, hbd⟩ := G
  refine ⟨⟨fun pins s σ H Q I h => ?_⟩⟩
  obtain ⟨R, ρ, st, S, E, h⟩ := h
  refine wpAny_Call_Name_kw (ld_glob I hg hm ?_ hdb)
  refine PySem.W.callWith_K (h₀ := X.base) I.ok.mod.kin hk ?_ (by rfl) (by rfl)
  have tabs : LamX.Tabs τ.t H := fun z hz => (S.fx.tb z hz).2
  show wpAny _ _ (spliced [(false, eval (.Lambda params body scope lpos) X.env)]) _ _ s
  apply Calls.spliced_cons
  refine LamX.lam_make2 I T.tb hcode T.mem T.un tabs hdef (L.has I.ok) fun f c' pm ctv H1 s1 I1 eN T1 hf hfn hfr hco => ?_
  refine Calls.spliced_nil ⟨I1.kIn, ?_⟩
  obtain ⟨x1, S1⟩ := S.made eN T1
  have ov := lamT_over τ σ ρ c' (X.env.qual ++ "<lambda>") f
  have E1 := E.ext x1
  have S2 : @Sim (lamT τ σ ρ c' (X.env.qual ++ "<lambda>") f) X.K R H1 st := by
    refine @Sim.mk (lamT τ σ ρ c' (X.env.qual ++ "<lambda>") f) X.K R H1 st S1.len S1.nd S1.nr S1.trk S1.pl S1.at_ (@Fix.mk (lamT τ σ ρ c' (X.env.qual ++ "<lambda>") f) X.K R H1 st S1.fx.tb (fun v d z => ?_) fun b q z => ?_)
    · rcases z with z | ⟨i, z1, z2⟩
      · exact S1.fx.cp v d z
      · obtain ⟨v', e1, e2⟩ := E1.at_ i _ z2
        rw [z1] at e1
        cases e1
        exact e2
    · rcases z with z | ⟨rfl, rfl⟩
      · exact S1.fx.ck b q z
      · exact ⟨hco, S1.noCode hco⟩
  have LG : @LamG (lamT τ σ ρ c' (X.env.qual ++ "<lambda>") f) X.prog X.w X.K X.mg X.base (k + 1) f X.stack s1 H1 (M.bind (mb (keepE bs ρ)) noLam) :=
    @lam_does X pins σ H1 s1 (lamT τ σ ρ c' (X.env.qual ++ "<lambda>") f) τ ρ params body scope pm ctv f c' k mb bs ov I1 L hf hfn hfr (hb _ _ _) (.inr ⟨rfl, rfl⟩) E.len (fun i d q => by
      obtain ⟨v, e1, _⟩ := E1.at_ i _ q
      exact ⟨v, e1, .inr ⟨i, e1, q⟩⟩) (fun i y q => by
      obtain ⟨v, e1, a, e2, rfl⟩ := E1.at_ i _ q
      exact ⟨a, e1, e2⟩) fun A outer s H E C => body_ A outer s H E f c' C
  refine wpAny_call (codeAny_mono (G.run (lamT τ σ ρ c' (X.env.qual ++ "<lambda>") f) X.A X.stack s1 H1 [.ref f] [.ref f] Q (fun c d H' => W c d σ H') _ f C.room C.gd I1.env0 ?_ (.cons rfl .nil) rfl LG ⟨R, st, [.lam], S2, ?_, ?_⟩) fun r s2 hq => ?_)
  · have b := hbd s1 [.ref f] I1.kIn rfl
    rw [List.append_nil] at b
    exact b
  · exact @DvA.cons (lamT τ σ ρ c' (X.env.qual ++ "<lambda>") f) X.K X.mg R st H1 (.ref f) [] .lam [] ⟨f, rfl, rfl⟩ (@DvA.nil (lamT τ σ ρ c' (X.env.qual ++ "<lambda>") f) X.K X.mg R st H1)
  · have h1 := Post.shift S1 x1 h
    exact Post.lamup ov _ h1
  cases r with
  | error e => exact passAt C.tk σ pins H1 s1 e s2 I1 hq
  | ok fw =>
    cases fw with
    | ret u => exact I1.after hq
    | next => exact hq.elim
    | brk => exact hq.elim
    | cont => exact hq.elim
end
end Ev
set_option Elab.async false
set_option linter.all false
set_option maxRecDepth 100000
set_option maxHeartbeats 4000000
/-! Ev30: defs that make lambdas; a law's end where tables of code objects stand. -/
namespace Ev
open PySem PySem.Spec PyProof.Rows L2
open Classical

/-! ### a def that makes a lambda -/
/-- the def st stands under its name, its code object is at c -/
def DfT (K : PySem.W.Frag) (mg : Str → Option Value) (x : Str) (st : Stmt) (ps : List Str) (c : Addr) : Prop :=
  ∃ (f : Addr) (fd : FuncData), Fun K x x st f fd ∧ mg x = some (.ref f) ∧ Binds K fd ps [] ∧ fd.code = .ref c
theorem dfT_mk {K : PySem.W.Frag} {h : Heap} {mg : Str → Option Value} (X : K.In h) (G : h.Ns mainGlobals mg) {x : Str} {st : Stmt} {ps : List Str} {f c : Addr} {oc : Value} {od an : Option Addr} {osl : Array (Option Value)} {kV doc pm ct : Value}
    (a : PySem.W.nsIn K mainGlobals x = some (some (.ref f))) (l : K.lookup f = some ⟨oc, od, .func (PySem.W.fnOf x x (defArgs st) (defBody st) (defScope st) .none kV doc pm an (.ref c) ct), osl⟩) (cd : PySem.W.codeIn K (.ref c) x = true) (k : PySem.W.keepIn K (.ref f) = true)
    (hb : ∀ (kV doc pm : Value) (an : Option Addr) (cdv ct : Value) (us : List Value), us.length = ps.length → bindArgs (PySem.W.fnOf x x (defArgs st) (defBody st) (defScope st) .none kV doc pm an cdv ct) ⟨us, []⟩ = pure (ps.zip us)) : DfT K mg x st ps c :=
  have F := fun_mk l cd k
  ⟨f, _, F, PySem.W.mg_of X G a, F.binds hb, rfl⟩
theorem fnT_of [τ : Tbl] {P : Program} {w : World} {K : PySem.W.Frag} {mg : Str → Option Value} {base : Heap} {x : Str} {st : Stmt} {N ps : List Str} {k : Nat} {c : Addr} {body : SM} {give : Nat → D → Sto → Res D} (hgive : GiveOk give) (D1 : DfT K mg x st ps c) (S : FnScope N ps (defScope st))
    (hb : ∀ (f : Addr) (A : Around) (outer : List PySem.Env) (s : Shared) (H : Hp) (E : XK), GC (cxOf (L2.CX P w) P w K mg base N x (defScope st) f (.ref c) A outer s H E) (fun c d _ H' => E c d H') k →
      EVSs (cxOf (L2.CX P w) P w K mg base N x (defScope st) f (.ref c) A outer s H E) (fun c d _ H' => E c d H') (defBody st) body) :
    FnN P w K mg base (k + 1) x ps (runBody give N.length ps.length body) := by
  obtain ⟨f, fd, F, hm, b, ec⟩ := D1
  refine ⟨f, fd, fnG_of hgive F S (fun cdv A outer s H E e2 hr hg => ?_), hm, F.kp, b, ?_⟩
  · obtain rfl : cdv = .ref c := e2.symm.trans ec
    exact hb f A outer s H E ⟨hr, hg, takes_of rfl rfl rfl rfl⟩
  · obtain ⟨oc, od, kV, doc, pm, an, cdv, ct, osl, _, lk, _⟩ := F.ex
    exact ⟨oc, od, osl, lk⟩

/-! ### the end -/
/-- code objects, their tables, the names of the lambdas -/
abbrev Tabs0 := List (Addr × Addr × Str)
@[reducible] def tabT (cs : Tabs0) : Tbl := ⟨cs.map (·.2), fun _ _ => False, fun _ _ => False, none⟩
section
variable {P : Program} {w : World} {K : PySem.W.Frag} {mg mb : Str → Option Value} {k : Nat} {fa ad : Addr} {fd : FuncData} {x : Str} {F : List D → M D} {s : Shared} {us : List Value} {ns : List Int} {cs : Tabs0}
theorem sim_tabs {G : Hp} (tabs : ∀ p ∈ cs, G p.2.1 = some (.tbl #[])) : @Sim (tabT cs) K ⟨[], cs.map fun p => p.2.1⟩ G [] := by
  have mem : ∀ a ∈ cs.map (fun p => p.2.1), ∃ y ∈ cs.map (·.2), y.1 = a := fun a ha => by
    obtain ⟨p, hp, rfl⟩ := List.mem_map.mp ha
    exact ⟨p.2, List.mem_map.mpr ⟨p, hp, rfl⟩, rfl⟩
  refine @Sim.mk (tabT cs) K ⟨[], cs.map fun p => p.2.1⟩ G [] rfl List.nodup_nil (fun a h => by cases h) (fun a h => .inr ?_) (fun a h => .inl (mem a h)) (fun n a xs h => by cases h) (@Fix.mk (tabT cs) K ⟨[], cs.map fun p => p.2.1⟩ G [] (fun y hy => ?_) (fun v d h => h.elim) fun c q h => h.elim)
  · rcases h with h | h
    · cases h
    · exact mem a h
  · obtain ⟨p, hp, rfl⟩ := List.mem_map.mp hy
    exact ⟨List.mem_map.mpr ⟨p, hp, rfl⟩, LamX.TabS.nil (tabs p hp)⟩
/-- over a heap in which nothing but the script and the tables may be tracked -/
theorem tab_core {G : Hp} (kin : K.In s.heap) (ng : s.heap.Ns mainGlobals mg) (nb : s.heap.Ns builtinsNs mb) (bb : ∀ y : Str, y ≠ "__name__" → mb y = bootBuiltins y) (nl : s.heap.NoLimit) (sy : ∃ o es ep, s.heap.get? sysModules = some o ∧ o.data = .dict es ep) (gn : s.gens = #[])
    (bm : ∃ (bm : Addr) (ob : Obj), mg "__builtins__" = some (.ref bm) ∧ bm ≠ builtinsNs ∧ s.heap.get? bm = some ob ∧ ob.cls = .type "module" ∧ ob.dict = some builtinsNs ∧ ob.data = .plain)
    (tab : ∀ p ∈ cs, s.heap.get? p.2.1 = some (PySem.W.tabObj #[])) (cod : ∀ p ∈ cs, PySem.W.codeHdIn K p.1 p.2.1 = true) (tabs : ∀ p ∈ cs, G p.2.1 = some (.tbl #[]))
    (only : ∀ b, G b = none ∨ (∃ p ∈ cs, b = p.2.1) ∨ ∃ o xs, G b = some (.frz o (.lst xs))) (dat : ∀ b o, G b ≠ none → s.heap.get? b = some o → (∃ vs n, o.data = .seq vs n) ∨ ∃ fs, o.data = .fields fs) (noK : ∀ b, G b ≠ none → K.lookup b = none)
    (hk : HOk P w G s.heap) (rm : Room k callerA) (Fn : ∀ bs : Heap, K.In bs → bs.Ns mainGlobals mg → (∀ p ∈ cs, LamX.TabB bs mg p.1 p.2.1) → @FnG (tabT cs) P w K mg bs k fa fd [x] F) (bd : BindsTo s fd ⟨[.ref ad], []⟩ [(x, .ref ad)])
    (hL : LstAt K (fun _ => False) G ad (ns.map V.int)) (notT : ∀ p ∈ cs, ad ≠ p.2.1) (hv : ∃ st', F [.fz (ns.map PyData.int)] [] = .ok (.dat (.bool true)) st') :
    codeAny (model P w) callerA (.call (.ref fa) ⟨[.ref ad], []⟩) (Told s) s := by
  have un0 : ∀ b o, s.heap.get? b = some o → (∀ vs n, o.data ≠ .seq vs n) → (∀ fs, o.data ≠ .fields fs) → G b = none := fun b o e h1 h2 => Classical.byContradiction fun z => by
    rcases dat b o z e with ⟨vs, n, q⟩ | ⟨fs, q⟩
    · exact h1 vs n q
    · exact h2 fs q
  have keepN : ∀ {b : Addr} {m : Str → Option Value}, s.heap.Ns b m → (hidT s.heap G).Ns b m := fun {b m} ⟨o, es, ep, e, dd, rr⟩ =>
    ⟨o, es, ep, hidT_get e (un0 b o e (fun vs n z => by rw [dd] at z; cases z) fun fs z => by rw [dd] at z; cases z), dd, rr⟩
  have kin2 : K.In (hidT s.heap G) := fun b o e => by
    refine hidT_get (kin b o e) (Classical.byContradiction fun z => ?_)
    rw [noK b z] at e
    cases e
  obtain ⟨mc, l1, l2⟩ := nl
  have md : Mod K mg (hidT s.heap G) := { kin := kin2, glob := keepN ng, blt := ⟨mb, keepN nb, bb⟩, nolimit := ⟨mc, keepN l1, l2⟩ }
  have sy2 : ∃ o, (hidT s.heap G).get? sysModules = some o := by
    obtain ⟨o, es, ep, e, dd⟩ := sy
    exact ⟨o, hidT_get e (un0 _ o e (fun vs n z => by rw [dd] at z; cases z) fun fs z => by rw [dd] at z; cases z)⟩
  have ev : Env0 P w K mg (hidT s.heap G) callerA [] s G :=
    { frames := rfl, mod := md, bs := fun b o e => of_hidT e, bsz := Nat.le_of_eq (hidT_size _ _), funs := trivial, frf := fun b hb => (List.not_mem_nil hb).elim, hok := hk, bare := .of_eq gn }
  have gP : ∀ p ∈ cs, mainGlobals ≠ p.2.1 := fun p hp z => by
    obtain ⟨o, es, ep, e, dd, _⟩ := ng
    rw [z, tab p hp] at e
    cases e
    cases dd
  have tb : ∀ p ∈ cs, LamX.TabB (hidT s.heap G) mg p.1 p.2.1 := fun p hp => by
    refine ⟨PySem.W.codeHd_of_K kin2 (cod p hp), ?_, gP p hp⟩
    obtain ⟨m, ob, m1, m2, m3, m4, m5, m6⟩ := bm
    refine ⟨m, ob, m1, m2, fun z => ?_, fun z => ?_, hidT_get m3 (un0 m ob m3 (fun vs n z => by rw [m6] at z; cases z) fun fs z => by rw [m6] at z; cases z), m4, m5, m6⟩
    · obtain ⟨o, es, ep, e, dd, _⟩ := ng
      rw [← z, m3] at e
      cases e
      rw [m6] at dd
      cases dd
    · rw [z, tab p hp] at m3
      cases m3
      cases m6
  obtain ⟨st', hv⟩ := hv
  have stz : Stays (fun _ => False) (Own ⟨[], cs.map fun p => p.2.1⟩ []) G G := ⟨fun _ _ e _ _ => e, fun b z => .inr fun o e => by
    rcases z with ⟨n, xs, z1, _⟩ | z
    · cases z1
    · obtain ⟨p, hp, rfl⟩ := List.mem_map.mp z
      rw [tabs p hp] at e
      exact ⟨_, (Option.some.inj e).symm⟩, fun _ h => h⟩
  have spf : @SpF (tabT cs) K mg F [.ref ad] G (fun v _ => v = .bl true) (fun _ _ _ => False) := by
    refine ⟨⟨[], cs.map fun p => p.2.1⟩, [], [.fz (ns.map PyData.int)], sim_tabs tabs, @DvA.cons (tabT cs) K mg _ [] G (.ref ad) [] _ [] ⟨ad, _, rfl, hL.stays stz, pdA_ints ns⟩ (@DvA.nil (tabT cs) K mg _ [] G), ?_⟩
    rw [hv]
    intro v R' H' _ _ q
    cases q
    rfl
  refine codeAny_mono (@FnG.run (tabT cs) _ _ _ _ _ _ _ _ _ _ (Fn _ kin2 (keepN ng) tb) callerA [] s G ⟨[.ref ad], []⟩ [.ref ad] [.ref ad] _ _ rm ⟨rfl, sy2⟩ ev bd (.cons rfl .nil) spf) fun r s' hr => ?_
  cases r with
  | error e =>
    obtain ⟨_, _, _, _, _, _, _, _, _, _, _, _, no⟩ := hr
    exact no.elim
  | ok fl =>
    cases fl with
    | ret u =>
      obtain ⟨v, H', os, bare, un, hk', rv, rfl⟩ := hr
      obtain rfl : u = Value.bool true := rv
      have stay : ∀ b o, (∀ p ∈ cs, b ≠ p.2.1) → s.heap.get? b = some o → s'.heap.get? b = some o := fun b o nb e => by
        rcases only b with q | ⟨p, hp, q⟩ | ⟨ob, xs, q⟩
        · exact un.keep b o e q List.not_mem_nil List.not_mem_nil
        · exact absurd q (nb p hp)
        · obtain ⟨g1, _⟩ := hk b _ q
          obtain ⟨g2, _⟩ := hk' b _ (un.frzs b ob _ q)
          rw [e] at g1
          cases g1
          exact g2
      have grew : ∀ p ∈ cs, ∃ more : Array Value, s'.heap.get? p.2.1 = some { cls := .none, data := .fields more } := fun p hp => by
        obtain ⟨more, z⟩ := un.tbls p.2.1 #[] (tabs p hp)
        exact ⟨_, hk' p.2.1 _ z⟩
      refine ⟨rfl, OldK.mk (fun b o e => ?_) (fun b o e => ?_), os, bare⟩
      · by_cases nb : ∀ p ∈ cs, b ≠ p.2.1
        · exact .inl (stay b o nb e)
        · obtain ⟨p, hp, rfl⟩ : ∃ p ∈ cs, b = p.2.1 := by
            simp only [Classical.not_forall, Decidable.not_not] at nb
            obtain ⟨p, hp, q⟩ := nb
            exact ⟨p, hp, q⟩
          obtain ⟨more, gm⟩ := grew p hp
          have ct := ((PySem.W.codeHd_of_K kin (cod p hp)).tab (tab p hp)).isCodeTable
          rw [tab p hp] at e
          cases e
          exact .inr (.inl ⟨ct, rfl, #[], more, rfl, by rw [Array.empty_append]; exact gm⟩)
      · by_cases nb : ∀ p ∈ cs, b ≠ p.2.1
        · exact ⟨o, stay b o nb e⟩
        · simp only [Classical.not_forall, Decidable.not_not] at nb
          obtain ⟨p, hp, rfl⟩ := nb
          obtain ⟨more, gm⟩ := grew p hp
          exact ⟨_, gm⟩
    | next => exact hr.elim
    | brk => exact hr.elim
    | cont => exact hr.elim
/-- what is known of the module of built-in names -/
abbrev BMain (mg : Str → Option Value) (h : Heap) : Prop := ∃ (bm : Addr) (ob : Obj), mg "__builtins__" = some (.ref bm) ∧ bm ≠ builtinsNs ∧ h.get? bm = some ob ∧ ob.cls = .type "module" ∧ ob.dict = some builtinsNs ∧ ob.data = .plain
theorem tabB_here {h : Heap} (kin : K.In h) (ng : h.Ns mainGlobals mg) (bm : BMain mg h) {c P : Addr} (tab : h.get? P = some (PySem.W.tabObj #[])) (cod : PySem.W.codeHdIn K c P = true) : LamX.TabB h mg c P := by
  have gP : mainGlobals ≠ P := fun z => by
    obtain ⟨o, es, ep, e, dd, _⟩ := ng
    rw [z, tab] at e
    cases e
    cases dd
  obtain ⟨m, ob, m1, m2, m3, m4, m5, m6⟩ := bm
  refine ⟨PySem.W.codeHd_of_K kin cod, ⟨m, ob, m1, m2, fun z => ?_, fun z => ?_, m3, m4, m5, m6⟩, gP⟩
  · obtain ⟨o, es, ep, e, dd, _⟩ := ng
    rw [← z, m3] at e
    cases e
    rw [m6] at dd
    cases dd
  · rw [z, tab] at m3
    cases m3
    cases m6
/-- the law's call -/
theorem tab_call (kin : K.In s.heap) (ng : s.heap.Ns mainGlobals mg) (nb : s.heap.Ns builtinsNs mb) (bb : ∀ y : Str, y ≠ "__name__" → mb y = bootBuiltins y) (nl : s.heap.NoLimit) (sy : ∃ o es ep, s.heap.get? sysModules = some o ∧ o.data = .dict es ep) (gn : s.gens = #[]) (bm : BMain mg s.heap)
    (tab : ∀ p ∈ cs, s.heap.get? p.2.1 = some (PySem.W.tabObj #[])) (nT : ∀ p ∈ cs, K.lookup p.2.1 = none) (cod : ∀ p ∈ cs, PySem.W.codeHdIn K p.1 p.2.1 = true)
    (ho : s.heap.get? ad = some { cls := .type "list", data := .seq us.toArray }) (hi : IntsAre us ns) (hl : ns.length ≤ sizeLine) (rm : Room k callerA)
    (Fn : ∀ bs : Heap, K.In bs → bs.Ns mainGlobals mg → (∀ p ∈ cs, LamX.TabB bs mg p.1 p.2.1) → @FnG (tabT cs) P w K mg bs k fa fd [x] F) (bd : BindsTo s fd ⟨[.ref ad], []⟩ [(x, .ref ad)]) (hv : ∃ st', F [.fz (ns.map PyData.int)] [] = .ok (.dat (.bool true)) st') :
    codeAny (model P w) callerA (.call (.ref fa) ⟨[.ref ad], []⟩) (Told s) s := by
  have vi := vals_ints hi
  have notT : ∀ p ∈ cs, ad ≠ p.2.1 := fun p hp z => by
    have q := tab p hp
    rw [← z, ho] at q
    cases (show Data.seq us.toArray _ = Data.fields #[] from congrArg Obj.data (Option.some.inj q))
  let G0 : Hp := fun b => if ∃ p ∈ cs, b = p.2.1 then some (.tbl #[]) else none
  have g1 : ∀ b, (∃ p ∈ cs, b = p.2.1) → G0 b = some (.tbl #[]) := fun b h => if_pos h
  have g2 : ∀ b, ¬ (∃ p ∈ cs, b = p.2.1) → G0 b = none := fun b h => if_neg h
  have gad : G0 ad = none := g2 ad fun ⟨p, hp, e⟩ => notT p hp e
  have hk0 : HOk P w G0 s.heap := fun b u z => by
    by_cases c : ∃ p ∈ cs, b = p.2.1
    · rw [g1 b c] at z
      cases z
      obtain ⟨p, hp, rfl⟩ := c
      exact tab p hp
    · rw [g2 b c] at z
      cases z
  cases q : K.lookup ad with
  | some o =>
    have e := kin ad o q
    rw [ho] at e
    cases e
    refine tab_core (G := G0) kin ng nb bb nl sy gn bm tab cod (fun p hp => g1 _ ⟨p, hp, rfl⟩) (fun b => ?_) (fun b o nz e => ?_) (fun b nz => ?_) hk0 rm Fn bd (.inr ⟨_, us.toArray, _, q, rfl, rfl, rfl, ?_, by simpa using vi⟩) notT hv
    · by_cases c : ∃ p ∈ cs, b = p.2.1
      · exact .inr (.inl c)
      · exact .inl (g2 b c)
    · by_cases c : ∃ p ∈ cs, b = p.2.1
      · obtain ⟨p, hp, rfl⟩ := c
        rw [tab p hp] at e
        cases e
        exact .inr ⟨_, rfl⟩
      · exact absurd (g2 b c) nz
    · by_cases c : ∃ p ∈ cs, b = p.2.1
      · obtain ⟨p, hp, rfl⟩ := c
        exact nT p hp
      · exact absurd (g2 b c) nz
    · rw [List.size_toArray, hi.length]
      exact hl
  | none =>
    let Z : HO := .frz { cls := .type "list", data := .seq us.toArray } (.lst (ns.map V.int))
    have z1 : upd G0 ad Z ad = some Z := upd_same
    have z2 : ∀ b, b ≠ ad → upd G0 ad Z b = G0 b := fun b h => upd_ne h
    refine tab_core (G := upd G0 ad Z) kin ng nb bb nl sy gn bm tab cod (fun p hp => (z2 _ (Ne.symm (notT p hp))).trans (g1 _ ⟨p, hp, rfl⟩)) (fun b => ?_) (fun b o nz e => ?_) (fun b nz => ?_) (fun b u z => ?_) rm Fn bd (.inl ⟨.inr ⟨_, z1⟩, id⟩) notT hv
    · by_cases c : b = ad
      · exact .inr (.inr ⟨_, _, by rw [c]; exact z1⟩)
      · rw [z2 b c]
        by_cases c : ∃ p ∈ cs, b = p.2.1
        · exact .inr (.inl c)
        · exact .inl (g2 b c)
    · by_cases c : b = ad
      · rw [c, ho] at e
        cases e
        exact .inl ⟨_, _, rfl⟩
      · rw [z2 b c] at nz
        by_cases c : ∃ p ∈ cs, b = p.2.1
        · obtain ⟨p, hp, rfl⟩ := c
          rw [tab p hp] at e
          cases e
          exact .inr ⟨_, rfl⟩
        · exact absurd (g2 b c) nz
    · by_cases c : b = ad
      · rw [c]; exact q
      · rw [z2 b c] at nz
        by_cases c : ∃ p ∈ cs, b = p.2.1
        · obtain ⟨p, hp, rfl⟩ := c
          exact nT p hp
        · exact absurd (g2 b c) nz
    · by_cases c : b = ad
      · subst c
        rw [z1] at z
        cases z
        exact ⟨ho, by rw [List.length_map]; exact hl, us, _, vi, ho⟩
      · rw [z2 b c] at z
        have e := hk0 b u z
        by_cases c2 : ∃ p ∈ cs, b = p.2.1
        · rw [g1 b c2] at z
          cases z
          exact e
        · rw [g2 b c2] at z
          cases z
end
/-- the end of a law that makes lambdas -/
theorem end_lawT {l : PySem.W.OpenLaw} {n k : Nat} {q : Program} {loose : List Str} {XP : (Str → Option Value) → Heap → Prop} {YP : World → Heap → Prop} {d : DefRec} {x : Str} {F : List D → M D}
    (hn : l.most = some n) (hn2 : n ≤ sizeLine) (hdf : d.params.defaults = []) (hi : importsNone q = true) (rm : Room k callerA)
    (Fn : ∀ (w : World) (mg : Str → Option Value) (h : Heap), YP w h → XP mg h → h.Ns mainGlobals mg → ∃ (K : PySem.W.Frag) (cs : Tabs0), K.In h ∧ (∀ p ∈ cs, h.get? p.2.1 = some (PySem.W.tabObj #[])) ∧ (∀ p ∈ cs, K.lookup p.2.1 = none) ∧ (∀ p ∈ cs, PySem.W.codeHdIn K p.1 p.2.1 = true) ∧
      ∀ bs : Heap, (∀ p ∈ cs, LamX.TabB bs mg p.1 p.2.1) → @FnN (tabT cs) l.prog w K mg bs k d.name [x] F)
    (hv : ∀ ns : List Int, ns.length ≤ n → (∀ i ∈ ns, Builtin.Int.intBits i ≤ 1048576) → ∃ st', F [.fz (ns.map PyData.int)] [] = .ok (.dat (.bool true)) st') :
    PySem.W.WalkO q loose XP YP l.row.toRowW d [] (fun f vs => PySem.call f vs) := by
  refine Att.attach_callB hn hdf fun w s0 s1 mg mb fa o pm cd doc ad us ns G Y _ _ _ hmg hobj hints hlen hbits hgen => ?_
  obtain ⟨K, cs, kin, tab, nT, cod, hF⟩ := Fn w mg _ Y G.X G.T.g
  obtain ⟨f, fd, g0, m0, k0, b0, oc, od, osl, l0⟩ := hF s1.heap fun p hp => tabB_here kin G.T.g G.T.bmain (tab p hp) (cod p hp)
  rw [hmg] at m0
  cases m0
  have bd := b0 s1 [.ref ad] kin rfl
  rw [List.append_nil] at bd
  refine tab_call kin G.T.g G.T.b G.T.builtins G.T.nolimit (G.T.sysm hi) hgen G.T.bmain tab nT cod hobj hints (Nat.le_trans hlen hn2) rm (fun bs _ _ tb => ?_) bd (hv ns hlen hbits)
  obtain ⟨f2, fd2, e2, m2, k2, b2, oc2, od2, osl2, l2⟩ := hF bs tb
  rw [hmg] at m2
  cases m2
  rw [l0] at l2
  cases l2
  exact e2
/-! ### finding the tables -/
/-- where the table of the code object at c lies -/
def tabA (K : PySem.W.Frag) (c : Addr) : Addr := match (K.lookup c).map (fun o : Obj => o.data) with
  | some (Data.fields vs) => (match (vs[11]? : Option Value) with
    | some (.ref P) => P
    | _ => 0)
  | _ => 0
def tabFine (K : PySem.W.Frag) (ts : List Addr) (c : Addr) : Bool := ts.contains (tabA K c) && (K.lookup (tabA K c)).isNone && PySem.W.codeHdIn K c (tabA K c)
theorem tabFine_ok {K : PySem.W.Frag} {h : Heap} {ts : List Addr} {c : Addr} (tabs : ∀ P ∈ ts, h.get? P = some (PySem.W.tabObj #[])) (e : tabFine K ts c = true) : h.get? (tabA K c) = some (PySem.W.tabObj #[]) ∧ K.lookup (tabA K c) = none ∧ PySem.W.codeHdIn K c (tabA K c) = true := by
  unfold tabFine at e
  rw [Bool.and_eq_true, Bool.and_eq_true] at e
  obtain ⟨⟨a, b⟩, d⟩ := e
  exact ⟨tabs _ (List.contains_iff_mem.mp a), Option.isNone_iff_eq_none.mp b, d⟩
theorem tabAt_of {bs : Heap} {mg : Str → Option Value} {cs : Tabs0} {c P : Addr} {q : Str} (nd : (cs.map fun p => p.2.1).Nodup) (tb : ∀ p ∈ cs, LamX.TabB bs mg p.1 p.2.1) (m : (c, P, q) ∈ cs) : @TabAt (tabT cs) bs mg c P q := by
  refine @TabAt.mk (tabT cs) bs mg c P q (tb _ m) (List.mem_map.mpr ⟨_, m, rfl⟩) fun p hp e => ?_
  obtain ⟨r, hr, rfl⟩ := List.mem_map.mp hp
  have one : ∀ l : Tabs0, (l.map fun p => p.2.1).Nodup → r ∈ l → (c, P, q) ∈ l → r.2.2 = q := by
    intro l
    induction l with
    | nil => exact fun _ h _ => by cases h
    | cons y l ih =>
      intro n h1 h2
      rw [List.map_cons, List.nodup_cons] at n
      rcases List.mem_cons.mp h1 with h1 | h1 <;> rcases List.mem_cons.mp h2 with h2 | h2
      · rw [h1, ← h2]
      · exact absurd (List.mem_map.mpr ⟨_, h2, by rw [← h1]; exact e.symm⟩) n.1
      · exact absurd (List.mem_map.mpr ⟨_, h1, by rw [← h2]; exact e⟩) n.1
      · exact ih n.2 h1 h2
  exact one cs nd hr m
end Ev
set_option Elab.async false
set_option linter.all false
set_option maxRecDepth 100000
set_option maxHeartbeats 4000000
/-! Ev31: range of three, str of a number. -/
namespace Ev
open PySem PySem.Spec PyProof.Rows L2
open Classical
variable [τ : Tbl]
/-- lo, lo + c, .. (n of them) -/
def stepD (lo c : Int) (n : Nat) : Src := ⟨(List.range n).map fun k : Nat => D.dat (.int (lo + (k : Int) * c)), fun _ => True⟩
theorem wk_step {K : PySem.W.Frag} {mg : Str → Option Value} {R : Rg} {H : Hp} {st : Sto} {lo c : Int} {n : Nat} : Wk K mg R st H (Itc lo c n) (stepD lo c n) := by
  have hl : (stepD lo c n).items.length = n := by simp [stepD]
  refine ⟨fun i R' H' st' hi E S o => ?_, fun R' H' st' E S o => ?_, fun i R' H' st' x H2 hi E S o y => ?_⟩
  · rw [hl] at hi; exact hi
  · rw [hl]; exact Nat.le_refl _
  · obtain ⟨rfl, rfl⟩ := y
    rw [hl] at hi
    exact ⟨.refl, S, _, by simp [stepD, hi], Dv.int _⟩
def dStrI : D → M D
  | .dat (.int i) => if i.natAbs.log2 < 1920 then M.pure (.dat (.str (toString i))) else M.bad
  | _ => M.bad
theorem ok_strI {K : PySem.W.Frag} {mg : Str → Option Value} : CallOk K mg (fun xs H Q => ∃ i, xs = [.int i] ∧ i.natAbs.log2 < 1920 ∧ Q (.str (toString i)) H) (on1 dStrI) := by
  intro R H st vs ds Q W S hd h
  obtain ⟨v, d, rfl, rfl, h1, h⟩ := ok1 hd h
  unfold dStrI at h
  split at h
  · cases h1
    split at h
    · rename_i hz
      exact ⟨_, rfl, hz, h.okR S (Dv.str _)⟩
    · exact h.elim
  · exact h.elim
section
variable {X : Cx} {W : WX} {e : Expr} {es : List Expr} {ms : Env → M (List D)} {p pos : Pos}
theorem n_strI (hm : X.mg "str" = none) (ha : EVA X W (e :: es) ms) (hg : Gl X "str" := by exact rfl) (he : starEach (e :: es) X.env = (false, eval e X.env) :: starEach es X.env := by rfl) (hpl : (backTo pos (starEach es X.env)).any (·.1) = false := by rfl) : EV X W (.Call (.Name "str" p) (e :: es) [] pos) (mC (on1 dStrI) ms) := ev_callTy call_str_int ok_strI hg hm boot_str ha (by decide) (by decide) he hpl
end
end Ev
set_option Elab.async false
set_option linter.all false
set_option maxRecDepth 100000
set_option maxHeartbeats 4000000
/-! Ev32: range of three with a step that no machine word holds. -/
namespace Ev
open PySem PySem.Spec PyProof.Rows L2
open Classical
theorem own_long : Manifest.owners.lookup (String.ofList ['r', 'o', 't', 'a', 'r', 'e', 't', 'i', '_', 'e', 'g', 'n', 'a', 'r', 'g', 'n', 'o', 'l'].reverse) = some Manifest.sig_longrange_iterator := by kernel_rfl
theorem slot_long : Slot "longrange_iterator" "__next__" "longrange_iterator.__next__" := by
  refine .of (owner := "longrange_iterator") (n := "__next__") ?_ (by decide +kernel) (by decide +kernel) (by decide +kernel) ?_ ?_
  · rw [typeLookup_type, builtinLookup_eq_fast]
    kernel_rfl
  · first
      | exact .inl (by decide +kernel)
      | exact .inr (by decide +kernel)
  · rw [isSubtype_type]
    kernel_rfl
theorem entry_long : entryFor table "longrange_iterator.__next__" = some Builtin.«longrange_iterator.__next__» := entryFor_of_tree (by kernel_rfl)
theorem args_long (a : Value) : argsOk "longrange_iterator.__next__" ⟨[a], []⟩ := by
  unfold argsOk
  rw [signature?_of (id := "longrange_iterator.__next__") (n := ['_', '_', 't', 'x', 'e', 'n', '_', '_']) (o := ['r', 'o', 't', 'a', 'r', 'e', 't', 'i', '_', 'e', 'g', 'n', 'a', 'r', 'g', 'n', 'o', 'l']) (by kernel_rfl) own_long]
  kernel_rfl
theorem slot_longI : ∃ b, Slot "longrange_iterator" "__iter__" b ∧ b = "longrange_iterator.__iter__" := by
  refine ⟨_, ?_, rfl⟩
  refine .of (owner := "longrange_iterator") (n := "__iter__") ?_ (by decide +kernel) (by decide +kernel) (by decide +kernel) ?_ ?_
  · rw [typeLookup_type, builtinLookup_eq_fast]
    kernel_rfl
  · first
      | exact .inl (by decide +kernel)
      | exact .inr (by decide +kernel)
  · rw [isSubtype_type]
    kernel_rfl
theorem args_longI (a : Value) : argsOk "longrange_iterator.__iter__" ⟨[a], []⟩ := by
  unfold argsOk
  rw [signature?_of (id := "longrange_iterator.__iter__") (n := ['_', '_', 'r', 'e', 't', 'i', '_', '_']) (o := ['r', 'o', 't', 'a', 'r', 'e', 't', 'i', '_', 'e', 'g', 'n', 'a', 'r', 'g', 'n', 'o', 'l']) (by kernel_rfl) own_long]
  kernel_rfl
/-! ### the iterator -/
abbrev IsLong (h : Heap) (it : Addr) (x left step : Int) : Prop := h.get? it = some { cls := .type "longrange_iterator", dict := none, data := .fields #[rawInt x, rawInt left, rawInt step], slots := #[] }
theorem long_item (it : Addr) (x left step : Int) (more : ¬left ≤ 0) :
    Meets (Builtin.«longrange_iterator.__next__» ⟨[.ref it], []⟩) (fun _ R s => IsLong s.heap it x left step ∧ R (.ok (.ret (.int x s.toks))) { s with heap := (s.heap.update it (Obj.mapFields fun y => y.setIfInBounds 0 (rawInt (x + step)))).update it (Obj.mapFields fun y => y.setIfInBounds 1 (rawInt (left - 1))), toks := s.toks + 1 }) := by
  refine .of_wp fun prog w A R s h => ?_
  obtain ⟨hp, g, d, tk, os⟩ := s
  obtain ⟨hl, h⟩ := h
  wp_walk
  exact ⟨_, rfl, h⟩
theorem entry_longI : entryFor table "longrange_iterator.__iter__" = some Builtin.«dict_keyiterator.__iter__» := by
  refine entryFor_alias (id' := "dict_keyiterator.__iter__") ?_ ?_ (by decide +kernel) ?_
  · kernel_rfl
  · first
      | rfl
      | decide +kernel
      | (unfold String.splitOn; simp +decide [String.splitOnAux])
  · kernel_rfl
section
variable {prog : Program} {w : World} {A : Around} {E : Value → Shared → Prop} {s : Shared} {it : Addr} {x left step : Int}
theorem long_next {Q : Option Value → Shared → Prop} (hit : IsLong s.heap it x left step) (more : 0 < left)
    (hQ : ∀ h', IsLong h' it (x + step) (left - 1) step → Heap.SameBut it s.heap h' → Q (some (.int x s.toks)) { s with heap := h', toks := s.toks + 1 }) : wpAny (model prog w) A (pyNext (.ref it)) Q E s := by
  have ty : s.TypeIs (.ref it) "longrange_iterator" := ⟨_, hit, rfl⟩
  unfold pyNext
  apply wpAny_bind
  apply wpAny_attempt
  refine wpAny_callSpecial?_slot (name := Str.ofString "__next__") ty slot_long (call_meets slot_long ty entry_long (args_long _) (long_item it x left step (by omega)) ⟨hit, ?_⟩)
  exact wpAny_pure (hQ _ (Heap.get?_update_self _ (Heap.get?_update_self _ hit rfl) rfl) ((Heap.SameBut.update ..).trans (Heap.SameBut.update ..)))
theorem long_self {Q : Value → Shared → Prop} (hit : IsLong s.heap it x left step) (h : Q (.ref it) s) : wpAny (model prog w) A (pyIter (.ref it)) Q E s := by
  have ty : s.TypeIs (.ref it) "longrange_iterator" := ⟨_, hit, rfl⟩
  obtain ⟨_, sl, rfl⟩ := slot_longI
  refine wpAny_pyIter_slot ty sl (wpAny_call_entry sl ty entry_longI ?_ (args_longI _))
  show wpAny _ _ (ret (.ref it)) _ _ s
  exact wpAny_pure ⟨_, rfl, "longrange_iterator", _, ty, slot_long.lookup, h⟩
theorem long_end {Q : Option Value → Shared → Prop} (hh : A.handled = none) (hit : IsLong s.heap it x left step) (none_ : left ≤ 0) (hQ : ∀ h', Heap.ExtBut it s.heap h' → Q none { s with heap := h' }) : wpAny (model prog w) A (pyNext (.ref it)) Q E s := by
  have ty : s.TypeIs (.ref it) "longrange_iterator" := ⟨_, hit, rfl⟩
  unfold pyNext
  apply wpAny_bind
  apply wpAny_attempt
  refine wpAny_callSpecial?_slot (name := Str.ofString "__next__") ty slot_long (wpAny_call_entry slot_long ty entry_long ?_ (args_long _))
  obtain ⟨hp, g, d, tk, os⟩ := s
  wp_walk
  unfold raiseNew
  apply wpAny_bind
  refine wpAny_handled ?_
  have hh2 : A.in1.handled = none := hh
  rw [hh2]
  refine wpAny_throw ?_
  apply wpAny_bind
  refine wpAny_isInstance (T := "StopIteration") (b := true) ⟨_, Heap.get?_push_size _ rfl, rfl⟩ isSubtype_stop (wpAny_pure ?_)
  have two : ∀ o1 o2 : Obj, Heap.ExtBut it hp ((hp.push o1).push o2) := fun o1 o2 => ((Heap.ExtBut.refl it hp).push o1).push o2
  exact hQ _ (two _ _)
/-! ### its turns -/
theorem turn_long {P : Program} {w : World} {K : PySem.W.Frag} {tg : Expr} (it : Addr) (lo c : Int) (n : Nat) : Turn P w K tg (Itc lo c n) [it] it (fun i h => IsLong h it (lo + (i : Nat) * c) ((n : Int) - (i : Nat)) c) := by
  refine ⟨List.mem_singleton.mpr rfl, fun i h st b hb => ?_, fun i h h' st k => k it (List.mem_singleton.mpr rfl) _ st, ?_, ?_, fun A i s Q E st h => long_self st h⟩
  · obtain rfl := List.mem_singleton.mp hb
    exact ⟨_, st, fun v z => nomatch z⟩
  · rintro X rfl rfl rfl calm i pins s σ H E I ff st more
    obtain ⟨f0, f1, f2, f3, f4, f5⟩ := ff it (List.mem_singleton.mpr rfl)
    refine long_next st (by have : i < n := more; omega) fun h' hit' hs => ?_
    have st' : IsLong h' it (lo + ((i + 1 : Nat) : Int) * c) ((n : Int) - ((i + 1 : Nat) : Int)) c := by
      have a1 : lo + ((i + 1 : Nat) : Int) * c = lo + ((i : Nat) : Int) * c + c := by
        rw [Int.natCast_add, Int.add_mul]
        omega
      have a2 : (n : Int) - ((i + 1 : Nat) : Int) = (n : Int) - ((i : Nat) : Int) - 1 := by omega
      rw [a1, a2]
      exact hit'
    have I1 : L2.Inv X pins σ H { s with heap := h', toks := s.toks + 1 } := I.turned (fun b o hb e => hs.extBut b o (fun z => hb z) e) f0 f1 f3 f4 f5
    refine ⟨_, rfl, go_of (s := { s with heap := h', toks := s.toks + 1 }) (n := "longrange_iterator") st' rfl rfl (by decide) ?_⟩
    exact ⟨.int (lo + (i : Nat) * c), H, I1, ⟨_, rfl⟩, ⟨rfl, rfl⟩, st', fun b hb => (ff b hb).1⟩
  · rintro X rfl rfl rfl calm i pins s σ H E I ff st over
    obtain ⟨f0, f1, f2, f3, f4, f5⟩ := ff it (List.mem_singleton.mpr rfl)
    refine long_end (I.ok.hd calm) st (by have : n ≤ i := over; omega) fun h' eb => ?_
    exact ⟨rfl, I.turned (t' := s.toks) (fun b o hb e => eb b o (fun z => hb z) e) f0 f1 f3 f4 f5⟩
/-- a range is asked for its iterator, none of its words fits -/
theorem long_iter {r : Addr} {a b c : Int} {t u v : Tok} {Q : Value → Shared → Prop} (hr : IsRange s.heap r a b c t u v) (big : Builtin.Range.small a b c = false)
    (hQ : Q (.ref s.heap.objs.size) { s with heap := s.heap.push { cls := .type "longrange_iterator", data := .fields #[rawInt a, rawInt (Builtin.Range.rangeSize a b c), rawInt c] } }) : wpAny (model prog w) A (pyIter (.ref r)) Q E s := by
  have ty : s.TypeIs (.ref r) "range" := ⟨_, hr, rfl⟩
  unfold Builtin.Range.small at big
  have m := AutoRange.range___iter___range_0 r a b c t u v (by rw [big]; rfl)
  refine wpAny_pyIter_slot ty F.slot_range_iter (call_meets F.slot_range_iter ty F.entry_range_iter (F.args_range_iter_1 _) m ⟨hr, ?_⟩)
  simp only [big, Bool.false_eq_true, if_false]
  exact ⟨"longrange_iterator", _, ⟨_, Heap.get?_push_size _ rfl, rfl⟩, slot_long.lookup, hQ⟩
end
/-- range(i, j, c), whatever its words -/
def iStep (ta : TA) : TI := fun σ H R => ta σ H fun vs H1 => ∃ (i j c : Int) (n : Nat), vs = [.int i, .int j, .int c] ∧ c ≠ 0 ∧ Builtin.divisionGoesByPylong (j - i) c = false ∧ Builtin.Range.rangeSize i j c = n ∧ R (Itc i c n) H1
section
variable {X : Cx} {tg : Expr}
theorem pi_step {a b c : Expr} {ta : TA} {p pos : Pos} (hg : Gl X "range") (hm : X.mg "range" = none) (ha : PA X [a, b, c] ta) (hs : starEach [a, b, c] X.env = (false, eval a X.env) :: starEach [b, c] X.env) (hpl : (backTo pos (starEach [b, c] X.env)).any (·.1) = false) :
    PI X tg (.Call (.Name "range" p) [a, b, c] [] pos) (iStep ta) := by
  constructor
  intro pins s σ H R I h
  refine Call_ (ld_blt I hg hm boot_range (PyProof.Rows.callWith_type1 (thn (ha.run pos pins s σ H _ I h) fun us s1 ⟨vs, H1, I1, r1, q1⟩ => ?_) hs hpl))
  obtain ⟨i, j, k, n, rfl, c0, c1, c2, q⟩ := q1
  obtain ⟨u1, us, rfl⟩ : ∃ u us', us = u :: us' := by cases r1; exact ⟨_, _, rfl⟩
  obtain ⟨t1, rfl⟩ := show RelV (.int i) u1 by cases r1; assumption
  obtain ⟨u2, us, rfl⟩ : ∃ u us', us = u :: us' := by cases r1 with | cons _ r2 => cases r2; exact ⟨_, _, rfl⟩
  obtain ⟨t2, rfl⟩ := show RelV (.int j) u2 by cases r1 with | cons _ r2 => cases r2; assumption
  obtain ⟨u3, us, rfl⟩ : ∃ u us', us = u :: us' := by cases r1 with | cons _ r2 => cases r2 with | cons _ r3 => cases r3; exact ⟨_, _, rfl⟩
  obtain ⟨t3, rfl⟩ := show RelV (.int k) u3 by cases r1 with | cons _ r2 => cases r2 with | cons _ r3 => cases r3; assumption
  obtain rfl : us = [] := by cases r1 with | cons _ r2 => cases r2 with | cons _ r3 => cases r3 with | cons _ r4 => cases r4; rfl
  refine call_range_3 c0 ?_ (.inl c1)
  let s2 : Shared := { s1 with heap := s1.heap.push { cls := .type "range", data := .fields #[.int i t1, .int j t2, .int k t3] } }
  have I2 : L2.Inv X pins σ H1 s2 := I1.kept (t' := s1.toks) fun b o e => Heap.get?_push_of_some _ e
  have z1 : i + ((0 : Nat) : Int) * k = i := by simp
  have z2 : (n : Int) - ((0 : Nat) : Int) = Builtin.Range.rangeSize i j k := by rw [c2]; simp
  cases sm : Builtin.Range.small i j k with
  | true =>
    refine wpAny_pyIter_range (IsRange.new ..) sm (pi_one (tk := s1.toks) I2 _ (turn_rangeC _ i k n) ?_ q)
    show IsRangeIter _ _ (i + ((0 : Nat) : Int) * k) ((n : Int) - ((0 : Nat) : Int)) k
    rw [z1, z2]
    exact Heap.get?_push_size _ rfl
  | false =>
    refine long_iter (IsRange.new ..) sm (pi_one (tk := s1.toks) I2 _ (turn_long _ i k n) ?_ q)
    show IsLong _ _ (i + ((0 : Nat) : Int) * k) ((n : Int) - ((0 : Nat) : Int)) k
    rw [z1, z2]
    exact Heap.get?_push_size _ rfl
end
variable [τ : Tbl]
def rng3 : List D → M Src
  | [.dat (.int i), .dat (.int j), .dat (.int c)] => if c ≠ 0 ∧ Builtin.divisionGoesByPylong (j - i) c = false ∧ 0 ≤ Builtin.Range.rangeSize i j c then M.pure (stepD i c (Builtin.Range.rangeSize i j c).toNat) else M.bad
  | _ => M.bad
def mRng3 (m : Env → M (List D)) : Env → M Src := fun ρ => M.bind (m ρ) rng3
section
variable {X : Cx} {W : WX} {tg e e2 e3 : Expr} {ms : Env → M (List D)} {p pos : Pos}
theorem evi_range3 (hg : Gl X "range") (hm : X.mg "range" = none) (ha : EVA X W [e, e2, e3] ms) (hs : starEach [e, e2, e3] X.env = (false, eval e X.env) :: starEach [e2, e3] X.env := by rfl) (hpl : (backTo pos (starEach [e2, e3] X.env)).any (·.1) = false := by rfl) :
    EVI X W tg (.Call (.Name "range" p) [e, e2, e3] [] pos) (mRng3 ms) := by
  refine ⟨PI.imp (pi_step hg hm ha.pa hs hpl) fun σ H Q h => ?_⟩
  obtain ⟨R, ρ, st, S, E, h⟩ := h
  refine ⟨R, ρ, st, S, E, (Post.bind (Rel := DvA X.K X.mg) (Rel2 := RelI X.K X.mg) h).monoQ fun vs H1 ⟨R1, st1, ds, x1, S1, D1, h1⟩ => ?_⟩
  unfold rng3 at h1
  split at h1
  · cases D1 with
    | cons a b =>
      cases b with
      | cons b c =>
        cases c with
        | cons c d =>
          cases d
          cases a
          cases b
          cases c
          split at h1
          · rename_i hc
            obtain ⟨c1, c2, c3⟩ := hc
            exact ⟨_, _, _, _, rfl, c1, c2, (Int.toNat_of_nonneg c3).symm, h1.okR S1 wk_step⟩
          · exact h1.elim
  · exact h1.elim
end
end Ev
set_option Elab.async false
set_option linter.all false
set_option maxRecDepth 100000
set_option maxHeartbeats 4000000
/-! Ev33: while; count and index of a list of data. -/
namespace Ev
open PySem PySem.Spec PyProof.Rows L2
open Classical
variable [τ : Tbl]
/-! ### while, so many turns at most -/
noncomputable def whileS (t : Env → M Bool) (body : SM) : Nat → SM
  | 0 => fun _ _ => .bad
  | k + 1 => sBind t fun b ρ st => if b = true then match body ρ st with
      | .nx ρ2 st2 => whileS t body k ρ2 st2
      | .ct ρ2 st2 => whileS t body k ρ2 st2
      | .bk ρ2 st2 => .nx ρ2 st2
      | r => r
    else .nx ρ st
noncomputable def sWhile (t : Env → M Bool) (body : SM) : SM := whileS t body 100000
section
variable {X : Cx} {W : WX} {pos : Pos}
theorem evs_while {c : Expr} {body : List Stmt} {mc : Env → M Bool} {mb : SM} (hp : PassesOwn (model X.prog X.w) X.A X.env X.xe) (hc : EVT X W c mc) (hb : EVSs X W body mb) : EVS X W (.While c body [] pos) (sWhile mc mb) := by
  refine ⟨PS.imp (ps_while hp hc.pt hb.ps) fun Dn σ H ⟨R, ρ, st, S, E, h⟩ => ?_⟩
  refine ⟨fun m σ1 H1 => ∃ R1 ρ1 st1, Sim X.K R1 H1 st1 ∧ EnvR X.K X.mg R1 st1 H1 σ1 ρ1 ∧ PostS X.K X.mg R1 H1 st1 (whileS mc mb m ρ1 st1) Dn W, ⟨100000, R, ρ, st, S, E, h⟩, ?_⟩
  rintro m σ1 H1 ⟨R1, ρ1, st1, S1, E1, h1⟩
  cases m with
  | zero => exact h1.elim
  | succ m =>
    refine ⟨R1, ρ1, st1, S1, E1, (PostS.bind (Rel := RelB) E1 h1).monoQ fun b H2 ⟨R2, st2, a, S2, E2, eb, h2⟩ => ?_⟩
    obtain rfl : b = a := eb
    cases b with
    | false => exact h2 σ1 R2 H2 .refl S2 E2
    | true =>
      refine ⟨fun σ3 H3 => ∃ R3 ρ3 st3, Sim X.K R3 H3 st3 ∧ EnvR X.K X.mg R3 st3 H3 σ3 ρ3 ∧ PostS X.K X.mg R3 H3 st3 (whileS mc mb m ρ3 st3) Dn W, fun σ3 H3 q => ⟨m, Nat.lt_succ_self m, q⟩, R2, ρ1, st2, S2, E2, ?_⟩
      rw [if_pos rfl] at h2
      cases zb : mb ρ1 st2 with
      | nx ρ3 st3 =>
        rw [zb] at h2
        exact fun σ3 R3 H3 e3 s3 q3 => ⟨R3, ρ3, st3, s3, q3, PostS.shift s3 e3 h2⟩
      | ct ρ3 st3 =>
        rw [zb] at h2
        exact fun σ3 R3 H3 e3 s3 q3 => ⟨R3, ρ3, st3, s3, q3, PostS.shift s3 e3 h2⟩
      | bk ρ3 st3 => rw [zb] at h2; exact h2
      | rt d3 st3 => rw [zb] at h2; exact h2
      | exc x3 ρ3 st3 => rw [zb] at h2; exact h2
      | bad => rw [zb] at h2; exact h2.elim
end
/-! ### xs.count(y), xs.index(y): data -/
def rCntD (K : PySem.W.Frag) : V → List V → Hp → VK → Prop := fun x xs H Q => ∃ (a : Addr) (y : V) (ws : List V) (ds : List PyData) (d : PyData), x = .ref a ∧ xs = [y] ∧ SqL K H a ws ∧ PdA K NoU H ws ds ∧ Pd K NoU H y d ∧
  SeqAt.shaped (.list ds) = true ∧ SeqAt.shaped d = true ∧ Q (.int (ds.countP fun z => PyData.eqv z d : Nat)) H
def rIdxD (K : PySem.W.Frag) : V → List V → Hp → VK → Prop := fun x xs H Q => ∃ (a : Addr) (y : V) (ws : List V) (ds : List PyData) (d : PyData) (j : Nat) (z : PyData), x = .ref a ∧ xs = [y] ∧ SqL K H a ws ∧ PdA K NoU H ws ds ∧ Pd K NoU H y d ∧
  SeqAt.shaped (.list ds) = true ∧ SeqAt.shaped d = true ∧ ds[j]? = some z ∧ PyData.eqv z d = true ∧ (∀ (m : Nat) (z' : PyData), m < j → ds[m]? = some z' → PyData.eqv z' d = false) ∧ Q (.int (j : Nat)) H
section
variable {X : Cx}
theorem mt_cntD (hu : X.A.units + 65 < cLine) (gs : ∃ o, X.base.get? sysModules = some o) : MtR X "list.count" (rCntD X.K) := by
  intro pins s σ H x xs v us Q I rx rxs h
  obtain ⟨a, y, ws, ds, d, rfl, rfl, hs, pa, pd, sl, sd, q⟩ := h
  have hn : H sysModules = none := let ⟨o, e⟩ := gs; (I.bs _ o e).2
  cases rx
  obtain ⟨uy, rfl, ry⟩ := rxs.one
  obtain ⟨bs, r1, _⟩ := Pd.reads I hn pd ry
  obtain ⟨its, rv, ⟨⟨cls, dd, data, sls⟩, n, ho, hc, hdn, hdt⟩, hlen⟩ := I.list hs
  simp only at hc hdt
  subst hc hdt
  obtain ⟨as, h4, _⟩ := PdA.reads I hn pa rv
  have lay : PyData.canLayAll0 ds = true := SeqAt.canLay_of_shaped sl
  have room : X.A.units + 1 + min (PyData.depthAll ds) d.depth < cLine := room_in_shaped sd hu
  have same : its.map (SeqAt.readOf s.heap) = ds := SeqAt.readsAll_map ds its as lay h4
  have cnt : its.toArray.toList.countP (fun u => PyData.eqv (SeqAt.readOf s.heap u) d) = ds.countP fun z => PyData.eqv z d := by
    rw [← same, List.countP_map]
    rfl
  refine call_meets PySem.F.slot_list_count ⟨_, ho, rfl⟩ PySem.F.entry_list_count (PySem.F.args_list_count_2 _ _) (SeqAt.list_countAt a its.toArray n dd sls uy (fun u => PyData.eqv (SeqAt.readOf s.heap u) d))
    ⟨ho, SeqAt.items_eqAt (vs := its.toArray) (show ReadsAll s.heap its.toArray.toList ds as from h4) r1 lay (SeqAt.canLay_of_shaped sd) room, ?_⟩
  rw [cnt]
  exact ⟨.int _, H, I.tok _, ⟨_, rfl⟩, q⟩
theorem mt_idxD (hu : X.A.units + 65 < cLine) (gs : ∃ o, X.base.get? sysModules = some o) : MtR X "list.index" (rIdxD X.K) := by
  intro pins s σ H x xs v us Q I rx rxs h
  obtain ⟨a, y, ws, ds, d, j, z, rfl, rfl, hs, pa, pd, sl, sd, hz, hzj, hno, q⟩ := h
  have hn : H sysModules = none := let ⟨o, e⟩ := gs; (I.bs _ o e).2
  cases rx
  obtain ⟨uy, rfl, ry⟩ := rxs.one
  obtain ⟨bs, r1, _⟩ := Pd.reads I hn pd ry
  obtain ⟨its, rv, ⟨⟨cls, dd, data, sls⟩, n, ho, hc, hdn, hdt⟩, hlen⟩ := I.list hs
  simp only at hc hdt
  subst hc hdt
  obtain ⟨as, h4, _⟩ := PdA.reads I hn pa rv
  have lay : PyData.canLayAll0 ds = true := SeqAt.canLay_of_shaped sl
  have room : X.A.units + 1 + min (PyData.depthAll ds) d.depth < cLine := room_in_shaped sd hu
  have same : its.map (SeqAt.readOf s.heap) = ds := SeqAt.readsAll_map ds its as lay h4
  have rd : ∀ (m : Nat) (hm : m < its.toArray.size) (z' : PyData), ds[m]? = some z' → SeqAt.readOf s.heap its.toArray[m] = z' := fun m hm z' e => by
    have hm2 : m < its.length := by simpa using hm
    rw [← same, List.getElem?_map, List.getElem?_eq_getElem hm2] at e
    simpa using e
  have jl : j < its.toArray.size := by
    have := (List.getElem?_eq_some_iff.mp hz).1
    rw [← same, List.length_map] at this
    simpa using this
  have sz := sizeLine_eq
  have lv := rv.length
  refine call_meets PySem.F.slot_list_index ⟨_, ho, rfl⟩ PySem.F.entry_list_index (PySem.F.args_list_index_2 _ _) (SeqAt.list_indexAt a its.toArray n dd sls uy (fun u => PyData.eqv (SeqAt.readOf s.heap u) d) j jl (by rw [List.size_toArray] at jl; omega) ?_ ?_)
    ⟨ho, SeqAt.items_eqAt (vs := its.toArray) (show ReadsAll s.heap its.toArray.toList ds as from h4) r1 lay (SeqAt.canLay_of_shaped sd) room, ⟨.int (j : Nat), H, I.tok _, ⟨_, rfl⟩, q⟩⟩
  · show PyData.eqv (SeqAt.readOf s.heap its.toArray[j]) d = true
    rw [rd j jl z hz]
    exact hzj
  · intro m hm mj
    have md : m < ds.length := by
      rw [← same, List.length_map]
      simpa using hm
    have e : ds[m]? = some ds[m] := List.getElem?_eq_getElem md
    show PyData.eqv (SeqAt.readOf s.heap its.toArray[m]) d = false
    rw [rd m hm _ e]
    exact hno m _ mj e
end
/-- a list, of the store or as data -/
def isLst (d : D) : M D := fun st => match dataOf d st with
  | some (.list _) => .ok d st
  | _ => .bad
def mMtL (f : D → List D → M D) (mo : Env → M D) (ms : Env → M (List D)) : Env → M D := fun ρ => M.bind (mo ρ) fun o => M.bind (isLst o) fun o => M.bind (ms ρ) fun ds => f o ds
def cntD (x y : PyData) : Option Nat := match x with
  | .list xs => if SeqAt.shaped (.list xs) = true ∧ SeqAt.shaped y = true then some (xs.countP fun z => PyData.eqv z y) else none
  | _ => none
def idxD (x y : PyData) : Option Nat := match x with
  | .list xs => if SeqAt.shaped (.list xs) = true ∧ SeqAt.shaped y = true then xs.findIdx? (fun z => PyData.eqv z y) else none
  | _ => none
def dCnt (o : D) (ds : List D) : M D := match ds with
  | [e] => fun st => match dataOf o st, dataOf e st with
    | some x, some y => match cntD x y with
      | some n => .ok (.dat (.int (n : Nat))) st
      | none => .bad
    | _, _ => .bad
  | _ => M.bad
def dIdx (o : D) (ds : List D) : M D := match ds with
  | [e] => fun st => match dataOf o st, dataOf e st with
    | some x, some y => match idxD x y with
      | some n => .ok (.dat (.int (n : Nat))) st
      | none => .bad
    | _, _ => .bad
  | _ => M.bad
section
variable {K : PySem.W.Frag} {mg : Str → Option Value}
theorem ok_cnt : ∀ (R : Rg) (H : Hp) (st : Sto) (v : V) (vs : List V) (d : D) (ds : List D) (Q : VK) (W : XK), Sim K R H st → Dv K mg R st H v d → DvA K mg R st H vs ds → Post K mg (Dv K mg) R H st (dCnt d ds st) Q W → rCntD K v vs H Q := by
  intro R H st v vs d ds Q W S D1 DA h
  unfold dCnt at h
  split at h
  · cases DA with
    | cons b c =>
      cases c
      split at h
      · rename_i x y z1 z2
        cases x with
        | list xs =>
          unfold cntD at h
          dsimp only at h
          by_cases sh : SeqAt.shaped (.list xs) = true ∧ SeqAt.shaped y = true
          · rw [if_pos sh] at h
            obtain ⟨a, ws, rfl, ea, pa⟩ := D1.dataL S z1
            exact ⟨a, _, ws, xs, y, rfl, rfl, .inl (.inl ea), pa.stays noStays, b.data S z2, sh.1, sh.2, h.okR S (Dv.int _)⟩
          · rw [if_neg sh] at h
            exact h.elim
        | _ => exact h.elim
      · exact h.elim
  · exact h.elim
theorem ok_idx : ∀ (R : Rg) (H : Hp) (st : Sto) (v : V) (vs : List V) (d : D) (ds : List D) (Q : VK) (W : XK), Sim K R H st → Dv K mg R st H v d → DvA K mg R st H vs ds → Post K mg (Dv K mg) R H st (dIdx d ds st) Q W → rIdxD K v vs H Q := by
  intro R H st v vs d ds Q W S D1 DA h
  unfold dIdx at h
  split at h
  · cases DA with
    | cons b c =>
      cases c
      split at h
      · rename_i x y z1 z2
        cases x with
        | list xs =>
          unfold idxD at h
          dsimp only at h
          by_cases sh : SeqAt.shaped (.list xs) = true ∧ SeqAt.shaped y = true
          · rw [if_pos sh] at h
            obtain ⟨a, ws, rfl, ea, pa⟩ := D1.dataL S z1
            cases f : xs.findIdx? (fun z => PyData.eqv z y) with
            | none => rw [f] at h; exact h.elim
            | some j =>
              rw [f] at h
              obtain ⟨jl, f1, f2⟩ := List.findIdx?_eq_some_iff_getElem.mp f
              refine ⟨a, _, ws, xs, y, j, xs[j], rfl, rfl, .inl (.inl ea), pa.stays noStays, b.data S z2, sh.1, sh.2, List.getElem?_eq_getElem jl, f1, fun m z' mj e => ?_, h.okR S (Dv.int _)⟩
              have q := f2 m mj
              rw [List.getElem?_eq_getElem (by omega)] at e
              obtain rfl := Option.some.inj e
              simpa using q
          · rw [if_neg sh] at h
            exact h.elim
        | _ => exact h.elim
      · exact h.elim
  · exact h.elim
end
section
variable {X : Cx} {W : WX} {o e : Expr} {es : List Expr} {mo : Env → M D} {ms : Env → M (List D)} {name : Str} {apos cpos : Pos} {bid : String} {r : V → List V → Hp → VK → Prop} {f : D → List D → M D}
theorem ev_mtL (pa : PlainAttrs "list") (slot : Slot "list" name bid) (hty : typeOf (.builtin bid) = pure (.type "method_descriptor")) (hm : MtR X bid r)
    (hf : ∀ (R : Rg) (H : Hp) (st : Sto) (v : V) (vs : List V) (d : D) (ds : List D) (Q : VK) (W : XK), Sim X.K R H st → Dv X.K X.mg R st H v d → DvA X.K X.mg R st H vs ds → Post X.K X.mg (Dv X.K X.mg) R H st (f d ds st) Q W → r v vs H Q)
    (ho : EV X W o mo) (ha : EVA X W (e :: es) ms) (hbase : attributeBase o name X.env (eval o X.env) = eval o X.env)
    (hfew : ((backTo cpos (starEach (e :: es) X.env)).all (fun x => !x.1) && (backToKw cpos (keywordEach [] X.env)).all (fun x => x.1.isSome) && decide ((e :: es).length + ([] : List Keyword).length + (if ([] : List Keyword).isEmpty then 0 else 1) < 30)) = true)
    (hline : (apos.endLine == cpos.line) = true) (hs : starEach (e :: es) X.env = (false, eval e X.env) :: starEach es X.env) (hplain : (backTo cpos (starEach es X.env)).any (·.1) = false) :
    EV X W (.Call (.Attribute o name apos) (e :: es) [] cpos) (mMtL f mo ms) := by
  refine ⟨PE.imp (pe_bm pa slot hty hm ho.pe ha.pa hbase hfew hline hs hplain) fun σ H Q ⟨R, ρ, st, S, E, h⟩ => ?_⟩
  refine ⟨R, ρ, st, S, E, (Post.bind (Rel := Dv X.K X.mg) (Rel2 := Dv X.K X.mg) h).monoQ fun v H1 ⟨R1, st1, d, x1, S1, D1, h1⟩ => ?_⟩
  unfold M.bind isLst at h1
  cases z : dataOf d st1 with
  | none => rw [z] at h1; exact h1.elim
  | some x =>
    rw [z] at h1
    cases x with
    | list xs =>
      obtain ⟨a, vs, rfl, ea, _⟩ := D1.dataL S1 z
      refine ⟨.inl ⟨rfl, vs, .inl (.inl ea)⟩, R1, ρ, st1, S1, E.ext x1, ?_⟩
      have h2 : Post X.K X.mg (Dv X.K X.mg) R1 H1 st1 (M.bind (ms ρ) (fun ds => f d ds) st1) Q (fun c d H' => W c d σ H') := h1
      exact (Post.bind (Rel := DvA X.K X.mg) (Rel2 := Dv X.K X.mg) h2).monoQ fun ws H2 ⟨R2, st2, ds, x2, S2, D2, h3⟩ => hf R2 H2 st2 _ ws _ ds Q _ S2 (Dv.ext x2 D1) D2 h3
    | _ => exact h1.elim
theorem m_count (hu : X.A.units + 65 < cLine) (gs : ∃ o, X.base.get? sysModules = some o) (ho : EV X W o mo) (ha : EVA X W (e :: es) ms) (hbase : attributeBase o "count" X.env (eval o X.env) = eval o X.env := by rfl)
    (hfew : ((backTo cpos (starEach (e :: es) X.env)).all (fun x => !x.1) && (backToKw cpos (keywordEach [] X.env)).all (fun x => x.1.isSome) && decide ((e :: es).length + ([] : List Keyword).length + (if ([] : List Keyword).isEmpty then 0 else 1) < 30)) = true := by rfl)
    (hline : (apos.endLine == cpos.line) = true := by rfl) (hs : starEach (e :: es) X.env = (false, eval e X.env) :: starEach es X.env := by rfl) (hplain : (backTo cpos (starEach es X.env)).any (·.1) = false := by rfl) :
    EV X W (.Call (.Attribute o "count" apos) (e :: es) [] cpos) (mMtL dCnt mo ms) := ev_mtL PySem.F.plainAttrs_list PySem.F.slot_list_count PySem.F.type_list_count (mt_cntD hu gs) ok_cnt ho ha hbase hfew hline hs hplain
theorem m_index (hu : X.A.units + 65 < cLine) (gs : ∃ o, X.base.get? sysModules = some o) (ho : EV X W o mo) (ha : EVA X W (e :: es) ms) (hbase : attributeBase o "index" X.env (eval o X.env) = eval o X.env := by rfl)
    (hfew : ((backTo cpos (starEach (e :: es) X.env)).all (fun x => !x.1) && (backToKw cpos (keywordEach [] X.env)).all (fun x => x.1.isSome) && decide ((e :: es).length + ([] : List Keyword).length + (if ([] : List Keyword).isEmpty then 0 else 1) < 30)) = true := by rfl)
    (hline : (apos.endLine == cpos.line) = true := by rfl) (hs : starEach (e :: es) X.env = (false, eval e X.env) :: starEach es X.env := by rfl) (hplain : (backTo cpos (starEach es X.env)).any (·.1) = false := by rfl) :
    EV X W (.Call (.Attribute o "index" apos) (e :: es) [] cpos) (mMtL dIdx mo ms) := ev_mtL PySem.F.plainAttrs_list PySem.F.slot_list_index PySem.F.type_list_index (mt_idxD hu gs) ok_idx ho ha hbase hfew hline hs hplain
theorem GC.u65 {k : Nat} (C : GC X W k) : X.A.units + 65 < cLine := by have := C.room.un; omega
end
section
variable {X : Cx} {W : WX} {a b : Expr} {ma mb : Env → M D} {pos : Pos}
theorem x_eqU (hu : X.A.units + 64 < cLine) (ha : EV X W a ma) (hb : EV X W b mb) : EV X W (.Compare a [.Eq] [b] pos) (m2 dEq ma mb) := ev_cmp (op_eqAll hu) ok_eqAll (nomark _) ha hb
theorem t_eqU (hu : X.A.units + 64 < cLine) (ha : EV X W a ma) (hb : EV X W b mb) : EVT X W (.Compare a [.Eq] [b] pos) (mT (m2 dEq ma mb)) := evt_cmp (op_eqAll hu) ok_eqAll (nomark _) ha hb
theorem x_neU (hu : X.A.units + 64 < cLine) (ha : EV X W a ma) (hb : EV X W b mb) : EV X W (.Compare a [.NotEq] [b] pos) (m2 dNe ma mb) := ev_cmp (op_neAll hu) ok_neAll (nomark _) ha hb
theorem t_neU (hu : X.A.units + 64 < cLine) (ha : EV X W a ma) (hb : EV X W b mb) : EVT X W (.Compare a [.NotEq] [b] pos) (mT (m2 dNe ma mb)) := evt_cmp (op_neAll hu) ok_neAll (nomark _) ha hb
end
section
variable {X : Cx} {W : WX} {k : Nat} {a : Addr} {pn : List (Addr × Obj)}
theorem GC.u64S (C : GC X W k) : (X.suite a pn).A.units + 64 < cLine := C.u64
theorem GC.u65S (C : GC X W k) : (X.suite a pn).A.units + 65 < cLine := C.u65
theorem GC.gdS (C : GC X W k) : ∃ o, (X.suite a pn).base.get? sysModules = some o := C.gd.2
end
/-! ### x += y, x -= y of numbers -/
def dAddI : D → D → M D := asInts fun i j => retI (i + j)
def dSubI : D → D → M D := asInts fun i j => retI (i - j)
section
variable {K : PySem.W.Frag} {mg : Str → Option Value}
theorem ok_ipAdd : OpOk K mg (ipI fun i j => i + j) dAddI := by
  intro R H st v w d e Q W S D1 D2 h
  obtain ⟨i, j, rfl, rfl, rfl, rfl, h⟩ := okI D1 D2 h
  exact ⟨i, j, rfl, rfl, h.okR S (Dv.int _)⟩
theorem ok_ipSub : OpOk K mg (ipI fun i j => i - j) dSubI := by
  intro R H st v w d e Q W S D1 D2 h
  obtain ⟨i, j, rfl, rfl, rfl, rfl, h⟩ := okI D1 D2 h
  exact ⟨i, j, rfl, rfl, h.okR S (Dv.int _)⟩
end
def sAg (i : Nat) (f : D → D → M D) (m : Env → M D) : SM := sBind (vr i) fun y => sBind m fun z => sBind (fun _ => f y z) fun w ρ st => .nx (ρ.set i (some w)) st
section
variable {X : Cx} {W : WX} {e : Expr}
theorem evs_ag {i : Nat} {x : Str} {op : Operator} {ti : TIp} {f : D → D → M D} {pos pos' : Pos} {me : Env → M D} (hN : X.N.Nodup) (hi : X.N[i]? = some x) (hx : Loc X.env.scope x) (he : EV X W e me) (ho : PIp X op ti)
    (hf : OpOk X.K X.mg ti f) (hf' : X.fn x = true ∨ X.env.scope.names.lookup x = some .local := by first | exact .inl rfl | exact .inr rfl | assumption) : EVS X W (.AugAssign (.Name x pos') op e pos) (sAg i f me) := evs_aug hN hi hx he ho hf hf'
end
/-! ### a list of the store that is put into another thing, and no more touched -/
def mFrz (i : Nat) : Env → M D := fun ρ st => match ρ[i]? with
  | some (some (.loc n)) => match st[n]? with
    | some (.lst xs) => .ok (.dat (.list xs)) (st.set n .dead)
    | _ => .bad
  | _ => .bad
section
variable {K : PySem.W.Frag} {R : Rg} {H : Hp} {st : Sto} {n : Nat} {a : Addr} {xs : List PyData}
theorem own_dead (b : Addr) (h : Own R (st.set n .dead) b) : Own R st b := by
  rcases h with ⟨m, ys, e1, e2⟩ | h
  · by_cases hm : n = m
    · subst hm
      have lt : n < (st.set n .dead).length := (List.getElem?_eq_some_iff.mp e2).1
      rw [List.length_set] at lt
      rw [List.getElem?_set_self lt] at e2
      cases e2
    · rw [List.getElem?_set_ne hm] at e2
      exact .inl ⟨m, ys, e1, e2⟩
  · exact .inr h
theorem not_dead (S : Sim K R H st) (ha : R.r[n]? = some a) (hn : n < st.length) : ¬ Own R (st.set n .dead) a := fun h => by
  rcases h with ⟨m, ys, e1, e2⟩ | h
  · obtain ⟨l1, g1⟩ := List.getElem?_eq_some_iff.mp e1
    obtain ⟨l2, g2⟩ := List.getElem?_eq_some_iff.mp ha
    have en := (List.getElem_inj S.nd).mp (g1.trans g2.symm)
    subst en
    rw [List.getElem?_set_self hn] at e2
    cases e2
  · exact S.nr a (List.mem_of_getElem? ha) h
theorem sim_dead (S : Sim K R H st) : Ext R H st R H (st.set n .dead) ∧ Sim K R H (st.set n .dead) := by
  have w : Stays (Own R st) (Own R (st.set n .dead)) H H := Stays.weak own_dead
  refine ⟨⟨⟨[], by simp, fun _ h => by cases h⟩, rfl, fun _ _ _ h _ => h, w⟩, by rw [List.length_set]; exact S.len, S.nd, S.nr, S.trk, S.pl, fun m b ys e1 e2 => ?_, S.fx.on w (fun x hx => (S.fx.tb x hx).1) fun _ _ e _ _ => e⟩
  by_cases hm : n = m
  · subst hm
    have lt : n < (st.set n .dead).length := (List.getElem?_eq_some_iff.mp e2).1
    rw [List.length_set] at lt
    rw [List.getElem?_set_self lt] at e2
    cases e2
  · rw [List.getElem?_set_ne hm] at e2
    obtain ⟨vs, g1, g2⟩ := S.at_ m b ys e1 e2
    exact ⟨vs, g1, g2.stays w⟩
end
theorem ev_frz {X : Cx} {W : WX} {pos : Pos} (i : Nat) {x : Str} (hN : X.N[i]? = some x := by rfl) (hv : Vis X.env.scope x := by first | exact Or.inl rfl | exact Or.inr (Or.inl rfl) | exact Or.inr (Or.inr rfl)) (hd : (x == ("__debug__" : Str)) = false := by decide)
    (hcd : (x == ("__classdict__" : Str)) = false := by decide) : EV X W (.Name x pos) (mFrz i) := by
  refine ⟨PE.imp (pe_var hN hv hd hcd) fun σ H Q ⟨R, ρ, st, S, E, h⟩ => ?_⟩
  unfold mFrz at h
  split at h
  · rename_i n e
    split at h
    · rename_i xs z
      obtain ⟨v, e1, a, ha, rfl⟩ := E.at_ i _ e
      obtain ⟨vs, g1, g2⟩ := S.at_ n a xs ha z
      obtain ⟨x1, S1⟩ := sim_dead (n := n) S
      have hn := (List.getElem?_eq_some_iff.mp z).1
      exact ⟨_, e1, h (.ref a) R H x1 S1 (Pd.lst g1 (not_dead S ha hn) (g2.stays x1.stays))⟩
    · exact h.elim
  · exact h.elim
end Ev
set_option Elab.async false
set_option linter.all false
set_option maxRecDepth 100000
set_option maxHeartbeats 4000000
/-! Ev34: zip of a tuple and a list. -/
namespace Ev
open PySem PySem.Spec PyProof.Rows L2
open Classical
/-- the tuple at a and the list at b as they stand at each turn -/
def ItzM (K : PySem.W.Frag) (a b : Addr) : It :=
  ⟨fun i H => ∃ (xs ys : List V) (x y : V), SqT K H a xs ∧ SqL K H b ys ∧ xs[i]? = some x ∧ ys[i]? = some y,
    fun i H v H' => ∃ (T : Addr) (x y : V), v = .ref T ∧ H T = none ∧ H' = upd H T (.tup [x, y]) ∧ (∀ xs, SqT K H a xs → xs[i]? = some x) ∧ ∀ ys, SqL K H b ys → ys[i]? = some y,
    fun i H => ∃ xs ys : List V, SqT K H a xs ∧ SqL K H b ys ∧ i ≤ xs.length ∧ i ≤ ys.length ∧ (i = xs.length ∨ i = ys.length)⟩
structure ZAt (a b z TI TO i1 i2 : Addr) (i : Nat) (h : Heap) : Prop where
  hz : IsZip h z TI TO .none
  ti : IsTupOf2 h TI (.ref i1) (.ref i2)
  to : ∃ x y, IsTupOf2 h TO x y
  t1 : h.IsTupleIter i1 a i
  l2 : h.IsListIter i2 b i
theorem turn_zipM {P : Program} {w : World} {K : PySem.W.Frag} {elts : List Expr} {kk : Nat} {tpos : Pos} {a b z TI TO i1 i2 : Addr} (D : ZipSep2 z TI TO i1 i2 [i1, a] [i2, b]) (n1 : a ≠ i1) (n2 : b ≠ i2) :
    Turn P w K (.Tuple elts kk tpos) (ItzM K a b) [z, TI, TO, i1, i2] z (ZAt a b z TI TO i1 i2) := by
  have cases5 : ∀ {c : Addr}, c ∈ [z, TI, TO, i1, i2] → c = z ∨ c = TI ∨ c = TO ∨ c = i1 ∨ c = i2 := fun {c} h => by simpa using h
  refine ⟨List.mem_cons_self, fun i h st c hc => ?_, fun i h h' st k => ?_, ?_, ?_, fun A i s Q E st h => wpAny_pyIter_zip st.hz h⟩
  · obtain ⟨x, y, hto⟩ := st.to
    obtain ⟨o1, e1, _, d1⟩ := st.t1
    obtain ⟨o2, e2, _, d2⟩ := st.l2
    rcases cases5 hc with rfl | rfl | rfl | rfl | rfl
    · exact ⟨_, st.hz, fun v q => nomatch q⟩
    · exact ⟨_, st.ti, fun v q => nomatch q⟩
    · exact ⟨_, hto, fun v q => nomatch q⟩
    · exact ⟨o1, e1, fun v q => by rw [d1] at q; cases q⟩
    · exact ⟨o2, e2, fun v q => by rw [d2] at q; cases q⟩
  · obtain ⟨x, y, hto⟩ := st.to
    exact ⟨k z (by simp) _ st.hz, k TI (by simp) _ st.ti, ⟨x, y, k TO (by simp) _ hto⟩, st.t1.at fun o q => k i1 (by simp) o q, st.l2.at fun o q => k i2 (by simp) o q⟩
  · rintro X rfl rfl rfl calm i pins s σ H E I ff st ⟨xs, ys, x, y, qx, qy, hx, hy⟩
    obtain ⟨x0, y0, hto⟩ := st.to
    obtain ⟨us, rv, p1, _⟩ := I.tuple qx
    obtain ⟨ws, rw_, p2, _⟩ := I.list qy
    obtain ⟨u, hu, ru⟩ := rv.get hx
    obtain ⟨v, hv, rv2⟩ := rw_.get hy
    have lz : z < s.heap.objs.size := Heap.lt_size st.hz
    have T1 := Draws.tuple (prog := X.prog) (w := X.w) (A := X.A.in1) (I.ok.hd calm) i1 a n1 us.toArray
    have T2 := Draws.list (prog := X.prog) (w := X.w) (A := X.A.in1) (I.ok.hd calm) i2 b n2 ws.toArray
    have s1 : i < us.toArray.size := by
      have := (List.getElem?_eq_some_iff.mp hu).1
      simpa using this
    have s2 : i < ws.toArray.size := by
      have := (List.getElem?_eq_some_iff.mp hv).1
      simpa using this
    refine wpAny_pyNext_zipD2_item D T1 T2 st.hz st.ti hto ⟨st.t1, p1⟩ ⟨st.l2, p2.isList⟩ s1 s2 fun y1 y2 h' tk g1 g2 z' to' a1 a2 hT sz hk => ?_
    have e1 : y1 = u := by
      have q : us[i]? = some y1 := by simpa using g1
      rw [hu] at q
      exact (Option.some.inj q).symm
    have e2 : y2 = v := by
      have q : ws[i]? = some y2 := by simpa using g2
      rw [hv] at q
      exact (Option.some.inj q).symm
    subst e1 e2
    refine ⟨_, rfl, wpAny_letOwnedTupleGo_zip (s := { s with heap := h', toks := tk }) z' fun h2 z2 sb => ?_⟩
    have fresh : H s.heap.objs.size = none := I.hok.fresh (Nat.le_refl _)
    have atT : h2.get? s.heap.objs.size = some { cls := .type "tuple", data := .seq #[y1, y2] } := (sb.2 _ (Nat.ne_of_gt lz)).trans hT
    have newT : ObjOk X.prog X.w (upd H s.heap.objs.size (.tup [x, y])) h2 s.heap.objs.size (.tup [x, y]) := ⟨by show 2 ≤ sizeLine; decide, [y1, y2], .cons ru (.cons rv2 .nil), ⟨_, atT, rfl, _, rfl⟩⟩
    have kept : ∀ c o, c ∉ [z, TI, TO, i1, i2] → s.heap.get? c = some o → h2.get? c = some o := fun c o nc q => by
      simp only [List.mem_cons, List.not_mem_nil, or_false, not_or] at nc
      obtain ⟨c1, c2, c3, c4, c5⟩ := nc
      exact (sb.2 c c1).trans (hk c o c1 c3 c4 c5 q)
    have J : L2.Inv X pins σ (upd H s.heap.objs.size (.tup [x, y])) { s with heap := h2, toks := tk } := I.turnedNew (ch := [z, TI, TO, i1, i2]) (fun c o nc q => kept c o nc q) ff (Nat.le_refl _) newT
    have old : ∀ c ∈ [z, TI, TO, i1, i2], c ≠ s.heap.objs.size := fun c hc => by
      obtain ⟨o1, e1, _⟩ := st.t1
      obtain ⟨o2, e2, _⟩ := st.l2
      rcases cases5 hc with rfl | rfl | rfl | rfl | rfl
      · exact Nat.ne_of_lt lz
      · exact Nat.ne_of_lt (Heap.lt_size st.ti)
      · exact Nat.ne_of_lt (Heap.lt_size hto)
      · exact Nat.ne_of_lt (Heap.lt_size e1)
      · exact Nat.ne_of_lt (Heap.lt_size e2)
    refine ⟨.ref s.heap.objs.size, _, J, rfl, ⟨_, x, y, rfl, fresh, rfl, fun l hl => by rw [I.tuple_inj hl qx]; exact hx, fun l hl => by rw [I.list_inj hl qy]; exact hy⟩, ⟨z2, ?_, ⟨y1, y2, ?_⟩, ?_, ?_⟩, fun c hc => ?_⟩
    · exact (sb.2 _ D.TIz).trans (hk _ _ D.TIz D.TITO D.TIi1 D.TIi2 st.ti)
    · exact (sb.2 _ D.TOz).trans to'
    · exact a1.1.at fun o q => (sb.2 _ (Ne.symm D.zi1)).trans q
    · exact a2.1.at fun o q => (sb.2 _ (Ne.symm D.zi2)).trans q
    · rw [upd_ne (old c hc)]
      exact (ff c hc).1
  · rintro X rfl rfl rfl calm i pins s σ H E I ff st ⟨xs, ys, qx, qy, le1, le2, over⟩
    obtain ⟨x0, y0, hto⟩ := st.to
    obtain ⟨us, rv, p1, _⟩ := I.tuple qx
    obtain ⟨ws, rw_, p2, _⟩ := I.list qy
    have m1 := rv.length
    have m2 := rw_.length
    have T1 := Draws.tuple (prog := X.prog) (w := X.w) (A := X.A.in1) (I.ok.hd calm) i1 a n1 us.toArray
    have T2 := Draws.list (prog := X.prog) (w := X.w) (A := X.A.in1) (I.ok.hd calm) i2 b n2 ws.toArray
    refine wpAny_pyNext_zipD2_end D T1 T2 st.hz st.ti hto ⟨st.t1, p1⟩ ⟨st.l2, p2.isList⟩ (by rw [List.size_toArray]; omega) (by rw [List.size_toArray]; omega) (by rw [List.size_toArray, List.size_toArray]; omega) fun h' tk hk => ⟨rfl, ?_⟩
    exact I.turnedL (t' := tk) (ch := [z, TI, TO, i1, i2]) (fun c o nc q => by
      simp only [List.mem_cons, List.not_mem_nil, or_false, not_or] at nc
      obtain ⟨c1, c2, c3, c4, c5⟩ := nc
      exact hk c o c1 c3 c4 c5 q) ff
theorem apart_ {x y : Nat} (h : x < y ∨ y < x) : (x : Addr) ≠ y := fun e => by
  have e' : (x : Nat) = y := e
  omega
theorem nin2 {x p q : Addr} (h1 : x ≠ p) (h2 : x ≠ q) : x ∉ [p, q] := by
  simp [h1, h2]
theorem zsep (n a b : Nat) (la : a < n) (lb : b < n) : ZipSep2 (n + 4) (n + 2) (n + 3) n (n + 1) [n, a] [n + 1, b] where
  TIz := apart_ (by omega)
  TOz := apart_ (by omega)
  TITO := apart_ (by omega)
  TIi1 := apart_ (by omega)
  mem1 := List.mem_cons_self
  zf1 := nin2 (apart_ (by omega)) (apart_ (by omega))
  Tf1 := nin2 (apart_ (by omega)) (apart_ (by omega))
  TIi2 := apart_ (by omega)
  mem2 := List.mem_cons_self
  zf2 := nin2 (apart_ (by omega)) (apart_ (by omega))
  Tf2 := nin2 (apart_ (by omega)) (apart_ (by omega))
  sep1_2 := nin2 (apart_ (by omega)) (apart_ (by omega))
  sep2_1 := nin2 (apart_ (by omega)) (apart_ (by omega))
def iZipM (K : PySem.W.Frag) (ta : TA) : TI := fun σ H R => ta σ H fun vs H1 => ∃ a b xs ys, vs = [.ref a, .ref b] ∧ SqT K H1 a xs ∧ SqL K H1 b ys ∧ R (ItzM K a b) H1
theorem pi_zipM {X : Cx} {e e2 : Expr} {ta : TA} {p pos tpos : Pos} {elts : List Expr} {kk : Nat} (hg : Gl X "zip") (hm : X.mg "zip" = none) (ha : PA X [e, e2] ta)
    (hs : starEach [e, e2] X.env = (false, eval e X.env) :: starEach [e2] X.env) (hpl : (backTo pos (starEach [e2] X.env)).any (·.1) = false) :
    PI X (.Tuple elts kk tpos) (.Call (.Name "zip" p) [e, e2] [] pos) (iZipM X.K ta) := by
  constructor
  intro pins s σ H R I h
  refine Call_ (ld_blt I hg hm PyProof.Rows.boot_zip (PyProof.Rows.callWith_type1 (thn (ha.run pos pins s σ H _ I h) fun us s1 ⟨vs, H1, I1, r1, q1⟩ => ?_) hs hpl))
  obtain ⟨a, b, xs, ys, rfl, qx, qy, q⟩ := q1
  obtain rfl : us = [.ref a, .ref b] := by
    cases r1 with
    | cons r rr =>
      cases rr with
      | cons r' rr =>
        cases rr
        cases r
        cases r'
        rfl
  obtain ⟨us, rv, p1, _⟩ := I1.tuple qx
  obtain ⟨ws, rw_, p2, _⟩ := I1.list qy
  have pt : s1.heap.IsTuple a us.toArray := p1
  have la : a < s1.heap.objs.size := by obtain ⟨o, ho, _⟩ := id pt; exact Heap.lt_size ho
  have lb : b < s1.heap.objs.size := p2.lt
  refine zip_begins2 (begins_tuple a us.toArray) (begins_list b ws.toArray) pt p2.isList fun h' hz ti to g1 g2 sz hk => wpAny_pyIter_zip hz ?_
  have J : L2.Inv X pins σ H1 { s1 with heap := h' } := I1.kept (t' := s1.toks) hk
  have D := zsep s1.heap.objs.size a b la lb
  have fp : ∀ c, c ∈ [s1.heap.objs.size + 4, s1.heap.objs.size + 2, s1.heap.objs.size + 3, s1.heap.objs.size, s1.heap.objs.size + 1] → FpOk X pins H1 c := fun c hc => by
    have le : s1.heap.objs.size ≤ c := by
      simp only [List.mem_cons, List.not_mem_nil, or_false] at hc
      rcases hc with rfl | rfl | rfl | rfl | rfl
      · exact Nat.le_add_right _ _
      · exact Nat.le_add_right _ _
      · exact Nat.le_add_right _ _
      · exact Nat.le_refl _
      · exact Nat.le_add_right _ _
    exact I1.fpOk le (I1.hok.fresh le)
  exact ⟨_, _, _, _, H1, rfl, J, turn_zipM D (Nat.ne_of_lt la) (Nat.ne_of_lt (Nat.lt_succ_of_lt lb)), ⟨hz, ti, ⟨_, _, to⟩, ⟨_, g1, rfl, rfl⟩, ⟨_, g2, rfl, rfl⟩⟩, fp, q⟩
/-! ### by functions -/
variable [τ : Tbl]
def zipTL : List D → M Src
  | [.dat (.tuple xs), e] => fun st => match seqL e st with
    | some b => .ok ⟨zipD xs b.1, fun s => b.2 s⟩ st
    | none => .bad
  | _ => M.bad
def mZipM (m : Env → M (List D)) : Env → M Src := fun ρ => M.bind (m ρ) zipTL
theorem wk_zipM {K : PySem.W.Frag} {mg : Str → Option Value} {R : Rg} {H : Hp} {st : Sto} {s : Src} {a b : Addr} {xs ys : List PyData} (hs : s.items = zipD xs ys)
    (q : ∀ R' H' st', Lat R H st R' H' st' → Sim K R' H' st' → s.ok st' → ∃ vs ws, (SqT K H' a vs ∧ PdA K (Own R' st') H' vs xs) ∧ SqL K H' b ws ∧ PdA K (Own R' st') H' ws ys) : Wk K mg R st H (ItzM K a b) s := by
  have hl : s.items.length = min xs.length ys.length := by rw [hs, zipD_len]
  refine ⟨fun i R' H' st' hi E S o => ?_, fun R' H' st' E S o => ?_, fun i R' H' st' x H2 hi E S o ⟨T, u, v, ex, hT, e2, y1, y2⟩ => ?_⟩
  · obtain ⟨vs, ws, ⟨h1, h2⟩, h3, h4⟩ := q R' H' st' E S o
    have hv : i < vs.length := by rw [h2.len]; omega
    have hw : i < ws.length := by rw [h4.len]; omega
    exact ⟨vs, ws, vs[i], ws[i], h1, h3, by simp [hv], by simp [hw]⟩
  · obtain ⟨vs, ws, ⟨h1, h2⟩, h3, h4⟩ := q R' H' st' E S o
    have l1 := h2.len
    have l2 := h4.len
    exact ⟨vs, ws, h1, h3, by omega, by omega, by omega⟩
  · obtain ⟨vs, ws, ⟨h1, h2⟩, h3, h4⟩ := q R' H' st' E S o
    rw [hs] at hi ⊢
    exact zip_yld hi S h2 h4 T u v ex hT e2 (y1 vs h1) (y2 ws h3)
theorem evi_zipM {X : Cx} {W : WX} {e e2 : Expr} {ms : Env → M (List D)} {p pos tpos : Pos} {elts : List Expr} {kk : Nat} (hm : X.mg "zip" = none) (ha : EVA X W [e, e2] ms) (hg : Gl X "zip" := by exact rfl) (hs : starEach [e, e2] X.env = (false, eval e X.env) :: starEach [e2] X.env := by rfl) (hpl : (backTo pos (starEach [e2] X.env)).any (·.1) = false := by rfl) :
    EVI X W (.Tuple elts kk tpos) (.Call (.Name "zip" p) [e, e2] [] pos) (mZipM ms) := by
  refine ⟨PI.imp (pi_zipM hg hm ha.pa hs hpl) fun σ H Q ⟨R, ρ, st, S, E, h⟩ => ?_⟩
  refine ⟨R, ρ, st, S, E, (Post.bind (Rel := DvA X.K X.mg) (Rel2 := RelI X.K X.mg) h).monoQ fun vs H1 ⟨R1, st1, ds, x1, S1, D1, h1⟩ => ?_⟩
  unfold zipTL at h1
  split at h1
  · rename_i xs d
    cases D1 with
    | cons a b =>
      cases b with
      | cons b c =>
        cases c
        split at h1
        · rename_i y z
          have A : Pd X.K (Own R1 st1) H1 _ (.tuple xs) := a
          cases A with
          | tup a1 a3 =>
            obtain ⟨p2, rfl, ⟨us, hu⟩, f2⟩ := seqL_ok S1 b z
            refine ⟨_, _, _, _, rfl, a1.seq, hu, h1.okR S1 (wk_zipM rfl fun R' H' st' E' S' o => ?_)⟩
            obtain ⟨ws, k1, k2⟩ := f2 R' H' st' E' S' o
            exact ⟨_, ws, ⟨(a1.stays E'.stays).seq, a3.stays E'.stays⟩, k1, k2⟩
        · exact h1.elim
  · exact h1.elim
end Ev
set_option Elab.async false
set_option linter.all false
set_option maxRecDepth 100000
set_option maxHeartbeats 4000000
/-! Pu4: reckoning with lambdas, ranges of three, str. -/
namespace Ev
open PySem PySem.Spec PyProof.Rows L2
open Classical
theorem mRng3_ap (ms : Env → M (List D)) (ρ : Env) (st : Sto) : mRng3 ms ρ st = (ms ρ st).then rng3 := rfl
theorem mLam_ap (F : M D → List D → M D) (bs : List Bool) (mb : Env → M D) (ρ : Env) (st : Sto) : mLam F bs mb ρ st = (F (M.bind (mb (keepE bs ρ)) noLam) [.lam] st).then noLam := rfl
theorem noLam_dat (x : PyData) (st : Sto) : noLam (.dat x) st = .ok (.dat x) st := rfl
theorem mTh_lam (th : M D) (ρ : Env) (st : Sto) : mTh 0 th (some .lam :: ρ) st = th st := rfl
theorem rng3_ap {i j c : Int} (h0 : c ≠ 0) (h1 : Builtin.divisionGoesByPylong (j - i) c = false) (h2 : 0 ≤ Builtin.Range.rangeSize i j c) (st : Sto) : rng3 [.dat (.int i), .dat (.int j), .dat (.int c)] st = .ok (stepD i c (Builtin.Range.rangeSize i j c).toNat) st := by
  show (if c ≠ 0 ∧ _ ∧ _ then _ else _ : M Src) st = _
  rw [if_pos ⟨h0, h1, h2⟩]
  rfl
theorem step_items (lo c : Int) (n : Nat) : (stepD lo c n).items = (List.range n).map (fun k : Nat => D.dat (.int (lo + (k : Int) * c))) := id rfl
theorem step_ok (lo c : Int) (n : Nat) : (stepD lo c n).ok = fun _ => True := id rfl
theorem division_small {x y : Int} (h : x.natAbs < 1073741824) : Builtin.divisionGoesByPylong x y = false := by
  unfold Builtin.divisionGoesByPylong
  have l : (if x == 0 then 0 else x.natAbs.log2 / 30 + 1) ≤ 1 := by
    split
    · omega
    · have e : x.natAbs.log2 < 30 := by
        by_cases z : x.natAbs = 0
        · rw [z]; decide
        · exact (Nat.log2_lt z).mpr (by omega)
      omega
  dsimp only
  rw [Bool.and_eq_false_iff]
  by_cases q : (if y == 0 then 0 else y.natAbs.log2 / 30 + 1) > 300
  · right
    simp only [decide_eq_false_iff_not]
    omega
  · left
    simpa using q
theorem strI_ap {i : Int} (h : i.natAbs.log2 < 1920) (st : Sto) : dStrI (.dat (.int i)) st = .ok (.dat (.str (toString i))) st := by
  show (if _ then _ else _ : M D) st = _
  rw [if_pos h]
  rfl
theorem small_log {i : Int} (h : i.natAbs < 2 ^ 1000) : i.natAbs.log2 < 1920 := by
  by_cases z : i.natAbs = 0
  · rw [z]; decide
  · exact Nat.lt_of_lt_of_le ((Nat.log2_lt z).mpr h) (by omega)
theorem ne_lst0 (st : Sto) : dNe (.dat (.list [])) (.dat (.list [])) st = .ok (.dat (.bool false)) st := by
  have e : eqD (.list []) (.list []) st = .ok (.dat (.bool true)) st := by
    show (if SeqAt.shaped (.list []) = true ∧ SeqAt.shaped (.list []) = true then retB (PyData.eqv (.list []) (.list [])) else if lenDiff (.list []) (.list []) = true then retB false else M.bad : M D) st = _
    rw [if_pos ⟨by decide, by decide⟩]
    rfl
  have e2 : dNe (.dat (.list [])) (.dat (.list [])) st = notM (eqD (.list []) (.list [])) st := rfl
  rw [e2, notM_ap, e] <;> rfl
end Ev
set_option Elab.async false
set_option linter.all false
set_option maxRecDepth 100000
set_option maxHeartbeats 4000000
/-! Pu5: reckoning with while, count, index, cuts, numbers in lists. -/
namespace Ev
open PySem PySem.Spec PyProof.Rows L2
open Classical
theorem mMtL_ap (f : D → List D → M D) (mo : Env → M D) (ms : Env → M (List D)) (ρ : Env) (st : Sto) : mMtL f mo ms ρ st = (mo ρ st).then fun o => M.bind (isLst o) fun o => M.bind (ms ρ) fun ds => f o ds := rfl
theorem sAg_ap (i : Nat) (f : D → D → M D) (m : Env → M D) (ρ : Env) (st : Sto) : sAg i f m ρ st = (vr i ρ st).thenS ρ fun y => sBind m fun z => sBind (fun _ => f y z) fun w ρ st => .nx (ρ.set i (some w)) st := by
  unfold sAg
  rw [sBind_ap]
theorem dAddI_ap (i j : Int) (st : Sto) : dAddI (.dat (.int i)) (.dat (.int j)) st = .ok (.dat (.int (i + j))) st := rfl
theorem sWhile_ap (t : Env → M Bool) (body : SM) : sWhile t body = whileS t body 100000 := rfl
theorem mFrz_ap (i : Nat) (ρ : Env) (st : Sto) : mFrz i ρ st = match ρ[i]? with
  | some (some (.loc n)) => (match st[n]? with
    | some (.lst xs) => .ok (.dat (.list xs)) (st.set n .dead)
    | _ => .bad)
  | _ => .bad := rfl
theorem isLst_ap (xs : List PyData) (st : Sto) : isLst (.dat (.list xs)) st = .ok (.dat (.list xs)) st := rfl
/-- the sum of numbers -/
theorem sum_ap (ns : List Int) (st : Sto) : dSum (.dat (.list (ns.map PyData.int))) st = .ok (.dat (.int ns.sum)) st := by
  show onInts (fun ns => retI ns.sum) _ st = _
  unfold onInts
  have e : intsOf (ns.map PyData.int) = some ns := by
    induction ns with
    | nil => rfl
    | cons n r ih => simp [intsOf, ih]
  rw [e]
  rfl
/-! cuts -/
theorem sx {n d : Nat} {v : Int} (h : 0 ≤ v) : HT.sIx n d (some v) = min v.toNat n := by
  unfold HT.sIx
  dsimp only
  rw [if_neg (by omega)]
theorem cut_take (xs : List PyData) {j : Int} (h : 0 ≤ j) : cutD xs none (some j) = xs.take j.toNat := by
  unfold cutD
  rw [sx h, show HT.sIx xs.length 0 none = 0 from rfl, List.drop_zero, Nat.sub_zero, List.take_eq_take_iff]
  omega
theorem cut_drop (xs : List PyData) {i : Int} (h : 0 ≤ i) : cutD xs (some i) none = xs.drop i.toNat := by
  unfold cutD
  rw [sx h, show HT.sIx xs.length xs.length none = xs.length from rfl]
  by_cases z : i.toNat ≤ xs.length
  · rw [Nat.min_eq_left z, List.take_of_length_le (by rw [List.length_drop]; omega)]
  · rw [List.drop_eq_nil_of_le (by omega), List.drop_eq_nil_of_le (by omega)]
    simp
theorem cut_mid (xs : List PyData) {i j : Int} (h0 : 0 ≤ i) (h1 : i ≤ j) (h2 : j ≤ xs.length) : cutD xs (some i) (some j) = (xs.drop i.toNat).take (j - i).toNat := by
  unfold cutD
  rw [sx h0, sx (show 0 ≤ j by omega), Nat.min_eq_left (by omega), Nat.min_eq_left (by omega)]
  congr 1
  omega
/-! loops whose list must stand -/
theorem wp_loopO {ok : Sto → Prop} {t : Tg} {body : SM} {P : Pst} : ∀ (ds : List D) (I : Nat → Env → Sto → Prop) (ρ : Env) (st : Sto), I 0 ρ st → (∀ k ρ st, I k ρ st → ok st) →
    (∀ (k : Nat) (hk : k < ds.length) (ρ : Env) (st : Sto), I k ρ st → ∃ ρ1, t ds[k] ρ = some ρ1 ∧ wpS (body ρ1 st) ⟨I (k + 1), P.rt, P.nx, I (k + 1), P.xc⟩) →
    (∀ ρ st, I ds.length ρ st → P.nx ρ st) → wpS (loopS ok t body ds ρ st) P
  | [], I, ρ, st, h0, ho, _, h2 => by
    rw [loopS, if_pos (ho 0 ρ st h0)]
    exact ⟨h2 ρ st h0⟩
  | d :: ds, I, ρ, st, h0, ho, h1, h2 => by
    obtain ⟨ρ1, e1, w⟩ := h1 0 (Nat.succ_pos _) ρ st h0
    have e1' : t d ρ = some ρ1 := e1
    rw [loopS, if_pos (ho 0 ρ st h0), e1']
    dsimp only
    have ih := fun ρ2 st2 (h : I 1 ρ2 st2) => wp_loopO (P := P) (ok := ok) (t := t) (body := body) ds (fun k => I (k + 1)) ρ2 st2 h (fun k => ho (k + 1)) (fun k hk => h1 (k + 1) (Nat.succ_lt_succ hk)) h2
    cases e : body ρ1 st with
    | nx ρ2 st2 => rw [e] at w; exact ih ρ2 st2 w.un
    | ct ρ2 st2 => rw [e] at w; exact ih ρ2 st2 w.un
    | bk ρ2 st2 => rw [e] at w; exact ⟨w.un⟩
    | rt d2 st2 => rw [e] at w; exact ⟨w.un⟩
    | exc x ρ2 st2 => rw [e] at w; exact ⟨w.un⟩
    | bad => rw [e] at w; exact w.un.elim
theorem mMt_ap (f : D → List D → M D) (mo : Env → M D) (ms : Env → M (List D)) (ρ : Env) (st : Sto) : mMt f mo ms ρ st = (mo ρ st).then fun o => M.bind (isLoc o) fun o => M.bind (ms ρ) fun ds => f o ds := rfl
theorem isLoc_top (st : Sto) (xs : List PyData) : isLoc (.loc st.length) (st ++ [.lst xs]) = .ok (.loc st.length) (st ++ [.lst xs]) := by
  unfold isLoc
  dsimp only
  rw [top_at]
theorem ext_top (st : Sto) {xs ys : List PyData} (h : xs.length + ys.length ≤ 100000) : dExtend (.loc st.length) [.dat (.list ys)] (st ++ [.lst xs]) = .ok (.dat .none) (st ++ [.lst (xs ++ ys)]) := by
  show onLoc _ (.loc st.length) (st ++ [.lst xs]) = _
  unfold onLoc
  dsimp only
  rw [top_at]
  dsimp only
  rw [if_pos h]
  dsimp only
  rw [top_set]
theorem src_top (st : Sto) (xs : List PyData) : srcOf (.loc st.length) (st ++ [.lst xs]) = .ok ⟨xs.map D.dat, fun s => s[st.length]? = some (.lst xs)⟩ (st ++ [.lst xs]) := by
  unfold srcOf
  dsimp only
  rw [top_at]
theorem mid_at (st ds : Sto) (c : Cell) : (st ++ c :: ds)[st.length]? = some c := by
  rw [List.getElem?_append_right (Nat.le_refl _), Nat.sub_self]
  rfl
theorem mid_set (st ds : Sto) (c c' : Cell) : (st ++ c :: ds).set st.length c' = st ++ c' :: ds := by
  rw [List.set_append_right _ _ (Nat.le_refl _), Nat.sub_self]
  rfl
/-- != with the empty list -/
theorem ne_lstE (xs : List PyData) (st : Sto) : dNe (.dat (.list xs)) (.dat (.list [])) st = .ok (.dat (.bool (!xs.isEmpty))) st := by
  cases xs with
  | nil => exact ne_lst0 st
  | cons x r =>
    have e : eqD (.list (x :: r)) (.list []) st = .ok (.dat (.bool false)) st := by
      show (if SeqAt.shaped (.list (x :: r)) = true ∧ SeqAt.shaped (.list []) = true then retB (PyData.eqv (.list (x :: r)) (.list [])) else if lenDiff (.list (x :: r)) (.list []) = true then retB false else M.bad : M D) st = _
      by_cases h : SeqAt.shaped (.list (x :: r)) = true ∧ SeqAt.shaped (.list []) = true
      · rw [if_pos h]
        rfl
      · rw [if_neg h, if_pos (by rfl)]
        rfl
    have e2 : dNe (.dat (.list (x :: r))) (.dat (.list [])) st = notM (eqD (.list (x :: r)) (.list [])) st := rfl
    rw [e2, notM_ap, e] <;> rfl
theorem mZipM_ap (ms : Env → M (List D)) (ρ : Env) (st : Sto) : mZipM ms ρ st = (ms ρ st).then zipTL := rfl
theorem zipTL_ap (xs : List PyData) {n : Nat} {ys : List PyData} {st : Sto} (e : st[n]? = some (.lst ys)) : zipTL [.dat (.tuple xs), .loc n] st = .ok ⟨zipD xs ys, fun s => s[n]? = some (.lst ys)⟩ st := by
  show (match seqL (.loc n) st with | some b => Res.ok (⟨zipD xs b.1, fun s => b.2 s⟩ : Src) st | none => .bad) = _
  unfold seqL
  dsimp only
  rw [e]
/-- the list stands while the elements are told, when these change nothing -/
theorem loopC_stand {ok : Sto → Prop} {t : Tg} {elt : Env → M D} {ρ : Env} {st : Sto} (hk : ok st) : ∀ (ds : List D) (acc : List PyData), (∀ d ∈ ds, ∃ ρ1 y, t d ρ = some ρ1 ∧ elt ρ1 st = .ok (.dat y) st) → loopC ok t mYes elt ρ ds acc st = loopC (fun _ => True) t mYes elt ρ ds acc st
  | [], acc, _ => by rw [loopC, loopC, if_pos hk, if_pos trivial]
  | d :: ds, acc, h => by
    obtain ⟨ρ1, y, e1, e2⟩ := h d List.mem_cons_self
    have ih := loopC_stand hk ds (acc ++ [y]) fun d hd => h d (List.mem_cons_of_mem _ hd)
    rw [loopC, loopC]
    by_cases l : acc.length ≤ 100000
    · rw [if_pos ⟨hk, by omega⟩, if_pos ⟨trivial, by omega⟩, e1]
      simp only [mYes_ap]
      rw [e2]
      exact ih
    · first
        | rw [if_neg (fun z => l z.2), if_neg (fun z => l z.2)]
        | (rw [if_neg (fun z => l (by omega)), if_neg (fun z => l (by omega))])
/-- while, by a measure -/
theorem wp_while {t : Env → M Bool} {body : SM} {P : Pst} (I : Nat → Env → Sto → Prop) (step : ∀ m ρ st, I m ρ st → wpR (t ρ st) ⟨fun b st1 => (b = true → wpS (body ρ st1) ⟨fun ρ2 st2 => ∃ m', m' < m ∧ I m' ρ2 st2, P.rt, P.nx, fun ρ2 st2 => ∃ m', m' < m ∧ I m' ρ2 st2, P.xc⟩) ∧ (b = false → P.nx ρ st1), fun x st1 => P.xc x ρ st1⟩) :
    ∀ (n m : Nat) (ρ : Env) (st : Sto), m < n → I m ρ st → wpS (whileS t body n ρ st) P
  | 0, m, _, _, h, _ => absurd h (Nat.not_lt_zero m)
  | n + 1, m, ρ, st, h, i => by
    rw [whileS, sBind_ap, wpS_thenS]
    refine (step m ρ st i).to (fun b st1 ⟨h1, h2⟩ => ?_) fun x st1 h => h
    rw [thnS_ok]
    cases b with
    | false =>
      rw [if_neg (by simp)]
      exact ⟨h2 rfl⟩
    | true =>
      rw [if_pos rfl]
      have w := h1 rfl
      have go : ∀ ρ2 st2, (∃ m', m' < m ∧ I m' ρ2 st2) → wpS (whileS t body n ρ2 st2) P := fun ρ2 st2 ⟨m', lt, i'⟩ => wp_while I step n m' ρ2 st2 (by omega) i'
      cases e : body ρ st1 with
      | nx ρ2 st2 => rw [e] at w; exact go _ _ w.un
      | ct ρ2 st2 => rw [e] at w; exact go _ _ w.un
      | bk ρ2 st2 => rw [e] at w; exact ⟨w.un⟩
      | rt d2 st2 => rw [e] at w; exact ⟨w.un⟩
      | exc x ρ2 st2 => rw [e] at w; exact ⟨w.un⟩
      | bad => rw [e] at w; exact w.un.elim
end Ev
set_option Elab.async false
set_option linter.all false
set_option maxRecDepth 100000
set_option maxHeartbeats 4000000
/-! Ev35: zip of three, of four tuples. -/
namespace Ev
open PySem PySem.Spec PyProof.Rows L2
open Classical
/-! ### 3 tuples -/
section
variable {prog : Program} {w : World} {A : Around} {E : Value → Shared → Prop} {s : Shared}
abbrev Tp3 (h : Heap) (b : Addr) (y0 y1 y2 : Value) : Prop := h.get? b = some { cls := .type "tuple", data := .seq #[y0, y1, y2] }
theorem up3 {b : Addr} {v : Value} {j : Nat} {y0 y1 y2 : Value} {R : Unit → Shared → Prop} (q : Tp3 s.heap b y0 y1 y2) (go : ∀ g, g.get? b = some { cls := .type "tuple", data := .seq ((#[y0, y1, y2] : Array Value).setIfInBounds j v) } → Heap.SameBut b s.heap g → R () { s with heap := g }) : wpAny (model prog w) A (updateSeq b (·.setIfInBounds j v)) R E s := by
  refine wpAny_updateSeq q rfl (go _ ?_ (Heap.SameBut.update ..))
  rw [Heap.get?_update_self _ q rfl]; simp [Obj.mapSeq]
variable {n a0 a1 a2 i : Nat} {u0 u1 u2 : Array Value}
abbrev It3s (h : Heap) (n a0 a1 a2 i : Nat) (u0 u1 u2 : Array Value) : Prop := (h.IsTupleIter n a0 i ∧ h.IsTuple a0 u0) ∧ (h.IsTupleIter (n + 1) a1 i ∧ h.IsTuple a1 u1) ∧ (h.IsTupleIter (n + 2) a2 i ∧ h.IsTuple a2 u2)
theorem nx3_item {Q : Value → Shared → Prop} (calm : A.handled = none) (m0 : a0 < n) (m1 : a1 < n) (m2 : a2 < n) (zz : IsZip s.heap (n + 5) (n + 3) (n + 4) .none) (zt : Tp3 s.heap (n + 3) (.ref n) (.ref (n + 1)) (.ref (n + 2))) {y0 y1 y2 : Value} (zo : Tp3 s.heap (n + 4) y0 y1 y2) (st : It3s s.heap n a0 a1 a2 i u0 u1 u2) (l0 : i < u0.size) (l1 : i < u1.size) (l2 : i < u2.size) (fin : ∀ v0 v1 v2 h1 tk, u0[i]? = some v0 → u1[i]? = some v1 → u2[i]? = some v2 → IsZip h1 (n + 5) (n + 3) (n + 4) (rawInt s.heap.objs.size) → Tp3 h1 (n + 4) v0 v1 v2 → It3s h1 n a0 a1 a2 (i + 1) u0 u1 u2 → Tp3 h1 s.heap.objs.size v0 v1 v2 → h1.objs.size = s.heap.objs.size + 1 → (∀ c o, c ≠ (n + 5) → c ≠ (n + 4) → c ≠ n → c ≠ (n + 1) → c ≠ (n + 2) → s.heap.get? c = some o → h1.get? c = some o) → Q (.ref s.heap.objs.size) { s with heap := h1, toks := tk }) :
    wpAny (model prog w) A (Builtin.«zip.__next__» ⟨[.ref (n + 5)], []⟩) (fun r s1 => ∃ v, r = .done (.ret v) ∧ Q v s1) E s := by
  obtain ⟨hp, gs, d, t0, os⟩ := s
  have D0 := Draws.tuple (prog := prog) (w := w) (A := A) calm (n : Nat) a0 (apart_ (by omega)) u0
  have D1 := Draws.tuple (prog := prog) (w := w) (A := A) calm ((n + 1) : Nat) a1 (apart_ (by omega)) u1
  have D2 := Draws.tuple (prog := prog) (w := w) (A := A) calm ((n + 2) : Nat) a2 (apart_ (by omega)) u2
  show wpAny _ _ (field (.ref (n + 5)) 2 >>= _) _ _ _; refine wpAny_bind (wpAny_field zz rfl (x := .bool false) rfl ?_)
  show wpAny _ _ (field (.ref (n + 5)) 3 >>= _) _ _ _; refine wpAny_bind (wpAny_field zz rfl (x := .ref (n + 3)) rfl ?_)
  refine wpAny_bind (wpAny_seqItems zt rfl ?_); show wpAny _ _ (Builtin.SmallTypes.ownedTupleIsFree (.ref (n + 5)) >>= _) _ _ _
  refine wpAny_bind ?_; unfold Builtin.SmallTypes.ownedTupleIsFree
  refine wpAny_bind (wpAny_field zz rfl (x := .none) rfl (wpAny_pure ?_)); simp only [if_true]
  refine wpAny_bind (wpAny_rule ?_); refine wpAny_bind (wpAny_field zz rfl (x := .ref (n + 4)) rfl ?_)
  refine wpAny_bind (wpAny_setField_rec zz (by simp) fun g0 z0 b0 => ?_); replace z0 : IsZip g0 (n + 5) (n + 3) (n + 4) .ellipsis := z0
  replace b0 : Heap.SameBut (n + 5) hp g0 := b0; refine wpAny_bind ?_
  simp only [List.zipIdx_cons, List.zipIdx_nil, List.forIn_cons, List.forIn_nil]; refine wpAny_bind (wpAny_bind (wpAny_onRaise ?_))
  have o0 : Tp3 g0 (n + 4) y0 y1 y2 := b0.extBut _ _ (apart_ (by omega)) zo
  have j00 := D0.over st.1 b0 (nin2 (apart_ (by omega)) (apart_ (by omega)))
  have j01 := D1.over st.2.1 b0 (nin2 (apart_ (by omega)) (apart_ (by omega)))
  have j02 := D2.over st.2.2 b0 (nin2 (apart_ (by omega)) (apart_ (by omega)))
  have k0 : ∀ c o, c ≠ (n + 5) → c ≠ (n + 4) → c ≠ n → c ≠ (n + 1) → c ≠ (n + 2) → hp.get? c = some o → g0.get? c = some o := fun c o cz _ _ _ _ e => b0.extBut _ _ cz e
  have s0 : g0.objs.size = hp.objs.size := by rw [b0.1]
  show wpAny _ _ (Builtin.SmallTypes.nextOf (.ref n) >>= _) _ _ ⟨g0, gs, d, t0, os⟩
  refine wpAny_bind (D0.item i _ _ _ l0 j00 fun v0 p0 t1 hv0 sn0 c0 => wpAny_pure ?_); replace c0 : Heap.SameBut n g0 p0 := c0
  have w0 : Tp3 p0 (n + 4) y0 y1 y2 := c0.extBut _ _ (apart_ (by omega)) o0
  refine wpAny_bind (wpAny_seqItems (s := ⟨p0, gs, d, t1, os⟩) w0 rfl ?_); refine wpAny_bind (up3 (s := ⟨p0, gs, d, t1, os⟩) w0 fun g1 o1 b1 => ?_)
  replace o1 : Tp3 g1 (n + 4) v0 y1 y2 := o1; replace b1 : Heap.SameBut (n + 4) p0 g1 := b1
  have z1 : IsZip g1 (n + 5) (n + 3) (n + 4) .ellipsis := b1.extBut _ _ (apart_ (by omega)) (c0.extBut _ _ (apart_ (by omega)) z0)
  have j10 := D0.over sn0 b1 (nin2 (apart_ (by omega)) (apart_ (by omega)))
  have j11 := D1.over (D1.over j01 c0 (nin2 (apart_ (by omega)) (apart_ (by omega)))) b1 (nin2 (apart_ (by omega)) (apart_ (by omega)))
  have j12 := D2.over (D2.over j02 c0 (nin2 (apart_ (by omega)) (apart_ (by omega)))) b1 (nin2 (apart_ (by omega)) (apart_ (by omega)))
  have k1 : ∀ c o, c ≠ (n + 5) → c ≠ (n + 4) → c ≠ n → c ≠ (n + 1) → c ≠ (n + 2) → hp.get? c = some o → g1.get? c = some o := fun c o cz cO e0 e1 e2 e => b1.extBut _ _ cO (c0.extBut _ _ e0 (k0 c o cz cO e0 e1 e2 e))
  have s1 : g1.objs.size = hp.objs.size := by rw [b1.1, c0.1, s0]
  refine wpAny_bind (wpAny_letGo (wpAny_pure ?_)); refine wpAny_bind (wpAny_bind (wpAny_onRaise ?_))
  show wpAny _ _ (Builtin.SmallTypes.nextOf (.ref (n + 1)) >>= _) _ _ ⟨g1, gs, d, t1, os⟩
  refine wpAny_bind (D1.item i _ _ _ l1 j11 fun v1 p1 t2 hv1 sn1 c1 => wpAny_pure ?_); replace c1 : Heap.SameBut (n + 1) g1 p1 := c1
  have w1 : Tp3 p1 (n + 4) v0 y1 y2 := c1.extBut _ _ (apart_ (by omega)) o1
  refine wpAny_bind (wpAny_seqItems (s := ⟨p1, gs, d, t2, os⟩) w1 rfl ?_); refine wpAny_bind (up3 (s := ⟨p1, gs, d, t2, os⟩) w1 fun g2 o2 b2 => ?_)
  replace o2 : Tp3 g2 (n + 4) v0 v1 y2 := o2; replace b2 : Heap.SameBut (n + 4) p1 g2 := b2
  have z2 : IsZip g2 (n + 5) (n + 3) (n + 4) .ellipsis := b2.extBut _ _ (apart_ (by omega)) (c1.extBut _ _ (apart_ (by omega)) z1)
  have j20 := D0.over (D0.over j10 c1 (nin2 (apart_ (by omega)) (apart_ (by omega)))) b2 (nin2 (apart_ (by omega)) (apart_ (by omega)))
  have j21 := D1.over sn1 b2 (nin2 (apart_ (by omega)) (apart_ (by omega)))
  have j22 := D2.over (D2.over j12 c1 (nin2 (apart_ (by omega)) (apart_ (by omega)))) b2 (nin2 (apart_ (by omega)) (apart_ (by omega)))
  have k2 : ∀ c o, c ≠ (n + 5) → c ≠ (n + 4) → c ≠ n → c ≠ (n + 1) → c ≠ (n + 2) → hp.get? c = some o → g2.get? c = some o := fun c o cz cO e0 e1 e2 e => b2.extBut _ _ cO (c1.extBut _ _ e1 (k1 c o cz cO e0 e1 e2 e))
  have s2 : g2.objs.size = hp.objs.size := by rw [b2.1, c1.1, s1]
  refine wpAny_bind (wpAny_letGo (wpAny_pure ?_)); refine wpAny_bind (wpAny_bind (wpAny_onRaise ?_))
  show wpAny _ _ (Builtin.SmallTypes.nextOf (.ref (n + 2)) >>= _) _ _ ⟨g2, gs, d, t2, os⟩
  refine wpAny_bind (D2.item i _ _ _ l2 j22 fun v2 p2 t3 hv2 sn2 c2 => wpAny_pure ?_); replace c2 : Heap.SameBut (n + 2) g2 p2 := c2
  have w2 : Tp3 p2 (n + 4) v0 v1 y2 := c2.extBut _ _ (apart_ (by omega)) o2
  refine wpAny_bind (wpAny_seqItems (s := ⟨p2, gs, d, t3, os⟩) w2 rfl ?_); refine wpAny_bind (up3 (s := ⟨p2, gs, d, t3, os⟩) w2 fun g3 o3 b3 => ?_)
  replace o3 : Tp3 g3 (n + 4) v0 v1 v2 := o3; replace b3 : Heap.SameBut (n + 4) p2 g3 := b3
  have z3 : IsZip g3 (n + 5) (n + 3) (n + 4) .ellipsis := b3.extBut _ _ (apart_ (by omega)) (c2.extBut _ _ (apart_ (by omega)) z2)
  have j30 := D0.over (D0.over j20 c2 (nin2 (apart_ (by omega)) (apart_ (by omega)))) b3 (nin2 (apart_ (by omega)) (apart_ (by omega)))
  have j31 := D1.over (D1.over j21 c2 (nin2 (apart_ (by omega)) (apart_ (by omega)))) b3 (nin2 (apart_ (by omega)) (apart_ (by omega)))
  have j32 := D2.over sn2 b3 (nin2 (apart_ (by omega)) (apart_ (by omega)))
  have k3 : ∀ c o, c ≠ (n + 5) → c ≠ (n + 4) → c ≠ n → c ≠ (n + 1) → c ≠ (n + 2) → hp.get? c = some o → g3.get? c = some o := fun c o cz cO e0 e1 e2 e => b3.extBut _ _ cO (c2.extBut _ _ e2 (k2 c o cz cO e0 e1 e2 e))
  have s3 : g3.objs.size = hp.objs.size := by rw [b3.1, c2.1, s2]
  refine wpAny_bind (wpAny_letGo (wpAny_pure (wpAny_pure ?_)))
  refine wpAny_bind (wpAny_seqItems (s := ⟨g3, gs, d, t3, os⟩) o3 rfl ?_); refine wpAny_bind (wpAny_newTuple ?_)
  have lz : (n + 5) < g3.objs.size := Heap.lt_size z3
  show wpAny _ _ (Builtin.SmallTypes.ownedTupleHandOut (.ref (n + 5)) (.ref g3.objs.size) >>= _) _ _ ⟨g3.push { cls := .type "tuple", data := .seq #[v0, v1, v2] }, gs, d, t3, os⟩; refine wpAny_bind ?_
  unfold Builtin.SmallTypes.ownedTupleHandOut; have za : IsZip (g3.push { cls := .type "tuple", data := .seq #[v0, v1, v2] }) (n + 5) (n + 3) (n + 4) .ellipsis := Heap.get?_push_of_some _ z3
  refine wpAny_bind (wpAny_setField_rec za (by simp) fun ha zb ba => ?_); replace zb : IsZip ha (n + 5) (n + 3) (n + 4) (rawInt g3.objs.size) := zb
  refine wpAny_setField_rec zb (by simp) fun hb zc bb => ?_; replace zc : IsZip hb (n + 5) (n + 3) (n + 4) (rawInt g3.objs.size) := zc
  replace ba : Heap.SameBut (n + 5) (g3.push { cls := .type "tuple", data := .seq #[v0, v1, v2] }) ha := ba; replace bb : Heap.SameBut (n + 5) ha hb := bb
  have up : ∀ c o, c ≠ (n + 5) → g3.get? c = some o → hb.get? c = some o := fun c o q e => bb.extBut _ _ q (ba.extBut _ _ q (Heap.get?_push_of_some _ e))
  have new : Tp3 hb g3.objs.size v0 v1 v2 := bb.extBut _ _ (Nat.ne_of_gt lz) (ba.extBut _ _ (Nat.ne_of_gt lz) (Heap.get?_push_size _ rfl))
  have sz : hb.objs.size = g3.objs.size + 1 := by rw [bb.1, ba.1, Heap.size_push]
  rw [s3] at zc new sz; refine wpAny_pure ⟨_, rfl, ?_⟩
  show Q (.ref g3.objs.size) ⟨hb, gs, d, t3, os⟩; rw [s3]
  exact fin v0 v1 v2 hb t3 hv0 hv1 hv2 zc (up _ _ (apart_ (by omega)) o3) ⟨(D0.frame _ _ _ j30 fun b hb o e => up b o (fun q => absurd (q ▸ hb) (nin2 (apart_ (by omega)) (apart_ (by omega)))) e), (D1.frame _ _ _ j31 fun b hb o e => up b o (fun q => absurd (q ▸ hb) (nin2 (apart_ (by omega)) (apart_ (by omega)))) e), (D2.frame _ _ _ j32 fun b hb o e => up b o (fun q => absurd (q ▸ hb) (nin2 (apart_ (by omega)) (apart_ (by omega)))) e)⟩ new sz fun c o cz cO e0 e1 e2 e => up c o cz (k3 c o cz cO e0 e1 e2 e)
theorem nx3_end {Q : Fin → Shared → Prop} (calm : A.handled = none) (m0 : a0 < n) (m1 : a1 < n) (m2 : a2 < n) (zz : IsZip s.heap (n + 5) (n + 3) (n + 4) .none) (zt : Tp3 s.heap (n + 3) (.ref n) (.ref (n + 1)) (.ref (n + 2))) {y0 y1 y2 : Value} (zo : Tp3 s.heap (n + 4) y0 y1 y2) (st : It3s s.heap n a0 a1 a2 i u0 u1 u2) (l0 : i ≤ u0.size) (l1 : i ≤ u1.size) (l2 : i ≤ u2.size) (over : i = u0.size ∨ i = u1.size ∨ i = u2.size) (fin : ∀ h1 tk x, (∀ c o, c ≠ (n + 5) → c ≠ (n + 4) → c ≠ n → c ≠ (n + 1) → c ≠ (n + 2) → s.heap.get? c = some o → h1.get? c = some o) → (∃ o, h1.get? x = some o ∧ o.cls = .type "StopIteration") → E (.ref x) { s with heap := h1, toks := tk }) :
    wpAny (model prog w) A (Builtin.«zip.__next__» ⟨[.ref (n + 5)], []⟩) Q E s := by
  obtain ⟨hp, gs, d, t0, os⟩ := s
  have D0 := Draws.tuple (prog := prog) (w := w) (A := A) calm (n : Nat) a0 (apart_ (by omega)) u0
  have D1 := Draws.tuple (prog := prog) (w := w) (A := A) calm ((n + 1) : Nat) a1 (apart_ (by omega)) u1
  have D2 := Draws.tuple (prog := prog) (w := w) (A := A) calm ((n + 2) : Nat) a2 (apart_ (by omega)) u2
  show wpAny _ _ (field (.ref (n + 5)) 2 >>= _) _ _ _; refine wpAny_bind (wpAny_field zz rfl (x := .bool false) rfl ?_)
  show wpAny _ _ (field (.ref (n + 5)) 3 >>= _) _ _ _; refine wpAny_bind (wpAny_field zz rfl (x := .ref (n + 3)) rfl ?_)
  refine wpAny_bind (wpAny_seqItems zt rfl ?_); show wpAny _ _ (Builtin.SmallTypes.ownedTupleIsFree (.ref (n + 5)) >>= _) _ _ _
  refine wpAny_bind ?_; unfold Builtin.SmallTypes.ownedTupleIsFree
  refine wpAny_bind (wpAny_field zz rfl (x := .none) rfl (wpAny_pure ?_)); simp only [if_true]
  refine wpAny_bind (wpAny_rule ?_); refine wpAny_bind (wpAny_field zz rfl (x := .ref (n + 4)) rfl ?_)
  refine wpAny_bind (wpAny_setField_rec zz (by simp) fun g0 z0 b0 => ?_); replace z0 : IsZip g0 (n + 5) (n + 3) (n + 4) .ellipsis := z0
  replace b0 : Heap.SameBut (n + 5) hp g0 := b0; refine wpAny_bind ?_
  simp only [List.zipIdx_cons, List.zipIdx_nil, List.forIn_cons, List.forIn_nil]; refine wpAny_bind (wpAny_bind (wpAny_onRaise ?_))
  have o0 : Tp3 g0 (n + 4) y0 y1 y2 := b0.extBut _ _ (apart_ (by omega)) zo
  have j00 := D0.over st.1 b0 (nin2 (apart_ (by omega)) (apart_ (by omega)))
  have j01 := D1.over st.2.1 b0 (nin2 (apart_ (by omega)) (apart_ (by omega)))
  have j02 := D2.over st.2.2 b0 (nin2 (apart_ (by omega)) (apart_ (by omega)))
  have k0 : ∀ c o, c ≠ (n + 5) → c ≠ (n + 4) → c ≠ n → c ≠ (n + 1) → c ≠ (n + 2) → hp.get? c = some o → g0.get? c = some o := fun c o cz _ _ _ _ e => b0.extBut _ _ cz e
  have s0 : g0.objs.size = hp.objs.size := by rw [b0.1]
  show wpAny _ _ (Builtin.SmallTypes.nextOf (.ref n) >>= _) _ _ ⟨g0, gs, d, t0, os⟩
  by_cases c_0 : i = u0.size
  · skip
    have q0 : i = u0.size := by omega
    refine wpAny_bind (D0.done ⟨g0, gs, d, t0, os⟩ _ _ (by rw [← q0]; exact j00) fun q x hq hx => ?_); replace hq : Heap.ExtBut n g0 q := hq
    obtain ⟨ox, h3, h4⟩ := hx; replace h3 : q.get? x = some ox := h3
    have zq : IsZip q (n + 5) (n + 3) (n + 4) .ellipsis := hq _ _ (apart_ (by omega)) z0; have xz : x ≠ (n + 5) := fun r => by subst r; rw [zq] at h3; cases h3; simp at h4
    refine wpAny_setField_rec (s := ⟨q, gs, d, t0, os⟩) zq (by simp) fun q2 _ r2 => ?_; replace r2 : Heap.SameBut (n + 5) q q2 := r2
    exact fin q2 t0 x (fun c o cz cO e0 e1 e2 e => r2.extBut _ _ cz (hq _ _ e0 (k0 c o cz cO e0 e1 e2 e))) ⟨ox, r2.extBut _ _ xz h3, h4⟩
  · have r0 : i < u0.size := by omega
    refine wpAny_bind (D0.item i _ _ _ r0 j00 fun v0 p0 t1 hv0 sn0 c0 => wpAny_pure ?_); replace c0 : Heap.SameBut n g0 p0 := c0
    have w0 : Tp3 p0 (n + 4) y0 y1 y2 := c0.extBut _ _ (apart_ (by omega)) o0
    refine wpAny_bind (wpAny_seqItems (s := ⟨p0, gs, d, t1, os⟩) w0 rfl ?_); refine wpAny_bind (up3 (s := ⟨p0, gs, d, t1, os⟩) w0 fun g1 o1 b1 => ?_)
    replace o1 : Tp3 g1 (n + 4) v0 y1 y2 := o1; replace b1 : Heap.SameBut (n + 4) p0 g1 := b1
    have z1 : IsZip g1 (n + 5) (n + 3) (n + 4) .ellipsis := b1.extBut _ _ (apart_ (by omega)) (c0.extBut _ _ (apart_ (by omega)) z0)
    have j10 := D0.over sn0 b1 (nin2 (apart_ (by omega)) (apart_ (by omega)))
    have j11 := D1.over (D1.over j01 c0 (nin2 (apart_ (by omega)) (apart_ (by omega)))) b1 (nin2 (apart_ (by omega)) (apart_ (by omega)))
    have j12 := D2.over (D2.over j02 c0 (nin2 (apart_ (by omega)) (apart_ (by omega)))) b1 (nin2 (apart_ (by omega)) (apart_ (by omega)))
    have k1 : ∀ c o, c ≠ (n + 5) → c ≠ (n + 4) → c ≠ n → c ≠ (n + 1) → c ≠ (n + 2) → hp.get? c = some o → g1.get? c = some o := fun c o cz cO e0 e1 e2 e => b1.extBut _ _ cO (c0.extBut _ _ e0 (k0 c o cz cO e0 e1 e2 e))
    have s1 : g1.objs.size = hp.objs.size := by rw [b1.1, c0.1, s0]
    refine wpAny_bind (wpAny_letGo (wpAny_pure ?_)); refine wpAny_bind (wpAny_bind (wpAny_onRaise ?_))
    show wpAny _ _ (Builtin.SmallTypes.nextOf (.ref (n + 1)) >>= _) _ _ ⟨g1, gs, d, t1, os⟩
    by_cases c_1 : i = u1.size
    · skip
      have q1 : i = u1.size := by omega
      refine wpAny_bind (D1.done ⟨g1, gs, d, t1, os⟩ _ _ (by rw [← q1]; exact j11) fun q x hq hx => ?_); replace hq : Heap.ExtBut (n + 1) g1 q := hq
      obtain ⟨ox, h3, h4⟩ := hx; replace h3 : q.get? x = some ox := h3
      have zq : IsZip q (n + 5) (n + 3) (n + 4) .ellipsis := hq _ _ (apart_ (by omega)) z1; have xz : x ≠ (n + 5) := fun r => by subst r; rw [zq] at h3; cases h3; simp at h4
      refine wpAny_setField_rec (s := ⟨q, gs, d, t1, os⟩) zq (by simp) fun q2 _ r2 => ?_; replace r2 : Heap.SameBut (n + 5) q q2 := r2
      exact fin q2 t1 x (fun c o cz cO e0 e1 e2 e => r2.extBut _ _ cz (hq _ _ e1 (k1 c o cz cO e0 e1 e2 e))) ⟨ox, r2.extBut _ _ xz h3, h4⟩
    · have r1 : i < u1.size := by omega
      refine wpAny_bind (D1.item i _ _ _ r1 j11 fun v1 p1 t2 hv1 sn1 c1 => wpAny_pure ?_); replace c1 : Heap.SameBut (n + 1) g1 p1 := c1
      have w1 : Tp3 p1 (n + 4) v0 y1 y2 := c1.extBut _ _ (apart_ (by omega)) o1
      refine wpAny_bind (wpAny_seqItems (s := ⟨p1, gs, d, t2, os⟩) w1 rfl ?_); refine wpAny_bind (up3 (s := ⟨p1, gs, d, t2, os⟩) w1 fun g2 o2 b2 => ?_)
      replace o2 : Tp3 g2 (n + 4) v0 v1 y2 := o2; replace b2 : Heap.SameBut (n + 4) p1 g2 := b2
      have z2 : IsZip g2 (n + 5) (n + 3) (n + 4) .ellipsis := b2.extBut _ _ (apart_ (by omega)) (c1.extBut _ _ (apart_ (by omega)) z1)
      have j20 := D0.over (D0.over j10 c1 (nin2 (apart_ (by omega)) (apart_ (by omega)))) b2 (nin2 (apart_ (by omega)) (apart_ (by omega)))
      have j21 := D1.over sn1 b2 (nin2 (apart_ (by omega)) (apart_ (by omega)))
      have j22 := D2.over (D2.over j12 c1 (nin2 (apart_ (by omega)) (apart_ (by omega)))) b2 (nin2 (apart_ (by omega)) (apart_ (by omega)))
      have k2 : ∀ c o, c ≠ (n + 5) → c ≠ (n + 4) → c ≠ n → c ≠ (n + 1) → c ≠ (n + 2) → hp.get? c = some o → g2.get? c = some o := fun c o cz cO e0 e1 e2 e => b2.extBut _ _ cO (c1.extBut _ _ e1 (k1 c o cz cO e0 e1 e2 e))
      have s2 : g2.objs.size = hp.objs.size := by rw [b2.1, c1.1, s1]
      refine wpAny_bind (wpAny_letGo (wpAny_pure ?_)); refine wpAny_bind (wpAny_bind (wpAny_onRaise ?_))
      show wpAny _ _ (Builtin.SmallTypes.nextOf (.ref (n + 2)) >>= _) _ _ ⟨g2, gs, d, t2, os⟩
      have q2 : i = u2.size := by omega
      refine wpAny_bind (D2.done ⟨g2, gs, d, t2, os⟩ _ _ (by rw [← q2]; exact j22) fun q x hq hx => ?_); replace hq : Heap.ExtBut (n + 2) g2 q := hq
      obtain ⟨ox, h3, h4⟩ := hx; replace h3 : q.get? x = some ox := h3
      have zq : IsZip q (n + 5) (n + 3) (n + 4) .ellipsis := hq _ _ (apart_ (by omega)) z2; have xz : x ≠ (n + 5) := fun r => by subst r; rw [zq] at h3; cases h3; simp at h4
      refine wpAny_setField_rec (s := ⟨q, gs, d, t2, os⟩) zq (by simp) fun q2 _ r2 => ?_; replace r2 : Heap.SameBut (n + 5) q q2 := r2
      exact fin q2 t2 x (fun c o cz cO e0 e1 e2 e => r2.extBut _ _ cz (hq _ _ e2 (k2 c o cz cO e0 e1 e2 e))) ⟨ox, r2.extBut _ _ xz h3, h4⟩
theorem py3_item {Q : Option Value → Shared → Prop} (calm : A.in1.handled = none) (m0 : a0 < n) (m1 : a1 < n) (m2 : a2 < n) (zz : IsZip s.heap (n + 5) (n + 3) (n + 4) .none) (zt : Tp3 s.heap (n + 3) (.ref n) (.ref (n + 1)) (.ref (n + 2))) {y0 y1 y2 : Value} (zo : Tp3 s.heap (n + 4) y0 y1 y2) (st : It3s s.heap n a0 a1 a2 i u0 u1 u2) (l0 : i < u0.size) (l1 : i < u1.size) (l2 : i < u2.size) (fin : ∀ v0 v1 v2 h1 tk, u0[i]? = some v0 → u1[i]? = some v1 → u2[i]? = some v2 → IsZip h1 (n + 5) (n + 3) (n + 4) (rawInt s.heap.objs.size) → Tp3 h1 (n + 4) v0 v1 v2 → It3s h1 n a0 a1 a2 (i + 1) u0 u1 u2 → Tp3 h1 s.heap.objs.size v0 v1 v2 → h1.objs.size = s.heap.objs.size + 1 → (∀ c o, c ≠ (n + 5) → c ≠ (n + 4) → c ≠ n → c ≠ (n + 1) → c ≠ (n + 2) → s.heap.get? c = some o → h1.get? c = some o) → Q (some (.ref s.heap.objs.size)) { s with heap := h1, toks := tk }) : wpAny (model prog w) A (pyNext (.ref (n + 5))) Q E s := by
  have isz : s.TypeIs (.ref (n + 5)) "zip" := ⟨_, zz, rfl⟩; unfold pyNext
  exact wpAny_bind (wpAny_attempt (wpAny_callSpecial?_slot (name := Str.ofString "__next__") isz F.slot_zip_next (wpAny_call_entry F.slot_zip_next isz F.entry_zip_next (nx3_item calm m0 m1 m2 zz zt zo st l0 l1 l2 fun v0 v1 v2 h1 tk hv0 hv1 hv2 q1 q2 q3 q4 q5 q6 => wpAny_pure (fin v0 v1 v2 h1 tk hv0 hv1 hv2 q1 q2 q3 q4 q5 q6)) (F.args_zip_next_1 _))))
theorem py3_end {Q : Option Value → Shared → Prop} (calm : A.in1.handled = none) (m0 : a0 < n) (m1 : a1 < n) (m2 : a2 < n) (zz : IsZip s.heap (n + 5) (n + 3) (n + 4) .none) (zt : Tp3 s.heap (n + 3) (.ref n) (.ref (n + 1)) (.ref (n + 2))) {y0 y1 y2 : Value} (zo : Tp3 s.heap (n + 4) y0 y1 y2) (st : It3s s.heap n a0 a1 a2 i u0 u1 u2) (l0 : i ≤ u0.size) (l1 : i ≤ u1.size) (l2 : i ≤ u2.size) (over : i = u0.size ∨ i = u1.size ∨ i = u2.size) (fin : ∀ h1 tk, (∀ c o, c ≠ (n + 5) → c ≠ (n + 4) → c ≠ n → c ≠ (n + 1) → c ≠ (n + 2) → s.heap.get? c = some o → h1.get? c = some o) → Q none { s with heap := h1, toks := tk }) : wpAny (model prog w) A (pyNext (.ref (n + 5))) Q E s := by
  have isz : s.TypeIs (.ref (n + 5)) "zip" := ⟨_, zz, rfl⟩; unfold pyNext
  refine wpAny_bind (wpAny_attempt (wpAny_callSpecial?_slot (name := Str.ofString "__next__") isz F.slot_zip_next (wpAny_call_entry F.slot_zip_next isz F.entry_zip_next (nx3_end calm m0 m1 m2 zz zt zo st l0 l1 l2 over fun h1 tk x hk hx => ?_) (F.args_zip_next_1 _))))
  obtain ⟨o, ho, hc⟩ := hx; refine wpAny_bind (wpAny_isInstance (T := "StopIteration") (b := true) ⟨o, ho, hc⟩ isSubtype_stop ?_)
  exact wpAny_pure (fin _ _ hk)
end
/-! ### 4 tuples -/
section
variable {prog : Program} {w : World} {A : Around} {E : Value → Shared → Prop} {s : Shared}
abbrev Tp4 (h : Heap) (b : Addr) (y0 y1 y2 y3 : Value) : Prop := h.get? b = some { cls := .type "tuple", data := .seq #[y0, y1, y2, y3] }
theorem up4 {b : Addr} {v : Value} {j : Nat} {y0 y1 y2 y3 : Value} {R : Unit → Shared → Prop} (q : Tp4 s.heap b y0 y1 y2 y3) (go : ∀ g, g.get? b = some { cls := .type "tuple", data := .seq ((#[y0, y1, y2, y3] : Array Value).setIfInBounds j v) } → Heap.SameBut b s.heap g → R () { s with heap := g }) : wpAny (model prog w) A (updateSeq b (·.setIfInBounds j v)) R E s := by
  refine wpAny_updateSeq q rfl (go _ ?_ (Heap.SameBut.update ..))
  rw [Heap.get?_update_self _ q rfl]; simp [Obj.mapSeq]
variable {n a0 a1 a2 a3 i : Nat} {u0 u1 u2 u3 : Array Value}
abbrev It4s (h : Heap) (n a0 a1 a2 a3 i : Nat) (u0 u1 u2 u3 : Array Value) : Prop := (h.IsTupleIter n a0 i ∧ h.IsTuple a0 u0) ∧ (h.IsTupleIter (n + 1) a1 i ∧ h.IsTuple a1 u1) ∧ (h.IsTupleIter (n + 2) a2 i ∧ h.IsTuple a2 u2) ∧ (h.IsTupleIter (n + 3) a3 i ∧ h.IsTuple a3 u3)
theorem nx4_item {Q : Value → Shared → Prop} (calm : A.handled = none) (m0 : a0 < n) (m1 : a1 < n) (m2 : a2 < n) (m3 : a3 < n) (zz : IsZip s.heap (n + 6) (n + 4) (n + 5) .none) (zt : Tp4 s.heap (n + 4) (.ref n) (.ref (n + 1)) (.ref (n + 2)) (.ref (n + 3))) {y0 y1 y2 y3 : Value} (zo : Tp4 s.heap (n + 5) y0 y1 y2 y3) (st : It4s s.heap n a0 a1 a2 a3 i u0 u1 u2 u3) (l0 : i < u0.size) (l1 : i < u1.size) (l2 : i < u2.size) (l3 : i < u3.size) (fin : ∀ v0 v1 v2 v3 h1 tk, u0[i]? = some v0 → u1[i]? = some v1 → u2[i]? = some v2 → u3[i]? = some v3 → IsZip h1 (n + 6) (n + 4) (n + 5) (rawInt s.heap.objs.size) → Tp4 h1 (n + 5) v0 v1 v2 v3 → It4s h1 n a0 a1 a2 a3 (i + 1) u0 u1 u2 u3 → Tp4 h1 s.heap.objs.size v0 v1 v2 v3 → h1.objs.size = s.heap.objs.size + 1 → (∀ c o, c ≠ (n + 6) → c ≠ (n + 5) → c ≠ n → c ≠ (n + 1) → c ≠ (n + 2) → c ≠ (n + 3) → s.heap.get? c = some o → h1.get? c = some o) → Q (.ref s.heap.objs.size) { s with heap := h1, toks := tk }) :
    wpAny (model prog w) A (Builtin.«zip.__next__» ⟨[.ref (n + 6)], []⟩) (fun r s1 => ∃ v, r = .done (.ret v) ∧ Q v s1) E s := by
  obtain ⟨hp, gs, d, t0, os⟩ := s
  have D0 := Draws.tuple (prog := prog) (w := w) (A := A) calm (n : Nat) a0 (apart_ (by omega)) u0
  have D1 := Draws.tuple (prog := prog) (w := w) (A := A) calm ((n + 1) : Nat) a1 (apart_ (by omega)) u1
  have D2 := Draws.tuple (prog := prog) (w := w) (A := A) calm ((n + 2) : Nat) a2 (apart_ (by omega)) u2
  have D3 := Draws.tuple (prog := prog) (w := w) (A := A) calm ((n + 3) : Nat) a3 (apart_ (by omega)) u3
  show wpAny _ _ (field (.ref (n + 6)) 2 >>= _) _ _ _; refine wpAny_bind (wpAny_field zz rfl (x := .bool false) rfl ?_)
  show wpAny _ _ (field (.ref (n + 6)) 3 >>= _) _ _ _; refine wpAny_bind (wpAny_field zz rfl (x := .ref (n + 4)) rfl ?_)
  refine wpAny_bind (wpAny_seqItems zt rfl ?_); show wpAny _ _ (Builtin.SmallTypes.ownedTupleIsFree (.ref (n + 6)) >>= _) _ _ _
  refine wpAny_bind ?_; unfold Builtin.SmallTypes.ownedTupleIsFree
  refine wpAny_bind (wpAny_field zz rfl (x := .none) rfl (wpAny_pure ?_)); simp only [if_true]
  refine wpAny_bind (wpAny_rule ?_); refine wpAny_bind (wpAny_field zz rfl (x := .ref (n + 5)) rfl ?_)
  refine wpAny_bind (wpAny_setField_rec zz (by simp) fun g0 z0 b0 => ?_); replace z0 : IsZip g0 (n + 6) (n + 4) (n + 5) .ellipsis := z0
  replace b0 : Heap.SameBut (n + 6) hp g0 := b0; refine wpAny_bind ?_
  simp only [List.zipIdx_cons, List.zipIdx_nil, List.forIn_cons, List.forIn_nil]; refine wpAny_bind (wpAny_bind (wpAny_onRaise ?_))
  have o0 : Tp4 g0 (n + 5) y0 y1 y2 y3 := b0.extBut _ _ (apart_ (by omega)) zo
  have j00 := D0.over st.1 b0 (nin2 (apart_ (by omega)) (apart_ (by omega)))
  have j01 := D1.over st.2.1 b0 (nin2 (apart_ (by omega)) (apart_ (by omega)))
  have j02 := D2.over st.2.2.1 b0 (nin2 (apart_ (by omega)) (apart_ (by omega)))
  have j03 := D3.over st.2.2.2 b0 (nin2 (apart_ (by omega)) (apart_ (by omega)))
  have k0 : ∀ c o, c ≠ (n + 6) → c ≠ (n + 5) → c ≠ n → c ≠ (n + 1) → c ≠ (n + 2) → c ≠ (n + 3) → hp.get? c = some o → g0.get? c = some o := fun c o cz _ _ _ _ _ e => b0.extBut _ _ cz e
  have s0 : g0.objs.size = hp.objs.size := by rw [b0.1]
  show wpAny _ _ (Builtin.SmallTypes.nextOf (.ref n) >>= _) _ _ ⟨g0, gs, d, t0, os⟩
  refine wpAny_bind (D0.item i _ _ _ l0 j00 fun v0 p0 t1 hv0 sn0 c0 => wpAny_pure ?_); replace c0 : Heap.SameBut n g0 p0 := c0
  have w0 : Tp4 p0 (n + 5) y0 y1 y2 y3 := c0.extBut _ _ (apart_ (by omega)) o0
  refine wpAny_bind (wpAny_seqItems (s := ⟨p0, gs, d, t1, os⟩) w0 rfl ?_); refine wpAny_bind (up4 (s := ⟨p0, gs, d, t1, os⟩) w0 fun g1 o1 b1 => ?_)
  replace o1 : Tp4 g1 (n + 5) v0 y1 y2 y3 := o1; replace b1 : Heap.SameBut (n + 5) p0 g1 := b1
  have z1 : IsZip g1 (n + 6) (n + 4) (n + 5) .ellipsis := b1.extBut _ _ (apart_ (by omega)) (c0.extBut _ _ (apart_ (by omega)) z0)
  have j10 := D0.over sn0 b1 (nin2 (apart_ (by omega)) (apart_ (by omega)))
  have j11 := D1.over (D1.over j01 c0 (nin2 (apart_ (by omega)) (apart_ (by omega)))) b1 (nin2 (apart_ (by omega)) (apart_ (by omega)))
  have j12 := D2.over (D2.over j02 c0 (nin2 (apart_ (by omega)) (apart_ (by omega)))) b1 (nin2 (apart_ (by omega)) (apart_ (by omega)))
  have j13 := D3.over (D3.over j03 c0 (nin2 (apart_ (by omega)) (apart_ (by omega)))) b1 (nin2 (apart_ (by omega)) (apart_ (by omega)))
  have k1 : ∀ c o, c ≠ (n + 6) → c ≠ (n + 5) → c ≠ n → c ≠ (n + 1) → c ≠ (n + 2) → c ≠ (n + 3) → hp.get? c = some o → g1.get? c = some o := fun c o cz cO e0 e1 e2 e3 e => b1.extBut _ _ cO (c0.extBut _ _ e0 (k0 c o cz cO e0 e1 e2 e3 e))
  have s1 : g1.objs.size = hp.objs.size := by rw [b1.1, c0.1, s0]
  refine wpAny_bind (wpAny_letGo (wpAny_pure ?_)); refine wpAny_bind (wpAny_bind (wpAny_onRaise ?_))
  show wpAny _ _ (Builtin.SmallTypes.nextOf (.ref (n + 1)) >>= _) _ _ ⟨g1, gs, d, t1, os⟩
  refine wpAny_bind (D1.item i _ _ _ l1 j11 fun v1 p1 t2 hv1 sn1 c1 => wpAny_pure ?_); replace c1 : Heap.SameBut (n + 1) g1 p1 := c1
  have w1 : Tp4 p1 (n + 5) v0 y1 y2 y3 := c1.extBut _ _ (apart_ (by omega)) o1
  refine wpAny_bind (wpAny_seqItems (s := ⟨p1, gs, d, t2, os⟩) w1 rfl ?_); refine wpAny_bind (up4 (s := ⟨p1, gs, d, t2, os⟩) w1 fun g2 o2 b2 => ?_)
  replace o2 : Tp4 g2 (n + 5) v0 v1 y2 y3 := o2; replace b2 : Heap.SameBut (n + 5) p1 g2 := b2
  have z2 : IsZip g2 (n + 6) (n + 4) (n + 5) .ellipsis := b2.extBut _ _ (apart_ (by omega)) (c1.extBut _ _ (apart_ (by omega)) z1)
  have j20 := D0.over (D0.over j10 c1 (nin2 (apart_ (by omega)) (apart_ (by omega)))) b2 (nin2 (apart_ (by omega)) (apart_ (by omega)))
  have j21 := D1.over sn1 b2 (nin2 (apart_ (by omega)) (apart_ (by omega)))
  have j22 := D2.over (D2.over j12 c1 (nin2 (apart_ (by omega)) (apart_ (by omega)))) b2 (nin2 (apart_ (by omega)) (apart_ (by omega)))
  have j23 := D3.over (D3.over j13 c1 (nin2 (apart_ (by omega)) (apart_ (by omega)))) b2 (nin2 (apart_ (by omega)) (apart_ (by omega)))
  have k2 : ∀ c o, c ≠ (n + 6) → c ≠ (n + 5) → c ≠ n → c ≠ (n + 1) → c ≠ (n + 2) → c ≠ (n + 3) → hp.get? c = some o → g2.get? c = some o := fun c o cz cO e0 e1 e2 e3 e => b2.extBut _ _ cO (c1.extBut _ _ e1 (k1 c o cz cO e0 e1 e2 e3 e))
  have s2 : g2.objs.size = hp.objs.size := by rw [b2.1, c1.1, s1]
  refine wpAny_bind (wpAny_letGo (wpAny_pure ?_)); refine wpAny_bind (wpAny_bind (wpAny_onRaise ?_))
  show wpAny _ _ (Builtin.SmallTypes.nextOf (.ref (n + 2)) >>= _) _ _ ⟨g2, gs, d, t2, os⟩
  refine wpAny_bind (D2.item i _ _ _ l2 j22 fun v2 p2 t3 hv2 sn2 c2 => wpAny_pure ?_); replace c2 : Heap.SameBut (n + 2) g2 p2 := c2
  have w2 : Tp4 p2 (n + 5) v0 v1 y2 y3 := c2.extBut _ _ (apart_ (by omega)) o2
  refine wpAny_bind (wpAny_seqItems (s := ⟨p2, gs, d, t3, os⟩) w2 rfl ?_); refine wpAny_bind (up4 (s := ⟨p2, gs, d, t3, os⟩) w2 fun g3 o3 b3 => ?_)
  replace o3 : Tp4 g3 (n + 5) v0 v1 v2 y3 := o3; replace b3 : Heap.SameBut (n + 5) p2 g3 := b3
  have z3 : IsZip g3 (n + 6) (n + 4) (n + 5) .ellipsis := b3.extBut _ _ (apart_ (by omega)) (c2.extBut _ _ (apart_ (by omega)) z2)
  have j30 := D0.over (D0.over j20 c2 (nin2 (apart_ (by omega)) (apart_ (by omega)))) b3 (nin2 (apart_ (by omega)) (apart_ (by omega)))
  have j31 := D1.over (D1.over j21 c2 (nin2 (apart_ (by omega)) (apart_ (by omega)))) b3 (nin2 (apart_ (by omega)) (apart_ (by omega)))
  have j32 := D2.over sn2 b3 (nin2 (apart_ (by omega)) (apart_ (by omega)))
  have j33 := D3.over (D3.over j23 c2 (nin2 (apart_ (by omega)) (apart_ (by omega)))) b3 (nin2 (apart_ (by omega)) (apart_ (by omega)))
  have k3 : ∀ c o, c ≠ (n + 6) → c ≠ (n + 5) → c ≠ n → c ≠ (n + 1) → c ≠ (n + 2) → c ≠ (n + 3) → hp.get? c = some o → g3.get? c = some o := fun c o cz cO e0 e1 e2 e3 e => b3.extBut _ _ cO (c2.extBut _ _ e2 (k2 c o cz cO e0 e1 e2 e3 e))
  have s3 : g3.objs.size = hp.objs.size := by rw [b3.1, c2.1, s2]
  refine wpAny_bind (wpAny_letGo (wpAny_pure ?_)); refine wpAny_bind (wpAny_bind (wpAny_onRaise ?_))
  show wpAny _ _ (Builtin.SmallTypes.nextOf (.ref (n + 3)) >>= _) _ _ ⟨g3, gs, d, t3, os⟩
  refine wpAny_bind (D3.item i _ _ _ l3 j33 fun v3 p3 t4 hv3 sn3 c3 => wpAny_pure ?_); replace c3 : Heap.SameBut (n + 3) g3 p3 := c3
  have w3 : Tp4 p3 (n + 5) v0 v1 v2 y3 := c3.extBut _ _ (apart_ (by omega)) o3
  refine wpAny_bind (wpAny_seqItems (s := ⟨p3, gs, d, t4, os⟩) w3 rfl ?_); refine wpAny_bind (up4 (s := ⟨p3, gs, d, t4, os⟩) w3 fun g4 o4 b4 => ?_)
  replace o4 : Tp4 g4 (n + 5) v0 v1 v2 v3 := o4; replace b4 : Heap.SameBut (n + 5) p3 g4 := b4
  have z4 : IsZip g4 (n + 6) (n + 4) (n + 5) .ellipsis := b4.extBut _ _ (apart_ (by omega)) (c3.extBut _ _ (apart_ (by omega)) z3)
  have j40 := D0.over (D0.over j30 c3 (nin2 (apart_ (by omega)) (apart_ (by omega)))) b4 (nin2 (apart_ (by omega)) (apart_ (by omega)))
  have j41 := D1.over (D1.over j31 c3 (nin2 (apart_ (by omega)) (apart_ (by omega)))) b4 (nin2 (apart_ (by omega)) (apart_ (by omega)))
  have j42 := D2.over (D2.over j32 c3 (nin2 (apart_ (by omega)) (apart_ (by omega)))) b4 (nin2 (apart_ (by omega)) (apart_ (by omega)))
  have j43 := D3.over sn3 b4 (nin2 (apart_ (by omega)) (apart_ (by omega)))
  have k4 : ∀ c o, c ≠ (n + 6) → c ≠ (n + 5) → c ≠ n → c ≠ (n + 1) → c ≠ (n + 2) → c ≠ (n + 3) → hp.get? c = some o → g4.get? c = some o := fun c o cz cO e0 e1 e2 e3 e => b4.extBut _ _ cO (c3.extBut _ _ e3 (k3 c o cz cO e0 e1 e2 e3 e))
  have s4 : g4.objs.size = hp.objs.size := by rw [b4.1, c3.1, s3]
  refine wpAny_bind (wpAny_letGo (wpAny_pure (wpAny_pure ?_)))
  refine wpAny_bind (wpAny_seqItems (s := ⟨g4, gs, d, t4, os⟩) o4 rfl ?_); refine wpAny_bind (wpAny_newTuple ?_)
  have lz : (n + 6) < g4.objs.size := Heap.lt_size z4
  show wpAny _ _ (Builtin.SmallTypes.ownedTupleHandOut (.ref (n + 6)) (.ref g4.objs.size) >>= _) _ _ ⟨g4.push { cls := .type "tuple", data := .seq #[v0, v1, v2, v3] }, gs, d, t4, os⟩; refine wpAny_bind ?_
  unfold Builtin.SmallTypes.ownedTupleHandOut; have za : IsZip (g4.push { cls := .type "tuple", data := .seq #[v0, v1, v2, v3] }) (n + 6) (n + 4) (n + 5) .ellipsis := Heap.get?_push_of_some _ z4
  refine wpAny_bind (wpAny_setField_rec za (by simp) fun ha zb ba => ?_); replace zb : IsZip ha (n + 6) (n + 4) (n + 5) (rawInt g4.objs.size) := zb
  refine wpAny_setField_rec zb (by simp) fun hb zc bb => ?_; replace zc : IsZip hb (n + 6) (n + 4) (n + 5) (rawInt g4.objs.size) := zc
  replace ba : Heap.SameBut (n + 6) (g4.push { cls := .type "tuple", data := .seq #[v0, v1, v2, v3] }) ha := ba; replace bb : Heap.SameBut (n + 6) ha hb := bb
  have up : ∀ c o, c ≠ (n + 6) → g4.get? c = some o → hb.get? c = some o := fun c o q e => bb.extBut _ _ q (ba.extBut _ _ q (Heap.get?_push_of_some _ e))
  have new : Tp4 hb g4.objs.size v0 v1 v2 v3 := bb.extBut _ _ (Nat.ne_of_gt lz) (ba.extBut _ _ (Nat.ne_of_gt lz) (Heap.get?_push_size _ rfl))
  have sz : hb.objs.size = g4.objs.size + 1 := by rw [bb.1, ba.1, Heap.size_push]
  rw [s4] at zc new sz; refine wpAny_pure ⟨_, rfl, ?_⟩
  show Q (.ref g4.objs.size) ⟨hb, gs, d, t4, os⟩; rw [s4]
  exact fin v0 v1 v2 v3 hb t4 hv0 hv1 hv2 hv3 zc (up _ _ (apart_ (by omega)) o4) ⟨(D0.frame _ _ _ j40 fun b hb o e => up b o (fun q => absurd (q ▸ hb) (nin2 (apart_ (by omega)) (apart_ (by omega)))) e), (D1.frame _ _ _ j41 fun b hb o e => up b o (fun q => absurd (q ▸ hb) (nin2 (apart_ (by omega)) (apart_ (by omega)))) e), (D2.frame _ _ _ j42 fun b hb o e => up b o (fun q => absurd (q ▸ hb) (nin2 (apart_ (by omega)) (apart_ (by omega)))) e), (D3.frame _ _ _ j43 fun b hb o e => up b o (fun q => absurd (q ▸ hb) (nin2 (apart_ (by omega)) (apart_ (by omega)))) e)⟩ new sz fun c o cz cO e0 e1 e2 e3 e => up c o cz (k4 c o cz cO e0 e1 e2 e3 e)
theorem nx4_end {Q : Fin → Shared → Prop} (calm : A.handled = none) (m0 : a0 < n) (m1 : a1 < n) (m2 : a2 < n) (m3 : a3 < n) (zz : IsZip s.heap (n + 6) (n + 4) (n + 5) .none) (zt : Tp4 s.heap (n + 4) (.ref n) (.ref (n + 1)) (.ref (n + 2)) (.ref (n + 3))) {y0 y1 y2 y3 : Value} (zo : Tp4 s.heap (n + 5) y0 y1 y2 y3) (st : It4s s.heap n a0 a1 a2 a3 i u0 u1 u2 u3) (l0 : i ≤ u0.size) (l1 : i ≤ u1.size) (l2 : i ≤ u2.size) (l3 : i ≤ u3.size) (over : i = u0.size ∨ i = u1.size ∨ i = u2.size ∨ i = u3.size) (fin : ∀ h1 tk x, (∀ c o, c ≠ (n + 6) → c ≠ (n + 5) → c ≠ n → c ≠ (n + 1) → c ≠ (n + 2) → c ≠ (n + 3) → s.heap.get? c = some o → h1.get? c = some o) → (∃ o, h1.get? x = some o ∧ o.cls = .type "StopIteration") → E (.ref x) { s with heap := h1, toks := tk }) :
    wpAny (model prog w) A (Builtin.«zip.__next__» ⟨[.ref (n + 6)], []⟩) Q E s := by
  obtain ⟨hp, gs, d, t0, os⟩ := s
  have D0 := Draws.tuple (prog := prog) (w := w) (A := A) calm (n : Nat) a0 (apart_ (by omega)) u0
  have D1 := Draws.tuple (prog := prog) (w := w) (A := A) calm ((n + 1) : Nat) a1 (apart_ (by omega)) u1
  have D2 := Draws.tuple (prog := prog) (w := w) (A := A) calm ((n + 2) : Nat) a2 (apart_ (by omega)) u2
  have D3 := Draws.tuple (prog := prog) (w := w) (A := A) calm ((n + 3) : Nat) a3 (apart_ (by omega)) u3
  show wpAny _ _ (field (.ref (n + 6)) 2 >>= _) _ _ _; refine wpAny_bind (wpAny_field zz rfl (x := .bool false) rfl ?_)
  show wpAny _ _ (field (.ref (n + 6)) 3 >>= _) _ _ _; refine wpAny_bind (wpAny_field zz rfl (x := .ref (n + 4)) rfl ?_)
  refine wpAny_bind (wpAny_seqItems zt rfl ?_); show wpAny _ _ (Builtin.SmallTypes.ownedTupleIsFree (.ref (n + 6)) >>= _) _ _ _
  refine wpAny_bind ?_; unfold Builtin.SmallTypes.ownedTupleIsFree
  refine wpAny_bind (wpAny_field zz rfl (x := .none) rfl (wpAny_pure ?_)); simp only [if_true]
  refine wpAny_bind (wpAny_rule ?_); refine wpAny_bind (wpAny_field zz rfl (x := .ref (n + 5)) rfl ?_)
  refine wpAny_bind (wpAny_setField_rec zz (by simp) fun g0 z0 b0 => ?_); replace z0 : IsZip g0 (n + 6) (n + 4) (n + 5) .ellipsis := z0
  replace b0 : Heap.SameBut (n + 6) hp g0 := b0; refine wpAny_bind ?_
  simp only [List.zipIdx_cons, List.zipIdx_nil, List.forIn_cons, List.forIn_nil]; refine wpAny_bind (wpAny_bind (wpAny_onRaise ?_))
  have o0 : Tp4 g0 (n + 5) y0 y1 y2 y3 := b0.extBut _ _ (apart_ (by omega)) zo
  have j00 := D0.over st.1 b0 (nin2 (apart_ (by omega)) (apart_ (by omega)))
  have j01 := D1.over st.2.1 b0 (nin2 (apart_ (by omega)) (apart_ (by omega)))
  have j02 := D2.over st.2.2.1 b0 (nin2 (apart_ (by omega)) (apart_ (by omega)))
  have j03 := D3.over st.2.2.2 b0 (nin2 (apart_ (by omega)) (apart_ (by omega)))
  have k0 : ∀ c o, c ≠ (n + 6) → c ≠ (n + 5) → c ≠ n → c ≠ (n + 1) → c ≠ (n + 2) → c ≠ (n + 3) → hp.get? c = some o → g0.get? c = some o := fun c o cz _ _ _ _ _ e => b0.extBut _ _ cz e
  have s0 : g0.objs.size = hp.objs.size := by rw [b0.1]
  show wpAny _ _ (Builtin.SmallTypes.nextOf (.ref n) >>= _) _ _ ⟨g0, gs, d, t0, os⟩
  by_cases c_0 : i = u0.size
  · skip
    have q0 : i = u0.size := by omega
    refine wpAny_bind (D0.done ⟨g0, gs, d, t0, os⟩ _ _ (by rw [← q0]; exact j00) fun q x hq hx => ?_); replace hq : Heap.ExtBut n g0 q := hq
    obtain ⟨ox, h3, h4⟩ := hx; replace h3 : q.get? x = some ox := h3
    have zq : IsZip q (n + 6) (n + 4) (n + 5) .ellipsis := hq _ _ (apart_ (by omega)) z0; have xz : x ≠ (n + 6) := fun r => by subst r; rw [zq] at h3; cases h3; simp at h4
    refine wpAny_setField_rec (s := ⟨q, gs, d, t0, os⟩) zq (by simp) fun q2 _ r2 => ?_; replace r2 : Heap.SameBut (n + 6) q q2 := r2
    exact fin q2 t0 x (fun c o cz cO e0 e1 e2 e3 e => r2.extBut _ _ cz (hq _ _ e0 (k0 c o cz cO e0 e1 e2 e3 e))) ⟨ox, r2.extBut _ _ xz h3, h4⟩
  · have r0 : i < u0.size := by omega
    refine wpAny_bind (D0.item i _ _ _ r0 j00 fun v0 p0 t1 hv0 sn0 c0 => wpAny_pure ?_); replace c0 : Heap.SameBut n g0 p0 := c0
    have w0 : Tp4 p0 (n + 5) y0 y1 y2 y3 := c0.extBut _ _ (apart_ (by omega)) o0
    refine wpAny_bind (wpAny_seqItems (s := ⟨p0, gs, d, t1, os⟩) w0 rfl ?_); refine wpAny_bind (up4 (s := ⟨p0, gs, d, t1, os⟩) w0 fun g1 o1 b1 => ?_)
    replace o1 : Tp4 g1 (n + 5) v0 y1 y2 y3 := o1; replace b1 : Heap.SameBut (n + 5) p0 g1 := b1
    have z1 : IsZip g1 (n + 6) (n + 4) (n + 5) .ellipsis := b1.extBut _ _ (apart_ (by omega)) (c0.extBut _ _ (apart_ (by omega)) z0)
    have j10 := D0.over sn0 b1 (nin2 (apart_ (by omega)) (apart_ (by omega)))
    have j11 := D1.over (D1.over j01 c0 (nin2 (apart_ (by omega)) (apart_ (by omega)))) b1 (nin2 (apart_ (by omega)) (apart_ (by omega)))
    have j12 := D2.over (D2.over j02 c0 (nin2 (apart_ (by omega)) (apart_ (by omega)))) b1 (nin2 (apart_ (by omega)) (apart_ (by omega)))
    have j13 := D3.over (D3.over j03 c0 (nin2 (apart_ (by omega)) (apart_ (by omega)))) b1 (nin2 (apart_ (by omega)) (apart_ (by omega)))
    have k1 : ∀ c o, c ≠ (n + 6) → c ≠ (n + 5) → c ≠ n → c ≠ (n + 1) → c ≠ (n + 2) → c ≠ (n + 3) → hp.get? c = some o → g1.get? c = some o := fun c o cz cO e0 e1 e2 e3 e => b1.extBut _ _ cO (c0.extBut _ _ e0 (k0 c o cz cO e0 e1 e2 e3 e))
    have s1 : g1.objs.size = hp.objs.size := by rw [b1.1, c0.1, s0]
    refine wpAny_bind (wpAny_letGo (wpAny_pure ?_)); refine wpAny_bind (wpAny_bind (wpAny_onRaise ?_))
    show wpAny _ _ (Builtin.SmallTypes.nextOf (.ref (n + 1)) >>= _) _ _ ⟨g1, gs, d, t1, os⟩
    by_cases c_1 : i = u1.size
    · skip
      have q1 : i = u1.size := by omega
      refine wpAny_bind (D1.done ⟨g1, gs, d, t1, os⟩ _ _ (by rw [← q1]; exact j11) fun q x hq hx => ?_); replace hq : Heap.ExtBut (n + 1) g1 q := hq
      obtain ⟨ox, h3, h4⟩ := hx; replace h3 : q.get? x = some ox := h3
      have zq : IsZip q (n + 6) (n + 4) (n + 5) .ellipsis := hq _ _ (apart_ (by omega)) z1; have xz : x ≠ (n + 6) := fun r => by subst r; rw [zq] at h3; cases h3; simp at h4
      refine wpAny_setField_rec (s := ⟨q, gs, d, t1, os⟩) zq (by simp) fun q2 _ r2 => ?_; replace r2 : Heap.SameBut (n + 6) q q2 := r2
      exact fin q2 t1 x (fun c o cz cO e0 e1 e2 e3 e => r2.extBut _ _ cz (hq _ _ e1 (k1 c o cz cO e0 e1 e2 e3 e))) ⟨ox, r2.extBut _ _ xz h3, h4⟩
    · have r1 : i < u1.size := by omega
      refine wpAny_bind (D1.item i _ _ _ r1 j11 fun v1 p1 t2 hv1 sn1 c1 => wpAny_pure ?_); replace c1 : Heap.SameBut (n + 1) g1 p1 := c1
      have w1 : Tp4 p1 (n + 5) v0 y1 y2 y3 := c1.extBut _ _ (apart_ (by omega)) o1
      refine wpAny_bind (wpAny_seqItems (s := ⟨p1, gs, d, t2, os⟩) w1 rfl ?_); refine wpAny_bind (up4 (s := ⟨p1, gs, d, t2, os⟩) w1 fun g2 o2 b2 => ?_)
      replace o2 : Tp4 g2 (n + 5) v0 v1 y2 y3 := o2; replace b2 : Heap.SameBut (n + 5) p1 g2 := b2
      have z2 : IsZip g2 (n + 6) (n + 4) (n + 5) .ellipsis := b2.extBut _ _ (apart_ (by omega)) (c1.extBut _ _ (apart_ (by omega)) z1)
      have j20 := D0.over (D0.over j10 c1 (nin2 (apart_ (by omega)) (apart_ (by omega)))) b2 (nin2 (apart_ (by omega)) (apart_ (by omega)))
      have j21 := D1.over sn1 b2 (nin2 (apart_ (by omega)) (apart_ (by omega)))
      have j22 := D2.over (D2.over j12 c1 (nin2 (apart_ (by omega)) (apart_ (by omega)))) b2 (nin2 (apart_ (by omega)) (apart_ (by omega)))
      have j23 := D3.over (D3.over j13 c1 (nin2 (apart_ (by omega)) (apart_ (by omega)))) b2 (nin2 (apart_ (by omega)) (apart_ (by omega)))
      have k2 : ∀ c o, c ≠ (n + 6) → c ≠ (n + 5) → c ≠ n → c ≠ (n + 1) → c ≠ (n + 2) → c ≠ (n + 3) → hp.get? c = some o → g2.get? c = some o := fun c o cz cO e0 e1 e2 e3 e => b2.extBut _ _ cO (c1.extBut _ _ e1 (k1 c o cz cO e0 e1 e2 e3 e))
      have s2 : g2.objs.size = hp.objs.size := by rw [b2.1, c1.1, s1]
      refine wpAny_bind (wpAny_letGo (wpAny_pure ?_)); refine wpAny_bind (wpAny_bind (wpAny_onRaise ?_))
      show wpAny _ _ (Builtin.SmallTypes.nextOf (.ref (n + 2)) >>= _) _ _ ⟨g2, gs, d, t2, os⟩
      by_cases c_2 : i = u2.size
      · skip
        have q2 : i = u2.size := by omega
        refine wpAny_bind (D2.done ⟨g2, gs, d, t2, os⟩ _ _ (by rw [← q2]; exact j22) fun q x hq hx => ?_); replace hq : Heap.ExtBut (n + 2) g2 q := hq
        obtain ⟨ox, h3, h4⟩ := hx; replace h3 : q.get? x = some ox := h3
        have zq : IsZip q (n + 6) (n + 4) (n + 5) .ellipsis := hq _ _ (apart_ (by omega)) z2; have xz : x ≠ (n + 6) := fun r => by subst r; rw [zq] at h3; cases h3; simp at h4
        refine wpAny_setField_rec (s := ⟨q, gs, d, t2, os⟩) zq (by simp) fun q2 _ r2 => ?_; replace r2 : Heap.SameBut (n + 6) q q2 := r2
        exact fin q2 t2 x (fun c o cz cO e0 e1 e2 e3 e => r2.extBut _ _ cz (hq _ _ e2 (k2 c o cz cO e0 e1 e2 e3 e))) ⟨ox, r2.extBut _ _ xz h3, h4⟩
      · have r2 : i < u2.size := by omega
        refine wpAny_bind (D2.item i _ _ _ r2 j22 fun v2 p2 t3 hv2 sn2 c2 => wpAny_pure ?_); replace c2 : Heap.SameBut (n + 2) g2 p2 := c2
        have w2 : Tp4 p2 (n + 5) v0 v1 y2 y3 := c2.extBut _ _ (apart_ (by omega)) o2
        refine wpAny_bind (wpAny_seqItems (s := ⟨p2, gs, d, t3, os⟩) w2 rfl ?_); refine wpAny_bind (up4 (s := ⟨p2, gs, d, t3, os⟩) w2 fun g3 o3 b3 => ?_)
        replace o3 : Tp4 g3 (n + 5) v0 v1 v2 y3 := o3; replace b3 : Heap.SameBut (n + 5) p2 g3 := b3
        have z3 : IsZip g3 (n + 6) (n + 4) (n + 5) .ellipsis := b3.extBut _ _ (apart_ (by omega)) (c2.extBut _ _ (apart_ (by omega)) z2)
        have j30 := D0.over (D0.over j20 c2 (nin2 (apart_ (by omega)) (apart_ (by omega)))) b3 (nin2 (apart_ (by omega)) (apart_ (by omega)))
        have j31 := D1.over (D1.over j21 c2 (nin2 (apart_ (by omega)) (apart_ (by omega)))) b3 (nin2 (apart_ (by omega)) (apart_ (by omega)))
        have j32 := D2.over sn2 b3 (nin2 (apart_ (by omega)) (apart_ (by omega)))
        have j33 := D3.over (D3.over j23 c2 (nin2 (apart_ (by omega)) (apart_ (by omega)))) b3 (nin2 (apart_ (by omega)) (apart_ (by omega)))
        have k3 : ∀ c o, c ≠ (n + 6) → c ≠ (n + 5) → c ≠ n → c ≠ (n + 1) → c ≠ (n + 2) → c ≠ (n + 3) → hp.get? c = some o → g3.get? c = some o := fun c o cz cO e0 e1 e2 e3 e => b3.extBut _ _ cO (c2.extBut _ _ e2 (k2 c o cz cO e0 e1 e2 e3 e))
        have s3 : g3.objs.size = hp.objs.size := by rw [b3.1, c2.1, s2]
        refine wpAny_bind (wpAny_letGo (wpAny_pure ?_)); refine wpAny_bind (wpAny_bind (wpAny_onRaise ?_))
        show wpAny _ _ (Builtin.SmallTypes.nextOf (.ref (n + 3)) >>= _) _ _ ⟨g3, gs, d, t3, os⟩
        have q3 : i = u3.size := by omega
        refine wpAny_bind (D3.done ⟨g3, gs, d, t3, os⟩ _ _ (by rw [← q3]; exact j33) fun q x hq hx => ?_); replace hq : Heap.ExtBut (n + 3) g3 q := hq
        obtain ⟨ox, h3, h4⟩ := hx; replace h3 : q.get? x = some ox := h3
        have zq : IsZip q (n + 6) (n + 4) (n + 5) .ellipsis := hq _ _ (apart_ (by omega)) z3; have xz : x ≠ (n + 6) := fun r => by subst r; rw [zq] at h3; cases h3; simp at h4
        refine wpAny_setField_rec (s := ⟨q, gs, d, t3, os⟩) zq (by simp) fun q2 _ r2 => ?_; replace r2 : Heap.SameBut (n + 6) q q2 := r2
        exact fin q2 t3 x (fun c o cz cO e0 e1 e2 e3 e => r2.extBut _ _ cz (hq _ _ e3 (k3 c o cz cO e0 e1 e2 e3 e))) ⟨ox, r2.extBut _ _ xz h3, h4⟩
theorem py4_item {Q : Option Value → Shared → Prop} (calm : A.in1.handled = none) (m0 : a0 < n) (m1 : a1 < n) (m2 : a2 < n) (m3 : a3 < n) (zz : IsZip s.heap (n + 6) (n + 4) (n + 5) .none) (zt : Tp4 s.heap (n + 4) (.ref n) (.ref (n + 1)) (.ref (n + 2)) (.ref (n + 3))) {y0 y1 y2 y3 : Value} (zo : Tp4 s.heap (n + 5) y0 y1 y2 y3) (st : It4s s.heap n a0 a1 a2 a3 i u0 u1 u2 u3) (l0 : i < u0.size) (l1 : i < u1.size) (l2 : i < u2.size) (l3 : i < u3.size) (fin : ∀ v0 v1 v2 v3 h1 tk, u0[i]? = some v0 → u1[i]? = some v1 → u2[i]? = some v2 → u3[i]? = some v3 → IsZip h1 (n + 6) (n + 4) (n + 5) (rawInt s.heap.objs.size) → Tp4 h1 (n + 5) v0 v1 v2 v3 → It4s h1 n a0 a1 a2 a3 (i + 1) u0 u1 u2 u3 → Tp4 h1 s.heap.objs.size v0 v1 v2 v3 → h1.objs.size = s.heap.objs.size + 1 → (∀ c o, c ≠ (n + 6) → c ≠ (n + 5) → c ≠ n → c ≠ (n + 1) → c ≠ (n + 2) → c ≠ (n + 3) → s.heap.get? c = some o → h1.get? c = some o) → Q (some (.ref s.heap.objs.size)) { s with heap := h1, toks := tk }) : wpAny (model prog w) A (pyNext (.ref (n + 6))) Q E s := by
  have isz : s.TypeIs (.ref (n + 6)) "zip" := ⟨_, zz, rfl⟩; unfold pyNext
  exact wpAny_bind (wpAny_attempt (wpAny_callSpecial?_slot (name := Str.ofString "__next__") isz F.slot_zip_next (wpAny_call_entry F.slot_zip_next isz F.entry_zip_next (nx4_item calm m0 m1 m2 m3 zz zt zo st l0 l1 l2 l3 fun v0 v1 v2 v3 h1 tk hv0 hv1 hv2 hv3 q1 q2 q3 q4 q5 q6 => wpAny_pure (fin v0 v1 v2 v3 h1 tk hv0 hv1 hv2 hv3 q1 q2 q3 q4 q5 q6)) (F.args_zip_next_1 _))))
theorem py4_end {Q : Option Value → Shared → Prop} (calm : A.in1.handled = none) (m0 : a0 < n) (m1 : a1 < n) (m2 : a2 < n) (m3 : a3 < n) (zz : IsZip s.heap (n + 6) (n + 4) (n + 5) .none) (zt : Tp4 s.heap (n + 4) (.ref n) (.ref (n + 1)) (.ref (n + 2)) (.ref (n + 3))) {y0 y1 y2 y3 : Value} (zo : Tp4 s.heap (n + 5) y0 y1 y2 y3) (st : It4s s.heap n a0 a1 a2 a3 i u0 u1 u2 u3) (l0 : i ≤ u0.size) (l1 : i ≤ u1.size) (l2 : i ≤ u2.size) (l3 : i ≤ u3.size) (over : i = u0.size ∨ i = u1.size ∨ i = u2.size ∨ i = u3.size) (fin : ∀ h1 tk, (∀ c o, c ≠ (n + 6) → c ≠ (n + 5) → c ≠ n → c ≠ (n + 1) → c ≠ (n + 2) → c ≠ (n + 3) → s.heap.get? c = some o → h1.get? c = some o) → Q none { s with heap := h1, toks := tk }) : wpAny (model prog w) A (pyNext (.ref (n + 6))) Q E s := by
  have isz : s.TypeIs (.ref (n + 6)) "zip" := ⟨_, zz, rfl⟩; unfold pyNext
  refine wpAny_bind (wpAny_attempt (wpAny_callSpecial?_slot (name := Str.ofString "__next__") isz F.slot_zip_next (wpAny_call_entry F.slot_zip_next isz F.entry_zip_next (nx4_end calm m0 m1 m2 m3 zz zt zo st l0 l1 l2 l3 over fun h1 tk x hk hx => ?_) (F.args_zip_next_1 _))))
  obtain ⟨o, ho, hc⟩ := hx; refine wpAny_bind (wpAny_isInstance (T := "StopIteration") (b := true) ⟨o, ho, hc⟩ isSubtype_stop ?_)
  exact wpAny_pure (fin _ _ hk)
end
/-! 3 tuples: zip begins -/
section
abbrev itO (a : Addr) : Obj := { cls := .type "tuple_iterator", data := .fields #[.ref a, .int 0 0] }
abbrev hp3_0 (h : Heap) (a0 a1 a2 : Addr) : Heap := h
abbrev hp3_1 (h : Heap) (a0 a1 a2 : Addr) : Heap := (hp3_0 h a0 a1 a2).push (itO a0)
abbrev hp3_2 (h : Heap) (a0 a1 a2 : Addr) : Heap := (hp3_1 h a0 a1 a2).push (itO a1)
abbrev hp3_3 (h : Heap) (a0 a1 a2 : Addr) : Heap := (hp3_2 h a0 a1 a2).push (itO a2)
abbrev hT3 (h : Heap) (a0 a1 a2 : Addr) : Heap := (hp3_3 h a0 a1 a2).push { cls := .type "tuple", data := .seq #[.ref (hp3_0 h a0 a1 a2).objs.size, .ref (hp3_1 h a0 a1 a2).objs.size, .ref (hp3_2 h a0 a1 a2).objs.size] }
abbrev hO3 (h : Heap) (a0 a1 a2 : Addr) : Heap := (hT3 h a0 a1 a2).push { cls := .type "tuple", data := .seq #[.none, .none, .none] }
abbrev hZ3 (h : Heap) (a0 a1 a2 : Addr) : Heap := (hO3 h a0 a1 a2).push { cls := .type "zip", data := .fields #[.none, .bool false, .bool false, .ref (hp3_3 h a0 a1 a2).objs.size, .ref (hT3 h a0 a1 a2).objs.size] }
theorem tc3 (x0 x1 x2 : Value) : checkTypeCall "zip" ⟨[x0, x1, x2], []⟩ = pure () := by kernel_rfl
theorem nc3 (x0 x1 x2 : Value) : checkBuiltinCall "zip.__new__" ⟨[.type "zip", x0, x1, x2], []⟩ = pure () := by kernel_rfl
theorem oc3 (o x0 x1 x2 : Value) : argsOk "object.__init__" ⟨[o, x0, x1, x2], []⟩ := by unfold argsOk; kernel_rfl
theorem mt3 {a0 a1 a2 : Addr} {u0 u1 u2 : Array Value} : Meets (Builtin.«zip.__new__» ⟨[.type "zip", .ref a0, .ref a1, .ref a2], []⟩) (fun _ R s => (s.heap.IsTuple a0 u0 ∧ s.heap.IsTuple a1 u1 ∧ s.heap.IsTuple a2 u2) ∧ R (.ok (.ret (.ref (hO3 s.heap a0 a1 a2).objs.size))) { s with heap := hZ3 s.heap a0 a1 a2 }) :=
  .of_wp fun prog w A R s h => by
    obtain ⟨hp, gs, d, tk, os⟩ := s; obtain ⟨⟨h0, h1, h2⟩, h⟩ := h
    have hsub := sub_zip; skip
    have q0 : ∀ {A2 : Around} {E Q : Value → Shared → Prop}, Q (.ref (hp3_0 hp a0 a1 a2).objs.size) ⟨(hp3_1 hp a0 a1 a2), gs, d, tk, os⟩ → wpAny (model prog w) A2 (pyIter (.ref a0)) Q E ⟨(hp3_0 hp a0 a1 a2), gs, d, tk, os⟩ := fun q => (begins_tuple a0 u0).iter prog w _ _ ⟨(hp3_0 hp a0 a1 a2), gs, d, tk, os⟩ _ ((begins_tuple a0 u0).keeps _ _ h0 fun b o2 e => e) q
    have q1 : ∀ {A2 : Around} {E Q : Value → Shared → Prop}, Q (.ref (hp3_1 hp a0 a1 a2).objs.size) ⟨(hp3_2 hp a0 a1 a2), gs, d, tk, os⟩ → wpAny (model prog w) A2 (pyIter (.ref a1)) Q E ⟨(hp3_1 hp a0 a1 a2), gs, d, tk, os⟩ := fun q => (begins_tuple a1 u1).iter prog w _ _ ⟨(hp3_1 hp a0 a1 a2), gs, d, tk, os⟩ _ ((begins_tuple a1 u1).keeps _ _ h1 fun b o2 e => (Heap.get?_push_of_some _ e)) q
    have q2 : ∀ {A2 : Around} {E Q : Value → Shared → Prop}, Q (.ref (hp3_2 hp a0 a1 a2).objs.size) ⟨(hp3_3 hp a0 a1 a2), gs, d, tk, os⟩ → wpAny (model prog w) A2 (pyIter (.ref a2)) Q E ⟨(hp3_2 hp a0 a1 a2), gs, d, tk, os⟩ := fun q => (begins_tuple a2 u2).iter prog w _ _ ⟨(hp3_2 hp a0 a1 a2), gs, d, tk, os⟩ _ ((begins_tuple a2 u2).keeps _ _ h2 fun b o2 e => (Heap.get?_push_of_some _ (Heap.get?_push_of_some _ e))) q
    wp_walk using q0, q1, q2
    exact ⟨_, rfl, h⟩
variable {prog : Program} {w : World} {A : Around} {E : Value → Shared → Prop} {s : Shared}
theorem bg3 {a0 a1 a2 : Addr} {u0 u1 u2 : Array Value} {Q : Value → Shared → Prop} (h0 : s.heap.IsTuple a0 u0) (h1 : s.heap.IsTuple a1 u1) (h2 : s.heap.IsTuple a2 u2) (h : ∀ h1, IsZip h1 (s.heap.objs.size + 5) (s.heap.objs.size + 3) (s.heap.objs.size + 4) .none → Tp3 h1 (s.heap.objs.size + 3) (.ref s.heap.objs.size) (.ref (s.heap.objs.size + 1)) (.ref (s.heap.objs.size + 2)) → Tp3 h1 (s.heap.objs.size + 4) .none .none .none → h1.get? s.heap.objs.size = some (itO a0) → h1.get? (s.heap.objs.size + 1) = some (itO a1) → h1.get? (s.heap.objs.size + 2) = some (itO a2) → (∀ c o, s.heap.get? c = some o → h1.get? c = some o) → Q (.ref (s.heap.objs.size + 5)) { s with heap := h1 }) : wpAny (model prog w) A (call (.type "zip") [.ref a0, .ref a1, .ref a2]) Q E s := by
  refine callType_new F.called_zip (by decide) (tc3 _ _ _) (nc3 _ _ _) (fun o => oc3 o _ _ _) F.entry_zip_new mt3 ⟨⟨h0, h1, h2⟩, ?_⟩
  have z1 : (hp3_1 s.heap a0 a1 a2).objs.size = s.heap.objs.size + 1 := by rw [Heap.size_push]
  have z2 : (hp3_2 s.heap a0 a1 a2).objs.size = s.heap.objs.size + 2 := by rw [Heap.size_push, z1]
  have z3 : (hp3_3 s.heap a0 a1 a2).objs.size = s.heap.objs.size + 3 := by rw [Heap.size_push, z2]
  have zT : (hT3 s.heap a0 a1 a2).objs.size = s.heap.objs.size + 4 := by rw [Heap.size_push, z3]
  have zO : (hO3 s.heap a0 a1 a2).objs.size = s.heap.objs.size + 5 := by rw [Heap.size_push, zT]
  have gZ : (hZ3 s.heap a0 a1 a2).get? (hO3 s.heap a0 a1 a2).objs.size = some { cls := .type "zip", data := .fields #[.none, .bool false, .bool false, .ref (hp3_3 s.heap a0 a1 a2).objs.size, .ref (hT3 s.heap a0 a1 a2).objs.size] } := Heap.get?_push_size _ rfl
  have gO : (hZ3 s.heap a0 a1 a2).get? (hT3 s.heap a0 a1 a2).objs.size = some { cls := .type "tuple", data := .seq #[.none, .none, .none] } := Heap.get?_push_of_some _ (Heap.get?_push_size _ rfl)
  have gT : (hZ3 s.heap a0 a1 a2).get? (hp3_3 s.heap a0 a1 a2).objs.size = some { cls := .type "tuple", data := .seq #[.ref (hp3_0 s.heap a0 a1 a2).objs.size, .ref (hp3_1 s.heap a0 a1 a2).objs.size, .ref (hp3_2 s.heap a0 a1 a2).objs.size] } := Heap.get?_push_of_some _ (Heap.get?_push_of_some _ (Heap.get?_push_size _ rfl))
  have g0 : (hZ3 s.heap a0 a1 a2).get? (hp3_0 s.heap a0 a1 a2).objs.size = some (itO a0) := Heap.get?_push_of_some _ (Heap.get?_push_of_some _ (Heap.get?_push_of_some _ (Heap.get?_push_of_some _ (Heap.get?_push_of_some _ (Heap.get?_push_size _ rfl)))))
  have g1 : (hZ3 s.heap a0 a1 a2).get? (hp3_1 s.heap a0 a1 a2).objs.size = some (itO a1) := Heap.get?_push_of_some _ (Heap.get?_push_of_some _ (Heap.get?_push_of_some _ (Heap.get?_push_of_some _ (Heap.get?_push_size _ rfl))))
  have g2 : (hZ3 s.heap a0 a1 a2).get? (hp3_2 s.heap a0 a1 a2).objs.size = some (itO a2) := Heap.get?_push_of_some _ (Heap.get?_push_of_some _ (Heap.get?_push_of_some _ (Heap.get?_push_size _ rfl)))
  rw [zO, zT, z3] at gZ; rw [zT] at gO
  rw [z3, z2, z1] at gT
  rw [z1] at g1; skip
  rw [z2] at g2; skip
  show _ ∧ _; rw [zO]
  exact ⟨⟨_, gZ, rfl⟩, h _ gZ gT gO g0 g1 g2 fun c o e => Heap.get?_push_of_some _ (Heap.get?_push_of_some _ (Heap.get?_push_of_some _ (Heap.get?_push_of_some _ (Heap.get?_push_of_some _ (Heap.get?_push_of_some _ (e))))))⟩
end
def Itz3 (K : PySem.W.Frag) (a0 a1 a2 : Addr) : It :=
  ⟨fun i H => ∃ (l0 l1 l2 : List V) (x0 x1 x2 : V), SqT K H a0 l0 ∧ SqT K H a1 l1 ∧ SqT K H a2 l2 ∧ l0[i]? = some x0 ∧ l1[i]? = some x1 ∧ l2[i]? = some x2,
    fun i H v H2 => ∃ (T : Addr) (x0 x1 x2 : V), v = .ref T ∧ H T = none ∧ H2 = upd H T (.tup [x0, x1, x2]) ∧ (∀ l, SqT K H a0 l → l[i]? = some x0) ∧ (∀ l, SqT K H a1 l → l[i]? = some x1) ∧ (∀ l, SqT K H a2 l → l[i]? = some x2),
    fun i H => ∃ l0 l1 l2 : List V, SqT K H a0 l0 ∧ SqT K H a1 l1 ∧ SqT K H a2 l2 ∧ i ≤ l0.length ∧ i ≤ l1.length ∧ i ≤ l2.length ∧ (i = l0.length ∨ i = l1.length ∨ i = l2.length)⟩
structure ZA3 (n a0 a1 a2 : Nat) (i : Nat) (h : Heap) : Prop where
  zz : IsZip h (n + 5) (n + 3) (n + 4) .none
  zt : Tp3 h (n + 3) (.ref n) (.ref (n + 1)) (.ref (n + 2))
  zo : ∃ y0 y1 y2, Tp3 h (n + 4) y0 y1 y2
  t0 : h.IsTupleIter n a0 i
  t1 : h.IsTupleIter (n + 1) a1 i
  t2 : h.IsTupleIter (n + 2) a2 i
theorem turn_zip3 {P : Program} {w : World} {K : PySem.W.Frag} {elts : List Expr} {kk : Nat} {tpos : Pos} {n a0 a1 a2 : Nat} (m0 : a0 < n) (m1 : a1 < n) (m2 : a2 < n) : Turn P w K (.Tuple elts kk tpos) (Itz3 K a0 a1 a2) [(n + 5), (n + 3), (n + 4), n, (n + 1), (n + 2)] (n + 5) (ZA3 n a0 a1 a2) := by
  have cases_ : ∀ {c : Nat}, c ∈ ([(n + 5), (n + 3), (n + 4), n, (n + 1), (n + 2)] : List Nat) → c = (n + 5) ∨ c = (n + 3) ∨ c = (n + 4) ∨ c = n ∨ c = (n + 1) ∨ c = (n + 2) := fun {c} h => by simpa using h
  refine ⟨List.mem_cons_self, fun i h st c hc => ?_, fun i h h2 st k => ?_, ?_, ?_, fun A i s Q E st h => wpAny_pyIter_zip st.zz h⟩
  · obtain ⟨y0, y1, y2, hto⟩ := st.zo
    obtain ⟨o0, e0, _, d0⟩ := st.t0
    obtain ⟨o1, e1, _, d1⟩ := st.t1
    obtain ⟨o2, e2, _, d2⟩ := st.t2
    rcases cases_ hc with rfl | rfl | rfl | rfl | rfl | rfl
    · exact ⟨_, st.zz, fun v q => nomatch q⟩
    · exact ⟨_, st.zt, fun v q => nomatch q⟩
    · exact ⟨_, hto, fun v q => nomatch q⟩
    · exact ⟨o0, e0, fun v q => by rw [d0] at q; cases q⟩
    · exact ⟨o1, e1, fun v q => by rw [d1] at q; cases q⟩
    · exact ⟨o2, e2, fun v q => by rw [d2] at q; cases q⟩
  · obtain ⟨y0, y1, y2, hto⟩ := st.zo
    exact ⟨k (n + 5) (by simp) _ st.zz, k (n + 3) (by simp) _ st.zt, ⟨y0, y1, y2, k (n + 4) (by simp) _ hto⟩, st.t0.at fun o q => k n (by simp) o q, st.t1.at fun o q => k (n + 1) (by simp) o q, st.t2.at fun o q => k (n + 2) (by simp) o q⟩
  · rintro X rfl rfl rfl calm i pins s σ H E I ff st ⟨l0, l1, l2, x0, x1, x2, q0, q1, q2, hx0, hx1, hx2⟩
    obtain ⟨y0, y1, y2, hto⟩ := st.zo
    obtain ⟨u0, r0, p0, _⟩ := I.tuple q0
    obtain ⟨u1, r1, p1, _⟩ := I.tuple q1
    obtain ⟨u2, r2, p2, _⟩ := I.tuple q2
    obtain ⟨v0, f0, rv0⟩ := r0.get hx0
    obtain ⟨v1, f1, rv1⟩ := r1.get hx1
    obtain ⟨v2, f2, rv2⟩ := r2.get hx2
    have s0 : i < u0.toArray.size := by have := (List.getElem?_eq_some_iff.mp f0).1; simpa using this
    have s1 : i < u1.toArray.size := by have := (List.getElem?_eq_some_iff.mp f1).1; simpa using this
    have s2 : i < u2.toArray.size := by have := (List.getElem?_eq_some_iff.mp f2).1; simpa using this
    refine py3_item (I.ok.hd calm) m0 m1 m2 st.zz st.zt hto ⟨⟨st.t0, p0⟩, ⟨st.t1, p1⟩, ⟨st.t2, p2⟩⟩ s0 s1 s2 fun w0 w1 w2 h1 tk g0 g1 g2 z2 o2 j2 hT sz hk => ?_
    have e0 : u0[i]? = some w0 := by simpa using g0
    rw [f0] at e0; obtain rfl : v0 = w0 := Option.some.inj e0
    have e1 : u1[i]? = some w1 := by simpa using g1
    rw [f1] at e1; obtain rfl : v1 = w1 := Option.some.inj e1
    have e2 : u2[i]? = some w2 := by simpa using g2
    rw [f2] at e2; obtain rfl : v2 = w2 := Option.some.inj e2
    have lz : (n + 5) < s.heap.objs.size := Heap.lt_size st.zz
    refine ⟨_, rfl, wpAny_letOwnedTupleGo_zip (s := { s with heap := h1, toks := tk }) z2 fun h2 z3 sb => ?_⟩
    have fresh : H s.heap.objs.size = none := I.hok.fresh (Nat.le_refl _); skip
    have atT : h2.get? s.heap.objs.size = some { cls := .type "tuple", data := .seq #[v0, v1, v2] } := (sb.2 _ (Nat.ne_of_gt lz)).trans hT
    have newT : ObjOk X.prog X.w (upd H s.heap.objs.size (.tup [x0, x1, x2])) h2 s.heap.objs.size (.tup [x0, x1, x2]) := ⟨by show 3 ≤ sizeLine; decide, [v0, v1, v2], (.cons rv0 (.cons rv1 (.cons rv2 .nil))), ⟨_, atT, rfl, _, rfl⟩⟩
    have kept : ∀ c o, c ∉ ([(n + 5), (n + 3), (n + 4), n, (n + 1), (n + 2)] : List Nat) → s.heap.get? c = some o → h2.get? c = some o := fun c o nc q => by
      simp only [List.mem_cons, List.not_mem_nil, or_false, not_or] at nc; obtain ⟨c1, c2, c3, e0, e1, e2⟩ := nc
      exact (sb.2 c c1).trans (hk c o c1 c3 e0 e1 e2 q)
    have J : L2.Inv X pins σ (upd H s.heap.objs.size (.tup [x0, x1, x2])) { s with heap := h2, toks := tk } := I.turnedNew (ch := [(n + 5), (n + 3), (n + 4), n, (n + 1), (n + 2)]) (fun c o nc q => kept c o nc q) ff (Nat.le_refl _) newT
    have old : ∀ c ∈ ([(n + 5), (n + 3), (n + 4), n, (n + 1), (n + 2)] : List Nat), c ≠ s.heap.objs.size := fun c hc => by rcases cases_ hc with rfl | rfl | rfl | rfl | rfl | rfl <;> omega
    refine ⟨.ref s.heap.objs.size, _, J, rfl, ⟨_, x0, x1, x2, rfl, fresh, rfl, fun l hl => by rw [I.tuple_inj hl q0]; exact hx0, fun l hl => by rw [I.tuple_inj hl q1]; exact hx1, fun l hl => by rw [I.tuple_inj hl q2]; exact hx2⟩, ⟨z3, ?_, ⟨v0, v1, v2, ?_⟩, ?_, ?_, ?_⟩, fun c hc => ?_⟩
    · exact (sb.2 _ (apart_ (by omega))).trans (hk _ _ (apart_ (by omega)) (apart_ (by omega)) (apart_ (by omega)) (apart_ (by omega)) (apart_ (by omega)) st.zt)
    · exact (sb.2 _ (apart_ (by omega))).trans o2
    · exact j2.1.1.at fun o q => (sb.2 _ (apart_ (by omega))).trans q
    · exact j2.2.1.1.at fun o q => (sb.2 _ (apart_ (by omega))).trans q
    · exact j2.2.2.1.at fun o q => (sb.2 _ (apart_ (by omega))).trans q
    · rw [upd_ne (old c hc)]; exact (ff c hc).1
  · rintro X rfl rfl rfl calm i pins s σ H E I ff st ⟨l0, l1, l2, q0, q1, q2, le0, le1, le2, over⟩
    obtain ⟨y0, y1, y2, hto⟩ := st.zo
    obtain ⟨u0, r0, p0, _⟩ := I.tuple q0
    obtain ⟨u1, r1, p1, _⟩ := I.tuple q1
    obtain ⟨u2, r2, p2, _⟩ := I.tuple q2
    have n0 := r0.length
    have n1 := r1.length
    have n2 := r2.length
    refine py3_end (I.ok.hd calm) m0 m1 m2 st.zz st.zt hto ⟨⟨st.t0, p0⟩, ⟨st.t1, p1⟩, ⟨st.t2, p2⟩⟩ (by rw [List.size_toArray]; omega) (by rw [List.size_toArray]; omega) (by rw [List.size_toArray]; omega) (by simp only [List.size_toArray]; omega) fun h1 tk hk => ⟨rfl, ?_⟩
    exact I.turnedL (t' := tk) (ch := [(n + 5), (n + 3), (n + 4), n, (n + 1), (n + 2)]) (fun c o nc q => by
      simp only [List.mem_cons, List.not_mem_nil, or_false, not_or] at nc; obtain ⟨c1, c2, c3, e0, e1, e2⟩ := nc
      exact hk c o c1 c3 e0 e1 e2 q) ff
def iZip3 (K : PySem.W.Frag) (ta : TA) : TI := fun σ H R => ta σ H fun vs H1 => ∃ a0 a1 a2 l0 l1 l2, vs = [.ref a0, .ref a1, .ref a2] ∧ SqT K H1 a0 l0 ∧ SqT K H1 a1 l1 ∧ SqT K H1 a2 l2 ∧ R (Itz3 K a0 a1 a2) H1
theorem pi_zip3 {X : Cx} {e0 e1 e2 : Expr} {ta : TA} {p pos tpos : Pos} {elts : List Expr} {kk : Nat} (hg : Gl X "zip") (hm : X.mg "zip" = none) (ha : PA X [e0, e1, e2] ta) (hs : starEach [e0, e1, e2] X.env = (false, eval e0 X.env) :: starEach [e1, e2] X.env) (hpl : (backTo pos (starEach [e1, e2] X.env)).any (·.1) = false) : PI X (.Tuple elts kk tpos) (.Call (.Name "zip" p) [e0, e1, e2] [] pos) (iZip3 X.K ta) := by
  constructor; intro pins s σ H R I h
  refine Call_ (ld_blt I hg hm PyProof.Rows.boot_zip (PyProof.Rows.callWith_type1 (thn (ha.run pos pins s σ H _ I h) fun us s1 ⟨vs, H1, I1, rr, qq⟩ => ?_) hs hpl))
  obtain ⟨a0, a1, a2, l0, l1, l2, rfl, q0, q1, q2, q⟩ := qq
  obtain rfl : us = [.ref a0, .ref a1, .ref a2] := by
    cases rr with
    | cons k0 rr =>
      cases rr with
      | cons k1 rr =>
        cases rr with
        | cons k2 rr =>
          cases rr; cases k0; cases k1; cases k2; rfl
  obtain ⟨u0, r0, p0, _⟩ := I1.tuple q0; have m0 : a0 < s1.heap.objs.size := by obtain ⟨o, ho, _⟩ := id (show s1.heap.IsTuple a0 u0.toArray from p0); exact Heap.lt_size ho
  obtain ⟨u1, r1, p1, _⟩ := I1.tuple q1; have m1 : a1 < s1.heap.objs.size := by obtain ⟨o, ho, _⟩ := id (show s1.heap.IsTuple a1 u1.toArray from p1); exact Heap.lt_size ho
  obtain ⟨u2, r2, p2, _⟩ := I1.tuple q2; have m2 : a2 < s1.heap.objs.size := by obtain ⟨o, ho, _⟩ := id (show s1.heap.IsTuple a2 u2.toArray from p2); exact Heap.lt_size ho
  refine bg3 p0 p1 p2 fun h1 hz ti to g0 g1 g2 hk => wpAny_pyIter_zip hz ?_
  have J : L2.Inv X pins σ H1 { s1 with heap := h1 } := I1.kept (t' := s1.toks) hk
  have fp : ∀ c, c ∈ [s1.heap.objs.size + 5, s1.heap.objs.size + 3, s1.heap.objs.size + 4, s1.heap.objs.size, s1.heap.objs.size + 1, s1.heap.objs.size + 2] → FpOk X pins H1 c := fun c hc => by
    have le : s1.heap.objs.size ≤ c := by simp only [List.mem_cons, List.not_mem_nil, or_false] at hc; rcases hc with rfl | rfl | rfl | rfl | rfl | rfl <;> first | exact Nat.le_add_right _ _ | exact Nat.le_refl _
    exact I1.fpOk le (I1.hok.fresh le)
  exact ⟨_, _, _, _, H1, rfl, J, turn_zip3 m0 m1 m2, ⟨hz, ti, ⟨_, _, _, to⟩, ⟨_, g0, rfl, rfl⟩, ⟨_, g1, rfl, rfl⟩, ⟨_, g2, rfl, rfl⟩⟩, fp, q⟩
section
variable [τ : Tbl]
def zd3 : List PyData → List PyData → List PyData → List D
  | x0 :: r0, x1 :: r1, x2 :: r2 => .dat (.tuple [x0, x1, x2]) :: zd3 r0 r1 r2
  | _, _, _ => []
theorem zd3_at : ∀ {l0 l1 l2 : List PyData} {i : Nat}, i < (zd3 l0 l1 l2).length → ∃ x0 x1 x2, l0[i]? = some x0 ∧ l1[i]? = some x1 ∧ l2[i]? = some x2 ∧ (zd3 l0 l1 l2)[i]? = some (.dat (.tuple [x0, x1, x2]))
  | [], _, _, i, h => by first | exact absurd h (Nat.not_lt_zero _) | cases h
  | _ :: _, [], _, i, h => by first | exact absurd h (Nat.not_lt_zero _) | cases h
  | _ :: _, _ :: _, [], i, h => by first | exact absurd h (Nat.not_lt_zero _) | cases h
  | x0 :: r0, x1 :: r1, x2 :: r2, 0, h => ⟨x0, x1, x2, rfl, rfl, rfl, rfl⟩
  | x0 :: r0, x1 :: r1, x2 :: r2, i + 1, h => zd3_at (l0 := r0) (l1 := r1) (l2 := r2) (i := i) (Nat.lt_of_succ_lt_succ h)
theorem zd3_len : ∀ l0 l1 l2 : List PyData, (zd3 l0 l1 l2).length ≤ l0.length ∧ (zd3 l0 l1 l2).length ≤ l1.length ∧ (zd3 l0 l1 l2).length ≤ l2.length ∧ ((zd3 l0 l1 l2).length = l0.length ∨ (zd3 l0 l1 l2).length = l1.length ∨ (zd3 l0 l1 l2).length = l2.length)
  | [], _, _ => by simp [zd3]
  | _ :: _, [], _ => by simp [zd3]
  | _ :: _, _ :: _, [] => by simp [zd3]
  | x0 :: r0, x1 :: r1, x2 :: r2 => by
    obtain ⟨b0, b1, b2, h⟩ := zd3_len r0 r1 r2
    simp only [zd3, List.length_cons]; omega
def zipF3 : List D → M Src
  | [.dat (.tuple l0), .dat (.tuple l1), .dat (.tuple l2)] => fun st => .ok ⟨zd3 l0 l1 l2, fun _ => True⟩ st
  | _ => M.bad
def mZip3 (m : Env → M (List D)) : Env → M Src := fun ρ => M.bind (m ρ) zipF3
theorem wk_zip3 {K : PySem.W.Frag} {mg : Str → Option Value} {R : Rg} {H : Hp} {st : Sto} {s : Src} {a0 a1 a2 : Addr} {l0 l1 l2 : List PyData} (hs : s.items = zd3 l0 l1 l2) (q : ∀ R2 H2 st2, Lat R H st R2 H2 st2 → (∃ vs, SqT K H2 a0 vs ∧ PdA K (Own R2 st2) H2 vs l0) ∧ (∃ vs, SqT K H2 a1 vs ∧ PdA K (Own R2 st2) H2 vs l1) ∧ (∃ vs, SqT K H2 a2 vs ∧ PdA K (Own R2 st2) H2 vs l2)) : Wk K mg R st H (Itz3 K a0 a1 a2) s := by
  obtain ⟨b0, b1, b2, be⟩ := zd3_len l0 l1 l2; rw [← hs] at b0 b1 b2 be
  refine ⟨fun i R2 H2 st2 hi E S o => ?_, fun R2 H2 st2 E S o => ?_, fun i R2 H2 st2 x H3 hi E S o ⟨T, v0, v1, v2, ex, hT, e2, y0, y1, y2⟩ => ?_⟩
  · skip
    obtain ⟨⟨w0, h0, p0⟩, ⟨w1, h1, p1⟩, ⟨w2, h2, p2⟩⟩ := q R2 H2 st2 E
    have g0 : i < w0.length := by rw [p0.len]; omega
    have g1 : i < w1.length := by rw [p1.len]; omega
    have g2 : i < w2.length := by rw [p2.len]; omega
    exact ⟨w0, w1, w2, w0[i], w1[i], w2[i], h0, h1, h2, by simp [g0], by simp [g1], by simp [g2]⟩
  · skip
    obtain ⟨⟨w0, h0, p0⟩, ⟨w1, h1, p1⟩, ⟨w2, h2, p2⟩⟩ := q R2 H2 st2 E
    have g0 := p0.len
    have g1 := p1.len
    have g2 := p2.len
    exact ⟨w0, w1, w2, h0, h1, h2, by omega, by omega, by omega, by omega⟩
  · skip
    obtain ⟨⟨w0, h0, p0⟩, ⟨w1, h1, p1⟩, ⟨w2, h2, p2⟩⟩ := q R2 H2 st2 E
    rw [hs] at hi ⊢; obtain ⟨d0, d1, d2, f0, f1, f2, ee⟩ := zd3_at hi; subst ex e2
    obtain ⟨c0, c0a, c0b⟩ := p0.at_ f0; have := y0 w0 h0; rw [c0a] at this; cases this
    obtain ⟨c1, c1a, c1b⟩ := p1.at_ f1; have := y1 w1 h1; rw [c1a] at this; cases this
    obtain ⟨c2, c2a, c2b⟩ := p2.at_ f2; have := y2 w2 h2; rw [c2a] at this; cases this
    exact ⟨.new hT, S.new hT, .dat (.tuple [d0, d1, d2]), ee, newTup S hT (.cons c0b (.cons c1b (.cons c2b .nil)))⟩
theorem evi_zip3 {X : Cx} {W : WX} {e0 e1 e2 : Expr} {ms : Env → M (List D)} {p pos tpos : Pos} {elts : List Expr} {kk : Nat} (hm : X.mg "zip" = none) (ha : EVA X W [e0, e1, e2] ms) (hg : Gl X "zip" := by exact rfl) (hs : starEach [e0, e1, e2] X.env = (false, eval e0 X.env) :: starEach [e1, e2] X.env := by rfl) (hpl : (backTo pos (starEach [e1, e2] X.env)).any (·.1) = false := by rfl) : EVI X W (.Tuple elts kk tpos) (.Call (.Name "zip" p) [e0, e1, e2] [] pos) (mZip3 ms) := by
  refine ⟨PI.imp (pi_zip3 hg hm ha.pa hs hpl) fun σ H Q ⟨R, ρ, st, S, E, h⟩ => ?_⟩
  refine ⟨R, ρ, st, S, E, (Post.bind (Rel := DvA X.K X.mg) (Rel2 := RelI X.K X.mg) h).monoQ fun vs H1 ⟨R1, st1, ds, x1, S1, D1, h1⟩ => ?_⟩
  unfold zipF3 at h1; split at h1
  · rename_i l0 l1 l2
    cases D1 with
    | cons A0 D1 =>
      cases D1 with
      | cons A1 D1 =>
        cases D1 with
        | cons A2 D1 =>
          cases D1
          have A0 : Pd X.K (Own R1 st1) H1 _ (.tuple l0) := A0
          have A1 : Pd X.K (Own R1 st1) H1 _ (.tuple l1) := A1
          have A2 : Pd X.K (Own R1 st1) H1 _ (.tuple l2) := A2
          cases A0 with
          | tup s0 t0 =>
            cases A1 with
            | tup s1 t1 =>
              cases A2 with
              | tup s2 t2 =>
                exact ⟨_, _, _, _, _, _, rfl, s0.seq, s1.seq, s2.seq, h1.okR S1 (wk_zip3 rfl fun R2 H2 st2 E2 => ⟨⟨_, (s0.stays E2.stays).seq, t0.stays E2.stays⟩, ⟨_, (s1.stays E2.stays).seq, t1.stays E2.stays⟩, ⟨_, (s2.stays E2.stays).seq, t2.stays E2.stays⟩⟩)⟩
  · exact h1.elim
end
/-! 4 tuples: zip begins -/
section
abbrev hp4_0 (h : Heap) (a0 a1 a2 a3 : Addr) : Heap := h
abbrev hp4_1 (h : Heap) (a0 a1 a2 a3 : Addr) : Heap := (hp4_0 h a0 a1 a2 a3).push (itO a0)
abbrev hp4_2 (h : Heap) (a0 a1 a2 a3 : Addr) : Heap := (hp4_1 h a0 a1 a2 a3).push (itO a1)
abbrev hp4_3 (h : Heap) (a0 a1 a2 a3 : Addr) : Heap := (hp4_2 h a0 a1 a2 a3).push (itO a2)
abbrev hp4_4 (h : Heap) (a0 a1 a2 a3 : Addr) : Heap := (hp4_3 h a0 a1 a2 a3).push (itO a3)
abbrev hT4 (h : Heap) (a0 a1 a2 a3 : Addr) : Heap := (hp4_4 h a0 a1 a2 a3).push { cls := .type "tuple", data := .seq #[.ref (hp4_0 h a0 a1 a2 a3).objs.size, .ref (hp4_1 h a0 a1 a2 a3).objs.size, .ref (hp4_2 h a0 a1 a2 a3).objs.size, .ref (hp4_3 h a0 a1 a2 a3).objs.size] }
abbrev hO4 (h : Heap) (a0 a1 a2 a3 : Addr) : Heap := (hT4 h a0 a1 a2 a3).push { cls := .type "tuple", data := .seq #[.none, .none, .none, .none] }
abbrev hZ4 (h : Heap) (a0 a1 a2 a3 : Addr) : Heap := (hO4 h a0 a1 a2 a3).push { cls := .type "zip", data := .fields #[.none, .bool false, .bool false, .ref (hp4_4 h a0 a1 a2 a3).objs.size, .ref (hT4 h a0 a1 a2 a3).objs.size] }
theorem tc4 (x0 x1 x2 x3 : Value) : checkTypeCall "zip" ⟨[x0, x1, x2, x3], []⟩ = pure () := by kernel_rfl
theorem nc4 (x0 x1 x2 x3 : Value) : checkBuiltinCall "zip.__new__" ⟨[.type "zip", x0, x1, x2, x3], []⟩ = pure () := by kernel_rfl
theorem oc4 (o x0 x1 x2 x3 : Value) : argsOk "object.__init__" ⟨[o, x0, x1, x2, x3], []⟩ := by unfold argsOk; kernel_rfl
theorem mt4 {a0 a1 a2 a3 : Addr} {u0 u1 u2 u3 : Array Value} : Meets (Builtin.«zip.__new__» ⟨[.type "zip", .ref a0, .ref a1, .ref a2, .ref a3], []⟩) (fun _ R s => (s.heap.IsTuple a0 u0 ∧ s.heap.IsTuple a1 u1 ∧ s.heap.IsTuple a2 u2 ∧ s.heap.IsTuple a3 u3) ∧ R (.ok (.ret (.ref (hO4 s.heap a0 a1 a2 a3).objs.size))) { s with heap := hZ4 s.heap a0 a1 a2 a3 }) :=
  .of_wp fun prog w A R s h => by
    obtain ⟨hp, gs, d, tk, os⟩ := s; obtain ⟨⟨h0, h1, h2, h3⟩, h⟩ := h
    have hsub := sub_zip; skip
    have q0 : ∀ {A2 : Around} {E Q : Value → Shared → Prop}, Q (.ref (hp4_0 hp a0 a1 a2 a3).objs.size) ⟨(hp4_1 hp a0 a1 a2 a3), gs, d, tk, os⟩ → wpAny (model prog w) A2 (pyIter (.ref a0)) Q E ⟨(hp4_0 hp a0 a1 a2 a3), gs, d, tk, os⟩ := fun q => (begins_tuple a0 u0).iter prog w _ _ ⟨(hp4_0 hp a0 a1 a2 a3), gs, d, tk, os⟩ _ ((begins_tuple a0 u0).keeps _ _ h0 fun b o2 e => e) q
    have q1 : ∀ {A2 : Around} {E Q : Value → Shared → Prop}, Q (.ref (hp4_1 hp a0 a1 a2 a3).objs.size) ⟨(hp4_2 hp a0 a1 a2 a3), gs, d, tk, os⟩ → wpAny (model prog w) A2 (pyIter (.ref a1)) Q E ⟨(hp4_1 hp a0 a1 a2 a3), gs, d, tk, os⟩ := fun q => (begins_tuple a1 u1).iter prog w _ _ ⟨(hp4_1 hp a0 a1 a2 a3), gs, d, tk, os⟩ _ ((begins_tuple a1 u1).keeps _ _ h1 fun b o2 e => (Heap.get?_push_of_some _ e)) q
    have q2 : ∀ {A2 : Around} {E Q : Value → Shared → Prop}, Q (.ref (hp4_2 hp a0 a1 a2 a3).objs.size) ⟨(hp4_3 hp a0 a1 a2 a3), gs, d, tk, os⟩ → wpAny (model prog w) A2 (pyIter (.ref a2)) Q E ⟨(hp4_2 hp a0 a1 a2 a3), gs, d, tk, os⟩ := fun q => (begins_tuple a2 u2).iter prog w _ _ ⟨(hp4_2 hp a0 a1 a2 a3), gs, d, tk, os⟩ _ ((begins_tuple a2 u2).keeps _ _ h2 fun b o2 e => (Heap.get?_push_of_some _ (Heap.get?_push_of_some _ e))) q
    have q3 : ∀ {A2 : Around} {E Q : Value → Shared → Prop}, Q (.ref (hp4_3 hp a0 a1 a2 a3).objs.size) ⟨(hp4_4 hp a0 a1 a2 a3), gs, d, tk, os⟩ → wpAny (model prog w) A2 (pyIter (.ref a3)) Q E ⟨(hp4_3 hp a0 a1 a2 a3), gs, d, tk, os⟩ := fun q => (begins_tuple a3 u3).iter prog w _ _ ⟨(hp4_3 hp a0 a1 a2 a3), gs, d, tk, os⟩ _ ((begins_tuple a3 u3).keeps _ _ h3 fun b o2 e => (Heap.get?_push_of_some _ (Heap.get?_push_of_some _ (Heap.get?_push_of_some _ e)))) q
    wp_walk using q0, q1, q2, q3
    exact ⟨_, rfl, h⟩
variable {prog : Program} {w : World} {A : Around} {E : Value → Shared → Prop} {s : Shared}
theorem bg4 {a0 a1 a2 a3 : Addr} {u0 u1 u2 u3 : Array Value} {Q : Value → Shared → Prop} (h0 : s.heap.IsTuple a0 u0) (h1 : s.heap.IsTuple a1 u1) (h2 : s.heap.IsTuple a2 u2) (h3 : s.heap.IsTuple a3 u3) (h : ∀ h1, IsZip h1 (s.heap.objs.size + 6) (s.heap.objs.size + 4) (s.heap.objs.size + 5) .none → Tp4 h1 (s.heap.objs.size + 4) (.ref s.heap.objs.size) (.ref (s.heap.objs.size + 1)) (.ref (s.heap.objs.size + 2)) (.ref (s.heap.objs.size + 3)) → Tp4 h1 (s.heap.objs.size + 5) .none .none .none .none → h1.get? s.heap.objs.size = some (itO a0) → h1.get? (s.heap.objs.size + 1) = some (itO a1) → h1.get? (s.heap.objs.size + 2) = some (itO a2) → h1.get? (s.heap.objs.size + 3) = some (itO a3) → (∀ c o, s.heap.get? c = some o → h1.get? c = some o) → Q (.ref (s.heap.objs.size + 6)) { s with heap := h1 }) : wpAny (model prog w) A (call (.type "zip") [.ref a0, .ref a1, .ref a2, .ref a3]) Q E s := by
  refine callType_new F.called_zip (by decide) (tc4 _ _ _ _) (nc4 _ _ _ _) (fun o => oc4 o _ _ _ _) F.entry_zip_new mt4 ⟨⟨h0, h1, h2, h3⟩, ?_⟩
  have z1 : (hp4_1 s.heap a0 a1 a2 a3).objs.size = s.heap.objs.size + 1 := by rw [Heap.size_push]
  have z2 : (hp4_2 s.heap a0 a1 a2 a3).objs.size = s.heap.objs.size + 2 := by rw [Heap.size_push, z1]
  have z3 : (hp4_3 s.heap a0 a1 a2 a3).objs.size = s.heap.objs.size + 3 := by rw [Heap.size_push, z2]
  have z4 : (hp4_4 s.heap a0 a1 a2 a3).objs.size = s.heap.objs.size + 4 := by rw [Heap.size_push, z3]
  have zT : (hT4 s.heap a0 a1 a2 a3).objs.size = s.heap.objs.size + 5 := by rw [Heap.size_push, z4]
  have zO : (hO4 s.heap a0 a1 a2 a3).objs.size = s.heap.objs.size + 6 := by rw [Heap.size_push, zT]
  have gZ : (hZ4 s.heap a0 a1 a2 a3).get? (hO4 s.heap a0 a1 a2 a3).objs.size = some { cls := .type "zip", data := .fields #[.none, .bool false, .bool false, .ref (hp4_4 s.heap a0 a1 a2 a3).objs.size, .ref (hT4 s.heap a0 a1 a2 a3).objs.size] } := Heap.get?_push_size _ rfl
  have gO : (hZ4 s.heap a0 a1 a2 a3).get? (hT4 s.heap a0 a1 a2 a3).objs.size = some { cls := .type "tuple", data := .seq #[.none, .none, .none, .none] } := Heap.get?_push_of_some _ (Heap.get?_push_size _ rfl)
  have gT : (hZ4 s.heap a0 a1 a2 a3).get? (hp4_4 s.heap a0 a1 a2 a3).objs.size = some { cls := .type "tuple", data := .seq #[.ref (hp4_0 s.heap a0 a1 a2 a3).objs.size, .ref (hp4_1 s.heap a0 a1 a2 a3).objs.size, .ref (hp4_2 s.heap a0 a1 a2 a3).objs.size, .ref (hp4_3 s.heap a0 a1 a2 a3).objs.size] } := Heap.get?_push_of_some _ (Heap.get?_push_of_some _ (Heap.get?_push_size _ rfl))
  have g0 : (hZ4 s.heap a0 a1 a2 a3).get? (hp4_0 s.heap a0 a1 a2 a3).objs.size = some (itO a0) := Heap.get?_push_of_some _ (Heap.get?_push_of_some _ (Heap.get?_push_of_some _ (Heap.get?_push_of_some _ (Heap.get?_push_of_some _ (Heap.get?_push_of_some _ (Heap.get?_push_size _ rfl))))))
  have g1 : (hZ4 s.heap a0 a1 a2 a3).get? (hp4_1 s.heap a0 a1 a2 a3).objs.size = some (itO a1) := Heap.get?_push_of_some _ (Heap.get?_push_of_some _ (Heap.get?_push_of_some _ (Heap.get?_push_of_some _ (Heap.get?_push_of_some _ (Heap.get?_push_size _ rfl)))))
  have g2 : (hZ4 s.heap a0 a1 a2 a3).get? (hp4_2 s.heap a0 a1 a2 a3).objs.size = some (itO a2) := Heap.get?_push_of_some _ (Heap.get?_push_of_some _ (Heap.get?_push_of_some _ (Heap.get?_push_of_some _ (Heap.get?_push_size _ rfl))))
  have g3 : (hZ4 s.heap a0 a1 a2 a3).get? (hp4_3 s.heap a0 a1 a2 a3).objs.size = some (itO a3) := Heap.get?_push_of_some _ (Heap.get?_push_of_some _ (Heap.get?_push_of_some _ (Heap.get?_push_size _ rfl)))
  rw [zO, zT, z4] at gZ; rw [zT] at gO
  rw [z4, z3, z2, z1] at gT
  rw [z1] at g1; skip
  rw [z2] at g2; skip
  rw [z3] at g3; skip
  show _ ∧ _; rw [zO]
  exact ⟨⟨_, gZ, rfl⟩, h _ gZ gT gO g0 g1 g2 g3 fun c o e => Heap.get?_push_of_some _ (Heap.get?_push_of_some _ (Heap.get?_push_of_some _ (Heap.get?_push_of_some _ (Heap.get?_push_of_some _ (Heap.get?_push_of_some _ (Heap.get?_push_of_some _ (e)))))))⟩
end
def Itz4 (K : PySem.W.Frag) (a0 a1 a2 a3 : Addr) : It :=
  ⟨fun i H => ∃ (l0 l1 l2 l3 : List V) (x0 x1 x2 x3 : V), SqT K H a0 l0 ∧ SqT K H a1 l1 ∧ SqT K H a2 l2 ∧ SqT K H a3 l3 ∧ l0[i]? = some x0 ∧ l1[i]? = some x1 ∧ l2[i]? = some x2 ∧ l3[i]? = some x3,
    fun i H v H2 => ∃ (T : Addr) (x0 x1 x2 x3 : V), v = .ref T ∧ H T = none ∧ H2 = upd H T (.tup [x0, x1, x2, x3]) ∧ (∀ l, SqT K H a0 l → l[i]? = some x0) ∧ (∀ l, SqT K H a1 l → l[i]? = some x1) ∧ (∀ l, SqT K H a2 l → l[i]? = some x2) ∧ (∀ l, SqT K H a3 l → l[i]? = some x3),
    fun i H => ∃ l0 l1 l2 l3 : List V, SqT K H a0 l0 ∧ SqT K H a1 l1 ∧ SqT K H a2 l2 ∧ SqT K H a3 l3 ∧ i ≤ l0.length ∧ i ≤ l1.length ∧ i ≤ l2.length ∧ i ≤ l3.length ∧ (i = l0.length ∨ i = l1.length ∨ i = l2.length ∨ i = l3.length)⟩
structure ZA4 (n a0 a1 a2 a3 : Nat) (i : Nat) (h : Heap) : Prop where
  zz : IsZip h (n + 6) (n + 4) (n + 5) .none
  zt : Tp4 h (n + 4) (.ref n) (.ref (n + 1)) (.ref (n + 2)) (.ref (n + 3))
  zo : ∃ y0 y1 y2 y3, Tp4 h (n + 5) y0 y1 y2 y3
  t0 : h.IsTupleIter n a0 i
  t1 : h.IsTupleIter (n + 1) a1 i
  t2 : h.IsTupleIter (n + 2) a2 i
  t3 : h.IsTupleIter (n + 3) a3 i
theorem turn_zip4 {P : Program} {w : World} {K : PySem.W.Frag} {elts : List Expr} {kk : Nat} {tpos : Pos} {n a0 a1 a2 a3 : Nat} (m0 : a0 < n) (m1 : a1 < n) (m2 : a2 < n) (m3 : a3 < n) : Turn P w K (.Tuple elts kk tpos) (Itz4 K a0 a1 a2 a3) [(n + 6), (n + 4), (n + 5), n, (n + 1), (n + 2), (n + 3)] (n + 6) (ZA4 n a0 a1 a2 a3) := by
  have cases_ : ∀ {c : Nat}, c ∈ ([(n + 6), (n + 4), (n + 5), n, (n + 1), (n + 2), (n + 3)] : List Nat) → c = (n + 6) ∨ c = (n + 4) ∨ c = (n + 5) ∨ c = n ∨ c = (n + 1) ∨ c = (n + 2) ∨ c = (n + 3) := fun {c} h => by simpa using h
  refine ⟨List.mem_cons_self, fun i h st c hc => ?_, fun i h h2 st k => ?_, ?_, ?_, fun A i s Q E st h => wpAny_pyIter_zip st.zz h⟩
  · obtain ⟨y0, y1, y2, y3, hto⟩ := st.zo
    obtain ⟨o0, e0, _, d0⟩ := st.t0
    obtain ⟨o1, e1, _, d1⟩ := st.t1
    obtain ⟨o2, e2, _, d2⟩ := st.t2
    obtain ⟨o3, e3, _, d3⟩ := st.t3
    rcases cases_ hc with rfl | rfl | rfl | rfl | rfl | rfl | rfl
    · exact ⟨_, st.zz, fun v q => nomatch q⟩
    · exact ⟨_, st.zt, fun v q => nomatch q⟩
    · exact ⟨_, hto, fun v q => nomatch q⟩
    · exact ⟨o0, e0, fun v q => by rw [d0] at q; cases q⟩
    · exact ⟨o1, e1, fun v q => by rw [d1] at q; cases q⟩
    · exact ⟨o2, e2, fun v q => by rw [d2] at q; cases q⟩
    · exact ⟨o3, e3, fun v q => by rw [d3] at q; cases q⟩
  · obtain ⟨y0, y1, y2, y3, hto⟩ := st.zo
    exact ⟨k (n + 6) (by simp) _ st.zz, k (n + 4) (by simp) _ st.zt, ⟨y0, y1, y2, y3, k (n + 5) (by simp) _ hto⟩, st.t0.at fun o q => k n (by simp) o q, st.t1.at fun o q => k (n + 1) (by simp) o q, st.t2.at fun o q => k (n + 2) (by simp) o q, st.t3.at fun o q => k (n + 3) (by simp) o q⟩
  · rintro X rfl rfl rfl calm i pins s σ H E I ff st ⟨l0, l1, l2, l3, x0, x1, x2, x3, q0, q1, q2, q3, hx0, hx1, hx2, hx3⟩
    obtain ⟨y0, y1, y2, y3, hto⟩ := st.zo
    obtain ⟨u0, r0, p0, _⟩ := I.tuple q0
    obtain ⟨u1, r1, p1, _⟩ := I.tuple q1
    obtain ⟨u2, r2, p2, _⟩ := I.tuple q2
    obtain ⟨u3, r3, p3, _⟩ := I.tuple q3
    obtain ⟨v0, f0, rv0⟩ := r0.get hx0
    obtain ⟨v1, f1, rv1⟩ := r1.get hx1
    obtain ⟨v2, f2, rv2⟩ := r2.get hx2
    obtain ⟨v3, f3, rv3⟩ := r3.get hx3
    have s0 : i < u0.toArray.size := by have := (List.getElem?_eq_some_iff.mp f0).1; simpa using this
    have s1 : i < u1.toArray.size := by have := (List.getElem?_eq_some_iff.mp f1).1; simpa using this
    have s2 : i < u2.toArray.size := by have := (List.getElem?_eq_some_iff.mp f2).1; simpa using this
    have s3 : i < u3.toArray.size := by have := (List.getElem?_eq_some_iff.mp f3).1; simpa using this
    refine py4_item (I.ok.hd calm) m0 m1 m2 m3 st.zz st.zt hto ⟨⟨st.t0, p0⟩, ⟨st.t1, p1⟩, ⟨st.t2, p2⟩, ⟨st.t3, p3⟩⟩ s0 s1 s2 s3 fun w0 w1 w2 w3 h1 tk g0 g1 g2 g3 z2 o2 j2 hT sz hk => ?_
    have e0 : u0[i]? = some w0 := by simpa using g0
    rw [f0] at e0; obtain rfl : v0 = w0 := Option.some.inj e0
    have e1 : u1[i]? = some w1 := by simpa using g1
    rw [f1] at e1; obtain rfl : v1 = w1 := Option.some.inj e1
    have e2 : u2[i]? = some w2 := by simpa using g2
    rw [f2] at e2; obtain rfl : v2 = w2 := Option.some.inj e2
    have e3 : u3[i]? = some w3 := by simpa using g3
    rw [f3] at e3; obtain rfl : v3 = w3 := Option.some.inj e3
    have lz : (n + 6) < s.heap.objs.size := Heap.lt_size st.zz
    refine ⟨_, rfl, wpAny_letOwnedTupleGo_zip (s := { s with heap := h1, toks := tk }) z2 fun h2 z3 sb => ?_⟩
    have fresh : H s.heap.objs.size = none := I.hok.fresh (Nat.le_refl _); skip
    have atT : h2.get? s.heap.objs.size = some { cls := .type "tuple", data := .seq #[v0, v1, v2, v3] } := (sb.2 _ (Nat.ne_of_gt lz)).trans hT
    have newT : ObjOk X.prog X.w (upd H s.heap.objs.size (.tup [x0, x1, x2, x3])) h2 s.heap.objs.size (.tup [x0, x1, x2, x3]) := ⟨by show 4 ≤ sizeLine; decide, [v0, v1, v2, v3], (.cons rv0 (.cons rv1 (.cons rv2 (.cons rv3 .nil)))), ⟨_, atT, rfl, _, rfl⟩⟩
    have kept : ∀ c o, c ∉ ([(n + 6), (n + 4), (n + 5), n, (n + 1), (n + 2), (n + 3)] : List Nat) → s.heap.get? c = some o → h2.get? c = some o := fun c o nc q => by
      simp only [List.mem_cons, List.not_mem_nil, or_false, not_or] at nc; obtain ⟨c1, c2, c3, e0, e1, e2, e3⟩ := nc
      exact (sb.2 c c1).trans (hk c o c1 c3 e0 e1 e2 e3 q)
    have J : L2.Inv X pins σ (upd H s.heap.objs.size (.tup [x0, x1, x2, x3])) { s with heap := h2, toks := tk } := I.turnedNew (ch := [(n + 6), (n + 4), (n + 5), n, (n + 1), (n + 2), (n + 3)]) (fun c o nc q => kept c o nc q) ff (Nat.le_refl _) newT
    have old : ∀ c ∈ ([(n + 6), (n + 4), (n + 5), n, (n + 1), (n + 2), (n + 3)] : List Nat), c ≠ s.heap.objs.size := fun c hc => by rcases cases_ hc with rfl | rfl | rfl | rfl | rfl | rfl | rfl <;> omega
    refine ⟨.ref s.heap.objs.size, _, J, rfl, ⟨_, x0, x1, x2, x3, rfl, fresh, rfl, fun l hl => by rw [I.tuple_inj hl q0]; exact hx0, fun l hl => by rw [I.tuple_inj hl q1]; exact hx1, fun l hl => by rw [I.tuple_inj hl q2]; exact hx2, fun l hl => by rw [I.tuple_inj hl q3]; exact hx3⟩, ⟨z3, ?_, ⟨v0, v1, v2, v3, ?_⟩, ?_, ?_, ?_, ?_⟩, fun c hc => ?_⟩
    · exact (sb.2 _ (apart_ (by omega))).trans (hk _ _ (apart_ (by omega)) (apart_ (by omega)) (apart_ (by omega)) (apart_ (by omega)) (apart_ (by omega)) (apart_ (by omega)) st.zt)
    · exact (sb.2 _ (apart_ (by omega))).trans o2
    · exact j2.1.1.at fun o q => (sb.2 _ (apart_ (by omega))).trans q
    · exact j2.2.1.1.at fun o q => (sb.2 _ (apart_ (by omega))).trans q
    · exact j2.2.2.1.1.at fun o q => (sb.2 _ (apart_ (by omega))).trans q
    · exact j2.2.2.2.1.at fun o q => (sb.2 _ (apart_ (by omega))).trans q
    · rw [upd_ne (old c hc)]; exact (ff c hc).1
  · rintro X rfl rfl rfl calm i pins s σ H E I ff st ⟨l0, l1, l2, l3, q0, q1, q2, q3, le0, le1, le2, le3, over⟩
    obtain ⟨y0, y1, y2, y3, hto⟩ := st.zo
    obtain ⟨u0, r0, p0, _⟩ := I.tuple q0
    obtain ⟨u1, r1, p1, _⟩ := I.tuple q1
    obtain ⟨u2, r2, p2, _⟩ := I.tuple q2
    obtain ⟨u3, r3, p3, _⟩ := I.tuple q3
    have n0 := r0.length
    have n1 := r1.length
    have n2 := r2.length
    have n3 := r3.length
    refine py4_end (I.ok.hd calm) m0 m1 m2 m3 st.zz st.zt hto ⟨⟨st.t0, p0⟩, ⟨st.t1, p1⟩, ⟨st.t2, p2⟩, ⟨st.t3, p3⟩⟩ (by rw [List.size_toArray]; omega) (by rw [List.size_toArray]; omega) (by rw [List.size_toArray]; omega) (by rw [List.size_toArray]; omega) (by simp only [List.size_toArray]; omega) fun h1 tk hk => ⟨rfl, ?_⟩
    exact I.turnedL (t' := tk) (ch := [(n + 6), (n + 4), (n + 5), n, (n + 1), (n + 2), (n + 3)]) (fun c o nc q => by
      simp only [List.mem_cons, List.not_mem_nil, or_false, not_or] at nc; obtain ⟨c1, c2, c3, e0, e1, e2, e3⟩ := nc
      exact hk c o c1 c3 e0 e1 e2 e3 q) ff
def iZip4 (K : PySem.W.Frag) (ta : TA) : TI := fun σ H R => ta σ H fun vs H1 => ∃ a0 a1 a2 a3 l0 l1 l2 l3, vs = [.ref a0, .ref a1, .ref a2, .ref a3] ∧ SqT K H1 a0 l0 ∧ SqT K H1 a1 l1 ∧ SqT K H1 a2 l2 ∧ SqT K H1 a3 l3 ∧ R (Itz4 K a0 a1 a2 a3) H1
theorem pi_zip4 {X : Cx} {e0 e1 e2 e3 : Expr} {ta : TA} {p pos tpos : Pos} {elts : List Expr} {kk : Nat} (hg : Gl X "zip") (hm : X.mg "zip" = none) (ha : PA X [e0, e1, e2, e3] ta) (hs : starEach [e0, e1, e2, e3] X.env = (false, eval e0 X.env) :: starEach [e1, e2, e3] X.env) (hpl : (backTo pos (starEach [e1, e2, e3] X.env)).any (·.1) = false) : PI X (.Tuple elts kk tpos) (.Call (.Name "zip" p) [e0, e1, e2, e3] [] pos) (iZip4 X.K ta) := by
  constructor; intro pins s σ H R I h
  refine Call_ (ld_blt I hg hm PyProof.Rows.boot_zip (PyProof.Rows.callWith_type1 (thn (ha.run pos pins s σ H _ I h) fun us s1 ⟨vs, H1, I1, rr, qq⟩ => ?_) hs hpl))
  obtain ⟨a0, a1, a2, a3, l0, l1, l2, l3, rfl, q0, q1, q2, q3, q⟩ := qq
  obtain rfl : us = [.ref a0, .ref a1, .ref a2, .ref a3] := by
    cases rr with
    | cons k0 rr =>
      cases rr with
      | cons k1 rr =>
        cases rr with
        | cons k2 rr =>
          cases rr with
          | cons k3 rr =>
            cases rr; cases k0; cases k1; cases k2; cases k3; rfl
  obtain ⟨u0, r0, p0, _⟩ := I1.tuple q0; have m0 : a0 < s1.heap.objs.size := by obtain ⟨o, ho, _⟩ := id (show s1.heap.IsTuple a0 u0.toArray from p0); exact Heap.lt_size ho
  obtain ⟨u1, r1, p1, _⟩ := I1.tuple q1; have m1 : a1 < s1.heap.objs.size := by obtain ⟨o, ho, _⟩ := id (show s1.heap.IsTuple a1 u1.toArray from p1); exact Heap.lt_size ho
  obtain ⟨u2, r2, p2, _⟩ := I1.tuple q2; have m2 : a2 < s1.heap.objs.size := by obtain ⟨o, ho, _⟩ := id (show s1.heap.IsTuple a2 u2.toArray from p2); exact Heap.lt_size ho
  obtain ⟨u3, r3, p3, _⟩ := I1.tuple q3; have m3 : a3 < s1.heap.objs.size := by obtain ⟨o, ho, _⟩ := id (show s1.heap.IsTuple a3 u3.toArray from p3); exact Heap.lt_size ho
  refine bg4 p0 p1 p2 p3 fun h1 hz ti to g0 g1 g2 g3 hk => wpAny_pyIter_zip hz ?_
  have J : L2.Inv X pins σ H1 { s1 with heap := h1 } := I1.kept (t' := s1.toks) hk
  have fp : ∀ c, c ∈ [s1.heap.objs.size + 6, s1.heap.objs.size + 4, s1.heap.objs.size + 5, s1.heap.objs.size, s1.heap.objs.size + 1, s1.heap.objs.size + 2, s1.heap.objs.size + 3] → FpOk X pins H1 c := fun c hc => by
    have le : s1.heap.objs.size ≤ c := by simp only [List.mem_cons, List.not_mem_nil, or_false] at hc; rcases hc with rfl | rfl | rfl | rfl | rfl | rfl | rfl <;> first | exact Nat.le_add_right _ _ | exact Nat.le_refl _
    exact I1.fpOk le (I1.hok.fresh le)
  exact ⟨_, _, _, _, H1, rfl, J, turn_zip4 m0 m1 m2 m3, ⟨hz, ti, ⟨_, _, _, _, to⟩, ⟨_, g0, rfl, rfl⟩, ⟨_, g1, rfl, rfl⟩, ⟨_, g2, rfl, rfl⟩, ⟨_, g3, rfl, rfl⟩⟩, fp, q⟩
section
variable [τ : Tbl]
def zd4 : List PyData → List PyData → List PyData → List PyData → List D
  | x0 :: r0, x1 :: r1, x2 :: r2, x3 :: r3 => .dat (.tuple [x0, x1, x2, x3]) :: zd4 r0 r1 r2 r3
  | _, _, _, _ => []
theorem zd4_at : ∀ {l0 l1 l2 l3 : List PyData} {i : Nat}, i < (zd4 l0 l1 l2 l3).length → ∃ x0 x1 x2 x3, l0[i]? = some x0 ∧ l1[i]? = some x1 ∧ l2[i]? = some x2 ∧ l3[i]? = some x3 ∧ (zd4 l0 l1 l2 l3)[i]? = some (.dat (.tuple [x0, x1, x2, x3]))
  | [], _, _, _, i, h => by first | exact absurd h (Nat.not_lt_zero _) | cases h
  | _ :: _, [], _, _, i, h => by first | exact absurd h (Nat.not_lt_zero _) | cases h
  | _ :: _, _ :: _, [], _, i, h => by first | exact absurd h (Nat.not_lt_zero _) | cases h
  | _ :: _, _ :: _, _ :: _, [], i, h => by first | exact absurd h (Nat.not_lt_zero _) | cases h
  | x0 :: r0, x1 :: r1, x2 :: r2, x3 :: r3, 0, h => ⟨x0, x1, x2, x3, rfl, rfl, rfl, rfl, rfl⟩
  | x0 :: r0, x1 :: r1, x2 :: r2, x3 :: r3, i + 1, h => zd4_at (l0 := r0) (l1 := r1) (l2 := r2) (l3 := r3) (i := i) (Nat.lt_of_succ_lt_succ h)
theorem zd4_len : ∀ l0 l1 l2 l3 : List PyData, (zd4 l0 l1 l2 l3).length ≤ l0.length ∧ (zd4 l0 l1 l2 l3).length ≤ l1.length ∧ (zd4 l0 l1 l2 l3).length ≤ l2.length ∧ (zd4 l0 l1 l2 l3).length ≤ l3.length ∧ ((zd4 l0 l1 l2 l3).length = l0.length ∨ (zd4 l0 l1 l2 l3).length = l1.length ∨ (zd4 l0 l1 l2 l3).length = l2.length ∨ (zd4 l0 l1 l2 l3).length = l3.length)
  | [], _, _, _ => by simp [zd4]
  | _ :: _, [], _, _ => by simp [zd4]
  | _ :: _, _ :: _, [], _ => by simp [zd4]
  | _ :: _, _ :: _, _ :: _, [] => by simp [zd4]
  | x0 :: r0, x1 :: r1, x2 :: r2, x3 :: r3 => by
    obtain ⟨b0, b1, b2, b3, h⟩ := zd4_len r0 r1 r2 r3
    simp only [zd4, List.length_cons]; omega
def zipF4 : List D → M Src
  | [.dat (.tuple l0), .dat (.tuple l1), .dat (.tuple l2), .dat (.tuple l3)] => fun st => .ok ⟨zd4 l0 l1 l2 l3, fun _ => True⟩ st
  | _ => M.bad
def mZip4 (m : Env → M (List D)) : Env → M Src := fun ρ => M.bind (m ρ) zipF4
theorem wk_zip4 {K : PySem.W.Frag} {mg : Str → Option Value} {R : Rg} {H : Hp} {st : Sto} {s : Src} {a0 a1 a2 a3 : Addr} {l0 l1 l2 l3 : List PyData} (hs : s.items = zd4 l0 l1 l2 l3) (q : ∀ R2 H2 st2, Lat R H st R2 H2 st2 → (∃ vs, SqT K H2 a0 vs ∧ PdA K (Own R2 st2) H2 vs l0) ∧ (∃ vs, SqT K H2 a1 vs ∧ PdA K (Own R2 st2) H2 vs l1) ∧ (∃ vs, SqT K H2 a2 vs ∧ PdA K (Own R2 st2) H2 vs l2) ∧ (∃ vs, SqT K H2 a3 vs ∧ PdA K (Own R2 st2) H2 vs l3)) : Wk K mg R st H (Itz4 K a0 a1 a2 a3) s := by
  obtain ⟨b0, b1, b2, b3, be⟩ := zd4_len l0 l1 l2 l3; rw [← hs] at b0 b1 b2 b3 be
  refine ⟨fun i R2 H2 st2 hi E S o => ?_, fun R2 H2 st2 E S o => ?_, fun i R2 H2 st2 x H3 hi E S o ⟨T, v0, v1, v2, v3, ex, hT, e2, y0, y1, y2, y3⟩ => ?_⟩
  · skip
    obtain ⟨⟨w0, h0, p0⟩, ⟨w1, h1, p1⟩, ⟨w2, h2, p2⟩, ⟨w3, h3, p3⟩⟩ := q R2 H2 st2 E
    have g0 : i < w0.length := by rw [p0.len]; omega
    have g1 : i < w1.length := by rw [p1.len]; omega
    have g2 : i < w2.length := by rw [p2.len]; omega
    have g3 : i < w3.length := by rw [p3.len]; omega
    exact ⟨w0, w1, w2, w3, w0[i], w1[i], w2[i], w3[i], h0, h1, h2, h3, by simp [g0], by simp [g1], by simp [g2], by simp [g3]⟩
  · skip
    obtain ⟨⟨w0, h0, p0⟩, ⟨w1, h1, p1⟩, ⟨w2, h2, p2⟩, ⟨w3, h3, p3⟩⟩ := q R2 H2 st2 E
    have g0 := p0.len
    have g1 := p1.len
    have g2 := p2.len
    have g3 := p3.len
    exact ⟨w0, w1, w2, w3, h0, h1, h2, h3, by omega, by omega, by omega, by omega, by omega⟩
  · skip
    obtain ⟨⟨w0, h0, p0⟩, ⟨w1, h1, p1⟩, ⟨w2, h2, p2⟩, ⟨w3, h3, p3⟩⟩ := q R2 H2 st2 E
    rw [hs] at hi ⊢; obtain ⟨d0, d1, d2, d3, f0, f1, f2, f3, ee⟩ := zd4_at hi; subst ex e2
    obtain ⟨c0, c0a, c0b⟩ := p0.at_ f0; have := y0 w0 h0; rw [c0a] at this; cases this
    obtain ⟨c1, c1a, c1b⟩ := p1.at_ f1; have := y1 w1 h1; rw [c1a] at this; cases this
    obtain ⟨c2, c2a, c2b⟩ := p2.at_ f2; have := y2 w2 h2; rw [c2a] at this; cases this
    obtain ⟨c3, c3a, c3b⟩ := p3.at_ f3; have := y3 w3 h3; rw [c3a] at this; cases this
    exact ⟨.new hT, S.new hT, .dat (.tuple [d0, d1, d2, d3]), ee, newTup S hT (.cons c0b (.cons c1b (.cons c2b (.cons c3b .nil))))⟩
theorem evi_zip4 {X : Cx} {W : WX} {e0 e1 e2 e3 : Expr} {ms : Env → M (List D)} {p pos tpos : Pos} {elts : List Expr} {kk : Nat} (hm : X.mg "zip" = none) (ha : EVA X W [e0, e1, e2, e3] ms) (hg : Gl X "zip" := by exact rfl) (hs : starEach [e0, e1, e2, e3] X.env = (false, eval e0 X.env) :: starEach [e1, e2, e3] X.env := by rfl) (hpl : (backTo pos (starEach [e1, e2, e3] X.env)).any (·.1) = false := by rfl) : EVI X W (.Tuple elts kk tpos) (.Call (.Name "zip" p) [e0, e1, e2, e3] [] pos) (mZip4 ms) := by
  refine ⟨PI.imp (pi_zip4 hg hm ha.pa hs hpl) fun σ H Q ⟨R, ρ, st, S, E, h⟩ => ?_⟩
  refine ⟨R, ρ, st, S, E, (Post.bind (Rel := DvA X.K X.mg) (Rel2 := RelI X.K X.mg) h).monoQ fun vs H1 ⟨R1, st1, ds, x1, S1, D1, h1⟩ => ?_⟩
  unfold zipF4 at h1; split at h1
  · rename_i l0 l1 l2 l3
    cases D1 with
    | cons A0 D1 =>
      cases D1 with
      | cons A1 D1 =>
        cases D1 with
        | cons A2 D1 =>
          cases D1 with
          | cons A3 D1 =>
            cases D1
            have A0 : Pd X.K (Own R1 st1) H1 _ (.tuple l0) := A0
            have A1 : Pd X.K (Own R1 st1) H1 _ (.tuple l1) := A1
            have A2 : Pd X.K (Own R1 st1) H1 _ (.tuple l2) := A2
            have A3 : Pd X.K (Own R1 st1) H1 _ (.tuple l3) := A3
            cases A0 with
            | tup s0 t0 =>
              cases A1 with
              | tup s1 t1 =>
                cases A2 with
                | tup s2 t2 =>
                  cases A3 with
                  | tup s3 t3 =>
                    exact ⟨_, _, _, _, _, _, _, _, rfl, s0.seq, s1.seq, s2.seq, s3.seq, h1.okR S1 (wk_zip4 rfl fun R2 H2 st2 E2 => ⟨⟨_, (s0.stays E2.stays).seq, t0.stays E2.stays⟩, ⟨_, (s1.stays E2.stays).seq, t1.stays E2.stays⟩, ⟨_, (s2.stays E2.stays).seq, t2.stays E2.stays⟩, ⟨_, (s3.stays E2.stays).seq, t3.stays E2.stays⟩⟩)⟩
  · exact h1.elim
end
end Ev
set_option Elab.async false
set_option linter.all false
set_option maxRecDepth 100000
set_option maxHeartbeats 2000000
set_option exponentiation.threshold 5000
namespace Ev
open PySem PySem.Spec PyProof.Rows L2
open Classical
/-! == of data that may be compared, whatever it is -/
theorem dEq_sh {x y : PyData} (hx : SeqAt.shaped x = true) (hy : SeqAt.shaped y = true) (st : Sto) : dEq (.dat x) (.dat y) st = .ok (.dat (.bool (PyData.eqv x y))) st := by
  by_cases b : (∃ s, x = .str s) ∧ ∃ t, y = .str t
  · obtain ⟨⟨s, rfl⟩, t, rfl⟩ := b
    rw [dEq_str]
    congr 3
  · have e : eqD x y = if SeqAt.shaped x = true ∧ SeqAt.shaped y = true then retB (PyData.eqv x y) else if lenDiff x y = true then retB false else M.bad := by
      cases x <;> cases y <;> first | rfl | exact absurd ⟨⟨_, rfl⟩, _, rfl⟩ b
    show eqD x y st = _
    rw [e, if_pos ⟨hx, hy⟩]
    rfl
theorem dNe_sh {x y : PyData} (hx : SeqAt.shaped x = true) (hy : SeqAt.shaped y = true) (st : Sto) : dNe (.dat x) (.dat y) st = .ok (.dat (.bool (!PyData.eqv x y))) st := by
  have e : eqD x y st = .ok (.dat (.bool (PyData.eqv x y))) st := dEq_sh hx hy st
  show notM (eqD _ _) st = _
  rw [notM_ap, e] <;> rfl
theorem in_list {h : PyData} {xs : List PyData} (sh : SeqAt.shaped h = true) (ss : SeqAt.shaped (.list xs) = true) (st : Sto) : dIn (.dat h) (.dat (.list xs)) st = .ok (.dat (.bool (xs.any fun z => PyData.eqv z h))) st := by
  have e : inD false h (.list xs) = if SeqAt.shaped h = true ∧ SeqAt.shaped (.list xs) = true then retB (false != xs.any fun z => PyData.eqv z h) else M.bad := by cases h <;> rfl
  show inD false h (.list xs) st = _
  rw [e, if_pos ⟨sh, ss⟩, Bool.false_bne]
  rfl
theorem dNe_nil' (ys : List PyData) (st : Sto) : dNe (.dat (.list ys)) (.dat (.list [])) st = .ok (.dat (.bool (!ys.isEmpty))) st := by
  have e : eqD (.list ys) (.list []) st = .ok (.dat (.bool ys.isEmpty)) st := dEq_nil ys st
  show notM (eqD _ _) st = _
  rw [notM_ap, e] <;> rfl
/-! what may be compared -/
theorem shaped_all : ∀ {xs : List PyData} {n : Nat}, (∀ x ∈ xs, PyData.canLay0 x = true ∧ x.depth ≤ n) → PyData.canLayAll0 xs = true ∧ PyData.depthAll xs ≤ n
  | [], _, _ => ⟨by simp [PyData.canLayAll0], by simp [PyData.depthAll]⟩
  | x :: r, n, h => by
    obtain ⟨a, b⟩ := shaped_all (xs := r) (n := n) fun y hy => h y (List.mem_cons_of_mem _ hy)
    obtain ⟨c, d⟩ := h x List.mem_cons_self
    refine ⟨by simp [PyData.canLayAll0, a, c], ?_⟩
    simp only [PyData.depthAll]
    omega
theorem shaped_tup {xs : List PyData} {n : Nat} (hn : n ≤ 63) (h : ∀ x ∈ xs, PyData.canLay0 x = true ∧ x.depth ≤ n) : SeqAt.shaped (.tuple xs) = true ∧ PyData.canLay0 (.tuple xs) = true ∧ (PyData.tuple xs).depth ≤ n + 1 := by
  obtain ⟨a, b⟩ := shaped_all h
  have c : PyData.canLay0 (.tuple xs) = true := by simpa [PyData.canLay0] using a
  have d : (PyData.tuple xs).depth ≤ n + 1 := by
    simp only [PyData.depth]
    omega
  refine ⟨?_, c, d⟩
  unfold SeqAt.shaped
  rw [c, decide_eq_true (by omega)]
  rfl
theorem shaped_lst {xs : List PyData} {n : Nat} (hn : n ≤ 63) (h : ∀ x ∈ xs, PyData.canLay0 x = true ∧ x.depth ≤ n) : SeqAt.shaped (.list xs) = true ∧ PyData.canLay0 (.list xs) = true ∧ (PyData.list xs).depth ≤ n + 1 := by
  obtain ⟨a, b⟩ := shaped_all h
  have c : PyData.canLay0 (.list xs) = true := by simpa [PyData.canLay0] using a
  have d : (PyData.list xs).depth ≤ n + 1 := by
    simp only [PyData.depth]
    omega
  refine ⟨?_, c, d⟩
  unfold SeqAt.shaped
  rw [c, decide_eq_true (by omega)]
  rfl
theorem lay_int (i : Int) : PyData.canLay0 (.int i) = true ∧ (PyData.int i).depth ≤ 0 := ⟨rfl, by simp [PyData.depth]⟩
theorem ints_lay (xs : List Int) : SeqAt.shaped (.tuple (xs.map PyData.int)) = true ∧ PyData.canLay0 (.tuple (xs.map PyData.int)) = true ∧ (PyData.tuple (xs.map PyData.int)).depth ≤ 1 := shaped_tup (n := 0) (by decide) fun x hx => by
  obtain ⟨i, _, rfl⟩ := List.mem_map.mp hx
  exact lay_int i
/-! zip of three, of four, of rows told by lists -/
theorem rng2_ap {i j : Int} (h0 : -(2 ^ 62) ≤ i ∧ i < 2 ^ 62) (h1 : -(2 ^ 62) ≤ j ∧ j < 2 ^ 62) (st : Sto) : rng2 [.dat (.int i), .dat (.int j)] st = .ok (rangeD i (j - i).toNat) st := by
  show (if -(2 ^ 62) ≤ i ∧ i < 2 ^ 62 ∧ -(2 ^ 62) ≤ j ∧ j < 2 ^ 62 then M.pure (rangeD i (j - i).toNat) else M.bad) st = _
  rw [if_pos ⟨h0.1, h0.2, h1.1, h1.2⟩]
  rfl
theorem rng_items' (i : Int) (k : Nat) : (rangeD i k).items = (List.range k).map (fun n : Nat => D.dat (.int (i + (n : Int)))) := id rfl
theorem rng_ok' (i : Int) (k : Nat) : (rangeD i k).ok = fun _ => True := id rfl
theorem mZip_ap (m : Env → M (List D)) (ρ : Env) (st : Sto) : mZip m ρ st = (m ρ st).then zipOf := rfl
theorem zipOf_ap (a b : List PyData) (st : Sto) : zipOf [.dat (.tuple a), .dat (.tuple b)] st = .ok ⟨zipD a b, fun _ => True⟩ st := rfl
theorem mZip3_ap (m : Env → M (List D)) (ρ : Env) (st : Sto) : mZip3 m ρ st = (m ρ st).then zipF3 := rfl
theorem mZip4_ap (m : Env → M (List D)) (ρ : Env) (st : Sto) : mZip4 m ρ st = (m ρ st).then zipF4 := rfl
theorem zipF3_ap (a b c : List PyData) (st : Sto) : zipF3 [.dat (.tuple a), .dat (.tuple b), .dat (.tuple c)] st = .ok ⟨zd3 a b c, fun _ => True⟩ st := rfl
theorem zipF4_ap (a b c d : List PyData) (st : Sto) : zipF4 [.dat (.tuple a), .dat (.tuple b), .dat (.tuple c), .dat (.tuple d)] st = .ok ⟨zd4 a b c d, fun _ => True⟩ st := rfl
theorem zd3_map {α : Type} (f g h : α → PyData) : ∀ xs : List α, zd3 (xs.map f) (xs.map g) (xs.map h) = xs.map fun x => D.dat (.tuple [f x, g x, h x])
  | [] => rfl
  | x :: r => by
    simp only [List.map_cons, zd3, zd3_map f g h r]
theorem zd4_map {α : Type} (f g h k : α → PyData) : ∀ xs : List α, zd4 (xs.map f) (xs.map g) (xs.map h) (xs.map k) = xs.map fun x => D.dat (.tuple [f x, g x, h x, k x])
  | [] => rfl
  | x :: r => by
    simp only [List.map_cons, zd4, zd4_map f g h k r]
theorem zipD_map {α : Type} (f g : α → PyData) (xs : List α) : zipD (xs.map f) (xs.map g) = xs.map fun x => D.dat (.tuple [f x, g x]) := by
  induction xs with
  | nil => rfl
  | cons x r ih =>
    show D.dat (.tuple [f x, g x]) :: zipD (r.map f) (r.map g) = _
    rw [ih]
    rfl
theorem tg3 (i j k : Nat) (x y z : PyData) (ρ : Env) : tgTup (tgCons (tgName i) (tgCons (tgName j) (tgCons (tgName k) tgNil))) (.dat (.tuple [x, y, z])) ρ = some (((ρ.set i (some (.dat x))).set j (some (.dat y))).set k (some (.dat z))) := rfl
theorem tg4 (i j k l : Nat) (x y z u : PyData) (ρ : Env) : tgTup (tgCons (tgName i) (tgCons (tgName j) (tgCons (tgName k) (tgCons (tgName l) tgNil)))) (.dat (.tuple [x, y, z, u])) ρ = some ((((ρ.set i (some (.dat x))).set j (some (.dat y))).set k (some (.dat z))).set l (some (.dat u))) := rfl
theorem tg2' (i j : Nat) (x y : PyData) (ρ : Env) : tgTup (tgCons (tgName i) (tgCons (tgName j) tgNil)) (.dat (.tuple [x, y])) ρ = some ((ρ.set i (some (.dat x))).set j (some (.dat y))) := rfl
/-! least and most of what is put together -/
theorem minI_at {l : List Int} {m : Int} (h1 : m ∈ l) (h2 : ∀ y ∈ l, m ≤ y) : minI l = m := by
  obtain ⟨a, b⟩ := minI_ok l (fun e => by rw [e] at h1; cases h1)
  have := b m h1
  have := h2 _ a
  omega
theorem maxI_at {l : List Int} {m : Int} (h1 : m ∈ l) (h2 : ∀ y ∈ l, y ≤ m) : maxI l = m := by
  obtain ⟨a, b⟩ := maxI_ok l (fun e => by rw [e] at h1; cases h1)
  have := b m h1
  have := h2 _ a
  omega
theorem minI_app {a b : List Int} (ha : a ≠ []) (hb : b ≠ []) : minI (a ++ b) = iMin (minI a) (minI b) := by
  obtain ⟨a1, a2⟩ := minI_ok a ha
  obtain ⟨b1, b2⟩ := minI_ok b hb
  unfold iMin
  split
  · refine minI_at (List.mem_append_right _ b1) fun y hy => ?_
    rcases List.mem_append.mp hy with z | z
    · have := a2 y z; omega
    · exact b2 y z
  · refine minI_at (List.mem_append_left _ a1) fun y hy => ?_
    rcases List.mem_append.mp hy with z | z
    · exact a2 y z
    · have := b2 y z; omega
theorem maxI_app {a b : List Int} (ha : a ≠ []) (hb : b ≠ []) : maxI (a ++ b) = iMax (maxI a) (maxI b) := by
  obtain ⟨a1, a2⟩ := maxI_ok a ha
  obtain ⟨b1, b2⟩ := maxI_ok b hb
  unfold iMax
  split
  · refine maxI_at (List.mem_append_right _ b1) fun y hy => ?_
    rcases List.mem_append.mp hy with z | z
    · have := a2 y z; omega
    · exact b2 y z
  · refine maxI_at (List.mem_append_left _ a1) fun y hy => ?_
    rcases List.mem_append.mp hy with z | z
    · exact a2 y z
    · have := b2 y z; omega
theorem minI_rev {a : List Int} (ha : a ≠ []) : minI a.reverse = minI a := by
  obtain ⟨a1, a2⟩ := minI_ok a ha
  exact minI_at (List.mem_reverse.mpr a1) fun y hy => a2 y (List.mem_reverse.mp hy)
theorem maxI_rev {a : List Int} (ha : a ≠ []) : maxI a.reverse = maxI a := by
  obtain ⟨a1, a2⟩ := maxI_ok a ha
  exact maxI_at (List.mem_reverse.mpr a1) fun y hy => a2 y (List.mem_reverse.mp hy)
theorem sum_app' (a b : List Int) : (a ++ b).sum = a.sum + b.sum := by
  induction a with
  | nil => simp
  | cons x r ih =>
    rw [List.cons_append, List.sum_cons, List.sum_cons, ih]
    omega
theorem sum_rev (a : List Int) : a.reverse.sum = a.sum := by
  induction a with
  | nil => rfl
  | cons x r ih =>
    rw [List.reverse_cons, sum_app', ih, List.sum_cons, List.sum_cons, List.sum_nil]
    omega
end Ev
set_option Elab.async false
set_option linter.all false
set_option maxRecDepth 100000
set_option maxHeartbeats 4000000
/-! printed by gen.py: the functions of the defs, and that the text keeps them. -/
namespace K06
open PySem PySem.Spec PyProof.Rows L2 Ev
open Classical
variable [τ : Tbl]
def top (i : Nat) : Stmt := PySem.Challenge.pw_rowhaul_k06_whole_folds_in_parts.main.body.getD i (.Pass ⟨0, 0, 0, 0⟩)
def hit_Falls (x : Str) : Option Bool :=
  if x = "Falls" then some true else
  none
structure Bt (K : PySem.W.Frag) (mg : Str → Option Value) : Prop where
  b_abs : mg "abs" = none
  b_bool : mg "bool" = none
  b_int : mg "int" = none
  b_isinstance : mg "isinstance" = none
  b_len : mg "len" = none
  b_max : mg "max" = none
  b_min : mg "min" = none
  b_range : mg "range" = none
  b_tuple : mg "tuple" = none
  b_zip : mg "zip" = none
  c_LEAST_WORD : ∃ t, mg "LEAST_WORD" = some (.int (-1000000000) t)
  c_MOST_WORD : ∃ t, mg "MOST_WORD" = some (.int 1000000000 t)
  h_Falls : Catch K mg "Falls" hit_Falls
  i_Falls : ExI K mg "Falls" "word"
  f_Falls_word : FldC K mg "Falls" "word"

abbrev s_init_Falls : Stmt := (C8.clsBody (top 1)).getD 0 (.Pass ⟨0, 0, 0, 0⟩)
theorem ini_Falls : IniS s_init_Falls "self" "word" "word" "ArithmeticError" :=
  ⟨⟨rfl, rfl, rfl, by decide +kernel, rfl, by decide +kernel, by decide +kernel⟩, ⟨_, _, _, _, _, _, _, _, _, _, _, _, rfl, fun _ _ _ _ => ⟨_, rfl⟩⟩, fun _ _ _ _ => rfl, Or.inl rfl, Or.inl rfl, rfl, rfl, rfl, rfl⟩


/-! is_whole -/
abbrev s_is_whole : Stmt := top 3
abbrev N_is_whole : List Str := ["thing"]
noncomputable def b_is_whole : SM :=
    (sRet (mAndV (mC (on2 dIsi) (aCons (vr 0) (aCons (ct (.ty .int)) aNil))) (mNotV (mC (on2 dIsi) (aCons (vr 0) (aCons (ct (.ty .bool)) aNil))))))
noncomputable def F_is_whole : List D → M D := runB 1 1 b_is_whole
theorem sc_is_whole : FnScope N_is_whole ["thing"] (defScope s_is_whole) := ⟨rfl, rfl, rfl, by decide +kernel, rfl, by decide +kernel, by decide +kernel⟩
theorem g_is_whole {P : Program} {w : World} {K : PySem.W.Frag} {mg : Str → Option Value} {base : Heap} (B : Bt K mg) (d : Df K mg "is_whole" s_is_whole ["thing"]) :
    FnN P w K mg base 1 "is_whole" ["thing"] F_is_whole := by
  refine fnN_of (N := N_is_whole) (body := b_is_whole) giveD_ok d sc_is_whole fun f cdv A outer s H E C => ?_
  exact (evs_one (evs_ret (ev_and (n_isinstance B.b_isinstance (ea_cons (ev_vr 0) (ea_cons (ev_tyn (t := .int) (by rfl) B.b_int boot_int) ea_nil))) (ev_one (ev_not (n_isinstance B.b_isinstance (ea_cons (ev_vr 0) (ea_cons (ev_tyn (t := .bool) (by rfl) B.b_bool boot_bool) ea_nil))))))))


/-! is_from -/
abbrev s_is_from : Stmt := top 4
abbrev N_is_from : List Str := ["thing", "low", "high"]
noncomputable def b_is_from : SM :=
    (sRet (mAndV (mC F_is_whole (aCons (vr 0) aNil)) (mChain dLe dLe (vr 1) (vr 0) (vr 2))))
noncomputable def F_is_from : List D → M D := runB 3 3 b_is_from
theorem sc_is_from : FnScope N_is_from ["thing", "low", "high"] (defScope s_is_from) := ⟨rfl, rfl, rfl, by decide +kernel, rfl, by decide +kernel, by decide +kernel⟩
theorem g_is_from {P : Program} {w : World} {K : PySem.W.Frag} {mg : Str → Option Value} {base : Heap} (B : Bt K mg) (d : Df K mg "is_from" s_is_from ["thing", "low", "high"]) (G_is_whole : FnN P w K mg base 1 "is_whole" ["thing"] F_is_whole) :
    FnN P w K mg base 2 "is_from" ["thing", "low", "high"] F_is_from := by
  refine fnN_of (N := N_is_from) (body := b_is_from) giveD_ok d sc_is_from fun f cdv A outer s H E C => ?_
  exact (evs_one (evs_ret (ev_and (ev_callN G_is_whole C (by decide) (by rfl) (ea_cons (ev_vr 0) ea_nil)) (ev_one (x_lele (ev_vr 1) (ev_vr 0) (ev_vr 2))))))


/-! is_word -/
abbrev s_is_word : Stmt := top 8
abbrev N_is_word : List Str := ["thing"]
noncomputable def b_is_word : SM :=
    (sRet (mC F_is_from (aCons (vr 0) (aCons (ct (.dat (.int (-1000000000)))) (aCons (ct (.dat (.int 1000000000))) aNil)))))
noncomputable def F_is_word : List D → M D := runB 1 1 b_is_word
theorem sc_is_word : FnScope N_is_word ["thing"] (defScope s_is_word) := ⟨rfl, rfl, rfl, by decide +kernel, rfl, by decide +kernel, by decide +kernel⟩
theorem g_is_word {P : Program} {w : World} {K : PySem.W.Frag} {mg : Str → Option Value} {base : Heap} (B : Bt K mg) (d : Df K mg "is_word" s_is_word ["thing"]) (G_is_from : FnN P w K mg base 2 "is_from" ["thing", "low", "high"] F_is_from) :
    FnN P w K mg base 3 "is_word" ["thing"] F_is_word := by
  refine fnN_of (N := N_is_word) (body := b_is_word) giveD_ok d sc_is_word fun f cdv A outer s H E C => ?_
  exact (evs_one (evs_ret (ev_callN G_is_from C (by decide) (by rfl) (ea_cons (ev_vr 0) (ea_cons (ev_gint (by rfl) B.c_LEAST_WORD.choose_spec ⟨_, rfl⟩) (ea_cons (ev_gint (by rfl) B.c_MOST_WORD.choose_spec ⟨_, rfl⟩) ea_nil))))))


/-! folds_begun -/
abbrev s_folds_begun : Stmt := top 11
abbrev N_folds_begun : List Str := ["folds", "record", "fold"]
noncomputable def b_folds_begun : SM :=
    (sRet (mC (on1 tupOf) (aCons (mLc (mSeq (vr 0)) [2] (tgName 2) mYes (mIf (mT (m2 dEq (m2 dIx (vr 2) (ct (.dat (.int 0)))) (ct (.dat (.str "count"))))) (ct (.dat (.int 1))) (m2 dIx (vr 1) (m2 dIx (vr 2) (ct (.dat (.int 1))))))) aNil)))
noncomputable def F_folds_begun : List D → M D := runB 3 2 b_folds_begun
theorem sc_folds_begun : FnScope N_folds_begun ["folds", "record"] (defScope s_folds_begun) := ⟨rfl, rfl, rfl, by decide +kernel, rfl, by decide +kernel, by decide +kernel⟩
theorem g_folds_begun {P : Program} {w : World} {K : PySem.W.Frag} {mg : Str → Option Value} {base : Heap} (B : Bt K mg) (d : Df K mg "folds_begun" s_folds_begun ["folds", "record"]) :
    FnN P w K mg base 1 "folds_begun" ["folds", "record"] F_folds_begun := by
  refine fnN_of (N := N_folds_begun) (body := b_folds_begun) giveD_ok d sc_folds_begun fun f cdv A outer s H E C => ?_
  exact (evs_one (evs_ret (n_tuple B.b_tuple (ea_cons (ev_lc (own := [("fold", 2)]) rfl sc_folds_begun.nd (evi_seq (ev_vr 0)) (blkOk_by (N := N_folds_begun) (sc := defScope s_folds_begun) (by decide +kernel)) (fun _ _ _ _ _ => (eg_name (i := 2) sc_folds_begun.nd rfl (Or.inl rfl))) (by decide) (fun _ _ _ _ _ => evts_nil) (fun _ _ _ _ _ => (ev_if (t_eq (GC.blk C) (x_ix (ev_vr 2) ev_int) ev_str) ev_int (x_ix (ev_vr 1) (x_ix (ev_vr 2) ev_int))))) ea_nil))))


/-! _fold_joined -/
abbrev s__fold_joined : Stmt := top 13
abbrev N__fold_joined : List Str := ["fold", "word", "record", "new"]
noncomputable def b__fold_joined : SM :=
    (sSeq (sIf (mT (m2 dEq (m2 dIx (vr 0) (ct (.dat (.int 0)))) (ct (.dat (.str "count"))))) (sRet (m2 dAdd (vr 1) (ct (.dat (.int 1))))) sNil)
    (sSeq (sSet 3 (m2 dIx (vr 2) (m2 dIx (vr 0) (ct (.dat (.int 1))))))
    (sSeq (sIf (mT (m2 dEq (m2 dIx (vr 0) (ct (.dat (.int 0)))) (ct (.dat (.str "least"))))) (sRet (mC (on2 dMin2) (aCons (vr 1) (aCons (vr 3) aNil)))) sNil)
    (sSeq (sIf (mT (m2 dEq (m2 dIx (vr 0) (ct (.dat (.int 0)))) (ct (.dat (.str "most"))))) (sRet (mC (on2 dMax2) (aCons (vr 1) (aCons (vr 3) aNil)))) sNil)
    (sSeq (sIf (mT (m2 dEq (m2 dIx (vr 0) (ct (.dat (.int 0)))) (ct (.dat (.str "last"))))) (sRet (vr 3)) sNil)
    (sSeq (sIf (mNot (mT (mC F_is_word (aCons (m2 dAdd (vr 1) (vr 3)) aNil)))) (sRaiseF "Falls" "word" (ct (.dat (.str "great")))) sNil)
    (sRet (m2 dAdd (vr 1) (vr 3)))))))))
noncomputable def F__fold_joined : List D → M D := runB 4 3 b__fold_joined
theorem sc__fold_joined : FnScope N__fold_joined ["fold", "word", "record"] (defScope s__fold_joined) := ⟨rfl, rfl, rfl, by decide +kernel, rfl, by decide +kernel, by decide +kernel⟩
theorem g__fold_joined {P : Program} {w : World} {K : PySem.W.Frag} {mg : Str → Option Value} {base : Heap} (B : Bt K mg) (d : Df K mg "_fold_joined" s__fold_joined ["fold", "word", "record"]) (G_is_word : FnN P w K mg base 3 "is_word" ["thing"] F_is_word) :
    FnN P w K mg base 4 "_fold_joined" ["fold", "word", "record"] F__fold_joined := by
  refine fnN_of (N := N__fold_joined) (body := b__fold_joined) giveD_ok d sc__fold_joined fun f cdv A outer s H E C => ?_
  exact (evs_cons (evs_if (t_eq C (x_ix (ev_vr 0) ev_int) ev_str) (evs_one (evs_ret (x_add (ev_vr 1) ev_int))) evs_nil)
    (evs_cons (evs_set (i := 3) sc__fold_joined.nd rfl (Or.inl rfl) (x_ix (ev_vr 2) (x_ix (ev_vr 0) ev_int)))
    (evs_cons (evs_if (t_eq C (x_ix (ev_vr 0) ev_int) ev_str) (evs_one (evs_ret (n_min rfl B.b_min (ea_cons (ev_vr 1) (ea_cons (ev_vr 3) ea_nil))))) evs_nil)
    (evs_cons (evs_if (t_eq C (x_ix (ev_vr 0) ev_int) ev_str) (evs_one (evs_ret (n_max rfl B.b_max (ea_cons (ev_vr 1) (ea_cons (ev_vr 3) ea_nil))))) evs_nil)
    (evs_cons (evs_if (t_eq C (x_ix (ev_vr 0) ev_int) ev_str) (evs_one (evs_ret (ev_vr 3))) evs_nil)
    (evs_cons (evs_if (evt_not (evt_tru (ev_callN G_is_word C (by decide) (by rfl) (ea_cons (x_add (ev_vr 1) (ev_vr 3)) ea_nil)))) (evs_one (evs_raiseF rfl C (by decide) B.i_Falls (by rfl) ev_str)) evs_nil)
    (evs_one (evs_ret (x_add (ev_vr 1) (ev_vr 3))))))))))


/-! folds_joined -/
abbrev s_folds_joined : Stmt := top 12
abbrev N_folds_joined : List Str := ["folds", "held", "record", "fold", "word"]
noncomputable def b_folds_joined : SM :=
    (sRet (mC (on1 tupOf) (aCons (mLcX (mZip (aCons (vr 0) (aCons (vr 1) aNil))) [3, 4] (tgTup (tgCons (tgName 3) (tgCons (tgName 4) tgNil))) mYes (mC F__fold_joined (aCons (vr 3) (aCons (vr 4) (aCons (vr 2) aNil))))) aNil)))
noncomputable def F_folds_joined : List D → M D := runB 5 3 b_folds_joined
theorem sc_folds_joined : FnScope N_folds_joined ["folds", "held", "record"] (defScope s_folds_joined) := ⟨rfl, rfl, rfl, by decide +kernel, rfl, by decide +kernel, by decide +kernel⟩
theorem g_folds_joined {P : Program} {w : World} {K : PySem.W.Frag} {mg : Str → Option Value} {base : Heap} (B : Bt K mg) (d : Df K mg "folds_joined" s_folds_joined ["folds", "held", "record"]) (G__fold_joined : FnN P w K mg base 4 "_fold_joined" ["fold", "word", "record"] F__fold_joined) :
    FnN P w K mg base 5 "folds_joined" ["folds", "held", "record"] F_folds_joined := by
  refine fnN_of (N := N_folds_joined) (body := b_folds_joined) giveD_ok d sc_folds_joined fun f cdv A outer s H E C => ?_
  exact (evs_one (evs_ret (n_tuple B.b_tuple (ea_cons (ev_lcX (own := [("fold", 3), ("word", 4)]) C rfl rfl rfl sc_folds_joined.nd (evi_zip B.b_zip (ea_cons (ev_vr 0) (ea_cons (ev_vr 1) ea_nil))) (blkOk_by (N := N_folds_joined) (sc := defScope s_folds_joined) (by decide +kernel)) (fun _ _ _ _ _ _ => (eg_tupK K rfl rfl (eg_cons (eg_name (i := 3) sc_folds_joined.nd rfl (Or.inl rfl)) (eg_cons (eg_name (i := 4) sc_folds_joined.nd rfl (Or.inl rfl)) eg_nil)))) (by decide) (fun _ _ _ _ _ _ _ C2 => evts_nil) (fun _ _ _ _ _ _ _ C2 => (ev_callN G__fold_joined C2 (by decide) (by rfl) (ea_cons (ev_vr 3) (ea_cons (ev_vr 4) (ea_cons (ev_vr 2) ea_nil)))))) ea_nil))))


/-! folded -/
abbrev s_folded : Stmt := top 10
abbrev N_folded : List Str := ["folds", "records", "held", "record"]
noncomputable def l_folded_1 : SM :=
    (sSet 2 (mC F_folds_joined (aCons (vr 0) (aCons (vr 2) (aCons (vr 3) aNil)))))
noncomputable def b_folded : SM :=
    (sSeq (sSet 2 (mC F_folds_begun (aCons (vr 0) (aCons (m2 dIx (vr 1) (ct (.dat (.int 0)))) aNil))))
    (sSeq (sFor (mSeq (mSl (vr 1) (mPart (ct (.dat (.int 1)))) mNoPart)) (tgName 3) l_folded_1)
    (sRet (vr 2))))
noncomputable def F_folded : List D → M D := runB 4 2 b_folded
theorem sc_folded : FnScope N_folded ["folds", "records"] (defScope s_folded) := ⟨rfl, rfl, rfl, by decide +kernel, rfl, by decide +kernel, by decide +kernel⟩
theorem g_folded {P : Program} {w : World} {K : PySem.W.Frag} {mg : Str → Option Value} {base : Heap} (B : Bt K mg) (d : Df K mg "folded" s_folded ["folds", "records"]) (G_folds_begun : FnN P w K mg base 1 "folds_begun" ["folds", "record"] F_folds_begun) (G_folds_joined : FnN P w K mg base 5 "folds_joined" ["folds", "held", "record"] F_folds_joined) :
    FnN P w K mg base 6 "folded" ["folds", "records"] F_folded := by
  refine fnN_of (N := N_folded) (body := b_folded) giveD_ok d sc_folded fun f cdv A outer s H E C => ?_
  exact (evs_cons (evs_set (i := 2) sc_folded.nd rfl (Or.inl rfl) (ev_callN G_folds_begun C (by decide) (by rfl) (ea_cons (ev_vr 0) (ea_cons (x_ix (ev_vr 1) ev_int) ea_nil))))
    (evs_cons (evs_for (mb := l_folded_1) passes_cx rfl (evi_seq (ev_slice (ev_vr 1) (evp_some ev_int) evp_none)) (eg_name (i := 3) sc_folded.nd rfl (Or.inl rfl)) (evs_one (evs_set (i := 2) sc_folded.nd rfl (Or.inl rfl) (ev_callN G_folds_joined C (by decide) (by rfl) (ea_cons (ev_vr 0) (ea_cons (ev_vr 2) (ea_cons (ev_vr 3) ea_nil)))))))
    (evs_one (evs_ret (ev_vr 2)))))


/-! _law_sack -/
abbrev s__law_sack : Stmt := top 15
abbrev N__law_sack : List Str := ["script", "at", "cell", "great"]
noncomputable def b__law_sack : SM :=
    (sSeq (sSet 2 (m2 dAdd (m2 dMul (ct (.dat (.int 3))) (vr 1)) (ct (.dat (.int 1)))))
    (sSeq (sIf (mT (m2 dLt (vr 1) (mC (on1 dLen) (aCons (vr 0) aNil)))) (sSet 2 (m2 dIx (vr 0) (vr 1))) sNil)
    (sSeq (sSet 3 (m2 dMod (mC (on1 dAbs) (aCons (vr 2) aNil)) (m2 dPow (m2 dPow (ct (.dat (.int 10))) (ct (.dat (.int 60)))) (ct (.dat (.int 12))))))
    (sRet (mC mkLoc (aCons (mC (on2 dMax2) (aCons (ct (.dat (.int 0))) (aCons (m2 dSub (vr 3) (m2 dPow (ct (.dat (.int 10))) (ct (.dat (.int 16))))) aNil))) (aCons (m2 dMod (m2 dAdd (m2 dAdd (m2 dAdd (m2 dMul (vr 3) (ct (.dat (.int 6700417)))) (m2 dMul (ct (.dat (.int 524287))) (vr 1))) (m2 dMul (ct (.dat (.int 2))) (mC (on1 dInt) (aCons (m2 dLt (vr 2) (ct (.dat (.int 0)))) aNil)))) (ct (.dat (.int 11)))) (ct (.dat (.int 2147483647)))) (aCons (ct (.dat (.int 0))) aNil))))))))
noncomputable def F__law_sack : List D → M D := runL 4 2 b__law_sack
theorem sc__law_sack : FnScope N__law_sack ["script", "at"] (defScope s__law_sack) := ⟨rfl, rfl, rfl, by decide +kernel, rfl, by decide +kernel, by decide +kernel⟩
theorem g__law_sack {P : Program} {w : World} {K : PySem.W.Frag} {mg : Str → Option Value} {base : Heap} (B : Bt K mg) (d : Df K mg "_law_sack" s__law_sack ["script", "at"]) :
    FnN P w K mg base 1 "_law_sack" ["script", "at"] F__law_sack := by
  refine fnN_of (N := N__law_sack) (body := b__law_sack) giveL_ok d sc__law_sack fun f cdv A outer s H E C => ?_
  exact (evs_cons (evs_set (i := 2) sc__law_sack.nd rfl (Or.inl rfl) (x_add (x_mul ev_int (ev_vr 1)) ev_int))
    (evs_cons (evs_if (t_lt (ev_vr 1) (n_len B.b_len (ea_cons (ev_vr 0) ea_nil))) (evs_one (evs_set (i := 2) sc__law_sack.nd rfl (Or.inl rfl) (x_ix (ev_vr 0) (ev_vr 1)))) evs_nil)
    (evs_cons (evs_set (i := 3) sc__law_sack.nd rfl (Or.inl rfl) (x_mod (n_abs B.b_abs (ea_cons (ev_vr 2) ea_nil)) (x_pow (x_pow ev_int ev_int) ev_int)))
    (evs_one (evs_ret (ev_loc (ea_cons (n_max rfl B.b_max (ea_cons ev_int (ea_cons (x_sub (ev_vr 3) (x_pow ev_int ev_int)) ea_nil))) (ea_cons (x_mod (x_add (x_add (x_add (x_mul (ev_vr 3) ev_int) (x_mul ev_int (ev_vr 1))) (x_mul ev_int (n_int B.b_int (ea_cons (x_lt (ev_vr 2) ev_int) ea_nil)))) ev_int) ev_int) (ea_cons ev_int ea_nil)))))))))


/-! _law_draw -/
abbrev s__law_draw : Stmt := top 16
abbrev N__law_draw : List Str := ["sack", "many", "found", "one", "stir", "two"]
noncomputable def b__law_draw : SM :=
    (sSeq (sIf (mT (m2 dGt (m2 dIx (vr 0) (ct (.dat (.int 0)))) (ct (.dat (.int 0))))) (sSeq (sSet 2 (m2 dMod (m2 dIx (vr 0) (ct (.dat (.int 0)))) (vr 1)))
    (sSeq (sSetIx (vr 0) (ct (.dat (.int 0))) (m2 dFdiv (m2 dIx (vr 0) (ct (.dat (.int 0)))) (vr 1)))
    (sRet (vr 2)))) sNil)
    (sSeq (sSetIx (vr 0) (ct (.dat (.int 2))) (m2 dAdd (m2 dIx (vr 0) (ct (.dat (.int 2)))) (ct (.dat (.int 1)))))
    (sSeq (sSet 3 (m2 dMod (m2 dAdd (m2 dIx (vr 0) (ct (.dat (.int 1)))) (m2 dMul (ct (.dat (.int 1299709))) (m2 dIx (vr 0) (ct (.dat (.int 2)))))) (ct (.dat (.int 2147483629)))))
    (sSeq (sSet 4 (m2 dAdd (m2 dMul (m2 dMod (m2 dMul (vr 3) (vr 3)) (ct (.dat (.int 2147483587)))) (vr 3)) (m2 dMul (ct (.dat (.int 7919))) (m2 dIx (vr 0) (ct (.dat (.int 2)))))))
    (sSeq (sSet 5 (m2 dMod (m2 dAdd (vr 4) (m2 dMod (m2 dIx (vr 0) (ct (.dat (.int 1)))) (ct (.dat (.int 65521))))) (ct (.dat (.int 2147483563)))))
    (sSeq (sSet 2 (m2 dAdd (m2 dFdiv (m2 dMod (m2 dMul (vr 5) (vr 5)) (ct (.dat (.int 2147483549)))) (ct (.dat (.int 32)))) (m2 dMul (m2 dMul (ct (.dat (.int 2147483563))) (vr 3)) (mC (on1 dInt) (aCons (m2 dGt (vr 1) (m2 dPow (ct (.dat (.int 10))) (ct (.dat (.int 6))))) aNil)))))
    (sRet (m2 dMod (vr 2) (vr 1)))))))))
noncomputable def F__law_draw : List D → M D := runB 6 2 b__law_draw
theorem sc__law_draw : FnScope N__law_draw ["sack", "many"] (defScope s__law_draw) := ⟨rfl, rfl, rfl, by decide +kernel, rfl, by decide +kernel, by decide +kernel⟩
theorem g__law_draw {P : Program} {w : World} {K : PySem.W.Frag} {mg : Str → Option Value} {base : Heap} (B : Bt K mg) (d : Df K mg "_law_draw" s__law_draw ["sack", "many"]) :
    FnN P w K mg base 1 "_law_draw" ["sack", "many"] F__law_draw := by
  refine fnN_of (N := N__law_draw) (body := b__law_draw) giveD_ok d sc__law_draw fun f cdv A outer s H E C => ?_
  exact (evs_cons (evs_if (t_gt (x_ix (ev_vr 0) ev_int) ev_int) (evs_cons (evs_set (i := 2) sc__law_draw.nd rfl (Or.inl rfl) (x_mod (x_ix (ev_vr 0) ev_int) (ev_vr 1)))
    (evs_cons (evs_setix (ev_vr 0) ev_int (x_fdiv (x_ix (ev_vr 0) ev_int) (ev_vr 1)))
    (evs_one (evs_ret (ev_vr 2))))) evs_nil)
    (evs_cons (evs_setix (ev_vr 0) ev_int (x_add (x_ix (ev_vr 0) ev_int) ev_int))
    (evs_cons (evs_set (i := 3) sc__law_draw.nd rfl (Or.inl rfl) (x_mod (x_add (x_ix (ev_vr 0) ev_int) (x_mul ev_int (x_ix (ev_vr 0) ev_int))) ev_int))
    (evs_cons (evs_set (i := 4) sc__law_draw.nd rfl (Or.inl rfl) (x_add (x_mul (x_mod (x_mul (ev_vr 3) (ev_vr 3)) ev_int) (ev_vr 3)) (x_mul ev_int (x_ix (ev_vr 0) ev_int))))
    (evs_cons (evs_set (i := 5) sc__law_draw.nd rfl (Or.inl rfl) (x_mod (x_add (ev_vr 4) (x_mod (x_ix (ev_vr 0) ev_int) ev_int)) ev_int))
    (evs_cons (evs_set (i := 2) sc__law_draw.nd rfl (Or.inl rfl) (x_add (x_fdiv (x_mod (x_mul (ev_vr 5) (ev_vr 5)) ev_int) ev_int) (x_mul (x_mul ev_int (ev_vr 3)) (n_int B.b_int (ea_cons (x_gt (ev_vr 1) (x_pow ev_int ev_int)) ea_nil)))))
    (evs_one (evs_ret (x_mod (ev_vr 2) (ev_vr 1))))))))))


/-! _law_met -/
abbrev s__law_met : Stmt := top 17
abbrev N__law_met : List Str := ["folds", "records", "e"]
noncomputable def b__law_met : SM :=
    (sTryAs (sRet (mC F_folded (aCons (vr 0) (aCons (vr 1) aNil)))) hit_Falls 2 (fun a cls d => (sRet (m1 (dFld a cls d "Falls" "word") (vr 2)))))
noncomputable def F__law_met : List D → M D := runB 3 2 b__law_met
theorem sc__law_met : FnScope N__law_met ["folds", "records"] (defScope s__law_met) := ⟨rfl, rfl, rfl, by decide +kernel, rfl, by decide +kernel, by decide +kernel⟩
theorem g__law_met {P : Program} {w : World} {K : PySem.W.Frag} {mg : Str → Option Value} {base : Heap} (B : Bt K mg) (d : Df K mg "_law_met" s__law_met ["folds", "records"]) (G_folded : FnN P w K mg base 6 "folded" ["folds", "records"] F_folded) :
    FnN P w K mg base 7 "_law_met" ["folds", "records"] F__law_met := by
  refine fnN_of (N := N__law_met) (body := b__law_met) giveD_ok d sc__law_met fun f cdv A outer s H E C => ?_
  exact (evs_one (evs_try1 (i := 2) rfl rfl sc__law_met.nd rfl rfl B.h_Falls (by rfl) C (fun W' pn xe C' po => (evs_one (evs_ret (ev_callN G_folded C' (by decide) (by rfl) (ea_cons (ev_vr 0) (ea_cons (ev_vr 1) ea_nil)))))) (fun a oe cls d pn hz hv => (evs_one (evs_ret (ev_fld hz hv B.f_Falls_word (ev_vr 2)))))))


/-! _law_word -/
abbrev s__law_word : Stmt := top 18
abbrev N__law_word : List Str := ["sack", "far"]
noncomputable def b__law_word : SM :=
    (sRet (m2 dIx (mC mkLst (aCons (m2 dSub (mC F__law_draw (aCons (vr 0) (aCons (ct (.dat (.int 9))) aNil))) (ct (.dat (.int 4)))) (aCons (m2 dSub (mC F__law_draw (aCons (vr 0) (aCons (m2 dAdd (m2 dMul (ct (.dat (.int 2))) (vr 1)) (ct (.dat (.int 1)))) aNil))) (vr 1)) aNil))) (mC F__law_draw (aCons (vr 0) (aCons (ct (.dat (.int 2))) aNil)))))
noncomputable def F__law_word : List D → M D := runB 2 2 b__law_word
theorem sc__law_word : FnScope N__law_word ["sack", "far"] (defScope s__law_word) := ⟨rfl, rfl, rfl, by decide +kernel, rfl, by decide +kernel, by decide +kernel⟩
theorem g__law_word {P : Program} {w : World} {K : PySem.W.Frag} {mg : Str → Option Value} {base : Heap} (B : Bt K mg) (d : Df K mg "_law_word" s__law_word ["sack", "far"]) (G__law_draw : FnN P w K mg base 1 "_law_draw" ["sack", "many"] F__law_draw) :
    FnN P w K mg base 2 "_law_word" ["sack", "far"] F__law_word := by
  refine fnN_of (N := N__law_word) (body := b__law_word) giveD_ok d sc__law_word fun f cdv A outer s H E C => ?_
  exact (evs_one (evs_ret (x_ix (ev_lst (ea_cons (x_sub (ev_callN G__law_draw C (by decide) (by rfl) (ea_cons (ev_vr 0) (ea_cons ev_int ea_nil))) ev_int) (ea_cons (x_sub (ev_callN G__law_draw C (by decide) (by rfl) (ea_cons (ev_vr 0) (ea_cons (x_add (x_mul ev_int (ev_vr 1)) ev_int) ea_nil))) (ev_vr 1)) ea_nil))) (ev_callN G__law_draw C (by decide) (by rfl) (ea_cons (ev_vr 0) (ea_cons ev_int ea_nil))))))


/-! _law_some -/
abbrev s__law_some : Stmt := top 19
abbrev N__law_some : List Str := ["sack", "wide", "found", "turn", "word"]
noncomputable def l__law_some_1 : SM :=
    (sSeq (sSet 4 (m2 dIx (mC mkLst (aCons (ct (.dat (.str "sum"))) (aCons (ct (.dat (.str "least"))) (aCons (ct (.dat (.str "most"))) (aCons (ct (.dat (.str "last"))) (aCons (ct (.dat (.str "count"))) aNil)))))) (mC F__law_draw (aCons (vr 0) (aCons (ct (.dat (.int 5))) aNil)))))
    (sDrop (mMt dAppend (vr 2) (aCons (mIf (mT (m2 dEq (vr 4) (ct (.dat (.str "count"))))) (mC mkTup (aCons (vr 4) aNil)) (mC mkTup (aCons (vr 4) (aCons (mC F__law_draw (aCons (vr 0) (aCons (vr 1) aNil))) aNil)))) aNil))))
noncomputable def b__law_some : SM :=
    (sSeq (sSet 2 (mC mkLoc aNil))
    (sSeq (sFor (mRng1 (aCons (m2 dAdd (ct (.dat (.int 1))) (mC F__law_draw (aCons (vr 0) (aCons (ct (.dat (.int 4))) aNil)))) aNil)) (tgName 3) l__law_some_1)
    (sRet (mC (on1 tupOf) (aCons (vr 2) aNil)))))
noncomputable def F__law_some : List D → M D := runB 5 2 b__law_some
theorem sc__law_some : FnScope N__law_some ["sack", "wide"] (defScope s__law_some) := ⟨rfl, rfl, rfl, by decide +kernel, rfl, by decide +kernel, by decide +kernel⟩
theorem g__law_some {P : Program} {w : World} {K : PySem.W.Frag} {mg : Str → Option Value} {base : Heap} (B : Bt K mg) (d : Df K mg "_law_some" s__law_some ["sack", "wide"]) (G__law_draw : FnN P w K mg base 1 "_law_draw" ["sack", "many"] F__law_draw) :
    FnN P w K mg base 2 "_law_some" ["sack", "wide"] F__law_some := by
  refine fnN_of (N := N__law_some) (body := b__law_some) giveD_ok d sc__law_some fun f cdv A outer s H E C => ?_
  exact (evs_cons (evs_set (i := 2) sc__law_some.nd rfl (Or.inl rfl) (ev_loc ea_nil))
    (evs_cons (evs_for (mb := l__law_some_1) passes_cx rfl (evi_range1 (by rfl) B.b_range (ea_cons (x_add ev_int (ev_callN G__law_draw C (by decide) (by rfl) (ea_cons (ev_vr 0) (ea_cons ev_int ea_nil)))) ea_nil)) (eg_name (i := 3) sc__law_some.nd rfl (Or.inl rfl)) (evs_cons (evs_set (i := 4) sc__law_some.nd rfl (Or.inl rfl) (x_ix (ev_lst (ea_cons ev_str (ea_cons ev_str (ea_cons ev_str (ea_cons ev_str (ea_cons ev_str ea_nil)))))) (ev_callN G__law_draw C (by decide) (by rfl) (ea_cons (ev_vr 0) (ea_cons ev_int ea_nil)))))
    (evs_one (evs_expr (m_append (ev_vr 2) (ea_cons (ev_if (t_eq C (ev_vr 4) ev_str) (ev_tup (ea_cons (ev_vr 4) ea_nil)) (ev_tup (ea_cons (ev_vr 4) (ea_cons (ev_callN G__law_draw C (by decide) (by rfl) (ea_cons (ev_vr 0) (ea_cons (ev_vr 1) ea_nil))) ea_nil)))) ea_nil))))))
    (evs_one (evs_ret (n_tuple B.b_tuple (ea_cons (ev_vr 2) ea_nil))))))


/-! _law_together -/
abbrev s__law_together : Stmt := top 20
abbrev N__law_together : List Str := ["folds", "records", "told", "each", "fold", "one"]
noncomputable def b__law_together : SM :=
    (sSeq (sSet 2 (mC F__law_met (aCons (vr 0) (aCons (vr 1) aNil))))
    (sSeq (sSet 3 (mLc (mSeq (vr 0)) [4] (tgName 4) mYes (mC F__law_met (aCons (mC mkTup (aCons (vr 4) aNil)) (aCons (vr 1) aNil)))))
    (sSeq (sIf (mT (m2 dIn (ct (.dat (.str "great"))) (vr 3))) (sRet (m2 dEq (vr 2) (ct (.dat (.str "great"))))) sNil)
    (sRet (m2 dEq (vr 2) (mC (on1 tupOf) (aCons (mLc (mSeq (vr 3)) [5] (tgName 5) mYes (m2 dIx (vr 5) (ct (.dat (.int 0))))) aNil)))))))
noncomputable def F__law_together : List D → M D := runB 6 2 b__law_together
theorem sc__law_together : FnScope N__law_together ["folds", "records"] (defScope s__law_together) := ⟨rfl, rfl, rfl, by decide +kernel, rfl, by decide +kernel, by decide +kernel⟩
theorem g__law_together {P : Program} {w : World} {K : PySem.W.Frag} {mg : Str → Option Value} {base : Heap} (B : Bt K mg) (d : Df K mg "_law_together" s__law_together ["folds", "records"]) (G__law_met : FnN P w K mg base 7 "_law_met" ["folds", "records"] F__law_met) :
    FnN P w K mg base 8 "_law_together" ["folds", "records"] F__law_together := by
  refine fnN_of (N := N__law_together) (body := b__law_together) giveD_ok d sc__law_together fun f cdv A outer s H E C => ?_
  exact (evs_cons (evs_set (i := 2) sc__law_together.nd rfl (Or.inl rfl) (ev_callN G__law_met C (by decide) (by rfl) (ea_cons (ev_vr 0) (ea_cons (ev_vr 1) ea_nil))))
    (evs_cons (evs_setLc (i := 3) (own := [("fold", 4)]) rfl sc__law_together.nd rfl rfl rfl (evi_seq (ev_vr 0)) (blkOk_by (N := N__law_together) (sc := defScope s__law_together) (by decide +kernel)) (fun _ _ _ _ _ => (eg_name (i := 4) sc__law_together.nd rfl (Or.inl rfl))) (by decide) (fun _ _ _ _ _ => evts_nil) (fun _ _ _ _ _ => (ev_callN G__law_met (GC.blk C) (by decide) (by rfl) (ea_cons (ev_tup (ea_cons (ev_vr 4) ea_nil)) (ea_cons (ev_vr 1) ea_nil)))))
    (evs_cons (evs_if (t_in C ev_str (ev_vr 3)) (evs_one (evs_ret (x_eq C (ev_vr 2) ev_str))) evs_nil)
    (evs_one (evs_ret (x_eq C (ev_vr 2) (n_tuple B.b_tuple (ea_cons (ev_lc (own := [("one", 5)]) rfl sc__law_together.nd (evi_seq (ev_vr 3)) (blkOk_by (N := N__law_together) (sc := defScope s__law_together) (by decide +kernel)) (fun _ _ _ _ _ => (eg_name (i := 5) sc__law_together.nd rfl (Or.inl rfl))) (by decide) (fun _ _ _ _ _ => evts_nil) (fun _ _ _ _ _ => (x_ix (ev_vr 5) ev_int))) ea_nil))))))))


/-! _law_next -/
abbrev s__law_next : Stmt := top 21
abbrev N__law_next : List Str := ["fold", "state", "record", "word"]
noncomputable def b__law_next : SM :=
    (sSeq (sIf (mT (m2 dEq (m2 dIx (vr 0) (ct (.dat (.int 0)))) (ct (.dat (.str "count"))))) (sRet (m2 dAdd (vr 1) (ct (.dat (.int 1))))) sNil)
    (sSeq (sSet 3 (m2 dIx (vr 2) (m2 dIx (vr 0) (ct (.dat (.int 1))))))
    (sSeq (sIf (mT (m2 dEq (m2 dIx (vr 0) (ct (.dat (.int 0)))) (ct (.dat (.str "sum"))))) (sRet (m2 dAdd (vr 1) (vr 3))) sNil)
    (sSeq (sIf (mT (m2 dEq (m2 dIx (vr 0) (ct (.dat (.int 0)))) (ct (.dat (.str "last"))))) (sRet (vr 3)) sNil)
    (sRet (mIf (mT (m2 dEq (m2 dIx (vr 0) (ct (.dat (.int 0)))) (ct (.dat (.str "least"))))) (mC (on2 dMin2) (aCons (vr 1) (aCons (vr 3) aNil))) (mC (on2 dMax2) (aCons (vr 1) (aCons (vr 3) aNil)))))))))
noncomputable def F__law_next : List D → M D := runB 4 3 b__law_next
theorem sc__law_next : FnScope N__law_next ["fold", "state", "record"] (defScope s__law_next) := ⟨rfl, rfl, rfl, by decide +kernel, rfl, by decide +kernel, by decide +kernel⟩
theorem g__law_next {P : Program} {w : World} {K : PySem.W.Frag} {mg : Str → Option Value} {base : Heap} (B : Bt K mg) (d : Df K mg "_law_next" s__law_next ["fold", "state", "record"]) :
    FnN P w K mg base 1 "_law_next" ["fold", "state", "record"] F__law_next := by
  refine fnN_of (N := N__law_next) (body := b__law_next) giveD_ok d sc__law_next fun f cdv A outer s H E C => ?_
  exact (evs_cons (evs_if (t_eq C (x_ix (ev_vr 0) ev_int) ev_str) (evs_one (evs_ret (x_add (ev_vr 1) ev_int))) evs_nil)
    (evs_cons (evs_set (i := 3) sc__law_next.nd rfl (Or.inl rfl) (x_ix (ev_vr 2) (x_ix (ev_vr 0) ev_int)))
    (evs_cons (evs_if (t_eq C (x_ix (ev_vr 0) ev_int) ev_str) (evs_one (evs_ret (x_add (ev_vr 1) (ev_vr 3)))) evs_nil)
    (evs_cons (evs_if (t_eq C (x_ix (ev_vr 0) ev_int) ev_str) (evs_one (evs_ret (ev_vr 3))) evs_nil)
    (evs_one (evs_ret (ev_if (t_eq C (x_ix (ev_vr 0) ev_int) ev_str) (n_min rfl B.b_min (ea_cons (ev_vr 1) (ea_cons (ev_vr 3) ea_nil))) (n_max rfl B.b_max (ea_cons (ev_vr 1) (ea_cons (ev_vr 3) ea_nil))))))))))


/-! _law_beginnings -/
abbrev s__law_beginnings : Stmt := top 22
abbrev N__law_beginnings : List Str := ["folds", "records", "ahead", "many", "told", "record", "due", "sums", "fold", "state", "one"]
noncomputable def l__law_beginnings_1 : SM :=
    (sSeq (sSet 4 (mC F__law_met (aCons (vr 0) (aCons (mSl (vr 1) mNoPart (mPart (vr 3))) aNil))))
    (sSeq (sSet 5 (m2 dIx (vr 1) (m2 dSub (vr 3) (ct (.dat (.int 1))))))
    (sSeq (sIf (mT (m2 dEq (vr 3) (ct (.dat (.int 1))))) (sSet 6 (mC (on1 tupOf) (aCons (mLc (mSeq (vr 0)) [8] (tgName 8) mYes (mIf (mT (m2 dEq (m2 dIx (vr 8) (ct (.dat (.int 0)))) (ct (.dat (.str "count"))))) (ct (.dat (.int 1))) (m2 dIx (vr 5) (m2 dIx (vr 8) (ct (.dat (.int 1))))))) aNil))) (sIf (mT (m2 dEq (vr 2) (ct (.dat (.str "great"))))) (sSet 6 (ct (.dat (.str "great")))) (sSeq (sSet 6 (mC (on1 tupOf) (aCons (mLc (mZip (aCons (vr 0) (aCons (vr 2) aNil))) [8, 9] (tgTup (tgCons (tgName 8) (tgCons (tgName 9) tgNil))) mYes (mC F__law_next (aCons (vr 8) (aCons (vr 9) (aCons (vr 5) aNil))))) aNil)))
    (sSeq (sSet 7 (mLc (mZip (aCons (vr 0) (aCons (vr 6) aNil))) [8, 10] (tgTup (tgCons (tgName 8) (tgCons (tgName 10) tgNil))) (mT (m2 dEq (m2 dIx (vr 8) (ct (.dat (.int 0)))) (ct (.dat (.str "sum"))))) (vr 10)))
    (sIf (mT (m2 dNe (mLc (mSeq (vr 7)) [10] (tgName 10) (mT (m2 dGt (mC (on1 dAbs) (aCons (vr 10) aNil)) (m2 dPow (ct (.dat (.int 10))) (ct (.dat (.int 9)))))) (ct (.dat (.int 1)))) (mC mkLst aNil))) (sSet 6 (ct (.dat (.str "great")))) sNil)))))
    (sSeq (sIf (mT (m2 dNe (vr 4) (vr 6))) (sRet (ct (.dat (.bool false)))) sNil)
    (sSet 2 (vr 4))))))
noncomputable def b__law_beginnings : SM :=
    (sSeq (sSet 2 (ct (.dat .none)))
    (sSeq (sFor (mRng2 (aCons (ct (.dat (.int 1))) (aCons (m2 dAdd (mC (on1 dLen) (aCons (vr 1) aNil)) (ct (.dat (.int 1)))) aNil))) (tgName 3) l__law_beginnings_1)
    (sRet (ct (.dat (.bool true))))))
noncomputable def F__law_beginnings : List D → M D := runB 11 2 b__law_beginnings
theorem sc__law_beginnings : FnScope N__law_beginnings ["folds", "records"] (defScope s__law_beginnings) := ⟨rfl, rfl, rfl, by decide +kernel, rfl, by decide +kernel, by decide +kernel⟩
theorem g__law_beginnings {P : Program} {w : World} {K : PySem.W.Frag} {mg : Str → Option Value} {base : Heap} (B : Bt K mg) (d : Df K mg "_law_beginnings" s__law_beginnings ["folds", "records"]) (G__law_met : FnN P w K mg base 7 "_law_met" ["folds", "records"] F__law_met) (G__law_next : FnN P w K mg base 1 "_law_next" ["fold", "state", "record"] F__law_next) :
    FnN P w K mg base 8 "_law_beginnings" ["folds", "records"] F__law_beginnings := by
  refine fnN_of (N := N__law_beginnings) (body := b__law_beginnings) giveD_ok d sc__law_beginnings fun f cdv A outer s H E C => ?_
  exact (evs_cons (evs_set (i := 2) sc__law_beginnings.nd rfl (Or.inl rfl) ev_non)
    (evs_cons (evs_for (mb := l__law_beginnings_1) passes_cx rfl (evi_range2 (by rfl) B.b_range (ea_cons ev_int (ea_cons (x_add (n_len B.b_len (ea_cons (ev_vr 1) ea_nil)) ev_int) ea_nil))) (eg_name (i := 3) sc__law_beginnings.nd rfl (Or.inl rfl)) (evs_cons (evs_set (i := 4) sc__law_beginnings.nd rfl (Or.inl rfl) (ev_callN G__law_met C (by decide) (by rfl) (ea_cons (ev_vr 0) (ea_cons (ev_slice (ev_vr 1) evp_none (evp_some (ev_vr 3))) ea_nil))))
    (evs_cons (evs_set (i := 5) sc__law_beginnings.nd rfl (Or.inr rfl) (x_ix (ev_vr 1) (x_sub (ev_vr 3) ev_int)))
    (evs_cons (evs_if (t_eq C (ev_vr 3) ev_int) (evs_one (evs_set (i := 6) sc__law_beginnings.nd rfl (Or.inl rfl) (n_tuple B.b_tuple (ea_cons (ev_lc (own := [("fold", 8)]) rfl sc__law_beginnings.nd (evi_seq (ev_vr 0)) (blkOk_by (N := N__law_beginnings) (sc := defScope s__law_beginnings) (by decide +kernel)) (fun _ _ _ _ _ => (eg_name (i := 8) sc__law_beginnings.nd rfl (Or.inl rfl))) (by decide) (fun _ _ _ _ _ => evts_nil) (fun _ _ _ _ _ => (ev_if (t_eq (GC.blk C) (x_ix (ev_vr 8) ev_int) ev_str) ev_int (x_ix (ev_vr 5) (x_ix (ev_vr 8) ev_int))))) ea_nil)))) (evs_one (evs_if (t_eq C (ev_vr 2) ev_str) (evs_one (evs_set (i := 6) sc__law_beginnings.nd rfl (Or.inl rfl) ev_str)) (evs_cons (evs_set (i := 6) sc__law_beginnings.nd rfl (Or.inl rfl) (n_tuple B.b_tuple (ea_cons (ev_lc (own := [("fold", 8), ("state", 9)]) rfl sc__law_beginnings.nd (evi_zip B.b_zip (ea_cons (ev_vr 0) (ea_cons (ev_vr 2) ea_nil))) (blkOk_by (N := N__law_beginnings) (sc := defScope s__law_beginnings) (by decide +kernel)) (fun _ _ _ _ _ => (eg_tupK K rfl rfl (eg_cons (eg_name (i := 8) sc__law_beginnings.nd rfl (Or.inl rfl)) (eg_cons (eg_name (i := 9) sc__law_beginnings.nd rfl (Or.inl rfl)) eg_nil)))) (by decide) (fun _ _ _ _ _ => evts_nil) (fun _ _ _ _ _ => (ev_callN G__law_next (GC.blk C) (by decide) (by rfl) (ea_cons (ev_vr 8) (ea_cons (ev_vr 9) (ea_cons (ev_vr 5) ea_nil)))))) ea_nil)))
    (evs_cons (evs_setLc (i := 7) (own := [("fold", 8), ("one", 10)]) rfl sc__law_beginnings.nd rfl rfl rfl (evi_zip B.b_zip (ea_cons (ev_vr 0) (ea_cons (ev_vr 6) ea_nil))) (blkOk_by (N := N__law_beginnings) (sc := defScope s__law_beginnings) (by decide +kernel)) (fun _ _ _ _ _ => (eg_tupK K rfl rfl (eg_cons (eg_name (i := 8) sc__law_beginnings.nd rfl (Or.inl rfl)) (eg_cons (eg_name (i := 10) sc__law_beginnings.nd rfl (Or.inl rfl)) eg_nil)))) (by decide) (fun _ _ _ _ _ => (evts_one (t_eq (GC.blk C) (x_ix (ev_vr 8) ev_int) ev_str))) (fun _ _ _ _ _ => (ev_vr 10)))
    (evs_one (evs_if (t_ne C (ev_lc (own := [("one", 10)]) rfl sc__law_beginnings.nd (evi_seq (ev_vr 7)) (blkOk_by (N := N__law_beginnings) (sc := defScope s__law_beginnings) (by decide +kernel)) (fun _ _ _ _ _ => (eg_name (i := 10) sc__law_beginnings.nd rfl (Or.inl rfl))) (by decide) (fun _ _ _ _ _ => (evts_one (t_gt (n_abs B.b_abs (ea_cons (ev_vr 10) ea_nil)) (x_pow ev_int ev_int)))) (fun _ _ _ _ _ => ev_int)) (ev_lst ea_nil)) (evs_one (evs_set (i := 6) sc__law_beginnings.nd rfl (Or.inl rfl) ev_str)) evs_nil)))))))
    (evs_cons (evs_if (t_ne C (ev_vr 4) (ev_vr 6)) (evs_one (evs_ret ev_bl)) evs_nil)
    (evs_one (evs_set (i := 2) sc__law_beginnings.nd rfl (Or.inl rfl) (ev_vr 4))))))))
    (evs_one (evs_ret ev_bl))))


/-! _law_halves -/
abbrev s__law_halves : Stmt := top 23
abbrev N__law_halves : List Str := ["folds", "records", "spot", "whole", "one", "other", "fold", "first", "second", "told", "due"]
noncomputable def l__law_halves_1 : SM :=
    (sSeq (sIf (mT (m2 dIn (m2 dIx (vr 6) (ct (.dat (.int 0)))) (mC mkTup (aCons (ct (.dat (.str "sum"))) (aCons (ct (.dat (.str "count"))) aNil))))) (sSet 10 (m2 dAdd (vr 7) (vr 8))) (sIf (mT (m2 dEq (m2 dIx (vr 6) (ct (.dat (.int 0)))) (ct (.dat (.str "last"))))) (sSet 10 (vr 8)) (sSet 10 (mIf (mT (m2 dEq (m2 dIx (vr 6) (ct (.dat (.int 0)))) (ct (.dat (.str "least"))))) (mC (on2 dMin2) (aCons (vr 7) (aCons (vr 8) aNil))) (mC (on2 dMax2) (aCons (vr 7) (aCons (vr 8) aNil)))))))
    (sIf (mT (m2 dNe (vr 10) (vr 9))) (sRet (ct (.dat (.bool false)))) sNil))
noncomputable def b__law_halves : SM :=
    (sSeq (sSet 3 (mC F__law_met (aCons (vr 0) (aCons (vr 1) aNil))))
    (sSeq (sPar 4 5 (aCons (mC F__law_met (aCons (vr 0) (aCons (mSl (vr 1) mNoPart (mPart (vr 2))) aNil))) (aCons (mC F__law_met (aCons (vr 0) (aCons (mSl (vr 1) (mPart (vr 2)) mNoPart) aNil))) aNil)))
    (sSeq (sIf (mT (m2 dIn (ct (.dat (.str "great"))) (mC mkTup (aCons (vr 3) (aCons (vr 4) (aCons (vr 5) aNil)))))) (sRet (mOrV (m2 dNe (vr 4) (ct (.dat (.str "great")))) (m2 dEq (vr 3) (ct (.dat (.str "great")))))) sNil)
    (sSeq (sFor (mZip4 (aCons (vr 0) (aCons (vr 4) (aCons (vr 5) (aCons (vr 3) aNil))))) (tgTup (tgCons (tgName 6) (tgCons (tgName 7) (tgCons (tgName 8) (tgCons (tgName 9) tgNil))))) l__law_halves_1)
    (sRet (ct (.dat (.bool true))))))))
noncomputable def F__law_halves : List D → M D := runB 11 3 b__law_halves
theorem sc__law_halves : FnScope N__law_halves ["folds", "records", "spot"] (defScope s__law_halves) := ⟨rfl, rfl, rfl, by decide +kernel, rfl, by decide +kernel, by decide +kernel⟩
theorem g__law_halves {P : Program} {w : World} {K : PySem.W.Frag} {mg : Str → Option Value} {base : Heap} (B : Bt K mg) (d : Df K mg "_law_halves" s__law_halves ["folds", "records", "spot"]) (G__law_met : FnN P w K mg base 7 "_law_met" ["folds", "records"] F__law_met) :
    FnN P w K mg base 8 "_law_halves" ["folds", "records", "spot"] F__law_halves := by
  refine fnN_of (N := N__law_halves) (body := b__law_halves) giveD_ok d sc__law_halves fun f cdv A outer s H E C => ?_
  exact (evs_cons (evs_set (i := 3) sc__law_halves.nd rfl (Or.inl rfl) (ev_callN G__law_met C (by decide) (by rfl) (ea_cons (ev_vr 0) (ea_cons (ev_vr 1) ea_nil))))
    (evs_cons (evs_par (i := 4) (j := 5) rfl sc__law_halves.nd rfl rfl (by decide) rfl rfl (ea_cons (ev_callN G__law_met C (by decide) (by rfl) (ea_cons (ev_vr 0) (ea_cons (ev_slice (ev_vr 1) evp_none (evp_some (ev_vr 2))) ea_nil))) (ea_cons (ev_callN G__law_met C (by decide) (by rfl) (ea_cons (ev_vr 0) (ea_cons (ev_slice (ev_vr 1) (evp_some (ev_vr 2)) evp_none) ea_nil))) ea_nil)))
    (evs_cons (evs_if (t_in C ev_str (ev_tup (ea_cons (ev_vr 3) (ea_cons (ev_vr 4) (ea_cons (ev_vr 5) ea_nil))))) (evs_one (evs_ret (ev_or (x_ne C (ev_vr 4) ev_str) (ev_one (x_eq C (ev_vr 3) ev_str))))) evs_nil)
    (evs_cons (evs_for (mb := l__law_halves_1) passes_cx rfl (evi_zip4 B.b_zip (ea_cons (ev_vr 0) (ea_cons (ev_vr 4) (ea_cons (ev_vr 5) (ea_cons (ev_vr 3) ea_nil))))) (eg_tup rfl (eg_cons (eg_name (i := 6) sc__law_halves.nd rfl (Or.inl rfl)) (eg_cons (eg_name (i := 7) sc__law_halves.nd rfl (Or.inl rfl)) (eg_cons (eg_name (i := 8) sc__law_halves.nd rfl (Or.inl rfl)) (eg_cons (eg_name (i := 9) sc__law_halves.nd rfl (Or.inl rfl)) eg_nil))))) (evs_cons (evs_if (t_in C (x_ix (ev_vr 6) ev_int) (ev_tup (ea_cons ev_str (ea_cons ev_str ea_nil)))) (evs_one (evs_set (i := 10) sc__law_halves.nd rfl (Or.inl rfl) (x_add (ev_vr 7) (ev_vr 8)))) (evs_one (evs_if (t_eq C (x_ix (ev_vr 6) ev_int) ev_str) (evs_one (evs_set (i := 10) sc__law_halves.nd rfl (Or.inl rfl) (ev_vr 8))) (evs_one (evs_set (i := 10) sc__law_halves.nd rfl (Or.inl rfl) (ev_if (t_eq C (x_ix (ev_vr 6) ev_int) ev_str) (n_min rfl B.b_min (ea_cons (ev_vr 7) (ea_cons (ev_vr 8) ea_nil))) (n_max rfl B.b_max (ea_cons (ev_vr 7) (ea_cons (ev_vr 8) ea_nil)))))))))
    (evs_one (evs_if (t_ne C (ev_vr 10) (ev_vr 9)) (evs_one (evs_ret ev_bl)) evs_nil))))
    (evs_one (evs_ret ev_bl))))))


/-! _law_turned -/
abbrev s__law_turned : Stmt := top 24
abbrev N__law_turned : List Str := ["folds", "records", "whole", "turned", "fold", "told", "other"]
noncomputable def l__law_turned_1 : SM :=
    (sIf (mT (m2 dEq (m2 dIx (vr 4) (ct (.dat (.int 0)))) (ct (.dat (.str "last"))))) (sIf (mT (m2 dNe (vr 6) (m2 dIx (m2 dIx (vr 1) (ct (.dat (.int 0)))) (m2 dIx (vr 4) (ct (.dat (.int 1))))))) (sRet (ct (.dat (.bool false)))) sNil) (sIf (mT (m2 dNe (vr 5) (vr 6))) (sRet (ct (.dat (.bool false)))) sNil))
noncomputable def b__law_turned : SM :=
    (sSeq (sPar 2 3 (aCons (mC F__law_met (aCons (vr 0) (aCons (vr 1) aNil))) (aCons (mC F__law_met (aCons (vr 0) (aCons (mBack (vr 1) (m1 dNeg (ct (.dat (.int 1))))) aNil))) aNil)))
    (sSeq (sIf (mT (m2 dIn (ct (.dat (.str "great"))) (mC mkTup (aCons (vr 2) (aCons (vr 3) aNil))))) (sRet (ct (.dat (.bool true)))) sNil)
    (sSeq (sFor (mZip3 (aCons (vr 0) (aCons (vr 2) (aCons (vr 3) aNil)))) (tgTup (tgCons (tgName 4) (tgCons (tgName 5) (tgCons (tgName 6) tgNil)))) l__law_turned_1)
    (sRet (ct (.dat (.bool true)))))))
noncomputable def F__law_turned : List D → M D := runB 7 2 b__law_turned
theorem sc__law_turned : FnScope N__law_turned ["folds", "records"] (defScope s__law_turned) := ⟨rfl, rfl, rfl, by decide +kernel, rfl, by decide +kernel, by decide +kernel⟩
theorem g__law_turned {P : Program} {w : World} {K : PySem.W.Frag} {mg : Str → Option Value} {base : Heap} (B : Bt K mg) (d : Df K mg "_law_turned" s__law_turned ["folds", "records"]) (G__law_met : FnN P w K mg base 7 "_law_met" ["folds", "records"] F__law_met) :
    FnN P w K mg base 8 "_law_turned" ["folds", "records"] F__law_turned := by
  refine fnN_of (N := N__law_turned) (body := b__law_turned) giveD_ok d sc__law_turned fun f cdv A outer s H E C => ?_
  exact (evs_cons (evs_par (i := 2) (j := 3) rfl sc__law_turned.nd rfl rfl (by decide) rfl rfl (ea_cons (ev_callN G__law_met C (by decide) (by rfl) (ea_cons (ev_vr 0) (ea_cons (ev_vr 1) ea_nil))) (ea_cons (ev_callN G__law_met C (by decide) (by rfl) (ea_cons (ev_vr 0) (ea_cons (ev_back (ev_vr 1) (x_neg ev_int)) ea_nil))) ea_nil)))
    (evs_cons (evs_if (t_in C ev_str (ev_tup (ea_cons (ev_vr 2) (ea_cons (ev_vr 3) ea_nil)))) (evs_one (evs_ret ev_bl)) evs_nil)
    (evs_cons (evs_for (mb := l__law_turned_1) passes_cx rfl (evi_zip3 B.b_zip (ea_cons (ev_vr 0) (ea_cons (ev_vr 2) (ea_cons (ev_vr 3) ea_nil)))) (eg_tup rfl (eg_cons (eg_name (i := 4) sc__law_turned.nd rfl (Or.inl rfl)) (eg_cons (eg_name (i := 5) sc__law_turned.nd rfl (Or.inl rfl)) (eg_cons (eg_name (i := 6) sc__law_turned.nd rfl (Or.inl rfl)) eg_nil)))) (evs_one (evs_if (t_eq C (x_ix (ev_vr 4) ev_int) ev_str) (evs_one (evs_if (t_ne C (ev_vr 6) (x_ix (x_ix (ev_vr 1) ev_int) (x_ix (ev_vr 4) ev_int))) (evs_one (evs_ret ev_bl)) evs_nil)) (evs_one (evs_if (t_ne C (ev_vr 5) (ev_vr 6)) (evs_one (evs_ret ev_bl)) evs_nil)))))
    (evs_one (evs_ret ev_bl)))))


/-! law -/
abbrev s_law : Stmt := top 25
abbrev N_law : List Str := ["script", "at", "sack", "wide", "far", "records", "turn", "folds", "spot", "rows", "column"]
noncomputable def l_law_1 : SM :=
    (sDrop (mMt dAppend (vr 5) (aCons (mC (on1 tupOf) (aCons (mLc (mRng1 (aCons (vr 3) aNil)) [10] (tgName 10) mYes (mC F__law_word (aCons (vr 2) (aCons (vr 4) aNil)))) aNil)) aNil)))
noncomputable def l_law_2 : SM :=
    (sSeq (sSet 7 (mC F__law_some (aCons (vr 2) (aCons (vr 3) aNil))))
    (sSeq (sIf (mOr (mNot (mT (mC F__law_together (aCons (vr 7) (aCons (vr 5) aNil))))) (mNot (mT (mC F__law_beginnings (aCons (vr 7) (aCons (vr 5) aNil)))))) (sRet (ct (.dat (.bool false)))) sNil)
    (sSeq (sSet 8 (m2 dAdd (ct (.dat (.int 1))) (mC F__law_draw (aCons (vr 2) (aCons (m2 dSub (mC (on1 dLen) (aCons (vr 5) aNil)) (ct (.dat (.int 1)))) aNil)))))
    (sIf (mOr (mNot (mT (mC F__law_halves (aCons (vr 7) (aCons (vr 5) (aCons (vr 8) aNil)))))) (mNot (mT (mC F__law_turned (aCons (vr 7) (aCons (vr 5) aNil)))))) (sRet (ct (.dat (.bool false)))) sNil))))
noncomputable def l_law_3 : SM :=
    (sSeq (sSet 2 (mC F__law_sack (aCons (vr 0) (aCons (vr 1) aNil))))
    (sSeq (sAsg (tgTup (tgCons (tgName 3) (tgCons (tgName 4) tgNil))) (mC mkTup (aCons (m2 dAdd (ct (.dat (.int 1))) (mC F__law_draw (aCons (vr 2) (aCons (ct (.dat (.int 5))) aNil)))) (aCons (m2 dIx (mC mkLst (aCons (ct (.dat (.int 20))) (aCons (ct (.dat (.int 20))) (aCons (m2 dMul (ct (.dat (.int 4))) (m2 dPow (ct (.dat (.int 10))) (ct (.dat (.int 8))))) (aCons (m2 dPow (ct (.dat (.int 10))) (ct (.dat (.int 9)))) aNil))))) (mC F__law_draw (aCons (vr 2) (aCons (ct (.dat (.int 4))) aNil)))) aNil))))
    (sSeq (sSet 5 (mC mkLoc aNil))
    (sSeq (sFor (mRng1 (aCons (m2 dAdd (ct (.dat (.int 2))) (mC F__law_draw (aCons (vr 2) (aCons (ct (.dat (.int 13))) aNil)))) aNil)) (tgName 6) l_law_1)
    (sSeq (sSet 5 (mC (on1 tupOf) (aCons (vr 5) aNil)))
    (sFor (mRng1 (aCons (ct (.dat (.int 2))) aNil)) (tgName 6) l_law_2))))))
noncomputable def b_law : SM :=
    (sSeq (sFor (mRng1 (aCons (mC (on2 dMax2) (aCons (ct (.dat (.int 1))) (aCons (mC (on2 dMin2) (aCons (ct (.dat (.int 20))) (aCons (mC (on1 dLen) (aCons (vr 0) aNil)) aNil))) aNil))) aNil)) (tgName 1) l_law_3)
    (sSeq (sSet 9 (mC mkTup (aCons (mC mkTup (aCons (m2 dMul (ct (.dat (.int 9))) (m2 dPow (ct (.dat (.int 10))) (ct (.dat (.int 8))))) aNil)) (aCons (mC mkTup (aCons (m2 dMul (ct (.dat (.int 2))) (m2 dPow (ct (.dat (.int 10))) (ct (.dat (.int 8))))) aNil)) (aCons (mC mkTup (aCons (m1 dNeg (m2 dPow (ct (.dat (.int 10))) (ct (.dat (.int 9))))) aNil)) aNil)))))
    (sSeq (sIf (mOr (mT (m2 dNe (mC F__law_met (aCons (mC mkTup (aCons (mC mkTup (aCons (ct (.dat (.str "sum"))) (aCons (ct (.dat (.int 0))) aNil))) aNil)) (aCons (vr 9) aNil))) (ct (.dat (.str "great"))))) (mT (m2 dNe (mC F__law_met (aCons (mC mkTup (aCons (mC mkTup (aCons (ct (.dat (.str "sum"))) (aCons (ct (.dat (.int 0))) aNil))) aNil)) (aCons (mBack (vr 9) (m1 dNeg (ct (.dat (.int 1))))) aNil))) (mC mkTup (aCons (m2 dPow (ct (.dat (.int 10))) (ct (.dat (.int 8)))) aNil))))) (sRet (ct (.dat (.bool false)))) sNil)
    (sRet (mAndV (mC F__law_turned (aCons (mC mkTup (aCons (mC mkTup (aCons (ct (.dat (.str "last"))) (aCons (ct (.dat (.int 0))) aNil))) (aCons (mC mkTup (aCons (ct (.dat (.str "count"))) aNil)) aNil))) (aCons (vr 9) aNil))) (mC F__law_halves (aCons (mC mkTup (aCons (mC mkTup (aCons (ct (.dat (.str "sum"))) (aCons (ct (.dat (.int 0))) aNil))) aNil)) (aCons (mBack (vr 9) (m1 dNeg (ct (.dat (.int 1))))) (aCons (ct (.dat (.int 1))) aNil)))))))))
noncomputable def F_law : List D → M D := runB 11 1 b_law
theorem sc_law : FnScope N_law ["script"] (defScope s_law) := ⟨rfl, rfl, rfl, by decide +kernel, rfl, by decide +kernel, by decide +kernel⟩
theorem g_law {P : Program} {w : World} {K : PySem.W.Frag} {mg : Str → Option Value} {base : Heap} (B : Bt K mg) (d : Df K mg "law" s_law ["script"]) (G__law_sack : FnN P w K mg base 1 "_law_sack" ["script", "at"] F__law_sack) (G__law_draw : FnN P w K mg base 1 "_law_draw" ["sack", "many"] F__law_draw) (G__law_word : FnN P w K mg base 2 "_law_word" ["sack", "far"] F__law_word) (G__law_some : FnN P w K mg base 2 "_law_some" ["sack", "wide"] F__law_some) (G__law_together : FnN P w K mg base 8 "_law_together" ["folds", "records"] F__law_together) (G__law_beginnings : FnN P w K mg base 8 "_law_beginnings" ["folds", "records"] F__law_beginnings) (G__law_halves : FnN P w K mg base 8 "_law_halves" ["folds", "records", "spot"] F__law_halves) (G__law_turned : FnN P w K mg base 8 "_law_turned" ["folds", "records"] F__law_turned) (G__law_met : FnN P w K mg base 7 "_law_met" ["folds", "records"] F__law_met) :
    FnN P w K mg base 9 "law" ["script"] F_law := by
  refine fnN_of (N := N_law) (body := b_law) giveD_ok d sc_law fun f cdv A outer s H E C => ?_
  exact (evs_cons (evs_for (mb := l_law_3) passes_cx rfl (evi_range1 (by rfl) B.b_range (ea_cons (n_max rfl B.b_max (ea_cons ev_int (ea_cons (n_min rfl B.b_min (ea_cons ev_int (ea_cons (n_len B.b_len (ea_cons (ev_vr 0) ea_nil)) ea_nil))) ea_nil))) ea_nil)) (eg_name (i := 1) sc_law.nd rfl (Or.inl rfl)) (evs_cons (evs_set (i := 2) sc_law.nd rfl (Or.inr rfl) (ev_callN G__law_sack C (by decide) (by rfl) (ea_cons (ev_vr 0) (ea_cons (ev_vr 1) ea_nil))))
    (evs_cons (evs_asg (eg_tup rfl (eg_cons (eg_name (i := 3) sc_law.nd rfl (Or.inl rfl)) (eg_cons (eg_name (i := 4) sc_law.nd rfl (Or.inr rfl)) eg_nil))) (ev_tup (ea_cons (x_add ev_int (ev_callN G__law_draw C (by decide) (by rfl) (ea_cons (ev_vr 2) (ea_cons ev_int ea_nil)))) (ea_cons (x_ix (ev_lst (ea_cons ev_int (ea_cons ev_int (ea_cons (x_mul ev_int (x_pow ev_int ev_int)) (ea_cons (x_pow ev_int ev_int) ea_nil))))) (ev_callN G__law_draw C (by decide) (by rfl) (ea_cons (ev_vr 2) (ea_cons ev_int ea_nil)))) ea_nil))))
    (evs_cons (evs_set (i := 5) sc_law.nd rfl (Or.inl rfl) (ev_loc ea_nil))
    (evs_cons (evs_for (mb := l_law_1) passes_cx rfl (evi_range1 (by rfl) B.b_range (ea_cons (x_add ev_int (ev_callN G__law_draw C (by decide) (by rfl) (ea_cons (ev_vr 2) (ea_cons ev_int ea_nil)))) ea_nil)) (eg_name (i := 6) sc_law.nd rfl (Or.inl rfl)) (evs_one (evs_expr (m_append (ev_vr 5) (ea_cons (n_tuple B.b_tuple (ea_cons (ev_lc (own := [("column", 10)]) rfl sc_law.nd (evi_range1 (by rfl) B.b_range (ea_cons (ev_vr 3) ea_nil)) (blkOk_by (N := N_law) (sc := defScope s_law) (by decide +kernel)) (fun _ _ _ _ _ => (eg_name (i := 10) sc_law.nd rfl (Or.inl rfl))) (by decide) (fun _ _ _ _ _ => evts_nil) (fun _ _ _ _ _ => (ev_callN G__law_word (GC.blk C) (by decide) (by rfl) (ea_cons (ev_vr 2) (ea_cons (ev_vr 4) ea_nil))))) ea_nil)) ea_nil)))))
    (evs_cons (evs_set (i := 5) sc_law.nd rfl (Or.inl rfl) (n_tuple B.b_tuple (ea_cons (ev_vr 5) ea_nil)))
    (evs_one (evs_for (mb := l_law_2) passes_cx rfl (evi_range1 (by rfl) B.b_range (ea_cons ev_int ea_nil)) (eg_name (i := 6) sc_law.nd rfl (Or.inl rfl)) (evs_cons (evs_set (i := 7) sc_law.nd rfl (Or.inl rfl) (ev_callN G__law_some C (by decide) (by rfl) (ea_cons (ev_vr 2) (ea_cons (ev_vr 3) ea_nil))))
    (evs_cons (evs_if (evt_w (evw_or (evt_not (evt_tru (ev_callN G__law_together C (by decide) (by rfl) (ea_cons (ev_vr 7) (ea_cons (ev_vr 5) ea_nil))))) (evw_or1 (evt_not (evt_tru (ev_callN G__law_beginnings C (by decide) (by rfl) (ea_cons (ev_vr 7) (ea_cons (ev_vr 5) ea_nil)))))))) (evs_one (evs_ret ev_bl)) evs_nil)
    (evs_cons (evs_set (i := 8) sc_law.nd rfl (Or.inl rfl) (x_add ev_int (ev_callN G__law_draw C (by decide) (by rfl) (ea_cons (ev_vr 2) (ea_cons (x_sub (n_len B.b_len (ea_cons (ev_vr 5) ea_nil)) ev_int) ea_nil)))))
    (evs_one (evs_if (evt_w (evw_or (evt_not (evt_tru (ev_callN G__law_halves C (by decide) (by rfl) (ea_cons (ev_vr 7) (ea_cons (ev_vr 5) (ea_cons (ev_vr 8) ea_nil)))))) (evw_or1 (evt_not (evt_tru (ev_callN G__law_turned C (by decide) (by rfl) (ea_cons (ev_vr 7) (ea_cons (ev_vr 5) ea_nil)))))))) (evs_one (evs_ret ev_bl)) evs_nil)))))))))))))
    (evs_cons (evs_set (i := 9) sc_law.nd rfl (Or.inl rfl) (ev_tup (ea_cons (ev_tup (ea_cons (x_mul ev_int (x_pow ev_int ev_int)) ea_nil)) (ea_cons (ev_tup (ea_cons (x_mul ev_int (x_pow ev_int ev_int)) ea_nil)) (ea_cons (ev_tup (ea_cons (x_neg (x_pow ev_int ev_int)) ea_nil)) ea_nil)))))
    (evs_cons (evs_if (evt_w (evw_or (t_ne C (ev_callN G__law_met C (by decide) (by rfl) (ea_cons (ev_tup (ea_cons (ev_tup (ea_cons ev_str (ea_cons ev_int ea_nil))) ea_nil)) (ea_cons (ev_vr 9) ea_nil))) ev_str) (evw_or1 (t_ne C (ev_callN G__law_met C (by decide) (by rfl) (ea_cons (ev_tup (ea_cons (ev_tup (ea_cons ev_str (ea_cons ev_int ea_nil))) ea_nil)) (ea_cons (ev_back (ev_vr 9) (x_neg ev_int)) ea_nil))) (ev_tup (ea_cons (x_pow ev_int ev_int) ea_nil)))))) (evs_one (evs_ret ev_bl)) evs_nil)
    (evs_one (evs_ret (ev_and (ev_callN G__law_turned C (by decide) (by rfl) (ea_cons (ev_tup (ea_cons (ev_tup (ea_cons ev_str (ea_cons ev_int ea_nil))) (ea_cons (ev_tup (ea_cons ev_str ea_nil)) ea_nil))) (ea_cons (ev_vr 9) ea_nil))) (ev_one (ev_callN G__law_halves C (by decide) (by rfl) (ea_cons (ev_tup (ea_cons (ev_tup (ea_cons ev_str (ea_cons ev_int ea_nil))) ea_nil)) (ea_cons (ev_back (ev_vr 9) (x_neg ev_int)) (ea_cons ev_int ea_nil)))))))))))

structure Ds (K : PySem.W.Frag) (mg : Str → Option Value) : Prop where
  d_is_whole : Df K mg "is_whole" s_is_whole ["thing"]
  d_is_from : Df K mg "is_from" s_is_from ["thing", "low", "high"]
  d_is_word : Df K mg "is_word" s_is_word ["thing"]
  d_folds_begun : Df K mg "folds_begun" s_folds_begun ["folds", "record"]
  d__fold_joined : Df K mg "_fold_joined" s__fold_joined ["fold", "word", "record"]
  d_folds_joined : Df K mg "folds_joined" s_folds_joined ["folds", "held", "record"]
  d_folded : Df K mg "folded" s_folded ["folds", "records"]
  d__law_sack : Df K mg "_law_sack" s__law_sack ["script", "at"]
  d__law_draw : Df K mg "_law_draw" s__law_draw ["sack", "many"]
  d__law_met : Df K mg "_law_met" s__law_met ["folds", "records"]
  d__law_word : Df K mg "_law_word" s__law_word ["sack", "far"]
  d__law_some : Df K mg "_law_some" s__law_some ["sack", "wide"]
  d__law_together : Df K mg "_law_together" s__law_together ["folds", "records"]
  d__law_next : Df K mg "_law_next" s__law_next ["fold", "state", "record"]
  d__law_beginnings : Df K mg "_law_beginnings" s__law_beginnings ["folds", "records"]
  d__law_halves : Df K mg "_law_halves" s__law_halves ["folds", "records", "spot"]
  d__law_turned : Df K mg "_law_turned" s__law_turned ["folds", "records"]
  d_law : Df K mg "law" s_law ["script"]

theorem all_ok {P : Program} {w : World} {K : PySem.W.Frag} {mg : Str → Option Value} {base : Heap} (B : Bt K mg) (d : Ds K mg) : FnN P w K mg base 9 "law" ["script"] F_law := by
  have G_is_whole := g_is_whole (P := P) (w := w) (base := base) B d.d_is_whole
  have G_is_from := g_is_from (P := P) (w := w) (base := base) B d.d_is_from G_is_whole
  have G_is_word := g_is_word (P := P) (w := w) (base := base) B d.d_is_word G_is_from
  have G_folds_begun := g_folds_begun (P := P) (w := w) (base := base) B d.d_folds_begun
  have G__fold_joined := g__fold_joined (P := P) (w := w) (base := base) B d.d__fold_joined G_is_word
  have G_folds_joined := g_folds_joined (P := P) (w := w) (base := base) B d.d_folds_joined G__fold_joined
  have G_folded := g_folded (P := P) (w := w) (base := base) B d.d_folded G_folds_begun G_folds_joined
  have G__law_sack := g__law_sack (P := P) (w := w) (base := base) B d.d__law_sack
  have G__law_draw := g__law_draw (P := P) (w := w) (base := base) B d.d__law_draw
  have G__law_met := g__law_met (P := P) (w := w) (base := base) B d.d__law_met G_folded
  have G__law_word := g__law_word (P := P) (w := w) (base := base) B d.d__law_word G__law_draw
  have G__law_some := g__law_some (P := P) (w := w) (base := base) B d.d__law_some G__law_draw
  have G__law_together := g__law_together (P := P) (w := w) (base := base) B d.d__law_together G__law_met
  have G__law_next := g__law_next (P := P) (w := w) (base := base) B d.d__law_next
  have G__law_beginnings := g__law_beginnings (P := P) (w := w) (base := base) B d.d__law_beginnings G__law_met G__law_next
  have G__law_halves := g__law_halves (P := P) (w := w) (base := base) B d.d__law_halves G__law_met
  have G__law_turned := g__law_turned (P := P) (w := w) (base := base) B d.d__law_turned G__law_met
  have G_law := g_law (P := P) (w := w) (base := base) B d.d_law G__law_sack G__law_draw G__law_word G__law_some G__law_together G__law_beginnings G__law_halves G__law_turned G__law_met
  exact G_law

end K06
set_option Elab.async false
set_option linter.all false
set_option maxRecDepth 100000
set_option maxHeartbeats 2000000
set_option exponentiation.threshold 5000
namespace K06
open PySem PySem.Spec PyProof.Rows L2 Ev
open Classical
abbrev Wd (i : Int) : Prop := -1000000000 ≤ i ∧ i ≤ 1000000000
theorem F_is_word_eq (i : Int) (st : Sto) : F_is_word [.dat (.int i)] st = .ok (.dat (.bool (decide (Wd i)))) st := by
  have e : F_is_from [.dat (.int i), .dat (.int (-1000000000)), .dat (.int 1000000000)] st = .ok (.dat (.bool (decide (-1000000000 ≤ i) && decide (i ≤ 1000000000)))) st := by
    by_cases h : -1000000000 ≤ i <;> simp [F_is_from, b_is_from, F_is_whole, b_is_whole, h]
  simp only [F_is_word, b_is_word, run1, startE_ap, List.map_cons, List.map_nil, List.length_cons, List.length_nil, List.replicate, List.cons_append, List.nil_append, sRet_ap, mC_ap, aCons_ap, aNil_ap, ct_ap, vr_zero, then_ok, bind_ap, pure_ap, e, thenS_ok, fin_rt, giveD_dat, List.take_length, Bool.decide_and]
inductive Of where
  | sum | least | most | last
def Of.nm : Of → Str
  | .sum => "sum" | .least => "least" | .most => "most" | .last => "last"
inductive Fo where
  | cnt
  | col (o : Of) (k : Nat)
def Fo.enc : Fo → PyData
  | .cnt => .tuple [.str "count"]
  | .col o k => .tuple [.str o.nm, .int k]
def Fo.good (n : Nat) : Fo → Prop
  | .cnt => True
  | .col _ k => k < n
def Of.join (o : Of) (w x : Int) : Option Int := match o with
  | .sum => if Wd (w + x) then some (w + x) else none
  | .least => some (iMin w x)
  | .most => some (iMax w x)
  | .last => some x
def Fo.join (w : Int) (r : List Int) : Fo → Option Int
  | .cnt => some (w + 1)
  | .col o k => o.join w (r.getD k 0)
def fres (st : Sto) : Option Int → Res D
  | some v => .ok (.dat (.int v)) st
  | none => .exc ⟨"Falls", [("word", .str "great")]⟩ st
theorem nm_count (o : Of) : ¬ o.nm = ("count" : Str) := by cases o <;> decide +kernel
theorem nm_least (o : Of) : o.nm = ("least" : Str) ↔ o = .least := by cases o <;> simp [Of.nm] <;> decide +kernel
theorem nm_most (o : Of) : o.nm = ("most" : Str) ↔ o = .most := by cases o <;> simp [Of.nm] <;> decide +kernel
theorem nm_last (o : Of) : o.nm = ("last" : Str) ↔ o = .last := by cases o <;> simp [Of.nm] <;> decide +kernel
theorem at_rec {r : List Int} {k : Nat} (h : k < r.length) (st : Sto) : dIx (.dat (.tuple (r.map PyData.int))) (.dat (.int k)) st = .ok (.dat (.int (r.getD k 0))) st := by
  refine ix_tuple (Ev.atI_nat ?_) st
  rw [List.getElem?_map, List.getElem?_eq_getElem h, List.getD_eq_getElem?_getD, List.getElem?_eq_getElem h]
  rfl
theorem joined_eq {r : List Int} (f : Fo) (w : Int) (st : Sto) (hg : f.good r.length) : F__fold_joined [.dat f.enc, .dat (.int w), .dat (.tuple (r.map PyData.int))] st = fres st (f.join w r) := by
  cases f with
  | cnt =>
    have i0 : dIx (.dat (.tuple [.str "count"])) (.dat (.int 0)) st = .ok (.dat (.str "count")) st := ix_tuple (by rfl) st
    simp [F__fold_joined, b__fold_joined, Fo.enc, Fo.join, fres, i0]
  | col o k =>
    have i0 : dIx (.dat (.tuple [.str o.nm, .int k])) (.dat (.int 0)) st = .ok (.dat (.str o.nm)) st := ix_tuple (by rfl) st
    have i1 : dIx (.dat (.tuple [.str o.nm, .int k])) (.dat (.int 1)) st = .ok (.dat (.int k)) st := ix_tuple (by rfl) st
    have ir := at_rec (r := r) hg st
    have iw := F_is_word_eq (w + r.getD k 0) st
    show F__fold_joined [.dat (.tuple [.str o.nm, .int k]), .dat (.int w), .dat (.tuple (r.map PyData.int))] st = fres st (o.join w (r.getD k 0))
    generalize r.getD k 0 = x at *
    cases o with
    | least => simp [F__fold_joined, b__fold_joined, Of.join, fres, i0, i1, ir, nm_count, nm_least]
    | most => simp [F__fold_joined, b__fold_joined, Of.join, fres, i0, i1, ir, nm_count, nm_least, nm_most]
    | last => simp [F__fold_joined, b__fold_joined, Of.join, fres, i0, i1, ir, nm_count, nm_least, nm_most, nm_last]
    | sum =>
      by_cases q : Wd (w + x)
      · rw [decide_eq_true q] at iw
        have z : Of.join .sum w x = some (w + x) := if_pos q
        rw [z]
        simp [F__fold_joined, b__fold_joined, fres, i0, i1, ir, nm_count, nm_least, nm_most, nm_last, iw]
      · rw [decide_eq_false q] at iw
        have z : Of.join .sum w x = none := if_neg q
        rw [z]
        simp [F__fold_joined, b__fold_joined, fres, i0, i1, ir, nm_count, nm_least, nm_most, nm_last, iw]
end K06

namespace K06
open PySem PySem.Spec PyProof.Rows L2 Ev
open Classical
def joinAll (r : List Int) : List Fo → List Int → Option (List Int)
  | f :: fs, w :: ws => match f.join w r with
    | none => none
    | some v => (joinAll r fs ws).map (v :: ·)
  | _, _ => some []
def lres (st : Sto) (acc : List Int) : Option (List Int) → Res D
  | some vs => .ok (.dat (.list ((acc ++ vs).map PyData.int))) st
  | none => .exc ⟨"Falls", [("word", .str "great")]⟩ st
theorem zip_cons (x y : PyData) (xs ys : List PyData) : zipD (x :: xs) (y :: ys) = .dat (.tuple [x, y]) :: zipD xs ys := rfl
theorem joined_loop {r : List Int} (a0 a1 : Option D) (st : Sto) : ∀ (fs : List Fo) (ws acc : List Int), acc.length + fs.length ≤ 1000 → (∀ f ∈ fs, f.good r.length) →
    loopX (fun _ => True) (tgTup (tgCons (tgName 3) (tgCons (tgName 4) tgNil))) mYes (mC F__fold_joined (aCons (vr 3) (aCons (vr 4) (aCons (vr 2) aNil)))) [a0, a1, some (.dat (.tuple (r.map PyData.int))), none, none] (zipD (fs.map Fo.enc) (ws.map PyData.int)) (acc.map PyData.int) st = lres st acc (joinAll r fs ws)
  | [], ws, acc, _, _ => by
    show loopX _ _ _ _ _ [] _ _ = Res.ok (D.dat (.list ((acc ++ []).map PyData.int))) st
    rw [loopX, if_pos trivial, List.append_nil]
  | f :: fs, [], acc, _, _ => by
    show loopX _ _ _ _ _ [] _ _ = Res.ok (D.dat (.list ((acc ++ []).map PyData.int))) st
    rw [loopX, if_pos trivial, List.append_nil]
  | f :: fs, w :: ws, acc, hl, hg => by
    rw [List.length_cons] at hl
    rw [List.map_cons, List.map_cons, zip_cons, loopX, if_pos ⟨trivial, by rw [List.length_map]; omega⟩]
    have e := joined_eq f w st (hg f List.mem_cons_self)
    have el : (mC F__fold_joined (aCons (vr 3) (aCons (vr 4) (aCons (vr 2) aNil)))) [a0, a1, some (.dat (.tuple (r.map PyData.int))), some (.dat f.enc), some (.dat (.int w))] st = fres st (f.join w r) := by
      simp only [mC_ap, aCons_ap, aNil_ap, vr_zero, vr_succ, then_ok, bind_ap, pure_ap, e]
    show (match (mC F__fold_joined (aCons (vr 3) (aCons (vr 4) (aCons (vr 2) aNil)))) [a0, a1, some (.dat (.tuple (r.map PyData.int))), some (.dat f.enc), some (.dat (.int w))] st with
      | .ok (.dat y) st2 => loopX (fun _ => True) (tgTup (tgCons (tgName 3) (tgCons (tgName 4) tgNil))) mYes _ _ (zipD (fs.map Fo.enc) (ws.map PyData.int)) (acc.map PyData.int ++ [y]) st2
      | .exc x st2 => .exc x st2
      | _ => .bad) = _
    rw [el]
    have ja : joinAll r (f :: fs) (w :: ws) = (match f.join w r with | none => none | some v => (joinAll r fs ws).map (v :: ·)) := rfl
    rw [ja]
    cases f.join w r with
    | none => rfl
    | some v =>
      have ih := joined_loop (r := r) a0 a1 st fs ws (acc ++ [v]) (by rw [List.length_append, List.length_singleton]; omega) fun g h => hg g (List.mem_cons_of_mem _ h)
      rw [List.map_append] at ih
      refine Eq.trans (show _ = loopX (fun _ => True) (tgTup (tgCons (tgName 3) (tgCons (tgName 4) tgNil))) mYes _ _ (zipD (fs.map Fo.enc) (ws.map PyData.int)) (acc.map PyData.int ++ [.int v]) st from rfl) (ih.trans ?_)
      show lres st (acc ++ [v]) (joinAll r fs ws) = lres st acc ((joinAll r fs ws).map (v :: ·))
      cases joinAll r fs ws with
      | none => rfl
      | some vs =>
        show Res.ok (D.dat (.list ((acc ++ [v] ++ vs).map PyData.int))) st = Res.ok (D.dat (.list ((acc ++ v :: vs).map PyData.int))) st
        rw [List.append_assoc] <;> rfl
end K06

namespace K06
open PySem PySem.Spec PyProof.Rows L2 Ev
open Classical
def tres (st : Sto) : Option (List Int) → Res D
  | some vs => .ok (.dat (.tuple (vs.map PyData.int))) st
  | none => .exc ⟨"Falls", [("word", .str "great")]⟩ st
theorem lcx_of {src : Ev.Env → M Src} {own : List Nat} {tg : Tg} {test : Ev.Env → M Bool} {elt : Ev.Env → M D} {ρ : Ev.Env} {s : Src} {st st1 : Sto} (h : src ρ st = .ok s st1) : mLcX src own tg test elt ρ st = loopX s.ok tg test elt (wipeE ρ own) s.items [] st1 := by
  unfold mLcX
  rw [bind_ap, h] <;> rfl
theorem fjoined_eq {r : List Int} (fs : List Fo) (ws : List Int) (st : Sto) (hl : fs.length ≤ 999) (hg : ∀ f ∈ fs, f.good r.length) :
    F_folds_joined [.dat (.tuple (fs.map Fo.enc)), .dat (.tuple (ws.map PyData.int)), .dat (.tuple (r.map PyData.int))] st = tres st (joinAll r fs ws) := by
  have e := joined_loop (r := r) (some (.dat (.tuple (fs.map Fo.enc)))) (some (.dat (.tuple (ws.map PyData.int)))) st fs ws [] (by simp; omega) hg
  have sr : mZip (aCons (vr 0) (aCons (vr 1) aNil)) [some (.dat (.tuple (fs.map Fo.enc))), some (.dat (.tuple (ws.map PyData.int))), some (.dat (.tuple (r.map PyData.int))), none, none] st = .ok ⟨zipD (fs.map Fo.enc) (ws.map PyData.int), fun _ => True⟩ st := by
    show ((aCons (vr 0) (aCons (vr 1) aNil)) [some (.dat (.tuple (fs.map Fo.enc))), some (.dat (.tuple (ws.map PyData.int))), some (.dat (.tuple (r.map PyData.int))), none, none] st).then zipOf = _
    simp only [aCons_ap, aNil_ap, vr_zero, vr_succ, then_ok, bind_ap, pure_ap] <;> rfl
  have lc := (lcx_of (own := [3, 4]) (tg := tgTup (tgCons (tgName 3) (tgCons (tgName 4) tgNil))) (test := mYes) (elt := mC F__fold_joined (aCons (vr 3) (aCons (vr 4) (aCons (vr 2) aNil)))) sr).trans e
  simp only [F_folds_joined, b_folds_joined, run3, startE_ap, List.map_cons, List.map_nil, List.length_cons, List.length_nil, List.replicate, List.cons_append, List.nil_append, sRet_ap, mC_ap, aCons_ap, aNil_ap, lc]
  cases joinAll r fs ws with
  | none => simp [lres, tres]
  | some vs => simp [lres, tres]
def begun (r : List Int) : Fo → Int
  | .cnt => 1
  | .col _ k => r.getD k 0
theorem begun_eq {r : List Int} (fs : List Fo) (st : Sto) (hl : fs.length ≤ 999) (hg : ∀ f ∈ fs, f.good r.length) :
    F_folds_begun [.dat (.tuple (fs.map Fo.enc)), .dat (.tuple (r.map PyData.int))] st = .ok (.dat (.tuple ((fs.map (begun r)).map PyData.int))) st := by
  have e : loopC (fun _ => True) (tgName 2) mYes (mIf (mT (m2 dEq (m2 dIx (vr 2) (ct (.dat (.int 0)))) (ct (.dat (.str "count"))))) (ct (.dat (.int 1))) (m2 dIx (vr 1) (m2 dIx (vr 2) (ct (.dat (.int 1)))))) [some (.dat (.tuple (fs.map Fo.enc))), some (.dat (.tuple (r.map PyData.int))), none] (fs.map fun f => D.dat f.enc) [] st = .ok (.dat (.list ([] ++ fs.map fun f => PyData.int (begun r f)))) st :=
    loopC_list (fun f => D.dat f.enc) (fun f => PyData.int (begun r f)) fs [] (by simp; omega) fun f hf => ⟨_, rfl, by
      cases f with
      | cnt =>
        have i0 : dIx (.dat (.tuple [.str "count"])) (.dat (.int 0)) st = .ok (.dat (.str "count")) st := ix_tuple (by rfl) st
        simp [Fo.enc, begun, i0]
      | col o k =>
        have i0 : dIx (.dat (.tuple [.str o.nm, .int k])) (.dat (.int 0)) st = .ok (.dat (.str o.nm)) st := ix_tuple (by rfl) st
        have i1 : dIx (.dat (.tuple [.str o.nm, .int k])) (.dat (.int 1)) st = .ok (.dat (.int k)) st := ix_tuple (by rfl) st
        have ir := at_rec (r := r) (hg _ hf) st
        show (mIf (mT (m2 dEq (m2 dIx (vr 2) (ct (.dat (.int 0)))) (ct (.dat (.str "count"))))) (ct (.dat (.int 1))) (m2 dIx (vr 1) (m2 dIx (vr 2) (ct (.dat (.int 1)))))) [some (.dat (.tuple (fs.map Fo.enc))), some (.dat (.tuple (r.map PyData.int))), some (.dat (.tuple [.str o.nm, .int k]))] st = .ok (.dat (.int (r.getD k 0))) st
        generalize r.getD k 0 = x at *
        simp [i0, i1, ir, nm_count]⟩
  rw [List.nil_append] at e
  have sm : (Src.data (fs.map Fo.enc)).items = fs.map fun f => D.dat f.enc := by rw [data_items, List.map_map] <;> rfl
  have lc : mLc (mSeq (vr 0)) [2] (tgName 2) mYes (mIf (mT (m2 dEq (m2 dIx (vr 2) (ct (.dat (.int 0)))) (ct (.dat (.str "count"))))) (ct (.dat (.int 1))) (m2 dIx (vr 1) (m2 dIx (vr 2) (ct (.dat (.int 1)))))) [some (.dat (.tuple (fs.map Fo.enc))), some (.dat (.tuple (r.map PyData.int))), none] st = .ok (.dat (.list (fs.map fun f => PyData.int (begun r f)))) st := by
    have src : mSeq (vr 0) [some (.dat (.tuple (fs.map Fo.enc))), some (.dat (.tuple (r.map PyData.int))), none] st = .ok (Src.data (fs.map Fo.enc)) st := by
      rw [mSeq_ap, vr_zero, then_ok] <;> rfl
    rw [mLc_ap, src, then_ok, sm, data_ok]
    exact e
  simp only [F_folds_begun, b_folds_begun, run2, startE_ap, List.map_cons, List.map_nil, List.length_cons, List.length_nil, List.replicate, List.cons_append, List.nil_append, sRet_ap, mC_ap, aCons_ap, aNil_ap, lc, then_ok, bind_ap, pure_ap, on1_ap, tupOf_list, thenS_ok, fin_rt, giveD_dat, List.take_length, List.map_map]
  rfl
end K06

namespace K06
open PySem PySem.Spec PyProof.Rows L2 Ev
open Classical
def recD (r : List Int) : PyData := .tuple (r.map PyData.int)
def foldAll (fs : List Fo) : List Int → List (List Int) → Option (List Int)
  | ws, [] => some ws
  | ws, r :: rs => match joinAll r fs ws with
    | none => none
    | some vs => foldAll fs vs rs
theorem loopS_exc {ok : Sto → Prop} {t : Tg} {body : SM} {d : D} {ds : List D} {ρ ρ1 ρ2 : Ev.Env} {st st2 : Sto} {x : Exc} (h : ok st) (e1 : t d ρ = some ρ1) (e2 : body ρ1 st = .exc x ρ2 st2) : loopS ok t body (d :: ds) ρ st = .exc x ρ2 st2 := by
  rw [loopS]
  rw [if_pos h, e1]
  dsimp only
  rw [e2]
def sres (a0 a1 : Option D) (b3 : Option D) (ρ' : Ev.Env) (st : Sto) : Option (List Int) → SRes
  | some vs => .nx [a0, a1, some (.dat (.tuple (vs.map PyData.int))), b3] st
  | none => .exc ⟨"Falls", [("word", .str "great")]⟩ ρ' st
theorem fold_loop (fs : List Fo) (a1 : Option D) (st : Sto) (hl : fs.length ≤ 999) : ∀ (rs : List (List Int)) (ws : List Int) (a3 : Option D), (∀ r ∈ rs, ∀ f ∈ fs, f.good r.length) →
    ∃ b3 ρ', loopS (fun _ => True) (tgName 3) l_folded_1 (rs.map fun r => D.dat (recD r)) [some (.dat (.tuple (fs.map Fo.enc))), a1, some (.dat (.tuple (ws.map PyData.int))), a3] st = sres (some (.dat (.tuple (fs.map Fo.enc)))) a1 b3 ρ' st (foldAll fs ws rs)
  | [], ws, a3, _ => ⟨a3, [], loopS_end⟩
  | r :: rs, ws, a3, hg => by
    have e := fjoined_eq (r := r) fs ws st hl (hg r List.mem_cons_self)
    have fa : foldAll fs ws (r :: rs) = (match joinAll r fs ws with | none => none | some vs => foldAll fs vs rs) := rfl
    rw [fa]
    rw [List.map_cons]
    cases ja : joinAll r fs ws with
    | none =>
      rw [ja] at e
      refine ⟨none, _, loopS_exc (ρ2 := [some (.dat (.tuple (fs.map Fo.enc))), a1, some (.dat (.tuple (ws.map PyData.int))), some (.dat (recD r))]) trivial rfl ?_⟩
      have e' : F_folds_joined [.dat (.tuple (fs.map Fo.enc)), .dat (.tuple (ws.map PyData.int)), .dat (recD r)] st = .exc ⟨"Falls", [("word", .str "great")]⟩ st := e
      simp only [l_folded_1, List.set_cons_succ, List.set_cons_zero, sSet_ap, mC_ap, aCons_ap, aNil_ap, vr_zero, vr_succ, then_ok, bind_ap, pure_ap, e']
      rfl
    | some vs =>
      rw [ja] at e
      obtain ⟨b3, ρ', ih⟩ := fold_loop fs a1 st hl rs vs (some (.dat (recD r))) fun r' h => hg r' (List.mem_cons_of_mem _ h)
      refine ⟨b3, ρ', (loopS_nx (ρ1 := [some (.dat (.tuple (fs.map Fo.enc))), a1, some (.dat (.tuple (ws.map PyData.int))), some (.dat (recD r))]) trivial rfl ?_).trans ih⟩
      have e' : F_folds_joined [.dat (.tuple (fs.map Fo.enc)), .dat (.tuple (ws.map PyData.int)), .dat (recD r)] st = .ok (.dat (.tuple (vs.map PyData.int))) st := e
      simp only [l_folded_1, List.set_cons_succ, List.set_cons_zero, sSet_ap, mC_ap, aCons_ap, aNil_ap, vr_zero, vr_succ, then_ok, bind_ap, pure_ap, e', thenS_ok]
end K06

namespace K06
open PySem PySem.Spec PyProof.Rows L2 Ev
open Classical
theorem cut1 (x : PyData) (xs : List PyData) : cutD (x :: xs) (some 1) none = xs := by
  unfold Ev.cutD
  simp [HT.sIx]
def folded (fs : List Fo) : List (List Int) → Option (List Int)
  | [] => some []
  | r :: rs => foldAll fs (fs.map (begun r)) rs
theorem folded_eq (fs : List Fo) (r : List Int) (rs : List (List Int)) (st : Sto) (hl : fs.length ≤ 999) (hg : ∀ r' ∈ r :: rs, ∀ f ∈ fs, f.good r'.length) :
    F_folded [.dat (.tuple (fs.map Fo.enc)), .dat (.tuple ((r :: rs).map recD))] st = tres st (folded fs (r :: rs)) := by
  have b := begun_eq (r := r) fs st hl (hg r List.mem_cons_self)
  have b' : F_folds_begun [.dat (.tuple (fs.map Fo.enc)), .dat (recD r)] st = .ok (.dat (.tuple ((fs.map (begun r)).map PyData.int))) st := b
  have i0 : dIx (.dat (.tuple ((r :: rs).map recD))) (.dat (.int 0)) st = .ok (.dat (recD r)) st := ix_tuple (Ev.atI_nat (k := 0) rfl) st
  obtain ⟨b3, ρ', lp⟩ := fold_loop fs (some (.dat (.tuple ((r :: rs).map recD)))) st hl rs (fs.map (begun r)) none fun r' h => hg r' (List.mem_cons_of_mem _ h)
  have sl : mSeq (mSl (vr 1) (mPart (ct (.dat (.int 1)))) mNoPart) [some (.dat (.tuple (fs.map Fo.enc))), some (.dat (.tuple ((r :: rs).map recD))), some (.dat (.tuple ((fs.map (begun r)).map PyData.int))), none] st = .ok (Src.data (rs.map recD)) st := by
    have q : dSl (.dat (.tuple ((r :: rs).map recD))) (some 1) none st = .ok (.dat (.tuple (rs.map recD))) st := by
      rw [dSl_tuple, List.map_cons, cut1]
    simp only [mSeq_ap, mSl_ap, mPart_ap, mNoPart_ap, asPart_ap, vr_zero, vr_succ, ct_ap, then_ok, bind_ap, q] <;> rfl
  have sm : (Src.data (rs.map recD)).items = rs.map fun r => D.dat (recD r) := by rw [data_items, List.map_map] <;> rfl
  have fl : sFor (mSeq (mSl (vr 1) (mPart (ct (.dat (.int 1)))) mNoPart)) (tgName 3) l_folded_1 [some (.dat (.tuple (fs.map Fo.enc))), some (.dat (.tuple ((r :: rs).map recD))), some (.dat (.tuple ((fs.map (begun r)).map PyData.int))), none] st = sres (some (.dat (.tuple (fs.map Fo.enc)))) (some (.dat (.tuple ((r :: rs).map recD)))) b3 ρ' st (foldAll fs (fs.map (begun r)) rs) := by
    rw [sFor_ap, sl, thenS_ok, sm, data_ok]
    exact lp
  clear sl lp
  show _ = tres st (foldAll fs (fs.map (begun r)) rs)
  generalize (r :: rs).map recD = RS at *
  generalize foldAll fs (fs.map (begun r)) rs = res at *
  simp only [F_folded, b_folded, run2, startE_ap, List.map_cons, List.map_nil, List.length_cons, List.length_nil, List.replicate, List.cons_append, List.nil_append, sSeq_ap, sSet_ap, mC_ap, aCons_ap, aNil_ap, m2_ap, vr_zero, vr_succ, ct_ap, then_ok, bind_ap, pure_ap, i0, b', thenS_ok, List.set_cons_succ, List.set_cons_zero, sthen_nx, sSeq_ap, fl]
  cases res with
  | none => simp [sres, tres]
  | some vs => simp [sres, tres]
end K06

namespace K06
open PySem PySem.Spec PyProof.Rows L2 Ev
open Classical
def metD : Option (List Int) → PyData
  | some vs => .tuple (vs.map PyData.int)
  | none => .str "great"
theorem met_eq (fs : List Fo) (r : List Int) (rs : List (List Int)) (st : Sto) (hl : fs.length ≤ 999) (hg : ∀ r' ∈ r :: rs, ∀ f ∈ fs, f.good r'.length) :
    F__law_met [.dat (.tuple (fs.map Fo.enc)), .dat (.tuple ((r :: rs).map recD))] st = .ok (.dat (metD (folded fs (r :: rs)))) st := by
  have fe := folded_eq fs r rs st hl hg
  obtain ⟨ρ, hρ⟩ : ∃ ρ : Ev.Env, ρ = [some (.dat (.tuple (fs.map Fo.enc))), some (.dat (.tuple ((r :: rs).map recD))), none] := ⟨_, rfl⟩
  generalize (r :: rs).map recD = RS at *
  generalize folded fs (r :: rs) = res at *
  cases res with
  | some vs =>
    have b : sRet (mC F_folded (aCons (vr 0) (aCons (vr 1) aNil))) ρ st = .rt (.dat (.tuple (vs.map PyData.int))) st := by
      rw [hρ]
      simp [fe, tres]
    have t := fun suite => tryAs_rt (hit := hit_Falls) (i := 2) (suite := suite) b
    rw [hρ] at t
    simp [F__law_met, b__law_met, t, metD]
  | none =>
    have b : sRet (mC F_folded (aCons (vr 0) (aCons (vr 1) aNil))) ρ st = .exc ⟨"Falls", [("word", .str "great")]⟩ ρ st := by
      rw [hρ]
      simp [fe, tres]
    have hn : hit_Falls "Falls" = some true := by decide +kernel
    have t := tryAs_exc (hit := hit_Falls) (i := 2) (r := .rt (.dat (.str "great")) st) (suite := fun a cls d => sRet (m1 (dFld a cls d "Falls" "word") (vr 2))) b hn (fun a cls d _ => by
      have j3 := dFld_ap a cls d "Falls" "word" (.str "great") st
      rw [hρ]
      simp [j3, Ev.unI])
    rw [hρ] at t
    simp [F__law_met, b__law_met, t, metD]
end K06

namespace K06
open PySem PySem.Spec PyProof.Rows L2 Ev
open Classical
theorem minI_eq {l : List Int} {m : Int} (h1 : m ∈ l) (h2 : ∀ y ∈ l, m ≤ y) : minI l = m := by
  obtain ⟨a, b⟩ := minI_ok l (fun e => by rw [e] at h1; cases h1)
  have := b m h1
  have := h2 _ a
  omega
theorem maxI_eq {l : List Int} {m : Int} (h1 : m ∈ l) (h2 : ∀ y ∈ l, y ≤ m) : maxI l = m := by
  obtain ⟨a, b⟩ := maxI_ok l (fun e => by rw [e] at h1; cases h1)
  have := b m h1
  have := h2 _ a
  omega
theorem minI_snoc {l : List Int} (h : l ≠ []) (x : Int) : minI (l ++ [x]) = iMin (minI l) x := by
  obtain ⟨a, b⟩ := minI_ok l h
  unfold iMin
  split
  · refine minI_eq (by simp) fun y hy => ?_
    rcases List.mem_append.mp hy with z | z
    · have := b y z; omega
    · rw [List.mem_singleton.mp z]; exact Int.le_refl _
  · refine minI_eq (List.mem_append_left _ a) fun y hy => ?_
    rcases List.mem_append.mp hy with z | z
    · exact b y z
    · rw [List.mem_singleton.mp z]; omega
theorem maxI_snoc {l : List Int} (h : l ≠ []) (x : Int) : maxI (l ++ [x]) = iMax (maxI l) x := by
  obtain ⟨a, b⟩ := maxI_ok l h
  unfold iMax
  split
  · refine maxI_eq (by simp) fun y hy => ?_
    rcases List.mem_append.mp hy with z | z
    · have := b y z; omega
    · rw [List.mem_singleton.mp z]; exact Int.le_refl _
  · refine maxI_eq (List.mem_append_left _ a) fun y hy => ?_
    rcases List.mem_append.mp hy with z | z
    · exact b y z
    · rw [List.mem_singleton.mp z]; omega
def colOf (rs : List (List Int)) (k : Nat) : List Int := rs.map (·.getD k 0)
def grp (rs : List (List Int)) : Fo → Int
  | .cnt => rs.length
  | .col .sum k => (colOf rs k).sum
  | .col .least k => minI (colOf rs k)
  | .col .most k => maxI (colOf rs k)
  | .col .last k => ((colOf rs k).getLast?).getD 0
def okF (rs : List (List Int)) : Fo → Prop
  | .col .sum k => Wd (colOf rs k).sum
  | _ => True
theorem col_snoc (p : List (List Int)) (r : List Int) (k : Nat) : colOf (p ++ [r]) k = colOf p k ++ [r.getD k 0] := by
  simp [colOf]
theorem col_ne {p : List (List Int)} (h : p ≠ []) (k : Nat) : colOf p k ≠ [] := by
  intro e
  exact h (List.map_eq_nil_iff.mp e)
theorem join_grp {p : List (List Int)} (hp : p ≠ []) (r : List Int) (f : Fo) : f.join (grp p f) r = if okF (p ++ [r]) f then some (grp (p ++ [r]) f) else none := by
  cases f with
  | cnt => simp [Fo.join, grp, okF]
  | col o k =>
    cases o with
    | sum =>
      have e : (colOf (p ++ [r]) k).sum = (colOf p k).sum + r.getD k 0 := by simp [col_snoc]
      show Of.join .sum (colOf p k).sum (r.getD k 0) = _
      by_cases q : Wd ((colOf p k).sum + r.getD k 0)
      · have z : Of.join .sum (colOf p k).sum (r.getD k 0) = some ((colOf p k).sum + r.getD k 0) := if_pos q
        have y : okF (p ++ [r]) (.col .sum k) := by
          show Wd (colOf (p ++ [r]) k).sum
          rw [e]; exact q
        rw [z, if_pos y]
        show _ = some (colOf (p ++ [r]) k).sum
        rw [e]
      · have z : Of.join .sum (colOf p k).sum (r.getD k 0) = none := if_neg q
        have y : ¬ okF (p ++ [r]) (.col .sum k) := by
          show ¬ Wd (colOf (p ++ [r]) k).sum
          rw [e]; exact q
        rw [z, if_neg y]
    | least => simp only [Fo.join, Of.join, grp, okF, col_snoc, if_true, minI_snoc (col_ne hp k)]
    | most => simp only [Fo.join, Of.join, grp, okF, col_snoc, if_true, maxI_snoc (col_ne hp k)]
    | last => simp [Fo.join, Of.join, grp, okF, col_snoc]
theorem joinAll_grp {p : List (List Int)} (hp : p ≠ []) (r : List Int) : ∀ fs : List Fo, joinAll r fs (fs.map (grp p)) = if ∀ f ∈ fs, okF (p ++ [r]) f then some (fs.map (grp (p ++ [r]))) else none
  | [] => by simp [joinAll]
  | f :: fs => by
    have ja : joinAll r (f :: fs) ((f :: fs).map (grp p)) = (match f.join (grp p f) r with | none => none | some v => (joinAll r fs (fs.map (grp p))).map (v :: ·)) := rfl
    rw [ja, join_grp hp r f, joinAll_grp hp r fs]
    by_cases h : okF (p ++ [r]) f
    · by_cases h2 : ∀ g ∈ fs, okF (p ++ [r]) g
      · rw [if_pos h, if_pos h2, if_pos (fun g hg => (List.mem_cons.mp hg).elim (fun e => by rw [e]; exact h) (h2 g))]
        rfl
      · rw [if_pos h, if_neg h2, if_neg (fun z => h2 fun g hg => z g (List.mem_cons_of_mem _ hg))]
        rfl
    · rw [if_neg h]
      dsimp only
      rw [if_neg (fun z => h (z f List.mem_cons_self))]
theorem foldAll_grp (fs : List Fo) : ∀ (rs p : List (List Int)), p ≠ [] → foldAll fs (fs.map (grp p)) rs = if ∀ k < rs.length, ∀ f ∈ fs, okF (p ++ rs.take (k + 1)) f then some (fs.map (grp (p ++ rs))) else none
  | [], p, _ => by simp [foldAll]
  | r :: rs, p, hp => by
    have fa : foldAll fs (fs.map (grp p)) (r :: rs) = (match joinAll r fs (fs.map (grp p)) with | none => none | some vs => foldAll fs vs rs) := rfl
    rw [fa, joinAll_grp hp r fs]
    by_cases h : ∀ f ∈ fs, okF (p ++ [r]) f
    · rw [if_pos h]
      dsimp only
      rw [foldAll_grp fs rs (p ++ [r]) (by simp)]
      have e : (∀ k < rs.length, ∀ f ∈ fs, okF (p ++ [r] ++ rs.take (k + 1)) f) ↔ ∀ k < (r :: rs).length, ∀ f ∈ fs, okF (p ++ (r :: rs).take (k + 1)) f := by
        constructor
        · intro z k hk f hf
          cases k with
          | zero => exact h f hf
          | succ k =>
            have := z k (by simpa using hk) f hf
            rw [List.append_assoc] at this
            exact this
        · intro z k hk f hf
          have := z (k + 1) (by simpa using hk) f hf
          rw [List.append_assoc]
          exact this
      by_cases q : ∀ k < rs.length, ∀ f ∈ fs, okF (p ++ [r] ++ rs.take (k + 1)) f
      · rw [if_pos q, if_pos (e.mp q), List.append_assoc]
        rfl
      · rw [if_neg q, if_neg (fun z => q (e.mpr z))]
    · rw [if_neg h, if_neg (fun z => h fun f hf => z 0 (by simp) f hf)]
theorem begun_grp (r : List Int) (f : Fo) : begun r f = grp [r] f := by
  cases f with
  | cnt => rfl
  | col o k => cases o <;> simp [begun, grp, colOf, minI, maxI]
def fine (fs : List Fo) (rs : List (List Int)) : Prop := ∀ k < rs.length, ∀ f ∈ fs, okF (rs.take (k + 1)) f
theorem folded_grp (fs : List Fo) {r : List Int} {rs : List (List Int)} (hr : ∀ f ∈ fs, okF [r] f) : folded fs (r :: rs) = if fine fs (r :: rs) then some (fs.map (grp (r :: rs))) else none := by
  show foldAll fs (fs.map (begun r)) rs = _
  rw [show fs.map (begun r) = fs.map (grp [r]) from List.map_congr_left fun f _ => begun_grp r f, foldAll_grp fs rs [r] (by simp)]
  have e : (∀ k < rs.length, ∀ f ∈ fs, okF ([r] ++ rs.take (k + 1)) f) ↔ fine fs (r :: rs) := by
    constructor
    · intro z k hk f hf
      cases k with
      | zero => exact hr f hf
      | succ k => exact z k (by simpa using hk) f hf
    · intro z k hk f hf
      exact z (k + 1) (by simpa using hk) f hf
  by_cases q : fine fs (r :: rs)
  · rw [if_pos q, if_pos (e.mpr q)]
    rfl
  · rw [if_neg q, if_neg (fun z => q (e.mp z))]
end K06
set_option Elab.async false
set_option linter.all false
set_option maxRecDepth 100000
set_option maxHeartbeats 2000000
set_option exponentiation.threshold 5000
namespace K06
open PySem PySem.Spec PyProof.Rows L2 Ev
open Classical
local macro_rules | `(tactic| walk_at "s") => `(tactic| simp -implicitDefEqProofs only [mZip_ap, zipOf_ap, mZip3_ap, mZip4_ap, zipF3_ap, zipF4_ap, mZipM_ap, mMtL_ap, sWhile_ap, sAg_ap, mFrz_ap, mRng3_ap, mLam_ap, noLam_dat, mTh_lam, step_items, step_ok, keepE, keepD, wpR_okE, wpR_excE, wpR_then, thn_ok, thn_xc, wpS_thenS, thnS_ok, thnS_xc, wpS_nxE, wpS_rtE, wpS_bkE, wpS_ctE, wpS_excE, wpS_then, seq_nxE, seq_rtE, seq_bkE, seq_ctE, seq_xcE, wpR_fin, fin_nxE, fin_rtE, fin_xcE, giveD_datW, run1, run2, run3, run4, run5, startE_ap, List.map_cons, List.map_nil, List.length_cons, List.length_nil, List.replicate, List.cons_append, List.nil_append, Nat.reduceSub, Nat.reduceAdd, Nat.reduceLeDiff, if_true, if_false, reduceIte, Bool.false_eq_true, pure_ap, bind_ap, then_ok, then_exc, m2_ap, m1_ap, mC_ap, ct_ap, aNil_ap, aCons_ap, asB_ap, mT_ap, mNot_ap, mAnd_ap, mOr_ap, mAndV_ap, mOrV_ap, mNotV_ap, mIf_ap, mChain_ap, on1_ap, on2_ap, retI_ap, retB_ap, mK_ap, thenS_ok, thenS_exc, sBind_ap, sthen_nx, sthen_rt, sthen_bk, sthen_ct, sthen_exc, sSeq_ap, sNil_ap, sRet_ap, sRetN_ap, sIf_ap, sDrop_ap, sSet_ap, sPass_ap, sBrk_ap, sCnt_ap, mSeq_ap, mYes_ap, mNoPart_ap, mPart_ap, asPart_ap, mSl_ap, mLc_ap, mLcX_ap, sFor_ap, mRng1_ap, mRng2_ap, dNil_ap, dCons_ap, asDat_ap, mDct_ap, mDct0_ap, tgName_ap, List.set_cons_succ, List.set_cons_zero, vr_zero, vr_succ, wipeE, data_items, data_ok, Ev.src_list, Ev.src_tuple, Ev.src_fz, rng_items, rng_ok, dSub_ap, dLt_ap, dLe_ap, dGt_ap, dGe_ap, dAdd_ap, dNeg_ap, dAbs_ap, dMax_ap, dMin_ap, dInt_ap, dIntB_ap, dIsi_ap, dLen_list, dLen_tuple, dLen_fz, tupOf_list, tupOf_tuple, lstOf_list, lstOf_tuple, dSl_list, dSl_tuple, datas_nil, datas_cons, Option.map_some, mkTup_go, mkLst_go, mkLoc_go, Nat.zero_le, sPar_go, sAsg_go, dAdd_list, dAdd_tuple, dEq_str, dEq_bool, dEq_int, dNe_str, dNe_bool, dNe_int', isN_none, isNotN_none, isNone0, isNone1, isNone2, isNone3, isNone4, isNone5, isNone6, tyOf, isi, ite_st, ite_sm, ite_em, Bool.not_true, Bool.not_false, Bool.not_not, decide_true, decide_false, p10_6, p10_7, p10_8, p10_9, p10_30, take_self, top_take, dMul_sm, Int.reduceNeg, Int.reduceLT, Int.reduceMul, Int.reduceAdd, Int.reduceSub, Int.neg_neg])
local macro_rules | `(tactic| walk_at "t") => `(tactic| try walk_at "s")
/-! what is met, compared -/
theorem great_lay : PyData.canLay0 (.str "great") = true ∧ (PyData.str "great").depth ≤ 0 := ⟨by decide +kernel, by simp [PyData.depth]⟩
theorem met_lay (o : Option (List Int)) : SeqAt.shaped (metD o) = true ∧ PyData.canLay0 (metD o) = true ∧ (metD o).depth ≤ 1 := by
  cases o with
  | none => exact ⟨by decide +kernel, great_lay.1, Nat.le_trans great_lay.2 (by decide)⟩
  | some vs => exact ints_lay vs
theorem met_eqv (o p : Option (List Int)) : PyData.eqv (metD o) (metD p) = decide (o = p) := by
  cases o with
  | none =>
    cases p with
    | none => exact (by decide +kernel : PyData.eqv (.str "great") (.str "great") = true).trans (by simp)
    | some vs => exact (show PyData.eqv (.str "great") (.tuple (vs.map PyData.int)) = false from rfl).trans (by simp)
  | some us =>
    cases p with
    | none => exact (show PyData.eqv (.tuple (us.map PyData.int)) (.str "great") = false from rfl).trans (by simp)
    | some vs =>
      show PyData.eqvAll (us.map PyData.int) (vs.map PyData.int) = _
      rw [eqvA_ints]
      simp
theorem metE (o p : Option (List Int)) (st : Sto) : dEq (.dat (metD o)) (.dat (metD p)) st = .ok (.dat (.bool (decide (o = p)))) st := by
  rw [dEq_sh (met_lay o).1 (met_lay p).1, met_eqv]
theorem metN (o p : Option (List Int)) (st : Sto) : dNe (.dat (metD o)) (.dat (metD p)) st = .ok (.dat (.bool (!decide (o = p)))) st := by
  rw [dNe_sh (met_lay o).1 (met_lay p).1, met_eqv]
/-! several at once -/
noncomputable def G (fs : List Fo) (rs : List (List Int)) : Option (List Int) := if fine fs rs then some (fs.map (grp rs)) else none
def Rc (w : Nat) (r : List Int) : Prop := r.length = w ∧ ∀ i ∈ r, Wd i
theorem get_wd {w k : Nat} {r : List Int} (h : Rc w r) (hk : k < w) : Wd (r.getD k 0) := by
  have hk' : k < r.length := by rw [h.1]; exact hk
  rw [List.getD_eq_getElem?_getD, List.getElem?_eq_getElem hk']
  exact h.2 _ (List.getElem_mem hk')
theorem ok_one {w : Nat} {r : List Int} (h : Rc w r) {f : Fo} (g : f.good w) : okF [r] f := by
  cases f with
  | cnt => trivial
  | col o k =>
    cases o with
    | sum =>
      show Wd (colOf [r] k).sum
      have := get_wd h g
      simpa [colOf] using this
    | _ => trivial
theorem G_eq {w : Nat} {fs : List Fo} {rs : List (List Int)} (ne : rs ≠ []) (hr : ∀ r ∈ rs, Rc w r) (hg : ∀ f ∈ fs, f.good w) : folded fs rs = G fs rs := by
  match rs, ne with
  | r :: rs, _ => exact folded_grp fs fun f hf => ok_one (hr r List.mem_cons_self) (hg f hf)
theorem met_G {w : Nat} {fs : List Fo} {rs : List (List Int)} (ne : rs ≠ []) (hr : ∀ r ∈ rs, Rc w r) (hl : fs.length ≤ 999) (hg : ∀ f ∈ fs, f.good w) (st : Sto) :
    F__law_met [.dat (.tuple (fs.map Fo.enc)), .dat (.tuple (rs.map recD))] st = .ok (.dat (metD (G fs rs))) st := by
  have e := G_eq ne hr hg
  match rs, ne with
  | r :: rs, _ =>
    rw [met_eq fs r rs st hl fun r' hr' f hf => by rw [(hr r' hr').1]; exact hg f hf, e]
theorem fine_each (fs : List Fo) (rs : List (List Int)) : fine fs rs ↔ ∀ f ∈ fs, fine [f] rs := by
  constructor
  · intro h f hf k hk g hg
    rw [List.mem_singleton.mp hg]
    exact h k hk f hf
  · intro h k hk f hf
    exact h f hf k hk f (List.mem_singleton.mpr rfl)
theorem G_one (f : Fo) (rs : List (List Int)) : G [f] rs = if fine [f] rs then some [grp rs f] else none := rfl
theorem together_eq {w : Nat} {fs : List Fo} {rs : List (List Int)} (ne : rs ≠ []) (hr : ∀ r ∈ rs, Rc w r) (hl : fs.length ≤ 900) (hg : ∀ f ∈ fs, f.good w) (st : Sto) :
    F__law_together [.dat (.tuple (fs.map Fo.enc)), .dat (.tuple (rs.map recD))] st = .ok (.dat (.bool true)) st := by
  rw [← wpR_iff]
  simp only [F__law_together, b__law_together]
  walk_at "t"
  simp only [met_G ne hr (by omega) hg]
  walk_at "t"
  rw [List.map_map]
  refine wp_map (enc := D.dat ∘ Fo.enc) (fun f => metD (G [f] rs)) (by omega) (fun f hf => ⟨_, rfl, ?_⟩) ?_
  · simp only [Function.comp]
    walk_at "t"
    have e := met_G (fs := [f]) ne hr (by simp) (fun g h => by rw [List.mem_singleton.mp h]; exact hg f hf) st
    simp only [List.map_cons, List.map_nil] at e
    refine wpR_eq e ?_
    walk_at "t"
    first | trivial | exact ⟨trivial, trivial⟩ | trace_state
  · walk_at "t"
    have sh : SeqAt.shaped (.list (fs.map fun f => metD (G [f] rs))) = true := (shaped_lst (n := 1) (by decide) fun x hx => by
      obtain ⟨f, _, rfl⟩ := List.mem_map.mp hx
      exact (met_lay _).2).1
    simp only [in_list (h := .str "great") (met_lay none).1 sh]
    walk_at "t"
    have gr : (PyData.str "great") = metD none := rfl
    have ev : ∀ o : Option (List Int), PyData.eqv (metD o) (.str "great") = decide (o = none) := fun o => met_eqv o none
    by_cases q : fine fs rs
    · have q1 := (fine_each fs rs).mp q
      have an : ((fs.map fun f => metD (G [f] rs)).any fun z => z.eqv (PyData.str "great")) = false := by
        rw [List.any_map]
        refine List.any_eq_false.mpr fun f hf => ?_
        show ¬ (PyData.eqv (metD (G [f] rs)) (.str "great") = true)
        rw [ev, G_one, if_pos (q1 f hf)]
        simp
      rw [if_neg (by rw [an]; simp)]
      walk_at "t"
      rw [List.map_map]
      refine wp_map (enc := D.dat ∘ fun f => metD (G [f] rs)) (fun f => .int (grp rs f)) (by omega) (fun f hf => ⟨_, rfl, ?_⟩) ?_
      · walk_at "t"
        have e : metD (G [f] rs) = .tuple [.int (grp rs f)] := by rw [G_one, if_pos (q1 f hf)]; rfl
        simp only [Function.comp, e]
        exact wpR_eq (ix_tuple (by rfl) st) ⟨rfl, rfl⟩
      · walk_at "t"
        have e1 : G fs rs = some (fs.map (grp rs)) := if_pos q
        have e2 : (fs.map fun f => PyData.int (grp rs f)) = (fs.map (grp rs)).map PyData.int := by rw [List.map_map]; rfl
        have e3 := metE (G fs rs) (some (fs.map (grp rs))) st
        rw [decide_eq_true e1] at e3
        rw [e2]
        refine wpR_eq e3 ?_
        walk_at "t"
        first | exact ⟨trivial, trivial⟩ | exact ⟨rfl, List.take_length⟩ | exact ⟨rfl, rfl⟩ | trace_state
    · have an : ((fs.map fun f => metD (G [f] rs)).any fun z => z.eqv (PyData.str "great")) = true := by
        rw [List.any_map]
        have : ∃ f ∈ fs, ¬ fine [f] rs := Classical.byContradiction fun z => q ((fine_each fs rs).mpr fun f hf => Classical.byContradiction fun y => z ⟨f, hf, y⟩)
        obtain ⟨f, hf, nf⟩ := this
        refine List.any_eq_true.mpr ⟨f, hf, ?_⟩
        show PyData.eqv (metD (G [f] rs)) (.str "great") = true
        rw [ev, G_one, if_neg nf]
        simp
      rw [if_pos an]
      have e1 : G fs rs = none := if_neg q
      have e3 := metE (G fs rs) none st
      rw [decide_eq_true e1] at e3
      walk_at "t"
      refine wpR_eq e3 ?_
      walk_at "t"
      first | exact ⟨trivial, trivial⟩ | exact ⟨rfl, List.take_length⟩ | exact ⟨rfl, rfl⟩ | trace_state
end K06
set_option Elab.async false
set_option linter.all false
set_option maxRecDepth 100000
set_option maxHeartbeats 2000000
set_option exponentiation.threshold 5000
namespace K06
open PySem PySem.Spec PyProof.Rows L2 Ev
open Classical
local macro_rules | `(tactic| walk_at "s") => `(tactic| simp -implicitDefEqProofs only [rng_items', rng_ok', mZip_ap, zipOf_ap, mZip3_ap, mZip4_ap, zipF3_ap, zipF4_ap, mZipM_ap, mMtL_ap, sWhile_ap, sAg_ap, mFrz_ap, mRng3_ap, mLam_ap, noLam_dat, mTh_lam, step_items, step_ok, keepE, keepD, wpR_okE, wpR_excE, wpR_then, thn_ok, thn_xc, wpS_thenS, thnS_ok, thnS_xc, wpS_nxE, wpS_rtE, wpS_bkE, wpS_ctE, wpS_excE, wpS_then, seq_nxE, seq_rtE, seq_bkE, seq_ctE, seq_xcE, wpR_fin, fin_nxE, fin_rtE, fin_xcE, giveD_datW, run1, run2, run3, run4, run5, startE_ap, List.map_cons, List.map_nil, List.length_cons, List.length_nil, List.replicate, List.cons_append, List.nil_append, Nat.reduceSub, Nat.reduceAdd, Nat.reduceLeDiff, if_true, if_false, reduceIte, Bool.false_eq_true, pure_ap, bind_ap, then_ok, then_exc, m2_ap, m1_ap, mC_ap, ct_ap, aNil_ap, aCons_ap, asB_ap, mT_ap, mNot_ap, mAnd_ap, mOr_ap, mAndV_ap, mOrV_ap, mNotV_ap, mIf_ap, mChain_ap, on1_ap, on2_ap, retI_ap, retB_ap, mK_ap, thenS_ok, thenS_exc, sBind_ap, sthen_nx, sthen_rt, sthen_bk, sthen_ct, sthen_exc, sSeq_ap, sNil_ap, sRet_ap, sRetN_ap, sIf_ap, sDrop_ap, sSet_ap, sPass_ap, sBrk_ap, sCnt_ap, mSeq_ap, mYes_ap, mNoPart_ap, mPart_ap, asPart_ap, mSl_ap, mLc_ap, mLcX_ap, sFor_ap, mRng1_ap, mRng2_ap, dNil_ap, dCons_ap, asDat_ap, mDct_ap, mDct0_ap, tgName_ap, List.set_cons_succ, List.set_cons_zero, vr_zero, vr_succ, wipeE, data_items, data_ok, Ev.src_list, Ev.src_tuple, Ev.src_fz, rng_items, rng_ok, dSub_ap, dLt_ap, dLe_ap, dGt_ap, dGe_ap, dAdd_ap, dNeg_ap, dAbs_ap, dMax_ap, dMin_ap, dInt_ap, dIntB_ap, dIsi_ap, dLen_list, dLen_tuple, dLen_fz, tupOf_list, tupOf_tuple, lstOf_list, lstOf_tuple, dSl_list, dSl_tuple, datas_nil, datas_cons, Option.map_some, mkTup_go, mkLst_go, mkLoc_go, Nat.zero_le, sPar_go, sAsg_go, dAdd_list, dAdd_tuple, dEq_str, dEq_bool, dEq_int, dNe_str, dNe_bool, dNe_int', isN_none, isNotN_none, isNone0, isNone1, isNone2, isNone3, isNone4, isNone5, isNone6, tyOf, isi, ite_st, ite_sm, ite_em, Bool.not_true, Bool.not_false, Bool.not_not, decide_true, decide_false, p10_6, p10_7, p10_8, p10_9, p10_30, take_self, top_take, dMul_sm, Int.reduceNeg, Int.reduceLT, Int.reduceMul, Int.reduceAdd, Int.reduceSub, Int.neg_neg])
local macro_rules | `(tactic| walk_at "t") => `(tactic| try walk_at "s")
/-! one record more -/
theorem nm_sum (o : Of) : o.nm = ("sum" : Str) ↔ o = .sum := by cases o <;> simp [Of.nm] <;> decide +kernel
theorem next_eq {p : List (List Int)} (hp : p ≠ []) {r : List Int} (f : Fo) (st : Sto) (hg : f.good r.length) : F__law_next [.dat f.enc, .dat (.int (grp p f)), .dat (recD r)] st = .ok (.dat (.int (grp (p ++ [r]) f))) st := by
  cases f with
  | cnt =>
    have i0 : dIx (.dat (.tuple [.str "count"])) (.dat (.int 0)) st = .ok (.dat (.str "count")) st := ix_tuple (by rfl) st
    simp [F__law_next, b__law_next, Fo.enc, grp, i0]
  | col o k =>
    have i0 : dIx (.dat (.tuple [.str o.nm, .int k])) (.dat (.int 0)) st = .ok (.dat (.str o.nm)) st := ix_tuple (by rfl) st
    have i1 : dIx (.dat (.tuple [.str o.nm, .int k])) (.dat (.int 1)) st = .ok (.dat (.int k)) st := ix_tuple (by rfl) st
    have ir : dIx (.dat (recD r)) (.dat (.int k)) st = .ok (.dat (.int (r.getD k 0))) st := at_rec (r := r) hg st
    show F__law_next [.dat (.tuple [.str o.nm, .int k]), .dat (.int (grp p (.col o k))), .dat (recD r)] st = .ok (.dat (.int (grp (p ++ [r]) (.col o k)))) st
    generalize hR : recD r = R at *
    cases o with
    | least =>
      have gs : grp (p ++ [r]) (.col .least k) = iMin (grp p (.col .least k)) (r.getD k 0) := by simp only [grp, col_snoc, minI_snoc (col_ne hp k)]
      rw [gs]
      generalize grp p (.col .least k) = v at *
      simp [F__law_next, b__law_next, i0, i1, ir, nm_count, nm_least, nm_last, nm_sum]
    | most =>
      have gs : grp (p ++ [r]) (.col .most k) = iMax (grp p (.col .most k)) (r.getD k 0) := by simp only [grp, col_snoc, maxI_snoc (col_ne hp k)]
      rw [gs]
      generalize grp p (.col .most k) = v at *
      simp [F__law_next, b__law_next, i0, i1, ir, nm_count, nm_least, nm_most, nm_last, nm_sum]
    | last =>
      have gs : grp (p ++ [r]) (.col .last k) = r.getD k 0 := by simp [grp, col_snoc]
      rw [gs]
      generalize grp p (.col .last k) = v at *
      simp [F__law_next, b__law_next, i0, i1, ir, nm_count, nm_least, nm_most, nm_last, nm_sum]
    | sum =>
      have gs : grp (p ++ [r]) (.col .sum k) = grp p (.col .sum k) + r.getD k 0 := by simp [grp, col_snoc]
      rw [gs]
      generalize grp p (.col .sum k) = v at *
      simp [F__law_next, b__law_next, i0, i1, ir, nm_count, nm_least, nm_most, nm_last, nm_sum]
theorem fine_snoc (fs : List Fo) (p : List (List Int)) (r : List Int) : fine fs (p ++ [r]) ↔ fine fs p ∧ ∀ f ∈ fs, okF (p ++ [r]) f := by
  constructor
  · intro h
    refine ⟨fun k hk f hf => ?_, fun f hf => ?_⟩
    · have := h k (by simp; omega) f hf
      rw [List.take_append_of_le_length (by omega)] at this
      exact this
    · have := h p.length (by simp) f hf
      rw [List.take_of_length_le (by simp)] at this
      exact this
  · rintro ⟨h1, h2⟩ k hk f hf
    by_cases c : k < p.length
    · rw [List.take_append_of_le_length (by omega)]
      exact h1 k c f hf
    · rw [List.take_of_length_le (by simp; omega)]
      exact h2 f hf
theorem G_snoc (fs : List Fo) (p : List (List Int)) (r : List Int) : G fs (p ++ [r]) = if G fs p = none then none else if ∀ f ∈ fs, okF (p ++ [r]) f then some (fs.map (grp (p ++ [r]))) else none := by
  unfold G
  by_cases a : fine fs p
  · by_cases b : ∀ f ∈ fs, okF (p ++ [r]) f
    · rw [if_pos ((fine_snoc fs p r).mpr ⟨a, b⟩), if_pos a, if_pos b]
      simp
    · rw [if_neg (fun z => b ((fine_snoc fs p r).mp z).2), if_pos a, if_neg b]
      simp
  · rw [if_neg (fun z => a ((fine_snoc fs p r).mp z).1), if_neg a]
    simp
/-- the first one -/
theorem G_first {w : Nat} {fs : List Fo} {r : List Int} (h : Rc w r) (hg : ∀ f ∈ fs, f.good w) : G fs [r] = some (fs.map (begun r)) := by
  unfold G
  rw [if_pos, List.map_congr_left fun f _ => (begun_grp r f).symm]
  intro k hk f hf
  have e : ([r] : List (List Int)).take (k + 1) = [r] := by
    rw [List.take_of_length_le (by simp)]
  rw [e]
  exact ok_one h (hg f hf)
end K06
set_option Elab.async false
set_option linter.all false
set_option maxRecDepth 100000
set_option maxHeartbeats 2000000
set_option exponentiation.threshold 5000
namespace K06
open PySem PySem.Spec PyProof.Rows L2 Ev
open Classical
local macro_rules | `(tactic| walk_at "s") => `(tactic| simp -implicitDefEqProofs only [rng_items', rng_ok', mZip_ap, zipOf_ap, mZip3_ap, mZip4_ap, zipF3_ap, zipF4_ap, mZipM_ap, mMtL_ap, sWhile_ap, sAg_ap, mFrz_ap, mRng3_ap, mLam_ap, noLam_dat, mTh_lam, step_items, step_ok, keepE, keepD, wpR_okE, wpR_excE, wpR_then, thn_ok, thn_xc, wpS_thenS, thnS_ok, thnS_xc, wpS_nxE, wpS_rtE, wpS_bkE, wpS_ctE, wpS_excE, wpS_then, seq_nxE, seq_rtE, seq_bkE, seq_ctE, seq_xcE, wpR_fin, fin_nxE, fin_rtE, fin_xcE, giveD_datW, run1, run2, run3, run4, run5, startE_ap, List.map_cons, List.map_nil, List.length_cons, List.length_nil, List.replicate, List.cons_append, List.nil_append, Nat.reduceSub, Nat.reduceAdd, Nat.reduceLeDiff, if_true, if_false, reduceIte, Bool.false_eq_true, pure_ap, bind_ap, then_ok, then_exc, m2_ap, m1_ap, mC_ap, ct_ap, aNil_ap, aCons_ap, asB_ap, mT_ap, mNot_ap, mAnd_ap, mOr_ap, mAndV_ap, mOrV_ap, mNotV_ap, mIf_ap, mChain_ap, on1_ap, on2_ap, retI_ap, retB_ap, mK_ap, thenS_ok, thenS_exc, sBind_ap, sthen_nx, sthen_rt, sthen_bk, sthen_ct, sthen_exc, sSeq_ap, sNil_ap, sRet_ap, sRetN_ap, sIf_ap, sDrop_ap, sSet_ap, sPass_ap, sBrk_ap, sCnt_ap, mSeq_ap, mYes_ap, mNoPart_ap, mPart_ap, asPart_ap, mSl_ap, mLc_ap, mLcX_ap, sFor_ap, mRng1_ap, mRng2_ap, dNil_ap, dCons_ap, asDat_ap, mDct_ap, mDct0_ap, tgName_ap, List.set_cons_succ, List.set_cons_zero, vr_zero, vr_succ, wipeE, data_items, data_ok, Ev.src_list, Ev.src_tuple, Ev.src_fz, rng_items, rng_ok, dSub_ap, dLt_ap, dLe_ap, dGt_ap, dGe_ap, dAdd_ap, dNeg_ap, dAbs_ap, dMax_ap, dMin_ap, dInt_ap, dIntB_ap, dIsi_ap, dLen_list, dLen_tuple, dLen_fz, tupOf_list, tupOf_tuple, lstOf_list, lstOf_tuple, dSl_list, dSl_tuple, datas_nil, datas_cons, Option.map_some, mkTup_go, mkLst_go, mkLoc_go, Nat.zero_le, sPar_go, sAsg_go, dAdd_list, dAdd_tuple, dEq_str, dEq_bool, dEq_int, dNe_str, dNe_bool, dNe_int', isN_none, isNotN_none, isNone0, isNone1, isNone2, isNone3, isNone4, isNone5, isNone6, tyOf, isi, ite_st, ite_sm, ite_em, Bool.not_true, Bool.not_false, Bool.not_not, decide_true, decide_false, p10_6, p10_7, p10_8, p10_9, p10_30, take_self, top_take, dMul_sm, Int.reduceNeg, Int.reduceLT, Int.reduceMul, Int.reduceAdd, Int.reduceSub, Int.neg_neg])
local macro_rules | `(tactic| walk_at "t") => `(tactic| try walk_at "s")
theorem enc0 (f : Fo) (st : Sto) : ∃ s : Str, dIx (.dat f.enc) (.dat (.int 0)) st = .ok (.dat (.str s)) st ∧ (s = "sum" ↔ ∃ k, f = .col .sum k) := by
  cases f with
  | cnt => exact ⟨"count", ix_tuple (by rfl) st, fun h => absurd h (by decide +kernel), fun ⟨k, h⟩ => by cases h⟩
  | col o k => exact ⟨o.nm, ix_tuple (by rfl) st, fun h => ⟨k, by rw [(nm_sum o).mp h]⟩, fun ⟨k', h⟩ => by cases h; rfl⟩
theorem take_snoc {rs : List (List Int)} {k : Nat} (h : k < rs.length) : rs.take (k + 1) = rs.take k ++ [rs[k]] := List.take_succ_eq_append_getElem h
theorem beginnings_eq {w : Nat} {fs : List Fo} {rs : List (List Int)} (hr : ∀ r ∈ rs, Rc w r) (hl : fs.length ≤ 900) (hrl : rs.length ≤ 900) (hg : ∀ f ∈ fs, f.good w) (st : Sto) :
    F__law_beginnings [.dat (.tuple (fs.map Fo.enc)), .dat (.tuple (rs.map recD))] st = .ok (.dat (.bool true)) st := by
  rw [← wpR_iff]
  simp only [F__law_beginnings, b__law_beginnings]
  walk_at "t"
  generalize hL : ((rs.map recD).length : Int) = L
  have hL' : L = (rs.length : Int) := by rw [← hL, List.length_map]
  clear hL
  refine wpR_eq (rng2_ap (by decide) (by omega) _) ?_
  walk_at "t"
  refine wp_range (fun k ρ s => s = st ∧ ∃ (a2 : PyData) (b3 b4 b5 b6 b7 b8 b9 b10 : Option D), ρ = [some (.dat (.tuple (fs.map Fo.enc))), some (.dat (.tuple (rs.map recD))), some (.dat a2), b3, b4, b5, b6, b7, b8, b9, b10] ∧ (0 < k → a2 = metD (G fs (rs.take k)))) ⟨rfl, .none, none, none, none, none, none, none, none, none, rfl, fun h => absurd h (Nat.lt_irrefl _)⟩ ?_ ?_
  · rintro k _ s hk ⟨es, a2, b3, b4, b5, b6, b7, b8, b9, b10, rfl, ha⟩
    have hk : k < rs.length := by omega
    rw [es]
    clear es
    refine ⟨_, rfl, ?_⟩
    simp only [l__law_beginnings_1]
    walk_at "t"
    have hrk := hr _ (List.getElem_mem hk)
    have ne1 : rs.take (k + 1) ≠ [] := by rw [take_snoc hk]; exact List.append_ne_nil_of_right_ne_nil _ (by simp)
    have hrt : ∀ r ∈ rs.take (k + 1), Rc w r := fun r h => hr r (List.mem_of_mem_take h)
    have m1 := met_G (fs := fs) ne1 hrt (by omega) hg st
    rw [cut_take _ (by omega), ← List.map_take, show ((1 : Int) + (k : Int)).toNat = k + 1 by omega]
    refine wpR_eq m1 ?_
    walk_at "t"
    have i1 : dIx (.dat (.tuple (rs.map recD))) (.dat (.int (1 + (k : Int) - 1))) st = .ok (.dat (recD rs[k])) st := by
      rw [show (1 + (k : Int) - 1) = ((k : Nat) : Int) by omega]
      exact ix_tuple (Ev.atI_nat (by rw [List.getElem?_map, List.getElem?_eq_getElem hk]; rfl)) st
    refine wpR_eq i1 ?_
    walk_at "t"
    rw [List.map_map]
    refine wpS_ite (fun q => ?_) fun q => ?_
    · have k0 : k = 0 := by
        have := of_decide_eq_true q
        omega
      subst k0
      walk_at "t"
      refine wp_map (enc := D.dat ∘ Fo.enc) (fun f => .int (begun rs[0] f)) (by omega) (fun f hf => ⟨_, rfl, ?_⟩) ?_
      · simp only [Function.comp]
        walk_at "t"
        have gf := hg f hf
        cases f with
        | cnt =>
          refine wpR_eq (ix_tuple (d := .str "count") (by rfl) st) ?_
          walk_at "t"
          first | exact ⟨trivial, trivial⟩ | exact ⟨rfl, rfl⟩ | exact ⟨rfl, trivial⟩ | trace_state
        | col o c =>
          refine wpR_eq (ix_tuple (d := .str o.nm) (by rfl) st) ?_
          walk_at "t"
          refine wpR_ite (fun z => absurd (of_decide_eq_true z) (nm_count o)) fun _ => ?_
          walk_at "t"
          refine wpR_eq (ix_tuple (d := .int c) (by rfl) st) ?_
          walk_at "t"
          have gc : c < rs[0].length := by rw [hrk.1]; exact gf
          refine wpR_eq (at_rec gc st) ?_
          first | exact ⟨trivial, trivial⟩ | exact ⟨rfl, rfl⟩ | exact ⟨rfl, trivial⟩ | trace_state
      · walk_at "t"
        have e1 : G fs (rs.take 1) = some (fs.map (begun rs[0])) := by
          rw [take_snoc hk]
          exact G_first hrk hg
        have e2 : (fs.map fun f => PyData.int (begun rs[0] f)) = (fs.map (begun rs[0])).map PyData.int := by rw [List.map_map]; rfl
        have e3 := metN (G fs (rs.take 1)) (some (fs.map (begun rs[0]))) st
        rw [decide_eq_true e1] at e3
        rw [e2]
        refine wpR_eq e3 ?_
        walk_at "t"
        first | exact ⟨trivial, _, _, _, _, _, _, _, _, _, rfl, fun _ => rfl⟩ | exact ⟨rfl, _, _, _, _, _, _, _, _, _, rfl, fun _ => rfl⟩ | trace_state
    · have k1 : 0 < k := by
        rcases Nat.eq_zero_or_pos k with z | z
        · subst z
          exact absurd (by decide) q
        · exact z
      have ea := ha k1
      subst ea
      walk_at "t"
      refine wpR_eq (metE _ none st) ?_
      walk_at "t"
      by_cases g : G fs (rs.take k) = none
      · rw [decide_eq_true g]
        walk_at "t"
        have e1 : G fs (rs.take (k + 1)) = none := by
          rw [take_snoc hk, G_snoc, if_pos g]
        have e3 := metN (G fs (rs.take (k + 1))) none st
        rw [decide_eq_true e1] at e3
        refine wpR_eq e3 ?_
        walk_at "t"
        first | exact ⟨trivial, _, _, _, _, _, _, _, _, _, rfl, fun _ => rfl⟩ | exact ⟨rfl, _, _, _, _, _, _, _, _, _, rfl, fun _ => rfl⟩ | trace_state
      · rw [decide_eq_false g]
        have nek : rs.take k ≠ [] := by
          intro z
          have := congrArg List.length z
          rw [List.length_take] at this
          have : min k rs.length = 0 := this
          omega
        have gk : G fs (rs.take k) = some (fs.map (grp (rs.take k))) := by
          unfold G at g ⊢
          by_cases z : fine fs (rs.take k)
          · rw [if_pos z]
          · rw [if_neg z] at g
            exact absurd rfl g
        rw [gk]
        have mk : metD (some (fs.map (grp (rs.take k)))) = .tuple (fs.map fun f => PyData.int (grp (rs.take k) f)) := by
          show PyData.tuple ((fs.map (grp (rs.take k))).map PyData.int) = _
          rw [List.map_map]
          rfl
        rw [mk]
        walk_at "t"
        simp only [zipD_map]
        refine wp_map (enc := fun f => D.dat (.tuple [Fo.enc f, .int (grp (rs.take k) f)])) (fun f => .int (grp (rs.take (k + 1)) f)) (by omega) (fun f hf => ⟨_, tg2' _ _ _ _ _, ?_⟩) ?_
        · walk_at "t"
          have := next_eq nek (r := rs[k]) f st (by rw [hrk.1]; exact hg f hf)
          rw [← take_snoc hk] at this
          refine wpR_eq this ?_
          first | exact ⟨trivial, trivial⟩ | exact ⟨rfl, rfl⟩ | exact ⟨rfl, trivial⟩ | trace_state
        · walk_at "t"
          have q6 : PyData.tuple (fs.map fun f => PyData.int (grp (rs.take (k + 1)) f)) = metD (some (fs.map (grp (rs.take (k + 1))))) := by
            show _ = PyData.tuple ((fs.map (grp (rs.take (k + 1)))).map PyData.int)
            rw [List.map_map]
            rfl
          simp only [zipD_map]
          refine wp_lc _ (fun j acc s => s = st ∧ ∃ xs : List Int, acc = xs.map PyData.int ∧ xs.length ≤ j ∧ ((∀ x ∈ xs, Wd x) ↔ ∀ f ∈ fs.take j, okF (rs.take (k + 1)) f)) [] st (by simp; omega) ⟨rfl, [], rfl, by simp, by simp⟩ (fun j hj acc s ⟨es, xs, ea, lx, ih⟩ => ?_) (fun acc s ⟨es, xs, ea, lx, ih⟩ => ?_)
          · rw [List.length_map] at hj
            subst ea
            rw [es]
            refine ⟨_, by rw [List.getElem_map]; exact tg2' _ _ _ _ _, ?_⟩
            have tk : fs.take (j + 1) = fs.take j ++ [fs[j]] := List.take_succ_eq_append_getElem hj
            generalize hf : fs[j] = f at *
            obtain ⟨nm, e0, en⟩ := enc0 f st
            walk_at "t"
            refine wpR_eq e0 ?_
            walk_at "t"
            refine ⟨fun hs => ?_, fun hs => ?_⟩
            · obtain ⟨c, ec⟩ := en.mp (of_decide_eq_true hs)
              walk_at "t"
              refine ⟨_, rfl, trivial, xs ++ [grp (rs.take (k + 1)) f], by simp, by simp; omega, ?_⟩
              rw [tk]
              constructor
              · intro h g hg
                rcases List.mem_append.mp hg with z | z
                · exact ih.mp (fun x hx => h x (List.mem_append_left _ hx)) g z
                · rw [List.mem_singleton.mp z, ec]
                  have := h _ (List.mem_append_right _ (List.mem_singleton.mpr rfl))
                  rw [ec] at this
                  exact this
              · intro h x hx
                rcases List.mem_append.mp hx with z | z
                · exact ih.mpr (fun g hg => h g (List.mem_append_left _ hg)) x z
                · rw [List.mem_singleton.mp z]
                  have := h f (List.mem_append_right _ (List.mem_singleton.mpr rfl))
                  rw [ec] at this ⊢
                  exact this
            · have nc : ¬ ∃ c, f = .col .sum c := fun z => absurd (en.mpr z) (of_decide_eq_false hs)
              refine ⟨by trivial, xs, rfl, by omega, ?_⟩
              have of : okF (rs.take (k + 1)) f := by
                cases f with
                | cnt => trivial
                | col o c =>
                  cases o with
                  | sum => exact absurd ⟨c, rfl⟩ nc
                  | _ => trivial
              rw [tk, ih]
              constructor
              · intro h g hg
                rcases List.mem_append.mp hg with z | z
                · exact h g z
                · rw [List.mem_singleton.mp z]
                  exact of
              · exact fun h g hg => h g (List.mem_append_left _ hg)
          · rw [List.length_map, List.take_length] at ih
            rw [List.length_map] at lx
            subst ea
            rw [es]
            walk_at "t"
            rw [List.map_map]
            refine wp_lc _ (fun j acc s => s = st ∧ (acc.isEmpty = true ↔ ∀ x ∈ xs.take j, Wd x)) [] st (by simp; omega) ⟨rfl, by simp⟩ (fun j hj acc s ⟨es, ih2⟩ => ?_) (fun acc s ⟨es, ih2⟩ => ?_)
            · rw [List.length_map] at hj
              rw [es]
              refine ⟨_, by rw [List.getElem_map]; rfl, ?_⟩
              have tk : xs.take (j + 1) = xs.take j ++ [xs[j]] := List.take_succ_eq_append_getElem hj
              generalize hx : xs[j] = x at *
              simp only [Function.comp]
              walk_at "t"
              have ab : ((1000000000 : Int) < iAbs x) ↔ ¬ Wd x := by
                unfold iAbs
                split <;> omega
              refine ⟨fun hs => ?_, fun hs => ?_⟩
              · have nw := ab.mp (by simpa using hs)
                walk_at "t"
                refine ⟨_, rfl, trivial, ?_⟩
                rw [tk]
                constructor
                · intro z
                  simp at z
                · intro z
                  exact absurd (z x (List.mem_append_right _ (List.mem_singleton.mpr rfl))) nw
              · have nw : Wd x := Classical.byContradiction fun z => absurd (ab.mpr z) (by simpa using hs)
                refine ⟨by trivial, ?_⟩
                rw [tk, ih2]
                constructor
                · intro h g hg
                  rcases List.mem_append.mp hg with z | z
                  · exact h g z
                  · rw [List.mem_singleton.mp z]
                    exact nw
                · exact fun h g hg => h g (List.mem_append_left _ hg)
            · rw [List.length_map, List.take_length, ih] at ih2
              rw [es]
              walk_at "t"
              refine wpR_eq (dNe_nil' _ _) ?_
              walk_at "t"
              have gs := G_snoc fs (rs.take k) rs[k]
              rw [← take_snoc hk, if_neg g] at gs
              by_cases c : ∀ f ∈ fs, okF (rs.take (k + 1)) f
              · rw [ih2.mpr c]
                walk_at "t"
                rw [if_pos c] at gs
                have e3 := metN (G fs (rs.take (k + 1))) (some (fs.map (grp (rs.take (k + 1))))) st
                rw [decide_eq_true gs] at e3
                rw [q6]
                refine wpR_eq e3 ?_
                walk_at "t"
                first | exact ⟨trivial, _, _, _, _, _, _, _, _, _, rfl, fun _ => rfl⟩ | exact ⟨rfl, _, _, _, _, _, _, _, _, _, rfl, fun _ => rfl⟩ | trace_state
              · have nz : acc.isEmpty = false := by
                  cases z : acc.isEmpty with
                  | false => rfl
                  | true => exact absurd (ih2.mp z) c
                rw [nz]
                walk_at "t"
                rw [if_neg c] at gs
                have e3 := metN (G fs (rs.take (k + 1))) none st
                rw [decide_eq_true gs] at e3
                refine wpR_eq e3 ?_
                walk_at "t"
                first | exact ⟨trivial, _, _, _, _, _, _, _, _, _, rfl, fun _ => rfl⟩ | exact ⟨rfl, _, _, _, _, _, _, _, _, _, rfl, fun _ => rfl⟩ | trace_state
  · rintro _ s ⟨es, a2, b3, b4, b5, b6, b7, b8, b9, b10, rfl, ha⟩
    rw [es]
    walk_at "t"
    first | exact ⟨trivial, trivial⟩ | exact ⟨rfl, List.take_length⟩ | exact ⟨rfl, rfl⟩ | trace_state
end K06
set_option Elab.async false
set_option linter.all false
set_option maxRecDepth 100000
set_option maxHeartbeats 2000000
set_option exponentiation.threshold 5000
namespace K06
open PySem PySem.Spec PyProof.Rows L2 Ev
open Classical
local macro_rules | `(tactic| walk_at "s") => `(tactic| simp -implicitDefEqProofs only [rng_items', rng_ok', mZip_ap, zipOf_ap, mZip3_ap, mZip4_ap, zipF3_ap, zipF4_ap, mZipM_ap, mMtL_ap, sWhile_ap, sAg_ap, mFrz_ap, mRng3_ap, mLam_ap, noLam_dat, mTh_lam, step_items, step_ok, keepE, keepD, wpR_okE, wpR_excE, wpR_then, thn_ok, thn_xc, wpS_thenS, thnS_ok, thnS_xc, wpS_nxE, wpS_rtE, wpS_bkE, wpS_ctE, wpS_excE, wpS_then, seq_nxE, seq_rtE, seq_bkE, seq_ctE, seq_xcE, wpR_fin, fin_nxE, fin_rtE, fin_xcE, giveD_datW, run1, run2, run3, run4, run5, startE_ap, List.map_cons, List.map_nil, List.length_cons, List.length_nil, List.replicate, List.cons_append, List.nil_append, Nat.reduceSub, Nat.reduceAdd, Nat.reduceLeDiff, if_true, if_false, reduceIte, Bool.false_eq_true, pure_ap, bind_ap, then_ok, then_exc, m2_ap, m1_ap, mC_ap, ct_ap, aNil_ap, aCons_ap, asB_ap, mT_ap, mNot_ap, mAnd_ap, mOr_ap, mAndV_ap, mOrV_ap, mNotV_ap, mIf_ap, mChain_ap, on1_ap, on2_ap, retI_ap, retB_ap, mK_ap, thenS_ok, thenS_exc, sBind_ap, sthen_nx, sthen_rt, sthen_bk, sthen_ct, sthen_exc, sSeq_ap, sNil_ap, sRet_ap, sRetN_ap, sIf_ap, sDrop_ap, sSet_ap, sPass_ap, sBrk_ap, sCnt_ap, mSeq_ap, mYes_ap, mNoPart_ap, mPart_ap, asPart_ap, mSl_ap, mLc_ap, mLcX_ap, sFor_ap, mRng1_ap, mRng2_ap, dNil_ap, dCons_ap, asDat_ap, mDct_ap, mDct0_ap, tgName_ap, List.set_cons_succ, List.set_cons_zero, vr_zero, vr_succ, wipeE, data_items, data_ok, Ev.src_list, Ev.src_tuple, Ev.src_fz, rng_items, rng_ok, dSub_ap, dLt_ap, dLe_ap, dGt_ap, dGe_ap, dAdd_ap, dNeg_ap, dAbs_ap, dMax_ap, dMin_ap, dInt_ap, dIntB_ap, dIsi_ap, dLen_list, dLen_tuple, dLen_fz, tupOf_list, tupOf_tuple, lstOf_list, lstOf_tuple, dSl_list, dSl_tuple, datas_nil, datas_cons, Option.map_some, mkTup_go, mkLst_go, mkLoc_go, Nat.zero_le, sPar_go, sAsg_go, dAdd_list, dAdd_tuple, dEq_str, dEq_bool, dEq_int, dNe_str, dNe_bool, dNe_int', isN_none, isNotN_none, isNone0, isNone1, isNone2, isNone3, isNone4, isNone5, isNone6, tyOf, isi, ite_st, ite_sm, ite_em, Bool.not_true, Bool.not_false, Bool.not_not, decide_true, decide_false, p10_6, p10_7, p10_8, p10_9, p10_30, take_self, top_take, dMul_sm, Int.reduceNeg, Int.reduceLT, Int.reduceMul, Int.reduceAdd, Int.reduceSub, Int.neg_neg])
local macro_rules | `(tactic| walk_at "t") => `(tactic| try walk_at "s")
/-! two halves -/
theorem fine_pre {fs : List Fo} {a b : List (List Int)} (h : fine fs (a ++ b)) : fine fs a := fun k hk f hf => by
  have := h k (by rw [List.length_append]; omega) f hf
  rw [List.take_append_of_le_length (by omega)] at this
  exact this
theorem col_app (a b : List (List Int)) (k : Nat) : colOf (a ++ b) k = colOf a k ++ colOf b k := by simp [colOf]
theorem three (o p q : Option (List Int)) (st : Sto) : dIn (.dat (.str "great")) (.dat (.tuple [metD o, metD p, metD q])) st = .ok (.dat (.bool (decide (o = none) || (decide (p = none) || decide (q = none))))) st := by
  have sh : SeqAt.shaped (.tuple [metD o, metD p, metD q]) = true := (shaped_tup (n := 1) (by decide) fun x hx => by
    simp only [List.mem_cons, List.not_mem_nil, or_false] at hx
    rcases hx with rfl | rfl | rfl <;> exact (met_lay _).2).1
  rw [in_row (h := .str "great") (met_lay none).1 sh]
  have e : ([metD o, metD p, metD q].any fun z => PyData.eqv z (.str "great")) = (PyData.eqv (metD o) (metD none) || (PyData.eqv (metD p) (metD none) || (PyData.eqv (metD q) (metD none) || false))) := rfl
  rw [e, met_eqv, met_eqv, met_eqv, Bool.or_false]
theorem two (o p : Option (List Int)) (st : Sto) : dIn (.dat (.str "great")) (.dat (.tuple [metD o, metD p])) st = .ok (.dat (.bool (decide (o = none) || decide (p = none)))) st := by
  have sh : SeqAt.shaped (.tuple [metD o, metD p]) = true := (shaped_tup (n := 1) (by decide) fun x hx => by
    simp only [List.mem_cons, List.not_mem_nil, or_false] at hx
    rcases hx with rfl | rfl <;> exact (met_lay _).2).1
  rw [in_row (h := .str "great") (met_lay none).1 sh]
  have e : ([metD o, metD p].any fun z => PyData.eqv z (.str "great")) = (PyData.eqv (metD o) (metD none) || (PyData.eqv (metD p) (metD none) || false)) := rfl
  rw [e, met_eqv, met_eqv, Bool.or_false]
theorem G_some {fs : List Fo} {rs : List (List Int)} (g : ¬ G fs rs = none) : metD (G fs rs) = .tuple (fs.map fun f => PyData.int (grp rs f)) := by
  have e : G fs rs = some (fs.map (grp rs)) := by
    unfold G at g ⊢
    by_cases z : fine fs rs
    · rw [if_pos z]
    · rw [if_neg z] at g
      exact absurd rfl g
  rw [e]
  show PyData.tuple ((fs.map (grp rs)).map PyData.int) = _
  rw [List.map_map]
  rfl
theorem halves_turn {a b : List (List Int)} (na : a ≠ []) (nb : b ≠ []) (f : Fo) {c0 c1 c2 c3 c4 c5 c10 : Option D} {st : Sto} {P : Pst} (h : ∀ c, P.nx [c0, c1, c2, c3, c4, c5, some (.dat f.enc), some (.dat (.int (grp a f))), some (.dat (.int (grp b f))), some (.dat (.int (grp (a ++ b) f))), c] st) :
    Ev.wpS (l__law_halves_1 [c0, c1, c2, c3, c4, c5, some (.dat f.enc), some (.dat (.int (grp a f))), some (.dat (.int (grp b f))), some (.dat (.int (grp (a ++ b) f))), c10] st) P := by
  have row : ∀ s : Str, SeqAt.shaped (.str s) = true → dIn (.dat (.str s)) (.dat (.tuple [.str "sum", .str "count"])) st = .ok (.dat (.bool ([PyData.str "sum", .str "count"].any fun z => PyData.eqv z (.str s)))) st := fun s hs => in_row hs (by decide +kernel) st
  have sm : ∀ x : Int, (x == x) = true := fun x => by simp
  simp only [l__law_halves_1]
  walk_at "t"
  cases f with
  | cnt =>
    have e : grp (a ++ b) .cnt = grp a .cnt + grp b .cnt := by simp [grp]
    have j := row "count" (by decide +kernel)
    rw [show ([PyData.str "sum", .str "count"].any fun z => PyData.eqv z (.str "count")) = true by decide +kernel] at j
    rw [e] at h ⊢
    generalize grp a .cnt = x at *
    generalize grp b .cnt = y at *
    refine wpR_eq (ix_tuple (d := .str "count") (by rfl) st) ?_
    walk_at "t"
    refine wpR_eq j ?_
    walk_at "t"
    try simp only [sm]
    walk_at "t"
    exact h _
  | col o k =>
    refine wpR_eq (ix_tuple (d := .str o.nm) (by rfl) st) ?_
    walk_at "t"
    have ca := col_ne na k
    have cb := col_ne nb k
    cases o with
    | sum =>
      have e : grp (a ++ b) (.col .sum k) = grp a (.col .sum k) + grp b (.col .sum k) := by simp only [grp, col_app, sum_app']
      have j := row "sum" (by decide +kernel)
      rw [show ([PyData.str "sum", .str "count"].any fun z => PyData.eqv z (.str "sum")) = true by decide +kernel] at j
      rw [e] at h ⊢
      generalize grp a (.col .sum k) = x at *
      generalize grp b (.col .sum k) = y at *
      refine wpR_eq (show dIn (.dat (.str Of.sum.nm)) _ st = _ from j) ?_
      walk_at "t"
      try simp only [sm]
      walk_at "t"
      exact h _
    | last =>
      have e : grp (a ++ b) (.col .last k) = grp b (.col .last k) := by
        simp only [grp, col_app, List.getLast?_append]
        cases z : (colOf b k).getLast? with
        | none => exact absurd (List.getLast?_eq_none_iff.mp z) cb
        | some v => rfl
      have j := row "last" (by decide +kernel)
      rw [show ([PyData.str "sum", .str "count"].any fun z => PyData.eqv z (.str "last")) = false by decide +kernel] at j
      rw [e] at h ⊢
      generalize grp a (.col .last k) = x at *
      generalize grp b (.col .last k) = y at *
      refine wpR_eq (show dIn (.dat (.str Of.last.nm)) _ st = _ from j) ?_
      walk_at "t"
      refine wpR_eq (ix_tuple (d := .str "last") (by rfl) st) ?_
      walk_at "t"
      try simp only [sm]
      walk_at "t"
      exact h _
    | least =>
      have e : grp (a ++ b) (.col .least k) = iMin (grp a (.col .least k)) (grp b (.col .least k)) := by simp only [grp, col_app, minI_app ca cb]
      have j := row "least" (by decide +kernel)
      rw [show ([PyData.str "sum", .str "count"].any fun z => PyData.eqv z (.str "least")) = false by decide +kernel] at j
      rw [e] at h ⊢
      generalize grp a (.col .least k) = x at *
      generalize grp b (.col .least k) = y at *
      refine wpR_eq (show dIn (.dat (.str Of.least.nm)) _ st = _ from j) ?_
      walk_at "t"
      refine wpR_eq (ix_tuple (d := .str "least") (by rfl) st) ?_
      walk_at "t"
      simp only [show decide (("least" : Str) = "last") = false by decide +kernel]
      walk_at "t"
      refine wpR_eq (ix_tuple (d := .str "least") (by rfl) st) ?_
      walk_at "t"
      try simp only [sm]
      walk_at "t"
      exact h _
    | most =>
      have e : grp (a ++ b) (.col .most k) = iMax (grp a (.col .most k)) (grp b (.col .most k)) := by simp only [grp, col_app, maxI_app ca cb]
      have j := row "most" (by decide +kernel)
      rw [show ([PyData.str "sum", .str "count"].any fun z => PyData.eqv z (.str "most")) = false by decide +kernel] at j
      rw [e] at h ⊢
      generalize grp a (.col .most k) = x at *
      generalize grp b (.col .most k) = y at *
      refine wpR_eq (show dIn (.dat (.str Of.most.nm)) _ st = _ from j) ?_
      walk_at "t"
      refine wpR_eq (ix_tuple (d := .str "most") (by rfl) st) ?_
      walk_at "t"
      simp only [show decide (("most" : Str) = "last") = false by decide +kernel]
      walk_at "t"
      refine wpR_eq (ix_tuple (d := .str "most") (by rfl) st) ?_
      walk_at "t"
      simp only [show decide (("most" : Str) = "least") = false by decide +kernel]
      walk_at "t"
      try simp only [sm]
      walk_at "t"
      exact h _
theorem halves_eq {w : Nat} {fs : List Fo} {a b : List (List Int)} (na : a ≠ []) (nb : b ≠ []) (hr : ∀ r ∈ a ++ b, Rc w r) (hl : fs.length ≤ 900) (hg : ∀ f ∈ fs, f.good w) (st : Sto) :
    F__law_halves [.dat (.tuple (fs.map Fo.enc)), .dat (.tuple ((a ++ b).map recD)), .dat (.int (a.length : Int))] st = .ok (.dat (.bool true)) st := by
  rw [← wpR_iff]
  simp only [F__law_halves, b__law_halves]
  walk_at "t"
  refine wpR_eq (met_G (by simp [na]) hr (by omega) hg st) ?_
  walk_at "t"
  rw [cut_take _ (by omega), ← List.map_take, show ((a.length : Int)).toNat = a.length by omega, List.take_left' rfl]
  refine wpR_eq (met_G na (fun r h => hr r (List.mem_append_left _ h)) (by omega) hg st) ?_
  walk_at "t"
  rw [cut_drop _ (by omega), ← List.map_drop, show ((a.length : Int)).toNat = a.length by omega, List.drop_left' rfl]
  refine wpR_eq (met_G nb (fun r h => hr r (List.mem_append_right _ h)) (by omega) hg st) ?_
  walk_at "t"
  refine wpR_eq (three _ _ _ st) ?_
  walk_at "t"
  by_cases ga : G fs a = none
  · have gw : G fs (a ++ b) = none := by
      unfold G at ga ⊢
      rw [if_neg]
      intro z
      rw [if_pos (fine_pre z)] at ga
      cases ga
    rw [decide_eq_true gw, Bool.true_or, if_pos rfl]
    walk_at "t"
    refine wpR_eq (metN _ none st) ?_
    rw [decide_eq_true ga]
    walk_at "t"
    refine wpR_eq (metE _ none st) ?_
    rw [decide_eq_true gw]
    walk_at "t"
    first | exact ⟨trivial, trivial⟩ | exact ⟨rfl, List.take_length⟩ | exact ⟨rfl, rfl⟩ | trace_state
  · by_cases gx : G fs b = none ∨ G fs (a ++ b) = none
    · have any : (decide (G fs (a ++ b) = none) || (decide (G fs a = none) || decide (G fs b = none))) = true := by
        rcases gx with z | z <;> simp [z]
      rw [if_pos any]
      walk_at "t"
      refine wpR_eq (metN _ none st) ?_
      rw [decide_eq_false ga]
      walk_at "t"
      first | exact ⟨trivial, trivial⟩ | exact ⟨rfl, List.take_length⟩ | exact ⟨rfl, rfl⟩ | trace_state
    · have gb : ¬ G fs b = none := fun z => gx (.inl z)
      have gw : ¬ G fs (a ++ b) = none := fun z => gx (.inr z)
      rw [decide_eq_false ga, decide_eq_false gb, decide_eq_false gw]
      simp only [Bool.or_false, Bool.false_or]
      walk_at "t"
      simp only [G_some ga, G_some gb, G_some gw]
      walk_at "t"
      simp only [zd4_map]
      refine wp_each (enc := fun f => D.dat (.tuple [Fo.enc f, .int (grp a f), .int (grp b f), .int (grp (a ++ b) f)])) (fun k ρ s => s = st ∧ ∃ b6 b7 b8 b9 b10 : Option D, ρ = [some (.dat (.tuple (fs.map Fo.enc))), some (.dat (.tuple ((a ++ b).map recD))), some (.dat (.int (a.length : Int))), some (.dat (.tuple (fs.map fun f => PyData.int (grp (a ++ b) f)))), some (.dat (.tuple (fs.map fun f => PyData.int (grp a f)))), some (.dat (.tuple (fs.map fun f => PyData.int (grp b f)))), b6, b7, b8, b9, b10]) ⟨rfl, _, _, _, _, _, rfl⟩ ?_ ?_
      · rintro k hk _ s ⟨es, b6, b7, b8, b9, b10, rfl⟩
        rw [es]
        refine ⟨_, tg4 _ _ _ _ _ _ _ _ _, ?_⟩
        exact halves_turn na nb _ fun c => ⟨rfl, _, _, _, _, _, rfl⟩
      · rintro _ s ⟨es, b6, b7, b8, b9, b10, rfl⟩
        rw [es]
        walk_at "t"
        first | exact ⟨trivial, trivial⟩ | exact ⟨rfl, List.take_length⟩ | exact ⟨rfl, rfl⟩ | trace_state
end K06
set_option Elab.async false
set_option linter.all false
set_option maxRecDepth 100000
set_option maxHeartbeats 2000000
set_option exponentiation.threshold 5000
namespace K06
open PySem PySem.Spec PyProof.Rows L2 Ev
open Classical
local macro_rules | `(tactic| walk_at "s") => `(tactic| simp -implicitDefEqProofs only [rng_items', rng_ok', mZip_ap, zipOf_ap, mZip3_ap, mZip4_ap, zipF3_ap, zipF4_ap, mZipM_ap, mMtL_ap, sWhile_ap, sAg_ap, mFrz_ap, mRng3_ap, mLam_ap, noLam_dat, mTh_lam, step_items, step_ok, keepE, keepD, wpR_okE, wpR_excE, wpR_then, thn_ok, thn_xc, wpS_thenS, thnS_ok, thnS_xc, wpS_nxE, wpS_rtE, wpS_bkE, wpS_ctE, wpS_excE, wpS_then, seq_nxE, seq_rtE, seq_bkE, seq_ctE, seq_xcE, wpR_fin, fin_nxE, fin_rtE, fin_xcE, giveD_datW, run1, run2, run3, run4, run5, startE_ap, List.map_cons, List.map_nil, List.length_cons, List.length_nil, List.replicate, List.cons_append, List.nil_append, Nat.reduceSub, Nat.reduceAdd, Nat.reduceLeDiff, if_true, if_false, reduceIte, Bool.false_eq_true, pure_ap, bind_ap, then_ok, then_exc, m2_ap, m1_ap, mC_ap, ct_ap, aNil_ap, aCons_ap, asB_ap, mT_ap, mNot_ap, mAnd_ap, mOr_ap, mAndV_ap, mOrV_ap, mNotV_ap, mIf_ap, mChain_ap, on1_ap, on2_ap, retI_ap, retB_ap, mK_ap, thenS_ok, thenS_exc, sBind_ap, sthen_nx, sthen_rt, sthen_bk, sthen_ct, sthen_exc, sSeq_ap, sNil_ap, sRet_ap, sRetN_ap, sIf_ap, sDrop_ap, sSet_ap, sPass_ap, sBrk_ap, sCnt_ap, mSeq_ap, mYes_ap, mNoPart_ap, mPart_ap, asPart_ap, mSl_ap, mLc_ap, mLcX_ap, sFor_ap, mRng1_ap, mRng2_ap, dNil_ap, dCons_ap, asDat_ap, mDct_ap, mDct0_ap, tgName_ap, List.set_cons_succ, List.set_cons_zero, vr_zero, vr_succ, wipeE, data_items, data_ok, Ev.src_list, Ev.src_tuple, Ev.src_fz, rng_items, rng_ok, dSub_ap, dLt_ap, dLe_ap, dGt_ap, dGe_ap, dAdd_ap, dNeg_ap, dAbs_ap, dMax_ap, dMin_ap, dInt_ap, dIntB_ap, dIsi_ap, dLen_list, dLen_tuple, dLen_fz, tupOf_list, tupOf_tuple, lstOf_list, lstOf_tuple, dSl_list, dSl_tuple, datas_nil, datas_cons, Option.map_some, mkTup_go, mkLst_go, mkLoc_go, Nat.zero_le, sPar_go, sAsg_go, dAdd_list, dAdd_tuple, dEq_str, dEq_bool, dEq_int, dNe_str, dNe_bool, dNe_int', isN_none, isNotN_none, isNone0, isNone1, isNone2, isNone3, isNone4, isNone5, isNone6, tyOf, isi, ite_st, ite_sm, ite_em, Bool.not_true, Bool.not_false, Bool.not_not, decide_true, decide_false, p10_6, p10_7, p10_8, p10_9, p10_30, take_self, top_take, dMul_sm, Int.reduceNeg, Int.reduceLT, Int.reduceMul, Int.reduceAdd, Int.reduceSub, Int.neg_neg])
local macro_rules | `(tactic| walk_at "t") => `(tactic| try walk_at "s")
theorem back_tup {ma mb : Ev.Env → M D} {ρ : Ev.Env} {xs : List PyData} {st : Sto} (ha : ma ρ st = .ok (.dat (.tuple xs)) st) (hb : mb ρ st = .ok (.dat (.int (-1))) st) : mBack ma mb ρ st = .ok (.dat (.tuple xs.reverse)) st := by
  unfold mBack
  rw [bind_ap, ha, then_ok, bind_ap, hb, then_ok]
  rfl
theorem col_rev (rs : List (List Int)) (k : Nat) : colOf rs.reverse k = (colOf rs k).reverse := by simp [colOf]
/-! turned about -/
theorem turned_turn {w : Nat} {rs : List (List Int)} (ne : rs ≠ []) (hr : ∀ r ∈ rs, Rc w r) (f : Fo) (hg : f.good w) {c0 c2 c3 : Option D} {st : Sto} {P : Pst} (h : P.nx [c0, some (.dat (.tuple (rs.map recD))), c2, c3, some (.dat f.enc), some (.dat (.int (grp rs f))), some (.dat (.int (grp rs.reverse f)))] st) :
    Ev.wpS (l__law_turned_1 [c0, some (.dat (.tuple (rs.map recD))), c2, c3, some (.dat f.enc), some (.dat (.int (grp rs f))), some (.dat (.int (grp rs.reverse f)))] st) P := by
  have sm : ∀ x : Int, (x == x) = true := fun x => by simp
  have cr := col_rev rs
  simp only [l__law_turned_1]
  walk_at "t"
  cases f with
  | cnt =>
    have e : grp rs.reverse .cnt = grp rs .cnt := by simp [grp]
    rw [e] at h ⊢
    generalize grp rs .cnt = x at *
    refine wpR_eq (ix_tuple (d := .str "count") (by rfl) st) ?_
    walk_at "t"
    simp only [show decide (("count" : Str) = "last") = false by decide +kernel]
    walk_at "t"
    try simp only [sm]
    walk_at "t"
    exact h
  | col o k =>
    refine wpR_eq (ix_tuple (d := .str o.nm) (by rfl) st) ?_
    walk_at "t"
    have ca := col_ne ne k
    have oth : ∀ o : Of, o ≠ .last → grp rs.reverse (.col o k) = grp rs (.col o k) := fun o ho => by
      cases o with
      | sum => simp only [grp, cr, sum_rev]
      | least => simp only [grp, cr, minI_rev ca]
      | most => simp only [grp, cr, maxI_rev ca]
      | last => exact absurd rfl ho
    by_cases ol : o = .last
    · subst ol
      have e : grp rs.reverse (.col .last k) = (rs.headD []).getD k 0 := by
        simp only [grp, cr, List.getLast?_reverse]
        match rs, ne with
        | r :: rs, _ => rfl
      simp only [show decide (Of.last.nm = ("last" : Str)) = true by decide +kernel]
      rw [e] at h ⊢
      generalize grp rs (.col .last k) = x at *
      walk_at "t"
      match rs, ne, hr with
      | r :: rs, _, hr =>
        refine wpR_eq (ix_tuple (d := recD r) (Ev.atI_nat (k := 0) rfl) st) ?_
        walk_at "t"
        refine wpR_eq (ix_tuple (d := .int k) (by rfl) st) ?_
        walk_at "t"
        have gc : k < r.length := by rw [(hr r List.mem_cons_self).1]; exact hg
        refine wpR_eq (at_rec gc st) ?_
        walk_at "t"
        try simp only [List.headD_cons, sm]
        walk_at "t"
        exact h
    · have e := oth o ol
      rw [e] at h ⊢
      generalize grp rs (.col o k) = x at *
      have nl : decide (o.nm = ("last" : Str)) = false := decide_eq_false fun z => ol ((nm_last o).mp z)
      simp only [nl]
      walk_at "t"
      try simp only [sm]
      walk_at "t"
      exact h
theorem turned_eq {w : Nat} {fs : List Fo} {rs : List (List Int)} (ne : rs ≠ []) (hr : ∀ r ∈ rs, Rc w r) (hl : fs.length ≤ 900) (hg : ∀ f ∈ fs, f.good w) (st : Sto) :
    F__law_turned [.dat (.tuple (fs.map Fo.enc)), .dat (.tuple (rs.map recD))] st = .ok (.dat (.bool true)) st := by
  rw [← wpR_iff]
  simp only [F__law_turned, b__law_turned]
  walk_at "t"
  refine wpR_eq (met_G ne hr (by omega) hg st) ?_
  walk_at "t"
  refine wpR_eq (back_tup rfl rfl) ?_
  walk_at "t"
  rw [← List.map_reverse]
  refine wpR_eq (met_G (by simpa using ne) (fun r h => hr r (List.mem_reverse.mp h)) (by omega) hg st) ?_
  walk_at "t"
  refine wpR_eq (two _ _ st) ?_
  walk_at "t"
  by_cases gx : G fs rs = none ∨ G fs rs.reverse = none
  · have any : (decide (G fs rs = none) || decide (G fs rs.reverse = none)) = true := by
      rcases gx with z | z <;> simp [z]
    rw [if_pos any]
    walk_at "t"
    first | exact ⟨trivial, trivial⟩ | exact ⟨rfl, List.take_length⟩ | exact ⟨rfl, rfl⟩ | trace_state
  · have gb : ¬ G fs rs = none := fun z => gx (.inl z)
    have gw : ¬ G fs rs.reverse = none := fun z => gx (.inr z)
    rw [decide_eq_false gb, decide_eq_false gw]
    simp only [Bool.or_false, Bool.false_or]
    walk_at "t"
    simp only [G_some gb, G_some gw]
    walk_at "t"
    simp only [zd3_map]
    refine wp_each (enc := fun f => D.dat (.tuple [Fo.enc f, .int (grp rs f), .int (grp rs.reverse f)])) (fun k ρ s => s = st ∧ ∃ b4 b5 b6 : Option D, ρ = [some (.dat (.tuple (fs.map Fo.enc))), some (.dat (.tuple (rs.map recD))), some (.dat (.tuple (fs.map fun f => PyData.int (grp rs f)))), some (.dat (.tuple (fs.map fun f => PyData.int (grp rs.reverse f)))), b4, b5, b6]) ⟨rfl, _, _, _, rfl⟩ ?_ ?_
    · rintro k hk _ s ⟨es, b4, b5, b6, rfl⟩
      rw [es]
      refine ⟨_, tg3 _ _ _ _ _ _ _, ?_⟩
      exact turned_turn ne hr _ (hg _ (List.getElem_mem hk)) ⟨rfl, _, _, _, rfl⟩
    · rintro _ s ⟨es, b4, b5, b6, rfl⟩
      rw [es]
      walk_at "t"
      first | exact ⟨trivial, trivial⟩ | exact ⟨rfl, List.take_length⟩ | exact ⟨rfl, rfl⟩ | trace_state
end K06
set_option Elab.async false
set_option linter.all false
set_option maxRecDepth 100000
set_option maxHeartbeats 2000000
set_option exponentiation.threshold 5000
namespace K06
open PySem PySem.Spec PyProof.Rows L2 Ev
open Classical
local macro_rules | `(tactic| walk_at "s") => `(tactic| simp -implicitDefEqProofs only [rng_items', rng_ok', mZip_ap, zipOf_ap, mZip3_ap, mZip4_ap, zipF3_ap, zipF4_ap, mZipM_ap, mMtL_ap, sWhile_ap, sAg_ap, mFrz_ap, mRng3_ap, mLam_ap, noLam_dat, mTh_lam, step_items, step_ok, keepE, keepD, wpR_okE, wpR_excE, wpR_then, thn_ok, thn_xc, wpS_thenS, thnS_ok, thnS_xc, wpS_nxE, wpS_rtE, wpS_bkE, wpS_ctE, wpS_excE, wpS_then, seq_nxE, seq_rtE, seq_bkE, seq_ctE, seq_xcE, wpR_fin, fin_nxE, fin_rtE, fin_xcE, giveD_datW, run1, run2, run3, run4, run5, startE_ap, List.map_cons, List.map_nil, List.length_cons, List.length_nil, List.replicate, List.cons_append, List.nil_append, Nat.reduceSub, Nat.reduceAdd, Nat.reduceLeDiff, if_true, if_false, reduceIte, Bool.false_eq_true, pure_ap, bind_ap, then_ok, then_exc, m2_ap, m1_ap, mC_ap, ct_ap, aNil_ap, aCons_ap, asB_ap, mT_ap, mNot_ap, mAnd_ap, mOr_ap, mAndV_ap, mOrV_ap, mNotV_ap, mIf_ap, mChain_ap, on1_ap, on2_ap, retI_ap, retB_ap, mK_ap, thenS_ok, thenS_exc, sBind_ap, sthen_nx, sthen_rt, sthen_bk, sthen_ct, sthen_exc, sSeq_ap, sNil_ap, sRet_ap, sRetN_ap, sIf_ap, sDrop_ap, sSet_ap, sPass_ap, sBrk_ap, sCnt_ap, mSeq_ap, mYes_ap, mNoPart_ap, mPart_ap, asPart_ap, mSl_ap, mLc_ap, mLcX_ap, sFor_ap, mRng1_ap, mRng2_ap, dNil_ap, dCons_ap, asDat_ap, mDct_ap, mDct0_ap, tgName_ap, List.set_cons_succ, List.set_cons_zero, vr_zero, vr_succ, wipeE, data_items, data_ok, Ev.src_list, Ev.src_tuple, Ev.src_fz, rng_items, rng_ok, dSub_ap, dLt_ap, dLe_ap, dGt_ap, dGe_ap, dAdd_ap, dNeg_ap, dAbs_ap, dMax_ap, dMin_ap, dInt_ap, dIntB_ap, dIsi_ap, dLen_list, dLen_tuple, dLen_fz, tupOf_list, tupOf_tuple, lstOf_list, lstOf_tuple, dSl_list, dSl_tuple, datas_nil, datas_cons, Option.map_some, mkTup_go, mkLst_go, mkLoc_go, Nat.zero_le, sPar_go, sAsg_go, dAdd_list, dAdd_tuple, dEq_str, dEq_bool, dEq_int, dNe_str, dNe_bool, dNe_int', isN_none, isNotN_none, isNone0, isNone1, isNone2, isNone3, isNone4, isNone5, isNone6, tyOf, isi, ite_st, ite_sm, ite_em, Bool.not_true, Bool.not_false, Bool.not_not, decide_true, decide_false, p10_6, p10_7, p10_8, p10_9, p10_30, take_self, top_take, dMul_sm, Int.reduceNeg, Int.reduceLT, Int.reduceMul, Int.reduceAdd, Int.reduceSub, Int.neg_neg])
local macro_rules | `(tactic| walk_at "t") => `(tactic| try walk_at "s")
theorem drw {st : Sto} {n m : Nat} {many : Int} {P : Rst D} (S : SackAt st n m) (h0 : 0 < many) (h1 : many < 18446744073709551616) (hm : m ≤ 1000000) (h : ∀ r st', 0 ≤ r → r < many → Dn n (m + 1) st st' → P.ok (.dat (.int r)) st') : wpR (F__law_draw [.loc n, .dat (.int many)] st) P := wp_drawB S h0 h1 hm h
theorem word_wp {st : Sto} {n m : Nat} {far : Int} {P : Rst D} (S : SackAt st n m) (hm : m ≤ 900000) (f0 : 0 ≤ far) (f1 : far ≤ 1000000000) (h : ∀ v st', Wd v → Dn n (m + 3) st st' → P.ok (.dat (.int v)) st') : wpR (F__law_word [.loc n, .dat (.int far)] st) P := by
  simp only [F__law_word, b__law_word]
  walk_at "s"
  refine drw S (by decide) (by decide) (by omega) fun a s1 a0 a1 n1 => ?_
  walk_at "s"
  refine wpR_eq (dMul_sm _ _ _ (by decide) (by decide) (by omega) (by omega)) ?_
  walk_at "s"
  refine drw n1.sack (by omega) (by omega) (by omega) fun b s2 b0 b1 n2 => ?_
  walk_at "s"
  refine drw n2.sack (by decide) (by decide) (by omega) fun c s3 c0 c1 n3 => ?_
  have dn := (n1.trans n2).trans n3
  walk_at "s"
  refine wp_ix (fun x => ∃ i : Int, x = .int i ∧ Wd i) c0 c1 (fun x hx => ?_) fun x ⟨i, e, hw⟩ => ?_
  · simp only [List.mem_cons, List.not_mem_nil, or_false] at hx
    rcases hx with rfl | rfl <;> exact ⟨_, rfl, by omega⟩
  · subst e
    walk_at "s"
    rw [dn.take]
    exact h _ _ hw (dn.mono (by omega))
/-- a drawn row of folds -/
theorem some_wp {st : Sto} {n m : Nat} {w : Nat} {W : Int} {P : Rst D} (hW : W = (w : Int)) (S : SackAt st n m) (hm : m ≤ 900000) (w0 : 0 < w) (w9 : w ≤ 9) (h : ∀ (fs : List Fo) st', fs.length ≤ 5 → (∀ f ∈ fs, f.good w) → Dn n (m + 11) st st' → P.ok (.dat (.tuple (fs.map Fo.enc))) st') : wpR (F__law_some [.loc n, .dat (.int W)] st) P := by
  simp only [F__law_some, b__law_some]
  walk_at "s"
  refine drw (S.app _) (by decide) (by decide) (by omega) fun r s1 r0 r1 n1 => ?_
  obtain ⟨s1', rfl, n2⟩ := n1.split S.lt
  walk_at "s"
  refine wpR_eq (rng_ap (show 0 ≤ 1 + r by omega) (by omega) _) ?_
  walk_at "s"
  refine wp_range (fun k ρ s => ∃ (fs : List Fo) (a3 a4 : Option D) (s' : Sto), ρ = [some (.loc n), some (.dat (.int W)), some (.loc st.length), a3, a4] ∧ s = s' ++ [.lst (fs.map Fo.enc)] ∧ fs.length = k ∧ (∀ f ∈ fs, f.good w) ∧ Dn n (m + 1 + 2 * k) st s') ⟨[], none, none, s1', rfl, rfl, rfl, (fun f h => by cases h), n2⟩ ?_ ?_
  · rintro k _ _ hk ⟨fs, a3, a4, s', rfl, rfl, lf, gf, dn⟩
    refine ⟨_, rfl, ?_⟩
    simp only [l__law_some_1]
    walk_at "s"
    refine drw (dn.sack.app _) (by decide) (by decide) (by omega) fun v s2 v0 v1 n3 => ?_
    obtain ⟨s2', rfl, n4⟩ := n3.split dn.sack.lt
    walk_at "s"
    refine wp_ix (fun x => x = .str "count" ∨ ∃ o : Of, x = .str o.nm) v0 v1 (fun x hx => ?_) fun x e => ?_
    · simp only [List.mem_cons, List.not_mem_nil, or_false] at hx
      rcases hx with rfl | rfl | rfl | rfl | rfl
      · exact .inr ⟨.sum, rfl⟩
      · exact .inr ⟨.least, rfl⟩
      · exact .inr ⟨.most, rfl⟩
      · exact .inr ⟨.last, rfl⟩
      · exact .inl rfl
    · walk_at "s"
      refine wp_app (l := st.length) rfl (by rw [(dn.trans n4).len]) (by rw [List.length_map]; omega) ?_
      have d4 := dn.trans n4
      rcases e with rfl | ⟨o, rfl⟩
      · walk_at "s"
        refine ⟨_, _, rfl, rfl, rfl, fs ++ [.cnt], _, _, s2', rfl, by rw [List.map_append] <;> rfl, by simp [lf], fun f hf => ?_, d4.mono (by omega)⟩
        rcases List.mem_append.mp hf with z | z
        · exact gf f z
        · rw [List.mem_singleton.mp z]; trivial
      · walk_at "s"
        refine wpR_ite (fun q => absurd (of_decide_eq_true q) (nm_count o)) fun _ => ?_
        walk_at "s"
        refine drw (d4.sack.app _) (by omega) (by omega) (by omega) fun u s3 u0 u1 n5 => ?_
        obtain ⟨s3', rfl, n6⟩ := n5.split d4.sack.lt
        walk_at "s"
        obtain ⟨c, rfl⟩ := Int.eq_ofNat_of_zero_le u0
        refine ⟨_, _, rfl, rfl, n6.len, fs ++ [.col o c], _, _, s3', rfl, by rw [List.map_append] <;> rfl, by simp [lf], fun f hf => ?_, (d4.trans n6).mono (by omega)⟩
        rcases List.mem_append.mp hf with z | z
        · exact gf f z
        · rw [List.mem_singleton.mp z]
          show c < w
          omega
  · rintro _ _ ⟨fs, a3, a4, s', rfl, rfl, lf, gf, dn⟩
    walk_at "s"
    refine wpR_eq (by rw [← dn.len]; exact tupOf_top s' _) ?_
    walk_at "s"
    rw [dn.take2]
    exact h fs s' (by omega) gf (dn.mono (by omega))
end K06
set_option Elab.async false
set_option linter.all false
set_option maxRecDepth 100000
set_option maxHeartbeats 2000000
set_option exponentiation.threshold 5000
namespace K06
open PySem PySem.Spec PyProof.Rows L2 Ev
open Classical
local macro_rules | `(tactic| walk_at "s") => `(tactic| simp -implicitDefEqProofs only [rng_items', rng_ok', mZip_ap, zipOf_ap, mZip3_ap, mZip4_ap, zipF3_ap, zipF4_ap, mZipM_ap, mMtL_ap, sWhile_ap, sAg_ap, mFrz_ap, mRng3_ap, mLam_ap, noLam_dat, mTh_lam, step_items, step_ok, keepE, keepD, wpR_okE, wpR_excE, wpR_then, thn_ok, thn_xc, wpS_thenS, thnS_ok, thnS_xc, wpS_nxE, wpS_rtE, wpS_bkE, wpS_ctE, wpS_excE, wpS_then, seq_nxE, seq_rtE, seq_bkE, seq_ctE, seq_xcE, wpR_fin, fin_nxE, fin_rtE, fin_xcE, giveD_datW, run1, run2, run3, run4, run5, startE_ap, List.map_cons, List.map_nil, List.length_cons, List.length_nil, List.replicate, List.cons_append, List.nil_append, Nat.reduceSub, Nat.reduceAdd, Nat.reduceLeDiff, if_true, if_false, reduceIte, Bool.false_eq_true, pure_ap, bind_ap, then_ok, then_exc, m2_ap, m1_ap, mC_ap, ct_ap, aNil_ap, aCons_ap, asB_ap, mT_ap, mNot_ap, mAnd_ap, mOr_ap, mAndV_ap, mOrV_ap, mNotV_ap, mIf_ap, mChain_ap, on1_ap, on2_ap, retI_ap, retB_ap, mK_ap, thenS_ok, thenS_exc, sBind_ap, sthen_nx, sthen_rt, sthen_bk, sthen_ct, sthen_exc, sSeq_ap, sNil_ap, sRet_ap, sRetN_ap, sIf_ap, sDrop_ap, sSet_ap, sPass_ap, sBrk_ap, sCnt_ap, mSeq_ap, mYes_ap, mNoPart_ap, mPart_ap, asPart_ap, mSl_ap, mLc_ap, mLcX_ap, sFor_ap, mRng1_ap, mRng2_ap, dNil_ap, dCons_ap, asDat_ap, mDct_ap, mDct0_ap, tgName_ap, List.set_cons_succ, List.set_cons_zero, vr_zero, vr_succ, wipeE, data_items, data_ok, Ev.src_list, Ev.src_tuple, Ev.src_fz, rng_items, rng_ok, dSub_ap, dLt_ap, dLe_ap, dGt_ap, dGe_ap, dAdd_ap, dNeg_ap, dAbs_ap, dMax_ap, dMin_ap, dInt_ap, dIntB_ap, dIsi_ap, dLen_list, dLen_tuple, dLen_fz, tupOf_list, tupOf_tuple, lstOf_list, lstOf_tuple, dSl_list, dSl_tuple, datas_nil, datas_cons, Option.map_some, mkTup_go, mkLst_go, mkLoc_go, Nat.zero_le, sPar_go, sAsg_go, dAdd_list, dAdd_tuple, dEq_str, dEq_bool, dEq_int, dNe_str, dNe_bool, dNe_int', isN_none, isNotN_none, isNone0, isNone1, isNone2, isNone3, isNone4, isNone5, isNone6, tyOf, isi, ite_st, ite_sm, ite_em, Bool.not_true, Bool.not_false, Bool.not_not, decide_true, decide_false, p10_6, p10_7, p10_8, p10_9, p10_30, take_self, top_take, dMul_sm, Int.reduceNeg, Int.reduceLT, Int.reduceMul, Int.reduceAdd, Int.reduceSub, Int.neg_neg])
local macro_rules | `(tactic| walk_at "t") => `(tactic| try walk_at "s")
theorem ints_of' {P : Int → Prop} : ∀ {ys : List PyData}, (∀ y ∈ ys, ∃ i : Int, y = .int i ∧ P i) → ∃ r : List Int, ys = r.map PyData.int ∧ (∀ i ∈ r, P i) ∧ r.length = ys.length
  | [], _ => ⟨[], rfl, (fun i h => by cases h), rfl⟩
  | y :: ys, h => by
    obtain ⟨i, rfl, pi⟩ := h y List.mem_cons_self
    obtain ⟨r, rfl, pr, hl⟩ := ints_of' (ys := ys) fun z hz => h z (List.mem_cons_of_mem _ hz)
    refine ⟨i :: r, rfl, fun j hj => ?_, by simp⟩
    rcases List.mem_cons.mp hj with z | z
    · rw [z]; exact pi
    · exact pr j z
/-- one turn with folds -/
theorem folds_wp {rs : List (List Int)} {w : Nat} {W : Int} (hW : W = (w : Int)) (w0 : 0 < w) (w9 : w ≤ 9) (hr : ∀ r ∈ rs, Rc w r) (l2 : 2 ≤ rs.length) (l20 : rs.length ≤ 20) {n m : Nat} {c0 c1 c4 c6 c7 c8 c9 c10 : Option D} {st : Sto} {P : Pst} (S : SackAt st n m) (hm : m ≤ 800000) (h : ∀ c7 c8 st', SackAt st' n (m + 20) → P.nx [c0, c1, some (.loc n), some (.dat (.int W)), c4, some (.dat (.tuple (rs.map recD))), c6, c7, c8, c9, c10] st') :
    Ev.wpS (l_law_2 [c0, c1, some (.loc n), some (.dat (.int W)), c4, some (.dat (.tuple (rs.map recD))), c6, c7, c8, c9, c10] st) P := by
  have ne : rs ≠ [] := by intro z; rw [z] at l2; simp at l2
  simp only [l_law_2]
  walk_at "t"
  refine some_wp hW S (by omega) w0 w9 fun fs s1 lf gf n1 => ?_
  walk_at "t"
  refine wpR_eq (together_eq ne hr (by omega) gf _) ?_
  walk_at "t"
  refine wpR_eq (beginnings_eq hr (by omega) (by omega) gf _) ?_
  walk_at "t"
  have ln : ((rs.map recD).length : Int) = (rs.length : Int) := by rw [List.length_map]
  try rw [ln]
  refine drw n1.sack (by omega) (by omega) (by omega) fun r s2 r0 r1 n2 => ?_
  walk_at "t"
  obtain ⟨j, hj⟩ : ∃ j : Nat, j = (1 + r).toNat := ⟨_, rfl⟩
  have e : rs = rs.take j ++ rs.drop j := (List.take_append_drop j rs).symm
  have la : (rs.take j).length = j := by rw [List.length_take]; omega
  have hv := halves_eq (fs := fs) (a := rs.take j) (b := rs.drop j) (by intro z; rw [z] at la; simp at la; omega) (by intro z; have := congrArg List.length z; rw [List.length_drop] at this; simp at this; omega) (w := w) (by rw [← e]; exact hr) (by omega) gf s2
  rw [← e, la, show ((j : Nat) : Int) = 1 + r by omega] at hv
  refine wpR_eq hv ?_
  walk_at "t"
  refine wpR_eq (turned_eq ne hr (by omega) gf _) ?_
  walk_at "t"
  exact h _ _ _ (n2.sack.mono (by omega))
theorem turn_wp (ns : List Int) {K : Int} (h0 : 0 ≤ K) (h1 : K < 1000) {a2 a3 a4 a5 a6 a7 a8 a9 a10 : Option D} {st : Sto} {P : Pst} (h : ∀ b2 b3 b4 b5 b6 b7 b8 b10 st', P.nx [some (.fz (ns.map PyData.int)), some (.dat (.int K)), b2, b3, b4, b5, b6, b7, b8, a9, b10] st') :
    Ev.wpS (l_law_3 [some (.fz (ns.map PyData.int)), some (.dat (.int K)), a2, a3, a4, a5, a6, a7, a8, a9, a10] st) P := by
  simp only [l_law_3]
  walk_at "s"
  refine wp_sackB ns h0 h1 fun xs S => ?_
  generalize hn : st.length = n at *
  generalize hs1 : st ++ [.lst xs] = s1 at *
  walk_at "s"
  refine drw S (by decide) (by decide) (by omega) fun u s2 u0 u1 n2 => ?_
  walk_at "t"
  refine drw n2.sack (by decide) (by decide) (by omega) fun v s3 v0 v1 n3 => ?_
  walk_at "t"
  refine wp_ix (fun x => ∃ i : Int, x = .int i ∧ 0 ≤ i ∧ i ≤ 1000000000) v0 v1 (fun x hx => ?_) fun x ⟨far, e, f0, f1⟩ => ?_
  · simp only [List.mem_cons, List.not_mem_nil, or_false] at hx
    rcases hx with rfl | rfl | rfl | rfl <;> exact ⟨_, rfl, by omega, by omega⟩
  subst e
  walk_at "t"
  simp only [tg2']
  walk_at "t"
  obtain ⟨w, hw⟩ : ∃ w : Nat, 1 + u = (w : Int) := ⟨(1 + u).toNat, by omega⟩
  have w0 : 0 < w := by omega
  have w9 : w ≤ 9 := by omega
  rw [hw]
  refine drw (n3.sack.app _) (by decide) (by decide) (by omega) fun r s4 r0 r1 n4 => ?_
  obtain ⟨s4, rfl, d4⟩ := n4.split n3.sack.lt
  walk_at "t"
  refine wpR_eq (rng_ap (show 0 ≤ 2 + r by omega) (by omega) _) ?_
  walk_at "t"
  refine wp_range (fun k ρ s => ∃ (rs : List (List Int)) (b6 b10 : Option D) (s' : Sto), ρ = [some (.fz (ns.map PyData.int)), some (.dat (.int K)), some (.loc n), some (.dat (.int (w : Int))), some (.dat (.int far)), some (.loc s3.length), b6, a7, a8, a9, b10] ∧ s = s' ++ [.lst (rs.map recD)] ∧ rs.length = k ∧ (∀ r ∈ rs, Rc w r) ∧ Dn n (10 + 30 * k) s3 s') ⟨[], _, _, s4, rfl, rfl, rfl, (fun r h => by cases h), d4.mono (by omega)⟩ ?_ ?_
  · rintro k _ _ hk ⟨rs, b6, b10, s', rfl, rfl, lr, gr, dn⟩
    refine ⟨_, rfl, ?_⟩
    simp only [l_law_1]
    walk_at "t"
    refine wp_app (l := s3.length) rfl (by rw [dn.len]) (by rw [List.length_map]; omega) ?_
    walk_at "t"
    refine wpR_eq (rng_ap (by omega) (by omega) _) ?_
    walk_at "t"
    refine wp_gen (fun j s => ∃ s'', s = s'' ++ [.lst (rs.map recD)] ∧ Dn n (10 + 30 * k + 3 * j) s3 s'') (fun y => ∃ i : Int, y = .int i ∧ Wd i) (by rw [List.length_map, List.length_range]; omega) ⟨s', rfl, dn⟩ ?_ ?_
    · rintro j hj _ ⟨s'', rfl, dj⟩
      rw [List.length_map, List.length_range] at hj
      refine ⟨_, by rw [List.getElem_map]; rfl, ?_⟩
      walk_at "t"
      refine word_wp (dj.sack.app _) (by omega) f0 f1 fun z s5 hz n5 => ?_
      obtain ⟨s5, rfl, d5⟩ := n5.split dj.sack.lt
      exact ⟨_, rfl, ⟨_, rfl, hz⟩, s5, rfl, (dj.trans d5).mono (by omega)⟩
    · rintro ys _ ly qy ⟨s'', rfl, dj⟩
      obtain ⟨r', rfl, hr', lr'⟩ := ints_of' qy
      simp only [List.length_map, List.length_range] at ly dj
      walk_at "t"
      refine ⟨_, s'', rfl, rfl, by rw [dj.len, dn.len], rs ++ [r'], _, _, s'', rfl, by rw [List.map_append] <;> rfl, by simp [lr], fun f hf => ?_, dj.mono (by omega)⟩
      rcases List.mem_append.mp hf with z | z
      · exact gr f z
      · rw [List.mem_singleton.mp z]
        exact ⟨by omega, hr'⟩
  · rintro _ _ ⟨rs, b6, b10, s', rfl, rfl, lr, gr, dn⟩
    walk_at "t"
    refine wpR_eq (by rw [← dn.len]; exact tupOf_top s' _) ?_
    walk_at "t"
    refine wpR_eq (rng_ap (by decide) (by decide) _) ?_
    walk_at "t"
    refine wp_range (fun k ρ s => SackAt s n (1000 + 20 * k) ∧ ∃ (b6 b7 b8 : Option D), ρ = [some (.fz (ns.map PyData.int)), some (.dat (.int K)), some (.loc n), some (.dat (.int (w : Int))), some (.dat (.int far)), some (.dat (.tuple (rs.map recD))), b6, b7, b8, a9, b10]) ⟨(dn.sack.app _).mono (by omega), _, _, _, rfl⟩ ?_ ?_
    · rintro k _ s hk ⟨S2, b6, b7, b8, rfl⟩
      refine ⟨_, rfl, ?_⟩
      exact folds_wp rfl w0 w9 gr (by omega) (by omega) S2 (by omega) fun c7 c8 st' S3 => ⟨S3.mono (by omega), _, _, _, rfl⟩
    · rintro _ s ⟨S2, b6, b7, b8, rfl⟩
      exact h _ _ _ _ _ _ _ _ _
end K06
set_option Elab.async false
set_option linter.all false
set_option maxRecDepth 100000
set_option maxHeartbeats 2000000
set_option exponentiation.threshold 5000
namespace K06
open PySem PySem.Spec PyProof.Rows L2 Ev
open Classical
local macro_rules | `(tactic| walk_at "s") => `(tactic| simp -implicitDefEqProofs only [rng_items', rng_ok', mZip_ap, zipOf_ap, mZip3_ap, mZip4_ap, zipF3_ap, zipF4_ap, mZipM_ap, mMtL_ap, sWhile_ap, sAg_ap, mFrz_ap, mRng3_ap, mLam_ap, noLam_dat, mTh_lam, step_items, step_ok, keepE, keepD, wpR_okE, wpR_excE, wpR_then, thn_ok, thn_xc, wpS_thenS, thnS_ok, thnS_xc, wpS_nxE, wpS_rtE, wpS_bkE, wpS_ctE, wpS_excE, wpS_then, seq_nxE, seq_rtE, seq_bkE, seq_ctE, seq_xcE, wpR_fin, fin_nxE, fin_rtE, fin_xcE, giveD_datW, run1, run2, run3, run4, run5, startE_ap, List.map_cons, List.map_nil, List.length_cons, List.length_nil, List.replicate, List.cons_append, List.nil_append, Nat.reduceSub, Nat.reduceAdd, Nat.reduceLeDiff, if_true, if_false, reduceIte, Bool.false_eq_true, pure_ap, bind_ap, then_ok, then_exc, m2_ap, m1_ap, mC_ap, ct_ap, aNil_ap, aCons_ap, asB_ap, mT_ap, mNot_ap, mAnd_ap, mOr_ap, mAndV_ap, mOrV_ap, mNotV_ap, mIf_ap, mChain_ap, on1_ap, on2_ap, retI_ap, retB_ap, mK_ap, thenS_ok, thenS_exc, sBind_ap, sthen_nx, sthen_rt, sthen_bk, sthen_ct, sthen_exc, sSeq_ap, sNil_ap, sRet_ap, sRetN_ap, sIf_ap, sDrop_ap, sSet_ap, sPass_ap, sBrk_ap, sCnt_ap, mSeq_ap, mYes_ap, mNoPart_ap, mPart_ap, asPart_ap, mSl_ap, mLc_ap, mLcX_ap, sFor_ap, mRng1_ap, mRng2_ap, dNil_ap, dCons_ap, asDat_ap, mDct_ap, mDct0_ap, tgName_ap, List.set_cons_succ, List.set_cons_zero, vr_zero, vr_succ, wipeE, data_items, data_ok, Ev.src_list, Ev.src_tuple, Ev.src_fz, rng_items, rng_ok, dSub_ap, dLt_ap, dLe_ap, dGt_ap, dGe_ap, dAdd_ap, dNeg_ap, dAbs_ap, dMax_ap, dMin_ap, dInt_ap, dIntB_ap, dIsi_ap, dLen_list, dLen_tuple, dLen_fz, tupOf_list, tupOf_tuple, lstOf_list, lstOf_tuple, dSl_list, dSl_tuple, datas_nil, datas_cons, Option.map_some, mkTup_go, mkLst_go, mkLoc_go, Nat.zero_le, sPar_go, sAsg_go, dAdd_list, dAdd_tuple, dEq_str, dEq_bool, dEq_int, dNe_str, dNe_bool, dNe_int', isN_none, isNotN_none, isNone0, isNone1, isNone2, isNone3, isNone4, isNone5, isNone6, tyOf, isi, ite_st, ite_sm, ite_em, Bool.not_true, Bool.not_false, Bool.not_not, decide_true, decide_false, p10_6, p10_7, p10_8, p10_9, p10_30, take_self, top_take, dMul_sm, Int.reduceNeg, Int.reduceLT, Int.reduceMul, Int.reduceAdd, Int.reduceSub, Int.neg_neg])
local macro_rules | `(tactic| walk_at "t") => `(tactic| try walk_at "s")
abbrev sum0 : List Fo := [.col .sum 0]
def R3 : List (List Int) := [[900000000], [200000000], [-1000000000]]
def R3r : List (List Int) := [[-1000000000], [200000000], [900000000]]
theorem rc_of {rs : List (List Int)} (h : rs.all (fun r => decide (r.length = 1) && r.all fun i => decide (Wd i)) = true) : ∀ r ∈ rs, Rc 1 r := fun r hr => by
  have := List.all_eq_true.mp h r hr
  rw [Bool.and_eq_true, List.all_eq_true] at this
  exact ⟨of_decide_eq_true this.1, fun i hi => of_decide_eq_true (this.2 i hi)⟩
theorem g1 (f : Fo) (h : f ∈ sum0) : f.good 1 := by
  rw [List.mem_singleton.mp h]
  show 0 < 1
  decide
theorem rA : ∀ r ∈ R3, Rc 1 r := rc_of (by decide +kernel)
theorem rB : ∀ r ∈ R3r, Rc 1 r := rc_of (by decide +kernel)
theorem good_of {rs : List (List Int)} {fs : List Fo} {w : Nat} (h : ∀ r ∈ rs, Rc w r) (hf : ∀ f ∈ fs, f.good w) : ∀ r' ∈ rs, ∀ f ∈ fs, f.good r'.length := fun r' hr f hf' => by
  rw [(h r' hr).1]
  exact hf f hf'
theorem c1 (st : Sto) : F__law_met [.dat (.tuple [.tuple [.str "sum", .int 0]]), .dat (.tuple [.tuple [.int 900000000], .tuple [.int 200000000], .tuple [.int (-1000000000)]])] st = .ok (.dat (.str "great")) st := by
  have e := met_eq sum0 [900000000] [[200000000], [-1000000000]] st (by decide) (good_of rA g1)
  rw [show folded sum0 ([900000000] :: [[200000000], [-1000000000]]) = none by decide +kernel] at e
  exact e
theorem c2 (st : Sto) : F__law_met [.dat (.tuple [.tuple [.str "sum", .int 0]]), .dat (.tuple [.tuple [.int (-1000000000)], .tuple [.int 200000000], .tuple [.int 900000000]])] st = .ok (.dat (.tuple [.int 100000000])) st := by
  have e := met_eq sum0 [-1000000000] [[200000000], [900000000]] st (by decide) (good_of rB g1)
  rw [show folded sum0 ([-1000000000] :: [[200000000], [900000000]]) = some [100000000] by decide +kernel] at e
  exact e
theorem c3 (st : Sto) : F__law_turned [.dat (.tuple [.tuple [.str "last", .int 0], .tuple [.str "count"]]), .dat (.tuple [.tuple [.int 900000000], .tuple [.int 200000000], .tuple [.int (-1000000000)]])] st = .ok (.dat (.bool true)) st :=
  turned_eq (fs := [.col .last 0, .cnt]) (rs := R3) (by decide) rA (by decide) (fun f h => by
    simp only [List.mem_cons, List.not_mem_nil, or_false] at h
    rcases h with rfl | rfl
    · show 0 < 1
      decide
    · trivial) st
theorem c4 (st : Sto) : F__law_halves [.dat (.tuple [.tuple [.str "sum", .int 0]]), .dat (.tuple [.tuple [.int (-1000000000)], .tuple [.int 200000000], .tuple [.int 900000000]]), .dat (.int 1)] st = .ok (.dat (.bool true)) st :=
  halves_eq (fs := sum0) (a := [[-1000000000]]) (b := [[200000000], [900000000]]) (by decide) (by decide) rB (by decide) g1 st
theorem law_ok (ns : List Int) : ∃ st', F_law [.fz (ns.map PyData.int)] [] = .ok (.dat (.bool true)) st' := by
  have main : wpR (F_law [.fz (ns.map PyData.int)] []) ⟨fun d s => d = .dat (.bool true), fun _ _ => False⟩ := by
    simp only [F_law, b_law]
    walk_at "s"
    obtain ⟨c, hc⟩ : ∃ c, c = iMax 1 (iMin 20 ((ns.map PyData.int).length : Int)) := ⟨_, rfl⟩
    have c0 : 0 ≤ c := by rw [hc]; unfold iMax iMin; split <;> split <;> omega
    have c1' : c ≤ 20 := by rw [hc]; unfold iMax iMin; split <;> split <;> omega
    rw [← hc]
    clear hc
    refine wpR_eq (rng_ap c0 (by omega) _) ?_
    walk_at "s"
    refine wp_range (fun k ρ s => ∃ b1 b2 b3 b4 b5 b6 b7 b8 b10 : Option D, ρ = [some (.fz (ns.map PyData.int)), b1, b2, b3, b4, b5, b6, b7, b8, none, b10]) ⟨_, _, _, _, _, _, _, _, _, rfl⟩ ?_ ?_
    · rintro k _ s hk ⟨b1, b2, b3, b4, b5, b6, b7, b8, b10, rfl⟩
      refine ⟨_, rfl, ?_⟩
      exact turn_wp ns (by omega) (by omega) fun _ _ _ _ _ _ _ _ st' => ⟨_, _, _, _, _, _, _, _, _, rfl⟩
    · rintro _ s ⟨b1, b2, b3, b4, b5, b6, b7, b8, b10, rfl⟩
      have m1 := metN (some [100000000]) (some [100000000]) s
      simp only [metD, List.map_cons, List.map_nil, decide_true, Bool.not_true] at m1
      walk_at "t"
      simp only [c1]
      walk_at "t"
      refine wpR_eq (back_tup rfl rfl) ?_
      simp only [List.reverse_cons, List.reverse_nil, List.nil_append, List.cons_append]
      walk_at "t"
      simp only [c2]
      walk_at "t"
      simp only [m1]
      walk_at "t"
      simp only [c3]
      walk_at "t"
      refine wpR_eq (back_tup rfl rfl) ?_
      simp only [List.reverse_cons, List.reverse_nil, List.nil_append, List.cons_append]
      walk_at "t"
      simp only [c4]
      walk_at "t"
  obtain ⟨d, s, e, h⟩ := wpR_ex main
  exact ⟨s, by rw [e, h]⟩
end K06
set_option Elab.async false
set_option linter.all false
open PySem PySem.W PyProof.Rows
set_option maxRecDepth 100000 in
set_option maxHeartbeats 0 in
theorem PySem.Challenge.cw_rowhaul_k06_whole_folds_in_parts_holds : PySem.Challenge.rw_rowhaul_k06_whole_folds_in_parts.Holds := by
  w_on; o_law; k_head; (case hw => w_witness2)
  k_fill
  refine Ev.end_lawN (F := K06.F_law) (k := 9) (x := "script") rfl (by decide) rfl (by rfl) ⟨rfl, by decide, by decide⟩ ?F (fun ns h1 h2 => K06.law_ok ns)
  case F =>
    intro w mg h Y XP G
    have KX := PySem.W.kIn_of Y
    refine ⟨_, KX, fun bs => K06.all_ok ?B ?D⟩
    case B =>
      constructor
      · exact PySem.W.mg_none_of KX G (by k_is)
      · exact PySem.W.mg_none_of KX G (by k_is)
      · exact PySem.W.mg_none_of KX G (by k_is)
      · exact PySem.W.mg_none_of KX G (by k_is)
      · exact PySem.W.mg_none_of KX G (by k_is)
      · exact PySem.W.mg_none_of KX G (by k_is)
      · exact PySem.W.mg_none_of KX G (by k_is)
      · exact PySem.W.mg_none_of KX G (by k_is)
      · exact PySem.W.mg_none_of KX G (by k_is)
      · exact PySem.W.mg_none_of KX G (by k_is)
      · first | exact Ev.loose_int XP.2 (List.Mem.head _) | exact Ev.loose_int XP.2 (List.Mem.tail _ (List.Mem.head _)) | exact Ev.loose_int XP.2 (List.Mem.tail _ (List.Mem.tail _ (List.Mem.head _))) | exact Ev.loose_int XP.2 (List.Mem.tail _ (List.Mem.tail _ (List.Mem.tail _ (List.Mem.head _)))) | exact Ev.loose_int XP.2 (List.Mem.tail _ (List.Mem.tail _ (List.Mem.tail _ (List.Mem.tail _ (List.Mem.head _))))) | exact Ev.loose_int XP.2 (List.Mem.tail _ (List.Mem.tail _ (List.Mem.tail _ (List.Mem.tail _ (List.Mem.tail _ (List.Mem.head _)))))) | exact Ev.loose_int XP.2 (List.Mem.tail _ (List.Mem.tail _ (List.Mem.tail _ (List.Mem.tail _ (List.Mem.tail _ (List.Mem.tail _ (List.Mem.head _))))))) | exact Ev.loose_int XP.2 (List.Mem.tail _ (List.Mem.tail _ (List.Mem.tail _ (List.Mem.tail _ (List.Mem.tail _ (List.Mem.tail _ (List.Mem.tail _ (List.Mem.head _)))))))) | (refine' Ev.const_int KX G ?qv ?qr; (case qv => k_is); (case qr => exact ⟨_, rfl⟩))
      · first | exact Ev.loose_int XP.2 (List.Mem.head _) | exact Ev.loose_int XP.2 (List.Mem.tail _ (List.Mem.head _)) | exact Ev.loose_int XP.2 (List.Mem.tail _ (List.Mem.tail _ (List.Mem.head _))) | exact Ev.loose_int XP.2 (List.Mem.tail _ (List.Mem.tail _ (List.Mem.tail _ (List.Mem.head _)))) | exact Ev.loose_int XP.2 (List.Mem.tail _ (List.Mem.tail _ (List.Mem.tail _ (List.Mem.tail _ (List.Mem.head _))))) | exact Ev.loose_int XP.2 (List.Mem.tail _ (List.Mem.tail _ (List.Mem.tail _ (List.Mem.tail _ (List.Mem.tail _ (List.Mem.head _)))))) | exact Ev.loose_int XP.2 (List.Mem.tail _ (List.Mem.tail _ (List.Mem.tail _ (List.Mem.tail _ (List.Mem.tail _ (List.Mem.tail _ (List.Mem.head _))))))) | exact Ev.loose_int XP.2 (List.Mem.tail _ (List.Mem.tail _ (List.Mem.tail _ (List.Mem.tail _ (List.Mem.tail _ (List.Mem.tail _ (List.Mem.tail _ (List.Mem.head _)))))))) | (refine' Ev.const_int KX G ?qv ?qr; (case qv => k_is); (case qr => exact ⟨_, rfl⟩))
      · refine' ⟨_, PySem.W.mg_of KX G ?ga, ?gh⟩; (case ga => k_is); (case gh => refine' (Ev.hits_cons (PySem.W.mg_of KX G ?a0) (PySem.W.exm_ref ?b0 ?d0 ?t0 ?s0) Ev.hits_nil); (case a0 => k_is); (case b0 => k_is); (case d0 => k_is); (case t0 => k_is); (case s0 => k_is))
      · refine' Ev.exi_mk KX G ?ga ?o1 ?o2 ?o3 ?o4 ?o5 ?o6 ?o7 ?tk ?fi ?ti ?gl ?gc ?kf (fun _ _ _ _ _ _ us hl => match us, hl with | [_, _], _ => rfl) (Ev.bsg_ArithmeticError (PySem.W.mg_none_of KX G (by k_is)) ?bi) K06.ini_Falls; (case ga => k_is); (case o1 => kx_is); (case o2 => kx_is); (case o3 => k_is); (case o4 => k_is); (case o5 => k_is); (case o6 => k_is); (case o7 => k_is); (case tk => k_is); (case fi => k_is); (case ti => k_is); (case gl => k_is); (case gc => k_is); (case kf => k_is); (case bi => k_is)
      · refine' Ev.fldc_mk KX G ?ga ?x1 ?x2 ?x3 ?x4 ?x5; (case ga => k_is); (case x1 => k_is); (case x2 => k_is); (case x3 => k_is); (case x4 => k_is); (case x5 => k_is)
    case D =>
      constructor
      · refine' Ev.df_mk KX G ?qa ?ql ?qc ?qk (fun _ _ _ _ _ _ us hl => match us, hl with | [_], _ => rfl); (case qa => k_is); (case ql => k_is); (case qc => k_is); (case qk => k_is)
      · refine' Ev.df_mk KX G ?qa ?ql ?qc ?qk (fun _ _ _ _ _ _ us hl => match us, hl with | [_, _, _], _ => rfl); (case qa => k_is); (case ql => k_is); (case qc => k_is); (case qk => k_is)
      · refine' Ev.df_mk KX G ?qa ?ql ?qc ?qk (fun _ _ _ _ _ _ us hl => match us, hl with | [_], _ => rfl); (case qa => k_is); (case ql => k_is); (case qc => k_is); (case qk => k_is)
      · refine' Ev.df_mk KX G ?qa ?ql ?qc ?qk (fun _ _ _ _ _ _ us hl => match us, hl with | [_, _], _ => rfl); (case qa => k_is); (case ql => k_is); (case qc => k_is); (case qk => k_is)
      · refine' Ev.df_mk KX G ?qa ?ql ?qc ?qk (fun _ _ _ _ _ _ us hl => match us, hl with | [_, _, _], _ => rfl); (case qa => k_is); (case ql => k_is); (case qc => k_is); (case qk => k_is)
      · refine' Ev.df_mk KX G ?qa ?ql ?qc ?qk (fun _ _ _ _ _ _ us hl => match us, hl with | [_, _, _], _ => rfl); (case qa => k_is); (case ql => k_is); (case qc => k_is); (case qk => k_is)
      · refine' Ev.df_mk KX G ?qa ?ql ?qc ?qk (fun _ _ _ _ _ _ us hl => match us, hl with | [_, _], _ => rfl); (case qa => k_is); (case ql => k_is); (case qc => k_is); (case qk => k_is)
      · refine' Ev.df_mk KX G ?qa ?ql ?qc ?qk (fun _ _ _ _ _ _ us hl => match us, hl with | [_, _], _ => rfl); (case qa => k_is); (case ql => k_is); (case qc => k_is); (case qk => k_is)
      · refine' Ev.df_mk KX G ?qa ?ql ?qc ?qk (fun _ _ _ _ _ _ us hl => match us, hl with | [_, _], _ => rfl); (case qa => k_is); (case ql => k_is); (case qc => k_is); (case qk => k_is)
      · refine' Ev.df_mk KX G ?qa ?ql ?qc ?qk (fun _ _ _ _ _ _ us hl => match us, hl with | [_, _], _ => rfl); (case qa => k_is); (case ql => k_is); (case qc => k_is); (case qk => k_is)
      · refine' Ev.df_mk KX G ?qa ?ql ?qc ?qk (fun _ _ _ _ _ _ us hl => match us, hl with | [_, _], _ => rfl); (case qa => k_is); (case ql => k_is); (case qc => k_is); (case qk => k_is)
      · refine' Ev.df_mk KX G ?qa ?ql ?qc ?qk (fun _ _ _ _ _ _ us hl => match us, hl with | [_, _], _ => rfl); (case qa => k_is); (case ql => k_is); (case qc => k_is); (case qk => k_is)
      · refine' Ev.df_mk KX G ?qa ?ql ?qc ?qk (fun _ _ _ _ _ _ us hl => match us, hl with | [_, _], _ => rfl); (case qa => k_is); (case ql => k_is); (case qc => k_is); (case qk => k_is)
      · refine' Ev.df_mk KX G ?qa ?ql ?qc ?qk (fun _ _ _ _ _ _ us hl => match us, hl with | [_, _, _], _ => rfl); (case qa => k_is); (case ql => k_is); (case qc => k_is); (case qk => k_is)
      · refine' Ev.df_mk KX G ?qa ?ql ?qc ?qk (fun _ _ _ _ _ _ us hl => match us, hl with | [_, _], _ => rfl); (case qa => k_is); (case ql => k_is); (case qc => k_is); (case qk => k_is)
      · refine' Ev.df_mk KX G ?qa ?ql ?qc ?qk (fun _ _ _ _ _ _ us hl => match us, hl with | [_, _, _], _ => rfl); (case qa => k_is); (case ql => k_is); (case qc => k_is); (case qk => k_is)
      · refine' Ev.df_mk KX G ?qa ?ql ?qc ?qk (fun _ _ _ _ _ _ us hl => match us, hl with | [_, _], _ => rfl); (case qa => k_is); (case ql => k_is); (case qc => k_is); (case qk => k_is)
      · refine' Ev.df_mk KX G ?qa ?ql ?qc ?qk (fun _ _ _ _ _ _ us hl => match us, hl with | [_], _ => rfl); (case qa => k_is); (case ql => k_is); (case qc => k_is); (case qk => k_is)
