import PyProof.Rows.All
import Wide.All
import OpenK.AllK
import Wide.FinOn
import HandS.ForMost
import HandS.ForExc
import HandS.ExcInit
import HandS.ExcField
import HandS.CallSlots
import HandS.Lambda
import HandS.Defaults
import HandS.TupAny
import HandS.TupMul
import HandS.Wide
import HandS.IsInst
import HandS.DictComp
import HandS.SortKw
import HandS.Conv
import HandS.Zip
import HandS.Walk
import HandS.Flow
import HandS.Style
import KE.GoesMore
import KE.GoesEnum
import HandS.TupSets
import HandS.Star
import HandS.GenList
import HandS.Ends
import HandS.EndTab
import HandS.Words
import HandS.ExcIs
import KE.KExcIs
import KE.KDictZip
import HandS.SortInts
import HandS.SetBool
import HandS.Strs
import HandS.SetFor
import PyProof.TupleOfSeq
import HandS.NoneIn
import HandS.Gcd
import HandS.CallLocal
import HandS.TryOnly
import PySem.Challenge.RW_mendfew_k04_parts_told
set_option Elab.async false
set_option linter.all false
set_option maxRecDepth 100000
set_option maxHeartbeats 0
namespace Zed
open PySem PySem.Spec PyProof.Rows L2

/-! ## Values of our own: data without addresses, and cells that change -/
inductive D where
  | non | bl (b : Bool) | int (i : Int) | str (x : Str) | ty (n : String)
  | tup (xs : List D) | lst (xs : List D) | ref (n : Nat) | scr (ns : List Int) | exv | fn (n : Nat)
inductive Cell where
  | lst (xs : List D)
  | dic (kvs : List (Key × D))
  | tbl (n : Nat)
abbrev Sto := List Cell
abbrev En := List (Option D)
structure Exn where
  cls : Str
  fs : List (Str × D)
/-- the exception that a suite holds: where it lies, where its dict lies, what it is -/
structure Amb where
  a : Addr
  dd : Addr
  x : Exn
class AmbC where
  amb : Option Amb
instance amb0 : AmbC := ⟨none⟩
/-- the tables of code objects, each with its name's end: they lie first among the cells -/
class TabC where
  T : List (Addr × Str)
  /-- defs that are held as values: where they lie -/
  F : List Addr
def TabC.nm (TC : TabC) (n : Nat) : Str := ((TC.T[n]?).map (·.2)).getD ""
def TabAt [TC : TabC] (m : List Addr) (S : Sto) : Prop := ∀ (i : Nat) (p : Addr × Str), TC.T[i]? = some p → m[i]? = some p.1 ∧ S[i]? = some (Cell.tbl i)
theorem TabAt.app [TC : TabC] {m : List Addr} {S : Sto} (h : TabAt m S) (e : List Addr) (e' : Sto) : TabAt (m ++ e) (S ++ e') := fun i p q => by
  obtain ⟨h1, h2⟩ := h i p q
  obtain ⟨l1, _⟩ := List.getElem?_eq_some_iff.mp h1
  obtain ⟨l2, _⟩ := List.getElem?_eq_some_iff.mp h2
  exact ⟨by rw [List.getElem?_append_left l1]; exact h1, by rw [List.getElem?_append_left l2]; exact h2⟩
theorem TabAt.back [TC : TabC] {m e : List Addr} {S S' : Sto} (h : TabAt m S) (hl : m.length = S.length) (h' : TabAt (m ++ e) S') : TabAt m (S'.take S.length) := fun i p q => by
  obtain ⟨h1, _⟩ := h i p q
  obtain ⟨_, h2⟩ := h' i p q
  obtain ⟨l1, _⟩ := List.getElem?_eq_some_iff.mp h1
  exact ⟨h1, by rw [List.getElem?_take, if_pos (by omega)]; exact h2⟩
inductive R (α : Type) where
  | ok (a : α) (S : Sto)
  | exc (x : Exn) (S : Sto)
  | bad
def R.bind {α β : Type} (r : R α) (g : α → Sto → R β) : R β :=
  match r with
  | .ok a S => g a S
  | .exc x S => .exc x S
  | .bad => .bad
inductive Fl where
  | nx (ρ : En) | rt (d : D) | bk (ρ : En) | ct (ρ : En)
abbrev ED := En → Sto → R D
abbrev BD := En → Sto → R Bool
abbrev LD := En → Sto → R (List D)
abbrev SD := En → Sto → R Fl
abbrev GD := List D → Sto → R D

section
variable [TC : TabC] [AM : AmbC] (K : PySem.W.Frag) (mg : Str → Option Value) (B : List Addr)
/-- a list that nobody changes, and that is no cell: the script -/
def SqS (H : Hp) (a : Addr) (xs : List V) : Prop := (∃ o, H a = some (.frz o (.lst xs))) ∨
  ∃ (o : Obj) (its : Array Value) (n : Nat), K.lookup a = some o ∧ o.cls = .type "list" ∧ o.dict = none ∧ o.data = .seq its n ∧ its.size ≤ sizeLine ∧ Vals xs its.toList
/-! ## How they lie in a heap: m tells where the cells are -/
mutual
inductive Rep (m : List Addr) (H : Hp) : D → V → Prop
  | non : Rep m H .non .non
  | bl (b : Bool) : Rep m H (.bl b) (.bl b)
  | int (i : Int) : Rep m H (.int i) (.int i)
  | str (x : Str) : Rep m H (.str x) (.str x)
  | ty (n : String) : Rep m H (.ty n) (.ty n)
  | tup {a : Addr} {ds : List D} {vs : List V} : SqT K H a vs → Reps m H ds vs → Rep m H (.tup ds) (.ref a)
  | lst {a : Addr} {ds : List D} {vs : List V} : H a = some (.lst vs) → a ∉ m → a ∉ B → Reps m H ds vs → Rep m H (.lst ds) (.ref a)
  | ref {n : Nat} {a : Addr} : m[n]? = some a → Rep m H (.ref n) (.ref a)
  | scr {a : Addr} {ns : List Int} : SqS K H a (ns.map V.int) → Rep m H (.scr ns) (.ref a)
  | exv {e : Amb} {fvs : List (Str × V)} : AM.amb = some e → H e.dd = some (.xd fvs) → e.dd ∉ m → e.dd ∉ B → e.x.fs.map (·.1) = fvs.map (·.1) → Reps m H (e.x.fs.map (·.2)) (fvs.map (·.2)) → Rep m H .exv (.ref e.a)
  | fn {n : Nat} {a : Addr} : TC.F[n]? = some a → Rep m H (.fn n) (.ref a)
inductive Reps (m : List Addr) (H : Hp) : List D → List V → Prop
  | nil : Reps m H [] []
  | cons {d : D} {v : V} {ds : List D} {vs : List V} : Rep m H d v → Reps m H ds vs → Reps m H (d :: ds) (v :: vs)
end
def RepKV (m : List Addr) (H : Hp) : List (Key × D) → List (Key × V) → Prop :=
  Paired fun p q => p.1 = q.1 ∧ Rep K B m H p.2 q.2
def RepFs (m : List Addr) (H : Hp) : List (Str × D) → List (Str × V) → Prop :=
  Paired fun p q => p.1 = q.1 ∧ Rep K B m H p.2 q.2
def CellAt (m : List Addr) (H : Hp) (a : Addr) : Cell → Prop
  | .lst ds => ∃ vs, H a = some (.lst vs) ∧ Reps K B m H ds vs
  | .dic kvs => ∃ kws, H a = some (.dK kws) ∧ RepKV K B m H kvs kws
  | .tbl q => ∃ ps : Array Value, H a = some (.tbl ps) ∧ TriplesOk ps.toList ∧ ∀ (pos : Pos) (cv : Value), codeAmong pos ps.toList = some cv → ∃ c, cv = .ref c ∧ H c = some (LamX.CodeO c (TC.nm q)) ∧ c ∉ m ∧ c ∉ B
structure RepSto (m : List Addr) (H : Hp) (S : Sto) : Prop where
  len : m.length = S.length
  nd : m.Nodup
  hid : ∀ b ∈ B, b ∉ m ∧ H b ≠ none
  cell : ∀ (n : Nat) (a : Addr) (c : Cell), m[n]? = some a → S[n]? = some c → CellAt K B m H a c
  tab : TabAt m S
def RepOpt (m : List Addr) (H : Hp) : Option D → Option V → Prop
  | none, _ => True
  | some d, some v => Rep K B m H d v
  | some _, none => False
def RepEn (m : List Addr) (H : Hp) : En → L2.St → Prop := Paired (RepOpt K B m H)
/-- what has become of the heap -/
structure Ex (m : List Addr) (H : Hp) (m' : List Addr) (H' : Hp) : Prop where
  app : ∃ e, m' = m ++ e ∧ ∀ a ∈ e, H a = none
  keep : ∀ a o, H a = some o → (∀ ps, o ≠ .tbl ps) → a ∉ m → H' a = some o
  live : ∀ a ∈ m', H' a ≠ none
  tups : ∀ a xs, H a = some (.tup xs) → H' a = some (.tup xs)
  frzs : ∀ a o u, H a = some (.frz o u) → H' a = some (.frz o u)
  there : ∀ a o, H a = some o → H' a ≠ none
/-- .. where what is hidden may have changed, too -/
structure ExW (m : List Addr) (H : Hp) (m' : List Addr) (H' : Hp) : Prop where
  app : ∃ e, m' = m ++ e ∧ ∀ a ∈ e, H a = none
  keep : ∀ a o, H a = some o → (∀ ps, o ≠ .tbl ps) → a ∉ m → a ∉ B → H' a = some o
  there : ∀ a o, H a = some o → H' a ≠ none
  live : ∀ a ∈ m', H' a ≠ none
  tups : ∀ a xs, H a = some (.tup xs) → H' a = some (.tup xs)
  frzs : ∀ a o u, H a = some (.frz o u) → H' a = some (.frz o u)
def ExnAt (m : List Addr) (H : Hp) (x : Exn) (c : Value) (od : Option Addr) : Prop :=
  ∃ (C dd : Addr) (fvs : List (Str × V)), mg x.cls = some (.ref C) ∧ c = .ref C ∧ od = some dd ∧ H dd = some (.xd fvs) ∧ dd ∉ m ∧ dd ∉ B ∧ RepFs K B m H x.fs fvs
end

section
variable [TC : TabC] [AM : AmbC] {K : PySem.W.Frag} {mg : Str → Option Value} {B m m1 m2 : List Addr} {H H1 H2 : Hp}
theorem Reps.length {ds : List D} {vs : List V} : Reps K B m H ds vs → ds.length = vs.length := by
  intro h
  induction ds generalizing vs with
  | nil => cases h; rfl
  | cons d ds ih => cases h with | cons r t => simp [ih t]
theorem Reps.get {ds : List D} {vs : List V} {i : Nat} {d : D} (h : Reps K B m H ds vs) (e : ds[i]? = some d) : ∃ v, vs[i]? = some v ∧ Rep K B m H d v := by
  induction ds generalizing vs i with
  | nil => simp at e
  | cons x ds ih =>
    cases h with
    | cons r t =>
      cases i with
      | zero => simp at e; subst e; exact ⟨_, by simp, r⟩
      | succ i => simpa using ih t (by simpa using e)
theorem Reps.get' {ds : List D} {vs : List V} {i : Nat} {v : V} (h : Reps K B m H ds vs) (e : vs[i]? = some v) : ∃ d, ds[i]? = some d ∧ Rep K B m H d v := by
  have hl := h.length
  obtain ⟨hi, _⟩ := List.getElem?_eq_some_iff.mp e
  have hi' : i < ds.length := by omega
  obtain ⟨v', e', r⟩ := h.get (List.getElem?_eq_getElem hi')
  rw [e] at e'
  cases e'
  exact ⟨_, List.getElem?_eq_getElem hi', r⟩
theorem Reps.append {ds es : List D} {vs ws : List V} (h : Reps K B m H ds vs) (g : Reps K B m H es ws) : Reps K B m H (ds ++ es) (vs ++ ws) := by
  induction ds generalizing vs with
  | nil => cases h; exact g
  | cons x ds ih => cases h with | cons r t => exact .cons r (ih t)
theorem Reps.take {ds : List D} {vs : List V} (n : Nat) (h : Reps K B m H ds vs) : Reps K B m H (ds.take n) (vs.take n) := by
  induction ds generalizing vs n with
  | nil => cases h; simp; exact .nil
  | cons x ds ih =>
    cases h with
    | cons r t => cases n with
      | zero => exact .nil
      | succ n => exact .cons r (ih n t)
theorem Reps.drop {ds : List D} {vs : List V} (n : Nat) (h : Reps K B m H ds vs) : Reps K B m H (ds.drop n) (vs.drop n) := by
  induction ds generalizing vs n with
  | nil => cases h; simp; exact .nil
  | cons x ds ih =>
    cases h with
    | cons r t => cases n with
      | zero => exact .cons r t
      | succ n => exact ih n t
theorem Reps.set {ds : List D} {vs : List V} {d : D} {v : V} (n : Nat) (h : Reps K B m H ds vs) (r : Rep K B m H d v) : Reps K B m H (ds.set n d) (vs.set n v) := by
  induction ds generalizing vs n with
  | nil => cases h; exact .nil
  | cons x ds ih =>
    cases h with
    | cons r' t => cases n with
      | zero => exact .cons r t
      | succ n => exact .cons r' (ih n t)
theorem Reps.replicate {d : D} {v : V} (n : Nat) (r : Rep K B m H d v) : Reps K B m H (List.replicate n d) (List.replicate n v) := by
  induction n with
  | zero => exact .nil
  | succ n ih => exact .cons r ih
theorem Reps.flat {ds : List D} {vs : List V} (n : Nat) (h : Reps K B m H ds vs) : Reps K B m H (List.replicate n ds).flatten (List.replicate n vs).flatten := by
  induction n with
  | zero => exact .nil
  | succ n ih => exact h.append ih
theorem Reps.reverse {ds : List D} {vs : List V} (h : Reps K B m H ds vs) : Reps K B m H ds.reverse vs.reverse := by
  induction ds generalizing vs with
  | nil => cases h; exact .nil
  | cons x ds ih => cases h with | cons r t => rw [List.reverse_cons, List.reverse_cons]; exact (ih t).append (.cons r .nil)

/-! ### it stands while the heap grows -/
theorem Ex.sub (x : Ex m H m1 H1) : ∀ a ∈ m, a ∈ m1 := fun a h => by
  obtain ⟨e, rfl, _⟩ := x.app
  exact List.mem_append_left _ h
theorem Ex.weak (x : Ex m H m1 H1) : ExW B m H m1 H1 := ⟨x.app, fun a o h ht hm _ => x.keep a o h ht hm, x.there, x.live, x.tups, x.frzs⟩
theorem Ex.none_of (x : Ex m H m1 H1) {p : Addr} (h : H1 p = none) : H p = none := by
  cases e0 : H p with
  | none => rfl
  | some o => exact absurd h (x.there p o e0)
theorem ExW.out (x : ExW B m H m1 H1) {a : Addr} {o : HO} (ha : H a = some o) (h : a ∉ m) : a ∉ m1 := fun z => by
  obtain ⟨e, rfl, q⟩ := x.app
  rcases List.mem_append.mp z with z | z
  · exact h z
  · rw [q a z] at ha; cases ha
theorem Ex.out (x : Ex m H m1 H1) {a : Addr} {o : HO} (ha : H a = some o) (h : a ∉ m) : a ∉ m1 := ExW.out (B := []) x.weak ha h
theorem ExW.get (x : ExW B m H m1 H1) {n : Nat} {a : Addr} (h : m[n]? = some a) : m1[n]? = some a := by
  obtain ⟨e, rfl, _⟩ := x.app
  obtain ⟨hi, _⟩ := List.getElem?_eq_some_iff.mp h
  rw [List.getElem?_append_left hi]; exact h
theorem Ex.get (x : Ex m H m1 H1) {n : Nat} {a : Addr} (h : m[n]? = some a) : m1[n]? = some a := ExW.get (B := []) x.weak h
theorem ExW.sqt (x : ExW B m H m1 H1) {a : Addr} {vs : List V} (h : SqT K H a vs) : SqT K H1 a vs := by
  rcases h with (h | ⟨o, h⟩) | h
  · exact .inl (.inl (x.tups _ _ h))
  · exact .inl (.inr ⟨o, x.frzs _ _ _ h⟩)
  · exact .inr h
theorem Ex.sqt (x : Ex m H m1 H1) {a : Addr} {vs : List V} (h : SqT K H a vs) : SqT K H1 a vs := ExW.sqt (B := []) x.weak h
theorem Rep.monoW (x : ExW B m H m1 H1) {d : D} {v : V} (h : Rep K B m H d v) : Rep K B m1 H1 d v := by
  refine Rep.rec (motive_1 := fun d v _ => Rep K B m1 H1 d v) (motive_2 := fun ds vs _ => Reps K B m1 H1 ds vs) ?_ ?_ ?_ ?_ ?_ ?_ ?_ ?_ ?_ ?_ ?_ ?_ ?_ h
  · exact .non
  · exact .bl
  · exact .int
  · exact .str
  · exact .ty
  · intro a ds vs hs _ ih; exact .tup (x.sqt hs) ih
  · intro a ds vs hs hm hb _ ih
    exact .lst (x.keep _ _ hs (fun _ z => nomatch z) hm hb) (x.out hs hm) hb ih
  · intro n a e; exact .ref (x.get e)
  · intro a ns e
    rcases e with ⟨o, e⟩ | e
    · exact .scr (.inl ⟨o, x.frzs _ _ _ e⟩)
    · exact .scr (.inr e)
  · intro e fvs h1 h2 h3 h4 h5 _ ih
    exact .exv h1 (x.keep _ _ h2 (fun _ z => nomatch z) h3 h4) (x.out h2 h3) h4 h5 ih
  · intro n a e; exact .fn e
  · exact .nil
  · intro d v ds vs _ _ h1 h2; exact .cons h1 h2
theorem Reps.monoW (x : ExW B m H m1 H1) {ds : List D} {vs : List V} (h : Reps K B m H ds vs) : Reps K B m1 H1 ds vs := by
  induction ds generalizing vs with
  | nil => cases h; exact .nil
  | cons d ds ih => cases h with | cons r t => exact .cons (r.monoW x) (ih t)
theorem RepKV.monoW (x : ExW B m H m1 H1) {ds : List (Key × D)} {vs : List (Key × V)} (h : RepKV K B m H ds vs) : RepKV K B m1 H1 ds vs := Paired.mapP h fun _ _ z => ⟨z.1, z.2.monoW x⟩
theorem RepFs.monoW (x : ExW B m H m1 H1) {ds : List (Str × D)} {vs : List (Str × V)} (h : RepFs K B m H ds vs) : RepFs K B m1 H1 ds vs := Paired.mapP h fun _ _ z => ⟨z.1, z.2.monoW x⟩
theorem RepOpt.monoW (x : ExW B m H m1 H1) {d : Option D} {v : Option V} (h : RepOpt K B m H d v) : RepOpt K B m1 H1 d v := by
  cases d with
  | none => trivial
  | some d => cases v with
    | none => exact h
    | some v => exact Rep.monoW x h
theorem RepEn.monoW (x : ExW B m H m1 H1) {ρ : En} {σ : L2.St} (h : RepEn K B m H ρ σ) : RepEn K B m1 H1 ρ σ := Paired.mapP h fun _ _ z => RepOpt.monoW x z
theorem Rep.mono (x : Ex m H m1 H1) {d : D} {v : V} (h : Rep K B m H d v) : Rep K B m1 H1 d v := h.monoW x.weak
theorem Reps.mono (x : Ex m H m1 H1) {ds : List D} {vs : List V} (h : Reps K B m H ds vs) : Reps K B m1 H1 ds vs := h.monoW x.weak
theorem RepKV.mono (x : Ex m H m1 H1) {ds : List (Key × D)} {vs : List (Key × V)} (h : RepKV K B m H ds vs) : RepKV K B m1 H1 ds vs := RepKV.monoW x.weak h
theorem RepFs.mono (x : Ex m H m1 H1) {ds : List (Str × D)} {vs : List (Str × V)} (h : RepFs K B m H ds vs) : RepFs K B m1 H1 ds vs := RepFs.monoW x.weak h
theorem RepOpt.mono (x : Ex m H m1 H1) {d : Option D} {v : Option V} (h : RepOpt K B m H d v) : RepOpt K B m1 H1 d v := RepOpt.monoW x.weak h
theorem RepEn.mono (x : Ex m H m1 H1) {ρ : En} {σ : L2.St} (h : RepEn K B m H ρ σ) : RepEn K B m1 H1 ρ σ := RepEn.monoW x.weak h
theorem ExW.trans (x : ExW B m H m1 H1) (y : ExW B m1 H1 m2 H2) : ExW B m H m2 H2 := by
  obtain ⟨e1, rfl, q1⟩ := x.app
  obtain ⟨e2, rfl, q2⟩ := y.app
  refine ⟨⟨e1 ++ e2, by rw [List.append_assoc], fun a ha => ?_⟩, fun a o h ht hm hb => y.keep a o (x.keep a o h ht hm hb) ht (x.out h hm) hb, fun a o h => ?_, y.live, fun a xs h => y.tups _ _ (x.tups _ _ h), fun a o u h => y.frzs _ _ _ (x.frzs _ _ _ h)⟩
  · rcases List.mem_append.mp ha with h | h
    · exact q1 a h
    · cases e : H a with
      | none => rfl
      | some o => exact absurd (q2 a h) (x.there a o e)
  · cases e : H1 a with
    | none => exact absurd e (x.there a o h)
    | some u => exact y.there a u e
theorem Ex.trans (x : Ex m H m1 H1) (y : Ex m1 H1 m2 H2) : Ex m H m2 H2 := by
  obtain ⟨e1, rfl, q1⟩ := x.app
  obtain ⟨e2, rfl, q2⟩ := y.app
  refine ⟨⟨e1 ++ e2, by rw [List.append_assoc], fun a ha => ?_⟩, fun a o h ht hm => y.keep a o (x.keep a o h ht hm) ht (x.out h hm), y.live, fun a xs h => y.tups _ _ (x.tups _ _ h), fun a o u h => y.frzs _ _ _ (x.frzs _ _ _ h), fun a o h => ?_⟩
  · rcases List.mem_append.mp ha with h | h
    · exact q1 a h
    · exact x.none_of (q2 a h)
  · cases e : H1 a with
    | none => exact absurd e (x.there a o h)
    | some u => exact y.there a u e
theorem RepSto.what {S : Sto} (h : RepSto K B m H S) {a : Addr} (ha : a ∈ m) : (∃ vs, H a = some (.lst vs)) ∨ (∃ kws, H a = some (.dK kws)) ∨ ∃ ps, H a = some (.tbl ps) := by
  obtain ⟨n, hn⟩ := List.getElem?_of_mem ha
  obtain ⟨hi, _⟩ := List.getElem?_eq_some_iff.mp hn
  have hi' : n < S.length := by rw [← h.len]; exact hi
  have c := h.cell n a _ hn (List.getElem?_eq_getElem hi')
  cases e : S[n] with
  | lst ds => rw [e] at c; obtain ⟨vs, q, _⟩ := c; exact .inl ⟨vs, q⟩
  | dic kvs => rw [e] at c; obtain ⟨vs, q, _⟩ := c; exact .inr (.inl ⟨vs, q⟩)
  | tbl x => rw [e] at c; obtain ⟨vs, q, _⟩ := c; exact .inr (.inr ⟨vs, q⟩)
theorem RepSto.live {S : Sto} (h : RepSto K B m H S) : ∀ a ∈ m, H a ≠ none := fun a ha z => by
  rcases h.what ha with ⟨_, e⟩ | ⟨_, e⟩ | ⟨_, e⟩ <;> (rw [z] at e; cases e)
theorem Ex.refl {S : Sto} (h : RepSto K B m H S) : Ex m H m H := ⟨⟨[], by simp, by simp⟩, fun _ _ h _ _ => h, h.live, fun _ _ h => h, fun _ _ _ h => h, fun _ _ h => by rw [h]; simp⟩
theorem CellAt.monoW (x : ExW B m H m1 H1) {a : Addr} {c : Cell} (e : H1 a = H a) (h : CellAt K B m H a c) : CellAt K B m1 H1 a c := by
  cases c with
  | lst ds => obtain ⟨vs, q, r⟩ := h; exact ⟨vs, e.trans q, r.monoW x⟩
  | dic kvs => obtain ⟨vs, q, r⟩ := h; exact ⟨vs, e.trans q, RepKV.monoW x r⟩
  | tbl y =>
    obtain ⟨ps, q, r, f⟩ := h
    refine ⟨ps, e.trans q, r, fun pos cv hc => ?_⟩
    obtain ⟨c, ec, h1, h2, h3⟩ := f pos cv hc
    exact ⟨c, ec, x.keep _ _ h1 (LamX.codeO_ne) h2 h3, x.out h1 h2, h3⟩
/-- a hidden list changes -/
theorem ExW.poke {S : Sto} (h : RepSto K B m H S) {p : Addr} {vs ws : List V} (hp : p ∈ B) (e : H p = some (.lst vs)) : ExW B m H m (upd H p (.lst ws)) := by
  refine ⟨⟨[], by simp, by simp⟩, fun a o q _ _ hb => by rw [upd_ne (fun z => hb (by rw [z]; exact hp))]; exact q, fun a o q => ?_, fun a ha => ?_, fun a xs q => ?_, fun a o u q => ?_⟩
  · by_cases z : a = p
    · rw [z, upd_same]; simp
    · rw [upd_ne z, q]; simp
  · rw [upd_ne (fun z => (h.hid p hp).1 (by rw [← z]; exact ha))]
    exact h.live a ha
  · rw [upd_ne (fun z => by rw [z, e] at q; cases q)]; exact q
  · rw [upd_ne (fun z => by rw [z, e] at q; cases q)]; exact q
theorem RepSto.poke {S : Sto} (h : RepSto K B m H S) {p : Addr} {vs ws : List V} (hp : p ∈ B) (e : H p = some (.lst vs)) : RepSto K B m (upd H p (.lst ws)) S :=
  ⟨h.len, h.nd, fun b hb => ⟨(h.hid b hb).1, by
    by_cases z : b = p
    · rw [z, upd_same]; simp
    · rw [upd_ne z]; exact (h.hid b hb).2⟩, fun n a c e1 e2 => (h.cell n a c e1 e2).monoW (ExW.poke h hp e) (upd_ne fun z => (h.hid p hp).1 (by rw [← z]; exact List.mem_of_getElem? e1)), h.tab⟩
theorem CellAt.mono (x : Ex m H m1 H1) {a : Addr} {c : Cell} (e : H1 a = H a) (h : CellAt K B m H a c) : CellAt K B m1 H1 a c := by
  cases c with
  | lst ds => obtain ⟨vs, q, r⟩ := h; exact ⟨vs, e.trans q, r.mono x⟩
  | dic kvs => obtain ⟨vs, q, r⟩ := h; exact ⟨vs, e.trans q, r.mono x⟩
  | tbl y =>
    obtain ⟨ps, q, r, f⟩ := h
    refine ⟨ps, e.trans q, r, fun pos cv hc => ?_⟩
    obtain ⟨c, ec, h1, h2, h3⟩ := f pos cv hc
    exact ⟨c, ec, x.keep _ _ h1 (LamX.codeO_ne) h2, x.out h1 h2, h3⟩
/-- a new object that is no cell -/
theorem Ex.fresh {S : Sto} (h : RepSto K B m H S) {p : Addr} {o : HO} (hp : H p = none) : Ex m H m (upd H p o) :=
  ⟨⟨[], by simp, by simp⟩, fun a u e _ _ => by rw [upd_ne (ne_of_none e hp)]; exact e, fun a ha => by
    rw [upd_ne (fun z => h.live a ha (by rw [z]; exact hp))]; exact h.live a ha,
    fun a u e => by rw [upd_ne (ne_of_none e hp)]; exact e, fun a u w e => by rw [upd_ne (ne_of_none e hp)]; exact e, fun a u e => by rw [upd_ne (ne_of_none e hp), e]; simp⟩
theorem RepSto.fresh {S : Sto} (h : RepSto K B m H S) {p : Addr} {o : HO} (hp : H p = none) : RepSto K B m (upd H p o) S :=
  ⟨h.len, h.nd, fun b hb => ⟨(h.hid b hb).1, fun z => (h.hid b hb).2 (by rw [upd_ne (fun y => (h.hid b hb).2 (by rw [y]; exact hp))] at z; exact z)⟩, fun n a c e1 e2 => (h.cell n a c e1 e2).mono (Ex.fresh h hp) (upd_ne fun z => h.live a (List.mem_of_getElem? e1) (by rw [z]; exact hp)), h.tab⟩
theorem RepSto.notin {S : Sto} (h : RepSto K B m H S) {p : Addr} (hp : H p = none) : p ∉ m := fun z => h.live p z hp
/-- a new cell -/
theorem Ex.cell {S : Sto} (h : RepSto K B m H S) {p : Addr} {o : HO} (hp : H p = none) : Ex m H (m ++ [p]) (upd H p o) :=
  ⟨⟨[p], rfl, by simpa using hp⟩, fun a u e _ _ => by rw [upd_ne (ne_of_none e hp)]; exact e, fun a ha => by
    rcases List.mem_append.mp ha with ha | ha
    · rw [upd_ne (fun z => h.live a ha (by rw [z]; exact hp))]; exact h.live a ha
    · have e : a = p := by simpa using ha
      rw [e, upd_same]; simp,
    fun a u e => by rw [upd_ne (ne_of_none e hp)]; exact e, fun a u w e => by rw [upd_ne (ne_of_none e hp)]; exact e, fun a u e => by rw [upd_ne (ne_of_none e hp), e]; simp⟩
theorem RepSto.grow {S : Sto} (h : RepSto K B m H S) {p : Addr} {o : HO} {c : Cell} (hp : H p = none) (hc : CellAt K B (m ++ [p]) (upd H p o) p c) : RepSto K B (m ++ [p]) (upd H p o) (S ++ [c]) := by
  have x := Ex.cell (o := o) h hp
  have hne : ∀ b ∈ B, b ≠ p := fun b hb y => (h.hid b hb).2 (by rw [y]; exact hp)
  refine ⟨by simp [h.len], ?_, fun b hb => ⟨fun z => ?_, fun z => (h.hid b hb).2 (by rw [upd_ne (hne b hb)] at z; exact z)⟩, fun n a d e1 e2 => ?_, h.tab.app _ _⟩
  · rw [List.nodup_append]
    exact ⟨h.nd, by simp, fun a ha b hb => by
      have e : b = p := by simpa using hb
      rw [e]; exact fun z => h.notin hp (z ▸ ha)⟩
  · rcases List.mem_append.mp z with z | z
    · exact (h.hid b hb).1 z
    · exact hne b hb (by simpa using z)
  · by_cases hn : n < m.length
    · rw [List.getElem?_append_left hn] at e1
      rw [List.getElem?_append_left (by rw [← h.len]; exact hn)] at e2
      exact (h.cell n a d e1 e2).mono x (upd_ne fun z => h.live a (List.mem_of_getElem? e1) (by rw [z]; exact hp))
    · have hn' : m.length ≤ n := by omega
      rw [List.getElem?_append_right hn'] at e1
      rw [List.getElem?_append_right (by rw [← h.len]; exact hn'), ← h.len] at e2
      cases q : n - m.length with
      | zero =>
        rw [q] at e1 e2
        simp at e1 e2
        rw [← e1, ← e2]; exact hc
      | succ k => rw [q] at e1; simp at e1
/-- a cell written -/
theorem Ex.write {S : Sto} (h : RepSto K B m H S) {a : Addr} {o : HO} (ha : a ∈ m) : Ex m H m (upd H a o) := by
  refine ⟨⟨[], by simp, by simp⟩, fun b u e _ hb => by rw [upd_ne (fun z => hb (by rw [z]; exact ha))]; exact e, fun b hb => ?_, fun b xs e => ?_, fun b u w e => ?_, fun b u e => ?_⟩
  · by_cases z : b = a
    · rw [z, upd_same]; simp
    · rw [upd_ne z]; exact h.live b hb
  · have z : b ≠ a := fun z => by
      rcases h.what ha with ⟨_, q⟩ | ⟨_, q⟩ | ⟨_, q⟩ <;> (rw [← z, e] at q; cases q)
    rw [upd_ne z]; exact e
  · have z : b ≠ a := fun z => by
      rcases h.what ha with ⟨_, q⟩ | ⟨_, q⟩ | ⟨_, q⟩ <;> (rw [← z, e] at q; cases q)
    rw [upd_ne z]; exact e
  · by_cases z : b = a
    · rw [z, upd_same]; simp
    · rw [upd_ne z, e]; simp
theorem RepSto.write {S : Sto} (h : RepSto K B m H S) {n : Nat} {a : Addr} {o : HO} {c : Cell} (hn : m[n]? = some a) (hw : ∀ ps, H a ≠ some (.tbl ps)) (hc : CellAt K B m (upd H a o) a c) : RepSto K B m (upd H a o) (S.set n c) := by
  have ha := List.mem_of_getElem? hn
  have x := Ex.write (o := o) h ha
  refine ⟨by simp [h.len], h.nd, fun b hb => ⟨(h.hid b hb).1, fun z => (h.hid b hb).2 (by rw [upd_ne (fun y => (h.hid b hb).1 (by rw [y]; exact ha))] at z; exact z)⟩, fun k b d e1 e2 => ?_, fun i p q => ?_⟩
  rotate_left
  · obtain ⟨t1, t2⟩ := h.tab i p q
    refine ⟨t1, ?_⟩
    have hni : n ≠ i := fun z => by
      subst z
      obtain ⟨ps, e, _⟩ := h.cell n a _ hn t2
      exact hw ps e
    rw [List.getElem?_set_ne hni]
    exact t2
  by_cases hk : k = n
  · subst hk
    rw [hn] at e1; cases e1
    have hlt : k < S.length := by
      obtain ⟨hi, _⟩ := List.getElem?_eq_some_iff.mp hn
      rw [← h.len]; exact hi
    rw [List.getElem?_set_self hlt] at e2
    cases e2; exact hc
  · rw [List.getElem?_set_ne (Ne.symm hk)] at e2
    refine (h.cell k b d e1 e2).mono x (upd_ne fun z => hk ?_)
    obtain ⟨h1, g1⟩ := List.getElem?_eq_some_iff.mp e1
    obtain ⟨h2, g2⟩ := List.getElem?_eq_some_iff.mp hn
    exact (List.getElem_inj h.nd).mp (g1.trans (z.trans g2.symm))
theorem RepEn.get {ρ : En} {σ : L2.St} {i : Nat} {d : D} (h : RepEn K B m H ρ σ) (e : ρ[i]? = some (some d)) : ∃ v, σ[i]? = some (some v) ∧ Rep K B m H d v := by
  induction ρ generalizing σ i with
  | nil => simp at e
  | cons x ρ ih =>
    cases h with
    | cons r t =>
      rename_i y σ'
      cases i with
      | zero =>
        simp at e; subst e
        cases y with
        | none => exact r.elim
        | some v => exact ⟨v, by simp, r⟩
      | succ i => simpa using ih t (by simpa using e)
theorem RepEn.set {ρ : En} {σ : L2.St} {i : Nat} {d : Option D} {v : Option V} (h : RepEn K B m H ρ σ) (r : RepOpt K B m H d v) : RepEn K B m H (ρ.set i d) (σ.set i v) := by
  induction ρ generalizing σ i with
  | nil => cases h; exact .nil
  | cons x ρ ih =>
    cases h with
    | cons r' t => cases i with
      | zero => exact .cons r t
      | succ i => exact .cons r' (ih t)
/-- slots forgotten -/
theorem RepEn.forget {ρ : En} {σ : L2.St} {i : Nat} {v : Option V} (h : RepEn K B m H ρ σ) : RepEn K B m H (ρ.set i none) (σ.set i v) := h.set (d := none) trivial
end
end Zed

namespace Zed
open PySem PySem.Spec PyProof.Rows L2

/-! ## What is wanted behind a denotation -/
section
variable [TC : TabC] [AM : AmbC] (K : PySem.W.Frag) (mg : Str → Option Value) (E : XK) (B : List Addr)
def Aft {α β : Type} (rel : List Addr → Hp → α → β → Prop) (m : List Addr) (H : Hp) (r : R α) (Q : β → Hp → Prop) : Prop :=
  match r with
  | .ok a S' => ∀ m' H' b, Ex m H m' H' → RepSto K B m' H' S' → rel m' H' a b → Q b H'
  | .exc x S' => ∀ m' H' c od, Ex m H m' H' → RepSto K B m' H' S' → ExnAt K mg B m' H' x c od → E c od H'
  | .bad => False
abbrev relB : List Addr → Hp → Bool → Bool → Prop := fun _ _ a b => a = b
/-- an expression's, a test's, an argument list's reading by its denotation -/
def tD (f : ED) : TE := fun σ H Q => ∃ B m ρ S, RepEn K B m H ρ σ ∧ RepSto K B m H S ∧ Aft K mg E B (Rep K B) m H (f ρ S) Q
def tDB (f : BD) : TT := fun σ H Q => ∃ B m ρ S, RepEn K B m H ρ σ ∧ RepSto K B m H S ∧ Aft K mg E B relB m H (f ρ S) Q
def tDL (f : LD) : TA := fun σ H Q => ∃ B m ρ S, RepEn K B m H ρ σ ∧ RepSto K B m H S ∧ Aft K mg E B (Reps K B) m H (f ρ S) Q
def FlAt (m : List Addr) (H : Hp) (F : Ends) : Fl → Prop
  | .nx ρ => ∀ σ, RepEn K B m H ρ σ → F.nx σ H
  | .bk ρ => ∀ σ, RepEn K B m H ρ σ → F.bk σ H
  | .ct ρ => ∀ σ, RepEn K B m H ρ σ → F.ct σ H
  | .rt d => ∀ v, Rep K B m H d v → F.rt v H
def AftS (m : List Addr) (H : Hp) (r : R Fl) (F : Ends) : Prop :=
  match r with
  | .ok fl S' => ∀ m' H', Ex m H m' H' → RepSto K B m' H' S' → FlAt K B m' H' F fl
  | .exc x S' => ∀ m' H' c od, Ex m H m' H' → RepSto K B m' H' S' → ExnAt K mg B m' H' x c od → E c od H'
  | .bad => False
def tDS (f : SD) : TS := fun F σ H => ∃ B m ρ S, RepEn K B m H ρ σ ∧ RepSto K B m H S ∧ AftS K mg E B m H (f ρ S) F
end

section
variable [TC : TabC] [AM : AmbC] {K : PySem.W.Frag} {mg : Str → Option Value} {E : XK} {B m m1 m2 : List Addr} {H H1 H2 : Hp} {X : Cx}
theorem Aft.shift {α β : Type} {rel : List Addr → Hp → α → β → Prop} {r : R α} {Q : β → Hp → Prop} (x : Ex m H m1 H1) (h : Aft K mg E B rel m H r Q) : Aft K mg E B rel m1 H1 r Q := by
  cases r with
  | ok a S => intro m' H' b y; exact h m' H' b (x.trans y)
  | exc e S => intro m' H' c od y; exact h m' H' c od (x.trans y)
  | bad => exact h
theorem Aft.imp {α β : Type} {rel : List Addr → Hp → α → β → Prop} {r : R α} {Q Q' : β → Hp → Prop} (h : Aft K mg E B rel m H r Q) (q : ∀ b H', Q b H' → Q' b H') : Aft K mg E B rel m H r Q' := by
  cases r with
  | ok a S => intro m' H' b y st rl; exact q _ _ (h m' H' b y st rl)
  | exc e S => exact h
  | bad => exact h
theorem AftS.shift {r : R Fl} {F : Ends} (x : Ex m H m1 H1) (h : AftS K mg E B m H r F) : AftS K mg E B m1 H1 r F := by
  cases r with
  | ok a S => intro m' H' y; exact h m' H' (x.trans y)
  | exc e S => intro m' H' c od y; exact h m' H' c od (x.trans y)
  | bad => exact h
theorem Aft.bind {α β γ δ : Type} {rel : List Addr → Hp → α → β → Prop} {rel2 : List Addr → Hp → γ → δ → Prop} {r : R α} {g : α → Sto → R γ} {Q : δ → Hp → Prop} (h : Aft K mg E B rel2 m H (r.bind g) Q) :
    Aft K mg E B rel m H r fun b H1 => ∃ m1 a S1, Ex m H m1 H1 ∧ RepSto K B m1 H1 S1 ∧ rel m1 H1 a b ∧ Aft K mg E B rel2 m1 H1 (g a S1) Q := by
  cases r with
  | ok a S => intro m' H' b y st rl; exact ⟨m', a, S, y, st, rl, Aft.shift y h⟩
  | exc e S => exact h
  | bad => exact h
theorem AftS.bind {α β : Type} {rel : List Addr → Hp → α → β → Prop} {r : R α} {g : α → Sto → R Fl} {F : Ends} (h : AftS K mg E B m H (r.bind g) F) :
    Aft K mg E B rel m H r fun b H1 => ∃ m1 a S1, Ex m H m1 H1 ∧ RepSto K B m1 H1 S1 ∧ rel m1 H1 a b ∧ AftS K mg E B m1 H1 (g a S1) F := by
  cases r with
  | ok a S => intro m' H' b y st rl; exact ⟨m', a, S, y, st, rl, AftS.shift y h⟩
  | exc e S => exact h
  | bad => exact h
/-- one part first -/
theorem part {γ δ : Type} {rel2 : List Addr → Hp → γ → δ → Prop} {fa : ED} {ρ : En} {σ : L2.St} {S : Sto} {g : D → Sto → R γ} {Q : δ → Hp → Prop} (re : RepEn K B m H ρ σ) (rs : RepSto K B m H S) (h : Aft K mg E B rel2 m H ((fa ρ S).bind g) Q) :
    tD K mg E fa σ H fun v H1 => ∃ m1 d S1, Ex m H m1 H1 ∧ RepEn K B m1 H1 ρ σ ∧ RepSto K B m1 H1 S1 ∧ Rep K B m1 H1 d v ∧ Aft K mg E B rel2 m1 H1 (g d S1) Q :=
  ⟨B, m, ρ, S, re, rs, h.bind.imp fun _ _ ⟨m1, d, S1, x, st, rl, q⟩ => ⟨m1, d, S1, x, re.mono x, st, rl, q⟩⟩
theorem partB {γ δ : Type} {rel2 : List Addr → Hp → γ → δ → Prop} {fa : BD} {ρ : En} {σ : L2.St} {S : Sto} {g : Bool → Sto → R γ} {Q : δ → Hp → Prop} (re : RepEn K B m H ρ σ) (rs : RepSto K B m H S) (h : Aft K mg E B rel2 m H ((fa ρ S).bind g) Q) :
    tDB K mg E fa σ H fun v H1 => ∃ m1 S1, Ex m H m1 H1 ∧ RepEn K B m1 H1 ρ σ ∧ RepSto K B m1 H1 S1 ∧ Aft K mg E B rel2 m1 H1 (g v S1) Q :=
  ⟨B, m, ρ, S, re, rs, h.bind.imp fun _ _ ⟨m1, d, S1, x, st, rl, q⟩ => ⟨m1, S1, x, re.mono x, st, by cases rl; exact q⟩⟩
theorem partL {γ δ : Type} {rel2 : List Addr → Hp → γ → δ → Prop} {fa : LD} {ρ : En} {σ : L2.St} {S : Sto} {g : List D → Sto → R γ} {Q : δ → Hp → Prop} (re : RepEn K B m H ρ σ) (rs : RepSto K B m H S) (h : Aft K mg E B rel2 m H ((fa ρ S).bind g) Q) :
    tDL K mg E fa σ H fun vs H1 => ∃ m1 ds S1, Ex m H m1 H1 ∧ RepEn K B m1 H1 ρ σ ∧ RepSto K B m1 H1 S1 ∧ Reps K B m1 H1 ds vs ∧ Aft K mg E B rel2 m1 H1 (g ds S1) Q :=
  ⟨B, m, ρ, S, re, rs, h.bind.imp fun _ _ ⟨m1, d, S1, x, st, rl, q⟩ => ⟨m1, d, S1, x, re.mono x, st, rl, q⟩⟩
theorem partS {fa : ED} {ρ : En} {σ : L2.St} {S : Sto} {g : D → Sto → R Fl} {F : Ends} (re : RepEn K B m H ρ σ) (rs : RepSto K B m H S) (h : AftS K mg E B m H ((fa ρ S).bind g) F) :
    tD K mg E fa σ H fun v H1 => ∃ m1 d S1, Ex m H m1 H1 ∧ RepEn K B m1 H1 ρ σ ∧ RepSto K B m1 H1 S1 ∧ Rep K B m1 H1 d v ∧ AftS K mg E B m1 H1 (g d S1) F :=
  ⟨B, m, ρ, S, re, rs, h.bind.imp fun _ _ ⟨m1, d, S1, x, st, rl, q⟩ => ⟨m1, d, S1, x, re.mono x, st, rl, q⟩⟩
theorem partSB {fa : BD} {ρ : En} {σ : L2.St} {S : Sto} {g : Bool → Sto → R Fl} {F : Ends} (re : RepEn K B m H ρ σ) (rs : RepSto K B m H S) (h : AftS K mg E B m H ((fa ρ S).bind g) F) :
    tDB K mg E fa σ H fun v H1 => ∃ m1 S1, Ex m H m1 H1 ∧ RepEn K B m1 H1 ρ σ ∧ RepSto K B m1 H1 S1 ∧ AftS K mg E B m1 H1 (g v S1) F :=
  ⟨B, m, ρ, S, re, rs, h.bind.imp fun _ _ ⟨m1, d, S1, x, st, rl, q⟩ => ⟨m1, S1, x, re.mono x, st, by cases rl; exact q⟩⟩
theorem PE.to {e : Expr} {t t' : TE} (h : PE X e t) (i : ∀ σ H Q, t' σ H Q → t σ H Q) : PE X e t' := ⟨fun pins s σ H Q I q => h.run pins s σ H Q I (i _ _ _ q)⟩
theorem PT.to {e : Expr} {t t' : TT} (h : PT X e t) (i : ∀ σ H Q, t' σ H Q → t σ H Q) : PT X e t' := ⟨fun pins s σ H Q I q => h.run pins s σ H Q I (i _ _ _ q)⟩
theorem PW.to {e : Expr} {t t' : TT} (h : PW X e t) (i : ∀ σ H Q, t' σ H Q → t σ H Q) : PW X e t' := ⟨fun wh pins s σ H Q I q => h.run wh pins s σ H Q I (i _ _ _ q)⟩
theorem PA.to {es : List Expr} {t t' : TA} (h : PA X es t) (i : ∀ σ H Q, t' σ H Q → t σ H Q) : PA X es t' := ⟨fun pos pins s σ H Q I q => h.run pos pins s σ H Q I (i _ _ _ q)⟩
theorem PS.to {e : Stmt} {t t' : TS} (h : PS X e t) (i : ∀ F σ H, t' F σ H → t F σ H) : PS X e t' := ⟨fun pins s σ H D I q => h.run pins s σ H D I (i _ _ _ q)⟩
theorem PSs.to {e : List Stmt} {t t' : TS} (h : PSs X e t) (i : ∀ F σ H, t' F σ H → t F σ H) : PSs X e t' := ⟨fun pins s σ H D I q => h.run pins s σ H D I (i _ _ _ q)⟩
end

/-! ## Names and constants -/
def eV (i : Nat) : ED := fun ρ S => match ρ[i]? with
  | some (some d) => .ok d S
  | _ => .bad
def eC (d : D) : ED := fun _ S => .ok d S
/-- data that lies nowhere -/
def flatD : D → Option V
  | .non => some .non
  | .bl b => some (.bl b)
  | .int i => some (.int i)
  | .str x => some (.str x)
  | .ty n => some (.ty n)
  | _ => none
section
variable [TC : TabC] [AM : AmbC] {K : PySem.W.Frag} {mg : Str → Option Value} {E : XK} {X : Cx}
theorem rep_flat {B m : List Addr} {H : Hp} {d : D} {v : V} (h : flatD d = some v) : Rep K B m H d v := by
  cases d <;> simp [flatD] at h <;> subst h
  · exact .non
  · exact .bl _
  · exact .int _
  · exact .str _
  · exact .ty _
theorem d_var {i : Nat} {x : Str} {pos : Pos} (hN : X.N[i]? = some x) (hv : Vis X.env.scope x) (hd : (x == ("__debug__" : Str)) = false := by decide) (hcd : (x == ("__classdict__" : Str)) = false := by decide) :
    PE X (.Name x pos) (tD K mg E (eV i)) := by
  refine PE.to (pe_var (i := i) hN hv hd hcd) fun σ H Q h => ?_
  obtain ⟨B, m, ρ, S, re, rs, q⟩ := h
  unfold eV at q
  split at q
  · rename_i d e
    obtain ⟨v, ev, r⟩ := re.get e
    exact ⟨v, ev, q m H v (Ex.refl rs) rs r⟩
  · exact q.elim
theorem d_flat {e : Expr} {v : V} {d : D} (h : PE X e (tC v)) (hd : flatD d = some v) : PE X e (tD K mg E (eC d)) := by
  refine PE.to h fun σ H Q h => ?_
  obtain ⟨B, m, ρ, S, re, rs, q⟩ := h
  exact q m H v (Ex.refl rs) rs (rep_flat hd)
theorem d_int {i : Int} {j pos} : PE X (.Constant (.int i) j pos) (tD K mg E (eC (.int i))) := d_flat pe_int rfl
theorem d_bl {i : Bool} {j pos} : PE X (.Constant (.bool i) j pos) (tD K mg E (eC (.bl i))) := d_flat pe_bl rfl
theorem d_non {j pos} : PE X (.Constant .none j pos) (tD K mg E (eC .non)) := d_flat pe_non rfl
theorem d_str {x : Str} {j pos} : PE X (.Constant (.str x) j pos) (tD K mg E (eC (.str x))) := d_flat pe_str rfl
theorem d_glob {x : Str} {v : V} {u : Value} {d : D} {pos : Pos} (hg : L2.Gl X x) (hm : X.mg x = some u) (r : RelV v u) (hd : flatD d = some v) (hdb : (x == ("__debug__" : Str)) = false := by decide) : PE X (.Name x pos) (tD K mg E (eC d)) := d_flat (pe_glob hg hm r hdb) hd
end

/-! ## Operators of two values -/
abbrev OD := D → D → Sto → R D
def eBin (op : OD) (fa fb : ED) : ED := fun ρ S => (fa ρ S).bind fun x S1 => (fb ρ S1).bind fun y S2 => op x y S2
def OpSp [TC : TabC] [AM : AmbC] (K : PySem.W.Frag) (mg : Str → Option Value) (E : XK) (op : OD) (r : R2) : Prop :=
  ∀ (B m : List Addr) (H : Hp) (S : Sto) (d e : D) (x y : V) (Q : VK), RepSto K B m H S → Rep K B m H d x → Rep K B m H e y → Aft K mg E B (Rep K B) m H (op d e S) Q → r x y H Q
section
variable [TC : TabC] [AM : AmbC] {K : PySem.W.Frag} {mg : Str → Option Value} {E : XK} {X : Cx} {op : OD} {r : R2} {fa fb : ED}
theorem op_to (s : OpSp K mg E op r) {σ : L2.St} {H : Hp} {Q : VK} (h : tD K mg E (eBin op fa fb) σ H Q) : tOp r (tD K mg E fa) (tD K mg E fb) σ H Q := by
  obtain ⟨B, m, ρ, S, re, rs, q⟩ := h
  obtain ⟨B', m', ρ', S', re', rs', q'⟩ := part re rs q
  refine ⟨B', m', ρ', S', re', rs', q'.imp ?_⟩
  rintro v H1 ⟨m1, d, S1, x1, re1, rs1, r1, q1⟩
  obtain ⟨B2, m2', ρ2, S2', re2, rs2, q2⟩ := part re1 rs1 q1
  refine ⟨B2, m2', ρ2, S2', re2, rs2, q2.imp ?_⟩
  rintro w H2 ⟨m2, e, S2, x2, re2, rs2, r2, q3⟩
  exact s _ m2 H2 S2 d e v w Q rs2 (r1.mono x2) r2 q3
theorem d_bin {a b : Expr} {o : Operator} {pos : Pos} (ho : OpR X (binaryOp o) r) (s : OpSp K mg E op r) (ha : PE X a (tD K mg E fa)) (hb : PE X b (tD K mg E fb)) : PE X (.BinOp a o b pos) (tD K mg E (eBin op fa fb)) :=
  PE.to (pe_op ho ha hb) fun _ _ _ h => op_to s h
theorem d_cmp {a b : Expr} {o : CmpOp} {pos : Pos} (ho : OpR X (compareOp o) r) (s : OpSp K mg E op r) (ha : PE X a (tD K mg E fa)) (hb : PE X b (tD K mg E fb)) (hm : behindInMarks o b = false) :
    PE X (.Compare a [o] [b] pos) (tD K mg E (eBin op fa fb)) := PE.to (pe_cmpR ho ha hb hm) fun _ _ _ h => op_to s h
/-- a < b < c -/
def eChain (op op' : OD) (fa fb fc : ED) : ED := fun ρ S => (fa ρ S).bind fun x S1 => (fb ρ S1).bind fun y S2 => (op x y S2).bind fun z S3 => match z with
  | .bl true => (fc ρ S3).bind fun w S4 => op' y w S4
  | .bl false => .ok (.bl false) S3
  | _ => .bad
end
end Zed

namespace Zed
open PySem PySem.Spec PyProof.Rows L2

/-! ## Lists as they are read -/
def itemsL (S : Sto) : D → Option (List D)
  | .lst xs => some xs
  | .scr ns => some (ns.map D.int)
  | .ref n => match S[n]? with
    | some (.lst xs) => some xs
    | _ => none
  | _ => none
section
variable [TC : TabC] [AM : AmbC] {K : PySem.W.Frag} {mg : Str → Option Value} {E : XK} {B m m1 m2 : List Addr} {H H1 H2 : Hp} {S : Sto} {X : Cx}
theorem Rep.non_inv {v : V} (h : Rep K B m H .non v) : v = .non := by cases h; rfl
theorem Rep.bl_inv {b : Bool} {v : V} (h : Rep K B m H (.bl b) v) : v = .bl b := by cases h; rfl
theorem Rep.int_inv {b : Int} {v : V} (h : Rep K B m H (.int b) v) : v = .int b := by cases h; rfl
theorem Rep.str_inv {b : Str} {v : V} (h : Rep K B m H (.str b) v) : v = .str b := by cases h; rfl
theorem Rep.ty_inv {b : String} {v : V} (h : Rep K B m H (.ty b) v) : v = .ty b := by cases h; rfl
theorem Rep.fn_inv {n : Nat} {v : V} (h : Rep K B m H (.fn n) v) : ∃ a, v = .ref a ∧ TC.F[n]? = some a := by cases h with | fn h => exact ⟨_, rfl, h⟩
theorem Rep.tup_inv {ds : List D} {v : V} (h : Rep K B m H (.tup ds) v) : ∃ a vs, v = .ref a ∧ SqT K H a vs ∧ Reps K B m H ds vs := by cases h with | tup h1 h2 => exact ⟨_, _, rfl, h1, h2⟩
theorem Rep.lst_inv {ds : List D} {v : V} (h : Rep K B m H (.lst ds) v) : ∃ a vs, v = .ref a ∧ H a = some (.lst vs) ∧ a ∉ m ∧ a ∉ B ∧ Reps K B m H ds vs := by cases h with | lst h1 h2 h3 h4 => exact ⟨_, _, rfl, h1, h2, h3, h4⟩
theorem Rep.ref_inv {n : Nat} {v : V} (h : Rep K B m H (.ref n) v) : ∃ a, v = .ref a ∧ m[n]? = some a := by cases h with | ref h => exact ⟨_, rfl, h⟩
theorem Rep.scr_inv {ns : List Int} {v : V} (h : Rep K B m H (.scr ns) v) : ∃ a, v = .ref a ∧ SqS K H a (ns.map V.int) := by cases h with | scr h => exact ⟨_, rfl, h⟩
theorem Reps.ints (ns : List Int) : Reps K B m H (ns.map D.int) (ns.map V.int) := by
  induction ns with
  | nil => exact .nil
  | cons n ns ih => exact .cons (.int n) ih
theorem SqS.sq {a : Addr} {vs : List V} (h : SqS K H a vs) : SqL K H a vs := by
  rcases h with ⟨o, h⟩ | h
  · exact .inl (.inr ⟨o, h⟩)
  · exact .inr h
theorem Rep.items {d : D} {v : V} {ds : List D} (h : Rep K B m H d v) (rs : RepSto K B m H S) (e : itemsL S d = some ds) : ∃ a vs, v = .ref a ∧ SqL K H a vs ∧ Reps K B m H ds vs := by
  cases d with
  | lst xs =>
    obtain ⟨a, vs, rfl, h1, _, _, r⟩ := h.lst_inv
    cases e
    exact ⟨a, vs, rfl, SqL.of h1, r⟩
  | scr ns =>
    obtain ⟨a, rfl, h1⟩ := h.scr_inv
    cases e
    exact ⟨a, _, rfl, h1.sq, Reps.ints ns⟩
  | ref n =>
    obtain ⟨a, rfl, h1⟩ := h.ref_inv
    simp only [itemsL] at e
    split at e
    · rename_i xs e2
      cases e
      obtain ⟨vs, h2, r⟩ := rs.cell n a _ h1 e2
      exact ⟨a, vs, rfl, SqL.of h2, r⟩
    · cases e
  | _ => cases e
/-- .. and tracked -/
def itemsW (S : Sto) : D → Option (List D)
  | .lst xs => some xs
  | .ref n => match S[n]? with
    | some (.lst xs) => some xs
    | _ => none
  | _ => none
theorem Rep.itemsW {d : D} {v : V} {ds : List D} (h : Rep K B m H d v) (rs : RepSto K B m H S) (e : itemsW S d = some ds) : ∃ a vs, v = .ref a ∧ H a = some (.lst vs) ∧ Reps K B m H ds vs := by
  cases d with
  | lst xs =>
    obtain ⟨a, vs, rfl, h1, _, _, r⟩ := h.lst_inv
    cases e
    exact ⟨a, vs, rfl, h1, r⟩
  | ref n =>
    obtain ⟨a, rfl, h1⟩ := h.ref_inv
    simp only [Zed.itemsW] at e
    split at e
    · rename_i xs e2
      cases e
      obtain ⟨vs, h2, r⟩ := rs.cell n a _ h1 e2
      exact ⟨a, vs, rfl, h2, r⟩
    · cases e
  | _ => cases e
end

/-! ## Operators -/
def sz : Nat := 16777216
def addD : OD
  | .int i, .int j, S => .ok (.int (i + j)) S
  | .str x, .str y, S => if x.length + y.length ≤ sz then .ok (.str (x ++ y)) S else .bad
  | .tup xs, .tup ys, S => if xs.length + ys.length ≤ sz then .ok (.tup (xs ++ ys)) S else .bad
  | d, e, S => match itemsW S d, itemsW S e with
    | some xs, some ys => if xs.length + ys.length ≤ sz then .ok (.lst (xs ++ ys)) S else .bad
    | _, _ => .bad
def subD : OD
  | .int i, .int j, S => .ok (.int (i - j)) S
  | _, _, _ => .bad
def mulD : OD
  | .int i, .int j, S => if i.natAbs.log2 + j.natAbs.log2 < 1000000 then .ok (.int (i * j)) S else .bad
  | .tup xs, .int k, S => if xs ≠ [] ∧ 2 ≤ k ∧ k ≤ 1000 ∧ xs.length ≤ 1000 then .ok (.tup (List.replicate k.toNat xs).flatten) S else .bad
  | .lst xs, .int k, S => if -(2 ^ 63) ≤ k ∧ k < 2 ^ 63 ∧ xs.length * k.toNat ≤ sz then .ok (.lst (List.replicate k.toNat xs).flatten) S else .bad
  | _, _, _ => .bad
def modD : OD
  | .int i, .int j, S => if 0 < j then .ok (.int (i % j)) S else .bad
  | _, _, _ => .bad
def fdivD : OD
  | .int i, .int j, S => if 0 < j ∧ j < 1073741824 then .ok (.int (i / j)) S else .bad
  | _, _, _ => .bad
def powD : OD
  | .int i, .int j, S => if 0 ≤ j ∧ j ≤ 1000000 ∧ i.natAbs < 2 ^ 64 then .ok (.int (i ^ j.toNat)) S else .bad
  | _, _, _ => .bad
def cmpI (p : Int → Int → Bool) : OD
  | .int i, .int j, S => .ok (.bl (p i j)) S
  | _, _, _ => .bad
def isNon : D → Bool
  | .non => true
  | _ => false
def isND : OD
  | d, .non, S => .ok (.bl (isNon d)) S
  | _, _, _ => .bad
section
variable [TC : TabC] [AM : AmbC] {K : PySem.W.Frag} {mg : Str → Option Value} {E : XK} {X : Cx}
theorem sz_eq : sz = sizeLine := by rw [sizeLine_eq]; rfl
/-- a new list that is no cell -/
theorem Aft.newLst {B m : List Addr} {H : Hp} {S : Sto} {ds : List D} {vs : List V} {Q : VK} (rs : RepSto K B m H S) (r : Reps K B m H ds vs) (q : Aft K mg E B (Rep K B) m H (.ok (.lst ds) S) Q) : ∀ p, H p = none → Q (.ref p) (upd H p (.lst vs)) := fun p hp => by
  have x := Ex.fresh (o := .lst vs) rs hp
  exact q m _ _ x (rs.fresh hp) (.lst upd_same (rs.notin hp) (fun hb => (rs.hid p hb).2 hp) (r.mono x))
theorem Aft.newTup {B m : List Addr} {H : Hp} {S : Sto} {ds : List D} {vs : List V} {Q : VK} (rs : RepSto K B m H S) (r : Reps K B m H ds vs) (q : Aft K mg E B (Rep K B) m H (.ok (.tup ds) S) Q) : ∀ p, H p = none → Q (.ref p) (upd H p (.tup vs)) := fun p hp => by
  have x := Ex.fresh (o := .tup vs) rs hp
  exact q m _ _ x (rs.fresh hp) (.tup (SqT.of upd_same) (r.mono x))
theorem Aft.same {B m : List Addr} {H : Hp} {S : Sto} {d : D} {v : V} {Q : VK} (rs : RepSto K B m H S) (r : Rep K B m H d v) (q : Aft K mg E B (Rep K B) m H (.ok d S) Q) : Q v H := q m H v (Ex.refl rs) rs r
theorem sp_add : OpSp K mg E addD (fun x y H Q => ((∃ i j, x = .int i ∧ y = .int j ∧ Q (.int (i + j)) H) ∨ (∃ i j, x = .str i ∧ y = .str j ∧ i.length + j.length ≤ sizeLine ∧ Q (.str (i ++ j)) H)) ∨ rCatA K x y H Q ∨ rCat x y H Q) := by
  intro B m H S d e x y Q rs rd re q
  unfold addD at q
  split at q
  · rw [rd.int_inv, re.int_inv]
    exact .inl (.inl ⟨_, _, rfl, rfl, q.same rs (.int _)⟩)
  · rw [rd.str_inv, re.str_inv]
    split at q
    · rename_i h
      exact .inl (.inr ⟨_, _, rfl, rfl, by rw [← sz_eq]; exact h, q.same rs (.str _)⟩)
    · exact q.elim
  · obtain ⟨a, vs, rfl, ha, ra⟩ := rd.tup_inv
    obtain ⟨b, ws, rfl, hb, rb⟩ := re.tup_inv
    split at q
    · rename_i h
      refine .inr (.inl ⟨a, b, vs, ws, rfl, rfl, ha, hb, by rw [← sz_eq, ← ra.length, ← rb.length]; exact h, fun z => ?_, fun z1 z => ?_, fun _ _ => Aft.newTup rs (ra.append rb) q⟩)
      · subst z
        cases ra
        exact q.same rs (.tup hb rb)
      · subst z
        cases rb
        rw [List.append_nil] at q
        exact q.same rs (.tup ha ra)
    · exact q.elim
  · split at q
    · rename_i xs ys e1 e2
      obtain ⟨a, vs, rfl, ha, ra⟩ := rd.itemsW rs e1
      obtain ⟨b, ws, rfl, hb, rb⟩ := re.itemsW rs e2
      split at q
      · rename_i h
        exact .inr (.inr ⟨a, b, vs, ws, rfl, rfl, ha, hb, by rw [← sz_eq, ← ra.length, ← rb.length]; exact h, Aft.newLst rs (ra.append rb) q⟩)
      · exact q.elim
    · exact q.elim
theorem o_add : OpR X (binaryOp .Add) (fun x y H Q => ((∃ i j, x = .int i ∧ y = .int j ∧ Q (.int (i + j)) H) ∨ (∃ i j, x = .str i ∧ y = .str j ∧ i.length + j.length ≤ sizeLine ∧ Q (.str (i ++ j)) H)) ∨ rCatA X.K x y H Q ∨ rCat x y H Q) :=
  (op_add.or op_add_str).or (op_catA.or op_cat)
theorem sp_sub : OpSp K mg E subD (rI0 fun i j => .int (i - j)) := by
  intro B m H S d e x y Q rs rd re q
  unfold subD at q
  split at q
  · rw [rd.int_inv, re.int_inv]; exact ⟨_, _, rfl, rfl, q.same rs (.int _)⟩
  · exact q.elim
theorem sp_mul : OpSp K mg E mulD (fun x y H Q => (rI CMulW (fun i j => .int (i * j))) x y H Q ∨ rRepT K x y H Q ∨ rRep x y H Q) := by
  intro B m H S d e x y Q rs rd re q
  unfold mulD at q
  split at q
  · rw [rd.int_inv, re.int_inv]
    split at q
    · rename_i h; exact .inl ⟨_, _, rfl, rfl, h, q.same rs (.int _)⟩
    · exact q.elim
  · obtain ⟨a, vs, rfl, ha, ra⟩ := rd.tup_inv
    rw [re.int_inv]
    split at q
    · rename_i h
      obtain ⟨h1, h2, h3, h4⟩ := h
      refine .inr (.inl ⟨a, _, vs, rfl, rfl, ha, ?_, h2, h3, by rw [← ra.length]; exact h4, Aft.newTup rs (ra.flat _) q⟩)
      intro z
      subst z
      cases ra
      exact h1 rfl
    · exact q.elim
  · obtain ⟨a, vs, rfl, ha, _, _, ra⟩ := rd.lst_inv
    rw [re.int_inv]
    split at q
    · rename_i h
      obtain ⟨h1, h2, h3⟩ := h
      exact .inr (.inr ⟨a, _, vs, rfl, rfl, ha, h1, h2, by rw [← sz_eq, ← ra.length]; exact h3, Aft.newLst rs (ra.flat _) q⟩)
    · exact q.elim
  · exact q.elim
theorem o_mul : OpR X (binaryOp .Mult) (fun x y H Q => (rI CMulW (fun i j => .int (i * j))) x y H Q ∨ rRepT X.K x y H Q ∨ rRep x y H Q) := op_mulW.or (op_repT.or op_rep)
theorem sp_mod : OpSp K mg E modD (rI (fun _ j => 0 < j) fun i j => .int (i % j)) := by
  intro B m H S d e x y Q rs rd re q
  unfold modD at q
  split at q
  · rw [rd.int_inv, re.int_inv]
    split at q
    · rename_i h; exact ⟨_, _, rfl, rfl, h, q.same rs (.int _)⟩
    · exact q.elim
  · exact q.elim
theorem sp_fdiv : OpSp K mg E fdivD (rI CDiv fun i j => .int (i / j)) := by
  intro B m H S d e x y Q rs rd re q
  unfold fdivD at q
  split at q
  · rw [rd.int_inv, re.int_inv]
    split at q
    · rename_i h; exact ⟨_, _, rfl, rfl, h, q.same rs (.int _)⟩
    · exact q.elim
  · exact q.elim
theorem sp_pow : OpSp K mg E powD (rI CPow fun i j => .int (i ^ j.toNat)) := by
  intro B m H S d e x y Q rs rd re q
  unfold powD at q
  split at q
  · rw [rd.int_inv, re.int_inv]
    split at q
    · rename_i h; exact ⟨_, _, rfl, rfl, h, q.same rs (.int _)⟩
    · exact q.elim
  · exact q.elim
theorem sp_cmpI {p : Int → Int → Bool} : OpSp K mg E (cmpI p) (rI0 fun i j => .bl (p i j)) := by
  intro B m H S d e x y Q rs rd re q
  unfold cmpI at q
  split at q
  · rw [rd.int_inv, re.int_inv]; exact ⟨_, _, rfl, rfl, q.same rs (.bl _)⟩
  · exact q.elim
theorem non_or {B m : List Addr} {H : Hp} {d : D} {v : V} (h : Rep K B m H d v) : decide (v = .non) = isNon d := by cases h <;> simp [isNon]
theorem sp_isN : OpSp K mg E isND (fun x y H Q => y = .non ∧ Q (.bl (decide (x = .non))) H) := by
  intro B m H S d e x y Q rs rd re q
  unfold isND at q
  split at q
  · refine ⟨re.non_inv, ?_⟩
    rw [non_or rd]; exact q.same rs (.bl _)
  · exact q.elim
end

/-! ## Tests -/
def truD (S : Sto) : D → Option Bool
  | .non => some false
  | .bl b => some b
  | .int i => some (i != 0)
  | .str y => if y.length ≤ sz then some ((y.length : Int) != 0) else none
  | .tup xs => some (!xs.isEmpty)
  | .lst xs => some (!xs.isEmpty)
  | .scr xs => some (!xs.isEmpty)
  | .ref n => match S[n]? with
    | some (.lst xs) => some (!xs.isEmpty)
    | some (.dic xs) => some (!xs.isEmpty)
    | _ => none
  | .ty _ => none
  | .exv => none
  | .fn _ => none
def bT (f : ED) : BD := fun ρ S => (f ρ S).bind fun d S1 => match truD S1 d with
  | some b => .ok b S1
  | none => .bad
def bAnd (f g : BD) : BD := fun ρ S => (f ρ S).bind fun b S1 => match b with | true => g ρ S1 | false => .ok false S1
def bOr (f g : BD) : BD := fun ρ S => (f ρ S).bind fun b S1 => match b with | true => .ok true S1 | false => g ρ S1
def bNot (f : BD) : BD := fun ρ S => (f ρ S).bind fun b S1 => .ok (!b) S1
def eAnd (f g : ED) : ED := fun ρ S => (f ρ S).bind fun d S1 => match d with | .bl true => g ρ S1 | .bl false => .ok (.bl false) S1 | _ => .bad
def eNot (f : ED) : ED := fun ρ S => (f ρ S).bind fun d S1 => match d with | .bl b => .ok (.bl (!b)) S1 | _ => .bad
def eIf (c : BD) (f g : ED) : ED := fun ρ S => (c ρ S).bind fun b S1 => match b with | true => f ρ S1 | false => g ρ S1
section
variable [TC : TabC] [AM : AmbC] {K : PySem.W.Frag} {mg : Str → Option Value} {E : XK} {X : Cx} {B m : List Addr} {H : Hp} {S : Sto}
theorem Reps.isEmpty {ds : List D} {vs : List V} (h : Reps K B m H ds vs) : ds.isEmpty = vs.isEmpty := by cases h <;> rfl
theorem RepKV.isEmpty {ds : List (Key × D)} {vs : List (Key × V)} (h : RepKV K B m H ds vs) : ds.isEmpty = vs.isEmpty := by cases h <;> rfl
theorem tru_of {d : D} {v : V} {b : Bool} (r : Rep K B m H d v) (rs : RepSto K B m H S) (e : truD S d = some b) : TruV K v H b := by
  cases d with
  | non => rw [r.non_inv]; cases e; rfl
  | bl c => rw [r.bl_inv]; cases e; rfl
  | int i => rw [r.int_inv]; cases e; rfl
  | str y =>
    rw [r.str_inv]
    simp only [truD] at e
    split at e
    · rename_i h; cases e; exact ⟨by rw [← sz_eq]; exact h, rfl⟩
    · cases e
  | tup xs =>
    obtain ⟨a, vs, rfl, h1, r1⟩ := r.tup_inv
    cases e
    exact .inr (.inl ⟨vs, h1, by rw [r1.isEmpty]⟩)
  | lst xs =>
    obtain ⟨a, vs, rfl, h1, _, _, r1⟩ := r.lst_inv
    cases e
    exact .inl ⟨vs, SqL.of h1, by rw [r1.isEmpty]⟩
  | scr ns =>
    obtain ⟨a, rfl, h1⟩ := r.scr_inv
    cases e
    exact .inl ⟨_, h1.sq, by simp⟩
  | ref n =>
    obtain ⟨a, rfl, h1⟩ := r.ref_inv
    simp only [truD] at e
    split at e
    · rename_i xs e2
      cases e
      obtain ⟨vs, h2, r1⟩ := rs.cell n a _ h1 e2
      exact .inl ⟨vs, SqL.of h2, by rw [r1.isEmpty]⟩
    · rename_i xs e2
      cases e
      obtain ⟨vs, h2, r1⟩ := rs.cell n a _ h1 e2
      exact .inr (.inr ⟨vs, h2, by rw [r1.isEmpty]⟩)
    · cases e
  | exv => cases e
  | fn n => cases e
  | ty n => cases e
theorem AftB.same {b : Bool} {Q : Bool → Hp → Prop} (rs : RepSto K B m H S) (q : Aft K mg E B relB m H (.ok b S) Q) : Q b H := q m H b (Ex.refl rs) rs rfl
theorem t_val {e : Expr} {f : ED} (h : PE X e (tD X.K mg E f)) (he : ∀ whole, isTrue e X.env whole = (do let v ← whole; standAt e.pos; holding [v] (truthy v)) := by intro _; rfl) : PT X e (tDB X.K mg E (bT f)) := by
  refine PT.to (pt_truth h he) fun σ H Q h => ?_
  obtain ⟨B, m, ρ, S, re, rs, q⟩ := h
  obtain ⟨B', m', ρ', S', re', rs', q'⟩ := part re rs q
  refine ⟨B', m', ρ', S', re', rs', q'.imp ?_⟩
  rintro v H1 ⟨m1, d, S1, x1, re1, rs1, r1, q1⟩
  split at q1
  · rename_i b eb
    exact ⟨b, tru_of r1 rs1 eb, AftB.same rs1 q1⟩
  · exact q1.elim
def bB (f : ED) : BD := fun ρ S => (f ρ S).bind fun d S1 => match d with
  | .bl b => .ok b S1
  | _ => .bad
theorem tD.imp {f : ED} {σ : L2.St} {Q Q' : VK} (h : tD K mg E f σ H Q) (q : ∀ v H', Q v H' → Q' v H') : tD K mg E f σ H Q' := by
  obtain ⟨B, m, ρ, S, re, rs, h⟩ := h
  exact ⟨B, m, ρ, S, re, rs, h.imp q⟩
theorem test_to {f : ED} {σ : L2.St} {Q : Bool → Hp → Prop} (h : tDB K mg E (bB f) σ H Q) : tD K mg E f σ H fun x H' => ∃ k, x = .bl k ∧ Q k H' := by
  obtain ⟨B, m, ρ, S, re, rs, q⟩ := h
  refine (part re rs q).imp ?_
  rintro v H1 ⟨m1, d, S1, x1, re1, rs1, r1, q1⟩
  split at q1
  · exact ⟨_, r1.bl_inv, AftB.same rs1 q1⟩
  · exact q1.elim
/-- a comparison as a test -/
theorem t_cmp {a b : Expr} {o : CmpOp} {op : OD} {r : R2} {fa fb : ED} {pos : Pos} (ho : OpR X (compareOp o) r) (s : OpSp K mg E op r) (ha : PE X a (tD K mg E fa)) (hb : PE X b (tD K mg E fb)) (hm : behindInMarks o b = false) :
    PT X (.Compare a [o] [b] pos) (tDB K mg E (bB (eBin op fa fb))) := PT.to (pt_cmpR ho ha hb hm) fun _ _ _ h => op_to s (test_to h)
theorem chain_to {op op' : OD} {r r' : R2} {fa fb fc : ED} (s : OpSp K mg E op r) (s' : OpSp K mg E op' r') {σ : L2.St} {Q : VK} (h : tD K mg E (eChain op op' fa fb fc) σ H Q) : tChain r r' (tD K mg E fa) (tD K mg E fb) (tD K mg E fc) σ H Q := by
  obtain ⟨B, m, ρ, S, re, rs, q⟩ := h
  refine (part re rs q).imp ?_
  rintro v H1 ⟨m1, d, S1, x1, re1, rs1, r1, q1⟩
  refine (part re1 rs1 q1).imp ?_
  rintro w H2 ⟨m2, e, S2, x2, re2, rs2, r2, q2⟩
  refine s _ m2 H2 S2 d e v w _ rs2 (r1.mono x2) r2 (Aft.imp q2.bind ?_)
  rintro z H3 ⟨m3, k, S3, x3, rs3, r3, q3⟩
  have re3 := re2.mono x3
  split at q3
  · refine ⟨true, r3.bl_inv, ?_⟩
    rw [if_pos rfl]
    refine (part re3 rs3 q3).imp ?_
    rintro w2 H4 ⟨m4, d4, S4, x4, re4, rs4, r4, q4⟩
    exact s' _ m4 H4 S4 e d4 w w2 _ rs4 (r2.mono (x3.trans x4)) r4 q4
  · refine ⟨false, r3.bl_inv, ?_⟩
    rw [if_neg (by simp)]
    exact q3.same rs3 (.bl _)
  · exact q3.elim
theorem d_chain {a b c : Expr} {o o' : CmpOp} {op op' : OD} {r r' : R2} {fa fb fc : ED} {pos : Pos} (ho : OpR X (compareOp o) r) (ho' : OpR X (compareOp o') r') (s : OpSp K mg E op r) (s' : OpSp K mg E op' r')
    (ha : PE X a (tD K mg E fa)) (hb : PE X b (tD K mg E fb)) (hc : PE X c (tD K mg E fc)) (hm : lastMarks [o, o'] [b, c] = false) : PE X (.Compare a [o, o'] [b, c] pos) (tD K mg E (eChain op op' fa fb fc)) :=
  PE.to (pe_chain ho ho' ha hb hc hm) fun _ _ _ h => chain_to s s' h
theorem t_chain {a b c : Expr} {o o' : CmpOp} {op op' : OD} {r r' : R2} {fa fb fc : ED} {pos : Pos} (ho : OpR X (compareOp o) r) (ho' : OpR X (compareOp o') r') (s : OpSp K mg E op r) (s' : OpSp K mg E op' r')
    (ha : PE X a (tD K mg E fa)) (hb : PE X b (tD K mg E fb)) (hc : PE X c (tD K mg E fc)) (hm : lastMarks [o, o'] [b, c] = false) : PT X (.Compare a [o, o'] [b, c] pos) (tDB K mg E (bB (eChain op op' fa fb fc))) :=
  PT.to (pt_chain ho ho' ha hb hc hm) fun _ _ _ h => chain_to s s' (test_to h)
/-! ### and, or, not, if .. else -/
variable {a b c : Expr} {rest : List Expr} {fa fb fr : ED} {ba bb : BD} {pos : Pos}
theorem d_one {op} (h : PE X a (tD K mg E fa)) : PE X (.BoolOp op [a] pos) (tD K mg E fa) := pe_one h
theorem d_and (ha : PE X a (tD K mg E fa)) (hb : PE X (.BoolOp .And (b :: rest) pos) (tD K mg E fr)) : PE X (.BoolOp .And (a :: b :: rest) pos) (tD K mg E (eAnd fa fr)) := by
  refine PE.to (pe_and ha hb) fun σ H Q h => ?_
  obtain ⟨B, m, ρ, S, re, rs, q⟩ := h
  refine (part re rs q).imp ?_
  rintro v H1 ⟨m1, d, S1, x1, re1, rs1, r1, q1⟩
  split at q1
  · exact ⟨true, r1.bl_inv, by rw [if_pos rfl]; exact ⟨B, m1, ρ, S1, re1, rs1, q1⟩⟩
  · exact ⟨false, r1.bl_inv, by rw [if_neg (by simp)]; exact q1.same rs1 (.bl _)⟩
  · exact q1.elim
theorem d_not (ha : PE X a (tD K mg E fa)) : PE X (.UnaryOp .Not a pos) (tD K mg E (eNot fa)) := by
  refine PE.to (pe_not ha) fun σ H Q h => ?_
  obtain ⟨B, m, ρ, S, re, rs, q⟩ := h
  refine (part re rs q).imp ?_
  rintro v H1 ⟨m1, d, S1, x1, re1, rs1, r1, q1⟩
  split at q1
  · exact ⟨_, r1.bl_inv, q1.same rs1 (.bl _)⟩
  · exact q1.elim
theorem tDB.imp {f : BD} {σ : L2.St} {Q Q' : Bool → Hp → Prop} (h : tDB K mg E f σ H Q) (q : ∀ v H', Q v H' → Q' v H') : tDB K mg E f σ H Q' := by
  obtain ⟨B, m, ρ, S, re, rs, h⟩ := h
  exact ⟨B, m, ρ, S, re, rs, h.imp q⟩
theorem tDL.imp {f : LD} {σ : L2.St} {Q Q' : List V → Hp → Prop} (h : tDL K mg E f σ H Q) (q : ∀ v H', Q v H' → Q' v H') : tDL K mg E f σ H Q' := by
  obtain ⟨B, m, ρ, S, re, rs, h⟩ := h
  exact ⟨B, m, ρ, S, re, rs, h.imp q⟩
theorem w_and1 (ha : PT X a (tDB K mg E ba)) : PW X (.BoolOp .And [a] pos) (tDB K mg E ba) := pw_and1 ha
theorem w_or1 (ha : PT X a (tDB K mg E ba)) : PW X (.BoolOp .Or [a] pos) (tDB K mg E ba) := pw_or1 ha
theorem w_and (ha : PT X a (tDB K mg E ba)) (hb : PW X (.BoolOp .And (b :: rest) pos) (tDB K mg E bb)) : PW X (.BoolOp .And (a :: b :: rest) pos) (tDB K mg E (bAnd ba bb)) := by
  refine PW.to (pw_and ha hb) fun σ H Q h => ?_
  obtain ⟨B, m, ρ, S, re, rs, q⟩ := h
  refine (partB re rs q).imp ?_
  rintro v H1 ⟨m1, S1, x1, re1, rs1, q1⟩
  cases v with
  | true => rw [if_pos rfl]; exact ⟨B, m1, ρ, S1, re1, rs1, q1⟩
  | false => rw [if_neg (by simp)]; exact AftB.same rs1 q1
theorem w_or (ha : PT X a (tDB K mg E ba)) (hb : PW X (.BoolOp .Or (b :: rest) pos) (tDB K mg E bb)) : PW X (.BoolOp .Or (a :: b :: rest) pos) (tDB K mg E (bOr ba bb)) := by
  refine PW.to (pw_or ha hb) fun σ H Q h => ?_
  obtain ⟨B, m, ρ, S, re, rs, q⟩ := h
  refine (partB re rs q).imp ?_
  rintro v H1 ⟨m1, S1, x1, re1, rs1, q1⟩
  cases v with
  | true => rw [if_pos rfl]; exact AftB.same rs1 q1
  | false => rw [if_neg (by simp)]; exact ⟨B, m1, ρ, S1, re1, rs1, q1⟩
theorem t_not (ha : PT X a (tDB K mg E ba)) : PT X (.UnaryOp .Not a pos) (tDB K mg E (bNot ba)) := by
  refine PT.to (pt_not ha) fun σ H Q h => ?_
  obtain ⟨B, m, ρ, S, re, rs, q⟩ := h
  refine (partB re rs q).imp ?_
  rintro v H1 ⟨m1, S1, x1, re1, rs1, q1⟩
  exact AftB.same rs1 q1
theorem d_if (hc : PT X c (tDB K mg E ba)) (ha : PE X a (tD K mg E fa)) (hb : PE X b (tD K mg E fb)) : PE X (.IfExp c a b pos) (tD K mg E (eIf ba fa fb)) := by
  refine PE.to (pe_ifExp hc ha hb) fun σ H Q h => ?_
  obtain ⟨B, m, ρ, S, re, rs, q⟩ := h
  refine (partB re rs q).imp ?_
  rintro v H1 ⟨m1, S1, x1, re1, rs1, q1⟩
  cases v with
  | true => rw [if_pos rfl]; exact ⟨B, m1, ρ, S1, re1, rs1, q1⟩
  | false => rw [if_neg (by simp)]; exact ⟨B, m1, ρ, S1, re1, rs1, q1⟩
end
/-! ## Arguments, tuples, lists -/
def lNil : LD := fun _ S => .ok [] S
def lCons (f : ED) (g : LD) : LD := fun ρ S => (f ρ S).bind fun d S1 => (g ρ S1).bind fun ds S2 => .ok (d :: ds) S2
def eTup (f : LD) : ED := fun ρ S => (f ρ S).bind fun ds S1 => if ds.length ≤ sz then .ok (.tup ds) S1 else .bad
/-- a list as a value | as a new cell -/
def eFrz (f : LD) : ED := fun ρ S => (f ρ S).bind fun ds S1 => .ok (.lst ds) S1
def eThaw (f : LD) : ED := fun ρ S => (f ρ S).bind fun ds S1 => .ok (.ref S1.length) (S1 ++ [.lst ds])
def lSz (f : LD) : LD := fun ρ S => (f ρ S).bind fun ds S1 => if ds.length ≤ sz then .ok ds S1 else .bad
/-- an expression that makes a new list -/
def tDF [TC : TabC] [AM : AmbC] (K : PySem.W.Frag) (mg : Str → Option Value) (E : XK) (f : LD) : TE := fun σ H Q => ∃ B m ρ S, RepEn K B m H ρ σ ∧ RepSto K B m H S ∧
  match f ρ S with
  | .ok ds S' => ∀ m' H' p vs, Ex m H m' H' → H p = none → p ∉ m' → H' p = some (.lst vs) → RepSto K (p :: B) m' H' S' → Reps K (p :: B) m' H' ds vs → Q (.ref p) H'
  | .exc x S' => ∀ m' H' c od, Ex m H m' H' → RepSto K B m' H' S' → ExnAt K mg B m' H' x c od → E c od H'
  | .bad => False
section
variable [TC : TabC] [AM : AmbC] {K : PySem.W.Frag} {mg : Str → Option Value} {E : XK} {X : Cx} {B m m1 m2 : List Addr} {H H1 H2 : Hp} {S : Sto} {a e : Expr} {es : List Expr} {f : ED} {g : LD} {pos : Pos}
theorem l_nil : PA X [] (tDL K mg E lNil) := PA.to pa_nil fun σ H Q h => by
  obtain ⟨B, m, ρ, S, re, rs, q⟩ := h
  exact q m H [] (Ex.refl rs) rs .nil
theorem l_cons (ha : PE X e (tD K mg E f)) (hr : PA X es (tDL K mg E g)) (hs : starEach (e :: es) X.env = (false, eval e X.env) :: starEach es X.env := by rfl) : PA X (e :: es) (tDL K mg E (lCons f g)) := by
  refine PA.to (pa_cons ha hr hs) fun σ H Q h => ?_
  obtain ⟨B, m, ρ, S, re, rs, q⟩ := h
  refine (part re rs q).imp ?_
  rintro v H1 ⟨m1, d, S1, x1, re1, rs1, r1, q1⟩
  refine (partL re1 rs1 q1).imp ?_
  rintro vs H2 ⟨m2, ds, S2, x2, re2, rs2, r2, q2⟩
  exact q2 m2 H2 (v :: vs) (Ex.refl rs2) rs2 (.cons (r1.mono x2) r2)
theorem d_tup {x1 : Nat} (h : PA X es (tDL K mg E g)) : PE X (.Tuple es x1 pos) (tD K mg E (eTup g)) := by
  refine PE.to (pe_tup h) fun σ H Q h => ?_
  obtain ⟨B, m, ρ, S, re, rs, q⟩ := h
  refine (partL re rs q).imp ?_
  rintro vs H1 ⟨m1, ds, S1, x1, re1, rs1, r1, q1⟩
  split at q1
  · rename_i hl
    exact ⟨by rw [← sz_eq, ← r1.length]; exact hl, Aft.newTup rs1 r1 q1⟩
  · exact q1.elim
/-- reps that leave out one address more -/
theorem Rep.hide {p : Addr} (hp : H p = none) {d : D} {v : V} (h : Rep K B m H d v) : Rep K (p :: B) m H d v := by
  refine Rep.rec (motive_1 := fun d v _ => Rep K (p :: B) m H d v) (motive_2 := fun ds vs _ => Reps K (p :: B) m H ds vs) ?_ ?_ ?_ ?_ ?_ ?_ ?_ ?_ ?_ ?_ ?_ ?_ ?_ h
  · exact .non
  · exact .bl
  · exact .int
  · exact .str
  · exact .ty
  · intro a ds vs hs _ ih; exact .tup hs ih
  · intro a ds vs hs hm hb _ ih
    exact .lst hs hm (fun z => by rcases List.mem_cons.mp z with z | z; · rw [z, hp] at hs; cases hs
                                  · exact hb z) ih
  · intro n a e; exact .ref e
  · intro a ns e; exact .scr e
  · intro e fvs h1 h2 h3 h4 h5 _ ih
    exact .exv h1 h2 h3 (fun z => by rcases List.mem_cons.mp z with z | z; · rw [z, hp] at h2; cases h2
                                     · exact h4 z) h5 ih
  · intro n a e; exact .fn e
  · exact .nil
  · intro d v ds vs _ _ h1 h2; exact .cons h1 h2
theorem Rep.unhide {p : Addr} {d : D} {v : V} (h : Rep K (p :: B) m H d v) : Rep K B m H d v := by
  refine Rep.rec (motive_1 := fun d v _ => Rep K B m H d v) (motive_2 := fun ds vs _ => Reps K B m H ds vs) ?_ ?_ ?_ ?_ ?_ ?_ ?_ ?_ ?_ ?_ ?_ ?_ ?_ h
  · exact .non
  · exact .bl
  · exact .int
  · exact .str
  · exact .ty
  · intro a ds vs hs _ ih; exact .tup hs ih
  · intro a ds vs hs hm hb _ ih; exact .lst hs hm (fun z => hb (List.mem_cons_of_mem _ z)) ih
  · intro n a e; exact .ref e
  · intro a ns e; exact .scr e
  · intro e fvs h1 h2 h3 h4 h5 _ ih; exact .exv h1 h2 h3 (fun z => h4 (List.mem_cons_of_mem _ z)) h5 ih
  · intro n a e; exact .fn e
  · exact .nil
  · intro d v ds vs _ _ h1 h2; exact .cons h1 h2
/-- .. as a cell's -/
theorem Rep.cell {p : Addr} {d : D} {v : V} (h : Rep K (p :: B) m H d v) : Rep K B (m ++ [p]) H d v := by
  refine Rep.rec (motive_1 := fun d v _ => Rep K B (m ++ [p]) H d v) (motive_2 := fun ds vs _ => Reps K B (m ++ [p]) H ds vs) ?_ ?_ ?_ ?_ ?_ ?_ ?_ ?_ ?_ ?_ ?_ ?_ ?_ h
  · exact .non
  · exact .bl
  · exact .int
  · exact .str
  · exact .ty
  · intro a ds vs hs _ ih; exact .tup hs ih
  · intro a ds vs hs hm hb _ ih
    exact .lst hs (fun z => by
      rcases List.mem_append.mp z with z | z
      · exact hm z
      · exact hb (by rw [show a = p by simpa using z]; exact List.mem_cons_self)) (fun z => hb (List.mem_cons_of_mem _ z)) ih
  · intro n a e
    refine .ref ?_
    obtain ⟨hi, _⟩ := List.getElem?_eq_some_iff.mp e
    rw [List.getElem?_append_left hi]; exact e
  · intro a ns e; exact .scr e
  · intro e fvs h1 h2 h3 h4 h5 _ ih
    exact .exv h1 h2 (fun z => by
      rcases List.mem_append.mp z with z | z
      · exact h3 z
      · exact h4 (by rw [show e.dd = p by simpa using z]; exact List.mem_cons_self)) (fun z => h4 (List.mem_cons_of_mem _ z)) h5 ih
  · intro n a e; exact .fn e
  · exact .nil
  · intro d v ds vs _ _ h1 h2; exact .cons h1 h2
theorem Reps.map {B' m' : List Addr} (f : ∀ d v, Rep K B m H d v → Rep K B' m' H1 d v) {ds : List D} {vs : List V} (h : Reps K B m H ds vs) : Reps K B' m' H1 ds vs := by
  induction ds generalizing vs with
  | nil => cases h; exact .nil
  | cons d ds ih => cases h with | cons r t => exact .cons (f _ _ r) (ih t)
theorem CellAt.map {B' m' : List Addr} (f : ∀ d v, Rep K B m H d v → Rep K B' m' H d v) (g : ∀ c o, H c = some o → c ∉ m → c ∉ B → c ∉ m' ∧ c ∉ B') {a : Addr} {c : Cell} (h : CellAt K B m H a c) : CellAt K B' m' H a c := by
  cases c with
  | lst ds => obtain ⟨vs, q, r⟩ := h; exact ⟨vs, q, r.map f⟩
  | dic kvs => obtain ⟨vs, q, r⟩ := h; exact ⟨vs, q, Paired.mapP r fun _ _ z => ⟨z.1, f _ _ z.2⟩⟩
  | tbl y =>
    obtain ⟨ps, q, r, k⟩ := h
    refine ⟨ps, q, r, fun pos cv hc => ?_⟩
    obtain ⟨c, ec, h1, h2, h3⟩ := k pos cv hc
    exact ⟨c, ec, h1, g c _ h1 h2 h3⟩
theorem RepEn.map {B' m' : List Addr} (f : ∀ d v, Rep K B m H d v → Rep K B' m' H d v) {ρ : En} {σ : L2.St} (h : RepEn K B m H ρ σ) : RepEn K B' m' H ρ σ := Paired.mapP h fun d v z => by
  cases d with
  | none => trivial
  | some d => cases v with
    | none => exact z
    | some v => exact f _ _ z
theorem RepSto.hide {p : Addr} {o : HO} (h : RepSto K B m H S) (hp : H p = none) : RepSto K (p :: B) m (upd H p o) S := by
  have h' := h.fresh (o := o) hp
  refine ⟨h'.len, h'.nd, fun b hb => ?_, fun n a c e1 e2 => ?_, h.tab⟩
  · rcases List.mem_cons.mp hb with z | z
    · rw [z]; exact ⟨h.notin hp, by rw [upd_same]; simp⟩
    · exact h'.hid b z
  · refine ((h.cell n a c e1 e2).map (fun d v r => Rep.hide hp r) fun c o e h2 h3 => ⟨h2, fun z => (List.mem_cons.mp z).elim (fun z => ne_of_none e hp z) h3⟩).mono (Ex.fresh h hp) (upd_ne fun z => h.live a (List.mem_of_getElem? e1) (by rw [z]; exact hp))
theorem RepSto.unhide {p : Addr} (h : RepSto K (p :: B) m H S) : RepSto K B m H S :=
  ⟨h.len, h.nd, fun b hb => h.hid b (List.mem_cons_of_mem _ hb), fun n a c e1 e2 => (h.cell n a c e1 e2).map (fun _ _ r => r.unhide) fun c o e h2 h3 => ⟨h2, fun z => h3 (List.mem_cons_of_mem _ z)⟩, h.tab⟩
theorem RepSto.cell' {p : Addr} {ds : List D} {vs : List V} (h : RepSto K (p :: B) m H S) (hb : p ∉ B) (hp : H p = some (.lst vs)) (r : Reps K (p :: B) m H ds vs) : RepSto K B (m ++ [p]) H (S ++ [.lst ds]) := by
  have hpm := (h.hid p List.mem_cons_self).1
  refine ⟨by simp [h.len], ?_, fun b hb' => ⟨fun z => ?_, (h.hid b (List.mem_cons_of_mem _ hb')).2⟩, fun n a c e1 e2 => ?_, h.tab.app _ _⟩
  · rw [List.nodup_append]
    refine ⟨h.nd, by simp, fun a ha b hb2 => ?_⟩
    have e : b = p := by simpa using hb2
    rw [e]; exact fun z => hpm (z ▸ ha)
  · rcases List.mem_append.mp z with z | z
    · exact (h.hid b (List.mem_cons_of_mem _ hb')).1 z
    · exact hb ((show b = p by simpa using z) ▸ hb')
  · by_cases hn : n < m.length
    · rw [List.getElem?_append_left hn] at e1
      rw [List.getElem?_append_left (by rw [← h.len]; exact hn)] at e2
      exact (h.cell n a c e1 e2).map (fun _ _ r => r.cell) fun c o e h2 h3 => ⟨fun z => by
        rcases List.mem_append.mp z with z | z
        · exact h2 z
        · exact h3 (by rw [show c = p by simpa using z]; exact List.mem_cons_self), fun z => h3 (List.mem_cons_of_mem _ z)⟩
    · have hn' : m.length ≤ n := by omega
      rw [List.getElem?_append_right hn'] at e1
      rw [List.getElem?_append_right (by rw [← h.len]; exact hn'), ← h.len] at e2
      cases q : n - m.length with
      | zero =>
        rw [q] at e1 e2
        simp at e1 e2
        rw [← e1, ← e2]
        exact ⟨vs, hp, r.map fun _ _ z => z.cell⟩
      | succ k => rw [q] at e1; simp at e1
theorem tDF.of {σ : L2.St} {Q : VK} {f : LD} (h : ∃ B m ρ S, RepEn K B m H ρ σ ∧ RepSto K B m H S ∧
  match f ρ S with
  | .ok ds S' => ∀ m' H' p vs, Ex m H m' H' → H p = none → p ∉ m' → H' p = some (.lst vs) → RepSto K (p :: B) m' H' S' → Reps K (p :: B) m' H' ds vs → Q (.ref p) H'
  | .exc x S' => ∀ m' H' c od, Ex m H m' H' → RepSto K B m' H' S' → ExnAt K mg B m' H' x c od → E c od H'
  | .bad => False) : tDF K mg E f σ H Q := h
theorem d_frz (h : PE X e (tDF K mg E g)) : PE X e (tD K mg E (eFrz g)) := by
  refine PE.to h fun σ H Q h => ?_
  obtain ⟨B, m, ρ, S, re, rs, q⟩ := h
  refine ⟨B, m, ρ, S, re, rs, ?_⟩
  unfold eFrz at q
  cases eg : g ρ S with
  | ok ds S' =>
    rw [eg] at q
    intro m' H' p vs x hp hpm hpv rs' r'
    exact q m' H' (.ref p) x rs'.unhide (.lst hpv hpm (fun z => (rs.hid p z).2 hp) (r'.map fun _ _ r => r.unhide))
  | exc x S' => rw [eg] at q; exact q
  | bad => rw [eg] at q; exact q
theorem d_thaw (h : PE X e (tDF K mg E g)) : PE X e (tD K mg E (eThaw g)) := by
  refine PE.to h fun σ H Q h => ?_
  obtain ⟨B, m, ρ, S, re, rs, q⟩ := h
  refine ⟨B, m, ρ, S, re, rs, ?_⟩
  unfold eThaw at q
  cases eg : g ρ S with
  | ok ds S' =>
    rw [eg] at q
    intro m' H' p vs x hp hpm hpv rs' r'
    have hbp : p ∉ B := fun z => (rs.hid p z).2 hp
    have rs2 := rs'.cell' hbp hpv r'
    refine q (m' ++ [p]) H' (.ref p) ?_ rs2 (.ref ?_)
    · obtain ⟨e, rfl, he⟩ := x.app
      refine ⟨⟨e ++ [p], by rw [List.append_assoc], fun a ha => ?_⟩, x.keep, rs2.live, x.tups, x.frzs, x.there⟩
      rcases List.mem_append.mp ha with ha | ha
      · exact he a ha
      · rw [show a = p by simpa using ha]; exact hp
    · rw [← rs'.len, List.getElem?_append_right (Nat.le_refl _), Nat.sub_self]; rfl
  | exc x S' => rw [eg] at q; exact q
  | bad => rw [eg] at q; exact q
/-- [a, b] -/
theorem f_lst (h : PA X es (tDL K mg E g)) : PE X (.List es pos) (tDF K mg E (lSz g)) := by
  refine PE.to (pe_lst h) fun σ H Q h => ?_
  obtain ⟨B, m, ρ, S, re, rs, q⟩ := h
  refine ⟨B, m, ρ, S, re, rs, ?_⟩
  unfold lSz at q
  cases eg : g ρ S with
  | ok ds S' =>
    rw [eg] at q
    simp only [R.bind] at q
    intro m' H' vs x rs' r'
    by_cases hl : ds.length ≤ sz
    · rw [if_pos hl] at q
      refine ⟨by rw [← sz_eq, ← r'.length]; exact hl, fun p hp => ?_⟩
      have hp0 : H p = none := by
        cases e0 : H p with
        | none => rfl
        | some o =>
          by_cases hm : p ∈ m
          · exact absurd hp (x.live p (x.sub p hm))
          · exact absurd hp (x.there p o e0)
      have x2 := Ex.fresh (o := HO.lst vs) rs' hp
      exact q m' _ p vs (x.trans x2) hp0 (rs'.notin hp) upd_same (rs'.hide hp) ((r'.map fun _ _ r => Rep.hide hp r).mono x2)
    · rw [if_neg hl] at q; exact q.elim
  | exc x S' => rw [eg] at q; exact q
  | bad => rw [eg] at q; exact q
end
end Zed

namespace Zed
open PySem PySem.Spec PyProof.Rows L2 RZ

/-! ## Targets -/
abbrev GT := D → En → Option En
def gN (i : Nat) : GT := fun d ρ => some (ρ.set i (some d))
def gAll : List GT → List D → En → Option En
  | [], [], ρ => some ρ
  | g :: gs, d :: ds, ρ => match g d ρ with
    | some ρ' => gAll gs ds ρ'
    | none => none
  | _, _, _ => none
def gT (gs : List GT) : GT := fun d ρ => match d with
  | .tup ds => gAll gs ds ρ
  | _ => none
/-- what a target's reading must be by g, which stores at the slots vs -/
structure GSp [TC : TabC] [AM : AmbC] (K : PySem.W.Frag) (t : TG) (g : GT) (vs : List Nat) : Prop where
  to : ∀ (B m : List Addr) (H : Hp) (ρ ρ' : En) (σ : L2.St) (d : D) (v : V) (Q : L2.St → Hp → Prop), RepEn K B m H ρ σ → Rep K B m H d v → g d ρ = some ρ' →
    (∀ σ', RepEn K B m H ρ' σ' → wipe σ' vs = wipe σ vs → Q σ' H) → t v σ H Q
structure GSps [TC : TabC] [AM : AmbC] (K : PySem.W.Frag) (n : Nat) (t : TGs) (gs : List GT) (vs : List Nat) : Prop where
  len : n = gs.length
  to : ∀ (B m : List Addr) (H : Hp) (ρ ρ' : En) (σ : L2.St) (ds : List D) (ws : List V) (Q : L2.St → Hp → Prop), RepEn K B m H ρ σ → Reps K B m H ds ws → gAll gs ds ρ = some ρ' →
    (∀ σ', RepEn K B m H ρ' σ' → wipe σ' vs = wipe σ vs → Q σ' H) → t ws σ H Q
section
variable [TC : TabC] [AM : AmbC] {K : PySem.W.Frag} {mg : Str → Option Value} {E : XK} {X : Cx} {B m m1 m2 : List Addr} {H H1 H2 : Hp} {S : Sto}
theorem wipe_at : ∀ {vs : List Nat} {σ : L2.St} {j : Nat}, (wipe σ vs)[j]? = if j ∈ vs ∧ j < σ.length then some none else σ[j]?
  | [], σ, j => by simp [wipe]
  | v :: vs, σ, j => by
    unfold wipe
    by_cases e : j = v
    · subst e
      by_cases hl : j < σ.length
      · rw [List.getElem?_set_self (by rw [wipe_length]; exact hl), if_pos ⟨List.mem_cons_self, hl⟩]
      · rw [if_neg (fun z => hl z.2), List.getElem?_eq_none (by rw [List.length_set, wipe_length]; omega), List.getElem?_eq_none (by omega)]
    · rw [List.getElem?_set_ne (fun z => e z.symm), wipe_at]
      by_cases hj : j ∈ vs
      · simp [hj, e]
      · simp [hj, e]
theorem wipe_set {σ : L2.St} {vs : List Nat} {i : Nat} {x : Option V} (hi : i ∈ vs) : wipe (σ.set i x) vs = wipe σ vs := by
  apply List.ext_getElem?
  intro j
  rw [wipe_at, wipe_at, List.length_set]
  by_cases hj : j ∈ vs ∧ j < σ.length
  · rw [if_pos hj, if_pos hj]
  · rw [if_neg hj, if_neg hj]
    by_cases e : j = i
    · subst e
      have : ¬ j < σ.length := fun z => hj ⟨hi, z⟩
      rw [List.getElem?_eq_none (by rw [List.length_set]; omega), List.getElem?_eq_none (by omega)]
    · rw [List.getElem?_set_ne (fun z => e z.symm)]
theorem g_name {i : Nat} {vs : List Nat} (hi : i ∈ vs) : GSp K (gName i) (gN i) vs := ⟨fun B m H ρ ρ' σ d v Q re r e q => by
  cases e
  exact q _ (re.set (d := some d) (v := some v) r) (wipe_set hi)⟩
theorem gs_nil {vs : List Nat} : GSps K 0 gNil [] vs := ⟨rfl, fun B m H ρ ρ' σ ds ws Q re r e q => by
  cases r with
  | nil => cases e; exact ⟨rfl, q σ re rfl⟩
  | cons _ _ => cases e⟩
theorem gs_cons {n : Nat} {t : TG} {u : TGs} {g : GT} {gs : List GT} {vs : List Nat} (h1 : GSp K t g vs) (h2 : GSps K n u gs vs) : GSps K (n + 1) (gCons t u) (g :: gs) vs := ⟨by rw [h2.len]; rfl, fun B m H ρ ρ' σ ds ws Q re r e q => by
  cases r with
  | nil => cases e
  | cons r0 rr =>
    simp only [gAll] at e
    split at e
    · rename_i ρ1 e1
      exact ⟨_, _, rfl, h1.to B m H ρ ρ1 σ _ _ _ re r0 e1 fun σ1 re1 w1 => h2.to B m H ρ1 ρ' σ1 _ _ _ re1 rr e fun σ2 re2 w2 => q σ2 re2 (w2.trans w1)⟩
    · cases e⟩
theorem g_tup {n : Nat} {u : TGs} {gs : List GT} {vs : List Nat} (h2 : GSps K n u gs vs) : GSp K (gTup K n u) (gT gs) vs := ⟨fun B m H ρ ρ' σ d v Q re r e q => by
  unfold gT at e
  split at e
  · rename_i ds
    obtain ⟨a, ws, rfl, ha, rr⟩ := r.tup_inv
    refine ⟨a, ws, rfl, ha, ?_, h2.to B m H ρ ρ' σ ds ws Q re rr e q⟩
    have hl : ∀ {gs : List GT} {ds : List D} {ρ ρ' : En}, gAll gs ds ρ = some ρ' → ds.length = gs.length := by
      intro gs
      induction gs with
      | nil => intro ds ρ ρ' e; cases ds with
        | nil => rfl
        | cons _ _ => cases e
      | cons g gs ih => intro ds ρ ρ' e; cases ds with
        | nil => cases e
        | cons d ds =>
          simp only [gAll] at e
          split at e
          · simp [ih e]
          · cases e
    rw [← rr.length, h2.len, hl e]
  · cases e⟩
end

/-! ## Statements -/
def sNext : SD := fun ρ S => .ok (.nx ρ) S
def sSeq (f g : SD) : SD := fun ρ S => match f ρ S with
  | .ok (.nx ρ') S1 => g ρ' S1
  | r => r
def sAsg (f : ED) (g : GT) : SD := fun ρ S => (f ρ S).bind fun d S1 => match g d ρ with
  | some ρ' => .ok (.nx ρ') S1
  | none => .bad
def sRet (f : ED) : SD := fun ρ S => (f ρ S).bind fun d S1 => .ok (.rt d) S1
def sRetN : SD := fun _ S => .ok (.rt .non) S
def sExpr (f : ED) : SD := fun ρ S => (f ρ S).bind fun _ S1 => .ok (.nx ρ) S1
def sIf (c : BD) (f g : SD) : SD := fun ρ S => (c ρ S).bind fun b S1 => match b with | true => f ρ S1 | false => g ρ S1
def whileN (c : BD) (f : SD) : Nat → SD
  | 0 => fun _ _ => .bad
  | n + 1 => fun ρ S => (c ρ S).bind fun b S1 => match b with
    | false => .ok (.nx ρ) S1
    | true => match f ρ S1 with
      | .ok (.nx ρ') S2 => whileN c f n ρ' S2
      | .ok (.ct ρ') S2 => whileN c f n ρ' S2
      | .ok (.bk ρ') S2 => .ok (.nx ρ') S2
      | r => r
def sWhile (n : Nat) (c : BD) (f : SD) : SD := whileN c f n
def forN (g : GT) (f : SD) : List D → SD
  | [] => fun ρ S => .ok (.nx ρ) S
  | d :: ds => fun ρ S => match g d ρ with
    | none => .bad
    | some ρ1 => match f ρ1 S with
      | .ok (.nx ρ') S2 => forN g f ds ρ' S2
      | .ok (.ct ρ') S2 => forN g f ds ρ' S2
      | .ok (.bk ρ') S2 => .ok (.nx ρ') S2
      | r => r
/-- what is walked: its items, one after another -/
def sFor (i : LD) (g : GT) (f : SD) : SD := fun ρ S => (i ρ S).bind fun ds S1 => forN g f ds ρ S1

section
variable [TC : TabC] [AM : AmbC] {K : PySem.W.Frag} {mg : Str → Option Value} {E : XK} {X : Cx} {B m m1 m2 : List Addr} {H H1 H2 : Hp} {S : Sto} {F : Ends}
/-- what J gives, whatever becomes of the heap -/
def YD [TC : TabC] [AM : AmbC] (K : PySem.W.Frag) (B m : List Addr) (H0 : Hp) (ds : List D) (i : Nat) (H : Hp) (x : V) (H' : Hp) : Prop :=
  (H' = H ∧ ∃ d, ds[i]? = some d ∧ Rep K B m H0 d x) ∨ ∃ (T : Addr) (p q : V) (dp dq : D), x = .ref T ∧ H T = none ∧ H' = upd H T (.tup [p, q]) ∧ ds[i]? = some (.tup [dp, dq]) ∧ Rep K B m H0 dp p ∧ Rep K B m H0 dq q
def JAt [TC : TabC] [AM : AmbC] (K : PySem.W.Frag) (B m : List Addr) (H : Hp) (ds : List D) (J : It) : Prop :=
  ∀ m' H', ExW B m H m' H' → (∀ i, i < ds.length → J.go i H') ∧ J.stop ds.length H' ∧ ∀ i x H'', i < ds.length → J.yld i H' x H'' → YD K B m H ds i H' x H''
def tDI [TC : TabC] [AM : AmbC] (K : PySem.W.Frag) (mg : Str → Option Value) (E : XK) (f : LD) : TI := fun σ H R => ∃ B m ρ S, RepEn K B m H ρ σ ∧ RepSto K B m H S ∧ Aft K mg E B (JAt K B) m H (f ρ S) R
theorem JAt.monoW {ds : List D} {J : It} (x : ExW B m H m1 H1) (h : JAt K B m H ds J) : JAt K B m1 H1 ds J := fun m' H' y => by
  obtain ⟨h1, h2, h3⟩ := h m' H' (x.trans y)
  refine ⟨h1, h2, fun i v H'' hi hy => ?_⟩
  rcases h3 i v H'' hi hy with ⟨e, d, e1, r⟩ | ⟨T, p, q, dp, dq, e1, e2, e3, e4, r1, r2⟩
  · exact .inl ⟨e, d, e1, r.monoW x⟩
  · exact .inr ⟨T, p, q, dp, dq, e1, e2, e3, e4, r1.monoW x, r2.monoW x⟩
theorem JAt.mono {ds : List D} {J : It} (x : Ex m H m1 H1) (h : JAt K B m H ds J) : JAt K B m1 H1 ds J := h.monoW x.weak
/-- an item comes -/
theorem JAt.item {ds : List D} {J : It} (h : JAt K B m H ds J) (rs : RepSto K B m H S) {i : Nat} {x : V} {H' : Hp} (hi : i < ds.length) (hy : J.yld i H x H') : Ex m H m H' ∧ RepSto K B m H' S ∧ ∃ d, ds[i]? = some d ∧ Rep K B m H' d x := by
  obtain ⟨_, _, h3⟩ := h m H (Ex.refl rs).weak
  rcases h3 i x H' hi hy with ⟨rfl, d, e1, r⟩ | ⟨T, p, q, dp, dq, rfl, e2, rfl, e4, r1, r2⟩
  · exact ⟨Ex.refl rs, rs, d, e1, r⟩
  · have x := Ex.fresh (o := HO.tup [p, q]) rs e2
    exact ⟨x, rs.fresh e2, _, e4, .tup (SqT.of upd_same) (.cons (r1.mono x) (.cons (r2.mono x) .nil))⟩
theorem FlAt.same {fl : Fl} (rs : RepSto K B m H S) (h : AftS K mg E B m H (.ok fl S) F) : FlAt K B m H F fl := h m H (Ex.refl rs) rs
/-- what is behind a statement, by its outcome -/
theorem AftS.of {r : R Fl} {F F' : Ends} (h : AftS K mg E B m H r F) (q : ∀ m' H' fl S', Ex m H m' H' → RepSto K B m' H' S' → r = .ok fl S' → FlAt K B m' H' F fl → FlAt K B m' H' F' fl) : AftS K mg E B m H r F' := by
  cases r with
  | ok fl S' => intro m' H' x rs; exact q m' H' fl S' x rs rfl (h m' H' x rs)
  | exc x S' => exact h
  | bad => exact h
theorem ss_nil : PSs X [] (tDS K mg E sNext) := PSs.to pss_nil fun F σ H h => by
  obtain ⟨B, m, ρ, S, re, rs, q⟩ := h
  exact FlAt.same rs q σ re
theorem ss_one {st : Stmt} {f : SD} (h : PS X st (tDS K mg E f)) : PSs X [st] (tDS K mg E f) := pss_one h
theorem AftS.seq {f g : SD} {ρ : En} (h : AftS K mg E B m H (sSeq f g ρ S) F) :
    AftS K mg E B m H (f ρ S) { F with nx := fun σ' H' => ∃ m' ρ' S', Ex m H m' H' ∧ RepEn K B m' H' ρ' σ' ∧ RepSto K B m' H' S' ∧ AftS K mg E B m' H' (g ρ' S') F } := by
  unfold sSeq at h
  cases e : f ρ S with
  | ok fl S1 =>
    rw [e] at h
    intro m' H' x rs'
    cases fl with
    | nx ρ' => exact fun σ' re' => ⟨m', ρ', S1, x, re', rs', AftS.shift x h⟩
    | rt d => exact h m' H' x rs'
    | bk ρ' => exact h m' H' x rs'
    | ct ρ' => exact h m' H' x rs'
  | exc x S1 => rw [e] at h; exact h
  | bad => rw [e] at h; exact h
theorem ss_cons {st : Stmt} {rest : List Stmt} {f g : SD} (h1 : PS X st (tDS K mg E f)) (h2 : PSs X rest (tDS K mg E g)) : PSs X (st :: rest) (tDS K mg E (sSeq f g)) := by
  refine PSs.to (pss_cons h1 h2) fun F σ H h => ?_
  obtain ⟨B, m, ρ, S, re, rs, q⟩ := h
  refine ⟨B, m, ρ, S, re, rs, (AftS.seq q).of fun m' H' fl S' x rs' e z => ?_⟩
  cases fl with
  | nx ρ' =>
    intro σ' re'
    obtain ⟨m2, ρ2, S2, x2, re2, rs2, q2⟩ := z σ' re'
    exact ⟨B, m2, ρ2, S2, re2, rs2, q2⟩
  | _ => exact z
theorem s_asg {tg e : Expr} {f : ED} {t : TG} {g : GT} {vs : List Nat} {pos : Pos} (he : PE X e (tD K mg E f)) (hg : PG X tg t) (hs : GSp K t g vs) (h1 : swapsWithSole [tg] e pos.line X.env = pure false := by rfl) (h2 : swappedStores [tg] e X.env = pure none := by rfl)
    (h3 : (assignEach [tg] X.env).map (·.2) = [assign tg X.env] := by rfl) : PS X (.Assign [tg] e pos) (tDS K mg E (sAsg f g)) := by
  refine PS.to (ps_asg he hg h1 h2 h3) fun F σ H h => ?_
  obtain ⟨B, m, ρ, S, re, rs, q⟩ := h
  refine (partS re rs q).imp ?_
  rintro v H1 ⟨m1, d, S1, x1, re1, rs1, r1, q1⟩
  split at q1
  · rename_i ρ' e'
    exact hs.to B m1 H1 ρ ρ' σ d v _ re1 r1 e' fun σ' re' _ => FlAt.same rs1 q1 σ' re'
  · exact q1.elim
theorem s_set {i : Nat} {x : Str} {e : Expr} {f : ED} {pos pos' : Pos} (hN : X.N.Nodup) (hi : X.N[i]? = some x) (hx : L2.Loc X.env.scope x) (he : PE X e (tD K mg E f)) (hs : swapsWith e (some (.Name x pos')) pos.line X.env = pure false := by rfl)
    (hf : X.fn x = true ∨ X.env.scope.names.lookup x = some .local := by first | exact .inl rfl | exact .inr rfl | assumption) : PS X (.Assign [.Name x pos'] e pos) (tDS K mg E (sAsg f (gN i))) := by
  refine PS.to (ps_set hN hi hx he hs hf) fun F σ H h => ?_
  obtain ⟨B, m, ρ, S, re, rs, q⟩ := h
  refine (partS re rs q).imp ?_
  rintro v H1 ⟨m1, d, S1, x1, re1, rs1, r1, q1⟩
  exact FlAt.same rs1 q1 _ (re1.set (d := some d) (v := some v) r1)
theorem s_ret {e : Expr} {f : ED} {pos : Pos} (he : PE X e (tD K mg E f)) : PS X (.Return (some e) pos) (tDS K mg E (sRet f)) := by
  refine PS.to (ps_ret he) fun F σ H h => ?_
  obtain ⟨B, m, ρ, S, re, rs, q⟩ := h
  refine (partS re rs q).imp ?_
  rintro v H1 ⟨m1, d, S1, x1, re1, rs1, r1, q1⟩
  exact FlAt.same rs1 q1 v r1
theorem s_retN {pos : Pos} : PS X (.Return none pos) (tDS K mg E sRetN) := PS.to ps_retN fun F σ H h => by
  obtain ⟨B, m, ρ, S, re, rs, q⟩ := h
  exact FlAt.same rs q _ .non
theorem s_expr {e : Expr} {f : ED} {pos : Pos} (he : PE X e (tD K mg E f)) (hs : swapsWith e none pos.line X.env = pure false := by rfl) : PS X (.Expr e pos) (tDS K mg E (sExpr f)) := by
  refine PS.to (ps_expr he hs) fun F σ H h => ?_
  obtain ⟨B, m, ρ, S, re, rs, q⟩ := h
  refine (partS re rs q).imp ?_
  rintro v H1 ⟨m1, d, S1, x1, re1, rs1, r1, q1⟩
  exact FlAt.same rs1 q1 σ re1
theorem s_if {c : Expr} {a b : List Stmt} {cd : BD} {f g : SD} {pos : Pos} (hc : PT X c (tDB K mg E cd)) (ha : PSs X a (tDS K mg E f)) (hb : PSs X b (tDS K mg E g)) : PS X (.If c a b pos) (tDS K mg E (sIf cd f g)) := by
  refine PS.to (ps_if hc ha hb) fun F σ H h => ?_
  obtain ⟨B, m, ρ, S, re, rs, q⟩ := h
  refine (partSB re rs q).imp ?_
  rintro v H1 ⟨m1, S1, x1, re1, rs1, q1⟩
  cases v with
  | true => rw [if_pos rfl]; exact ⟨B, m1, ρ, S1, re1, rs1, q1⟩
  | false => rw [if_neg (by simp)]; exact ⟨B, m1, ρ, S1, re1, rs1, q1⟩
theorem s_while {n : Nat} {c : Expr} {body : List Stmt} {cd : BD} {f : SD} {pos : Pos} (hp : PassesOwn (model X.prog X.w) X.A X.env X.xe) (hc : PT X c (tDB K mg E cd)) (hb : PSs X body (tDS K mg E f)) : PS X (.While c body [] pos) (tDS K mg E (sWhile n cd f)) := by
  refine PS.to (ps_while hp hc hb) fun F σ H h => ?_
  obtain ⟨B, m, ρ, S, re, rs, q⟩ := h
  refine ⟨fun k σ H => ∃ m ρ S, RepEn K B m H ρ σ ∧ RepSto K B m H S ∧ AftS K mg E B m H (whileN cd f k ρ S) F, ⟨n, m, ρ, S, re, rs, q⟩, ?_⟩
  rintro k σ H ⟨m, ρ, S, re, rs, q⟩
  cases k with
  | zero => exact q.elim
  | succ k =>
    refine (partSB re rs q).imp ?_
    rintro v H1 ⟨m1, S1, x1, re1, rs1, q1⟩
    cases v with
    | false => rw [if_neg (by simp)]; exact FlAt.same rs1 q1 σ re1
    | true =>
      rw [if_pos rfl]
      refine ⟨fun σ' H' => ∃ m ρ S, RepEn K B m H' ρ σ' ∧ RepSto K B m H' S ∧ AftS K mg E B m H' (whileN cd f k ρ S) F, fun σ' H' z => ⟨k, Nat.lt_succ_self _, z⟩, B, m1, ρ, S1, re1, rs1, ?_⟩
      dsimp only at q1
      cases e : f ρ S1 with
      | ok fl S2 =>
        rw [e] at q1
        intro m2 H2 x2 rs2
        cases fl with
        | nx ρ' => exact fun σ' re' => ⟨m2, ρ', S2, re', rs2, AftS.shift x2 q1⟩
        | ct ρ' => exact fun σ' re' => ⟨m2, ρ', S2, re', rs2, AftS.shift x2 q1⟩
        | bk ρ' => exact fun σ' re' => q1 m2 H2 x2 rs2 σ' re'
        | rt d => exact fun v r => q1 m2 H2 x2 rs2 v r
      | exc x S2 => rw [e] at q1; exact q1
      | bad => rw [e] at q1; exact q1
theorem s_for {tg iter : Expr} {body : List Stmt} {i : LD} {t : TG} {g : GT} {vs : List Nat} {f : SD} {pos : Pos} (hp : PassesOwn (model X.prog X.w) X.A X.env X.xe) (hc : X.calm = true) (hi : PI X tg iter (tDI K mg E i)) (hg : PG X tg t) (hs : GSp K t g vs) (hb : PSs X body (tDS K mg E f))
    (hset : ∀ x, foldedSetIterable iter X.env x = pure x := by intro _; rfl) : PS X (.For tg iter body [] pos) (tDS K mg E (sFor i g f)) := by
  refine PS.to (ps_for hp hc hi hg hb hset) fun F σ H h => ?_
  obtain ⟨B, m, ρ, S, re, rs, q⟩ := h
  refine ⟨B, m, ρ, S, re, rs, (AftS.bind (rel := JAt K B) q).imp ?_⟩
  rintro J H1 ⟨m1, ds, S1, x1, rs1, hJ, q1⟩
  have re1 := re.mono x1
  refine ⟨fun k n σ H => n = ds.length - k ∧ k ≤ ds.length ∧ ∃ m ρ S, JAt K B m H ds J ∧ RepEn K B m H ρ σ ∧ RepSto K B m H S ∧ AftS K mg E B m H (forN g f (ds.drop k) ρ S) F, ⟨_, rfl, Nat.zero_le _, m1, ρ, S1, hJ, re1, rs1, q1⟩, ?_⟩
  rintro k n σ H ⟨rfl, hk, m, ρ, S, hJ, re, rs, q⟩
  obtain ⟨j1, j2, j3⟩ := hJ m H (Ex.refl rs).weak
  by_cases hlt : k < ds.length
  · refine .inr ⟨j1 k hlt, fun σ' H' => ∃ m ρ S, JAt K B m H' ds J ∧ RepEn K B m H' ρ σ' ∧ RepSto K B m H' S ∧ AftS K mg E B m H' (forN g f (ds.drop (k + 1)) ρ S) F, fun σ' H' z => ⟨ds.length - (k + 1), by omega, rfl, hlt, z⟩, fun x H' hy => ?_⟩
    obtain ⟨ex, rs', d, ed, rd⟩ := hJ.item rs hlt hy
    have ed' : ds.drop k = d :: ds.drop (k + 1) := by
      rw [List.drop_eq_getElem_cons hlt]
      rw [List.getElem?_eq_getElem hlt] at ed
      rw [Option.some.inj ed]
    rw [ed'] at q
    unfold forN at q
    split at q
    · exact q.elim
    · rename_i ρ1 eg
      refine hs.to B m H' ρ ρ1 σ d x _ (re.mono ex) rd eg fun σ2 re2 _ => ⟨B, m, ρ1, S, re2, rs', ?_⟩
      cases e : f ρ1 S with
      | ok fl S2 =>
        rw [e] at q
        intro m2 H2 x2 rs2
        have x3 := ex.trans x2
        cases fl with
        | nx ρ' => exact fun σ' re' => ⟨m2, ρ', S2, hJ.mono x3, re', rs2, AftS.shift x3 q⟩
        | ct ρ' => exact fun σ' re' => ⟨m2, ρ', S2, hJ.mono x3, re', rs2, AftS.shift x3 q⟩
        | bk ρ' => exact fun σ' re' => q m2 H2 x3 rs2 σ' re'
        | rt d => exact fun v r => q m2 H2 x3 rs2 v r
      | exc x S2 =>
        rw [e] at q
        exact fun m' H' c od y => q m' H' c od (ex.trans y)
      | bad => rw [e] at q; exact q.elim
  · have ek : k = ds.length := by omega
    subst ek
    rw [List.drop_length] at q
    exact .inl ⟨j2, FlAt.same rs q σ re⟩
end
/-! ## What is walked -/
def iLst (f : ED) : LD := fun ρ S => (f ρ S).bind fun d S1 => match d with
  | .lst ds => .ok ds S1
  | .scr ns => .ok (ns.map D.int) S1
  | _ => .bad
def iTupD (f : ED) : LD := fun ρ S => (f ρ S).bind fun d S1 => match d with
  | .tup ds => .ok ds S1
  | _ => .bad
def rangeD (lo : Int) : Nat → List D
  | 0 => []
  | n + 1 => .int lo :: rangeD (lo + 1) n
def iRng1 (f : LD) : LD := fun ρ S => (f ρ S).bind fun ds S1 => match ds with
  | [.int j] => if -(2 ^ 62) ≤ j ∧ j < 2 ^ 62 then .ok (rangeD 0 j.toNat) S1 else .bad
  | _ => .bad
def iRng2 (f : LD) : LD := fun ρ S => (f ρ S).bind fun ds S1 => match ds with
  | [.int i, .int j] => if (-(2 ^ 62) ≤ i ∧ i < 2 ^ 62) ∧ (-(2 ^ 62) ≤ j ∧ j < 2 ^ 62) then .ok (rangeD i (j - i).toNat) S1 else .bad
  | _ => .bad
def zipD : List D → List D → List D
  | x :: xs, y :: ys => .tup [x, y] :: zipD xs ys
  | _, _ => []
def iZip (f : LD) : LD := fun ρ S => (f ρ S).bind fun ds S1 => match ds with
  | [.tup xs, .tup ys] => .ok (zipD xs ys) S1
  | [x, y] => match itemsF x, itemsF y with
    | some xs, some ys => .ok (zipD xs ys) S1
    | _, _ => .bad
  | _ => .bad
where itemsF : D → Option (List D)
  | .lst xs => some xs
  | .scr ns => some (ns.map D.int)
  | _ => none
def enumD : Nat → List D → List D
  | _, [] => []
  | k, x :: xs => .tup [.int (k : Nat), x] :: enumD (k + 1) xs
def iEnum (f : LD) : LD := fun ρ S => (f ρ S).bind fun ds S1 => match ds with
  | [.tup xs] => .ok (enumD 0 xs) S1
  | [.lst xs] => .ok (enumD 0 xs) S1
  | _ => .bad
section
variable [TC : TabC] [AM : AmbC] {K : PySem.W.Frag} {mg : Str → Option Value} {E : XK} {X : Cx} {B m m1 m2 : List Addr} {H H1 H2 : Hp} {S : Sto} {tg e : Expr} {f : ED}
theorem JAt.list {a : Addr} {ds : List D} {vs : List V} (h : ∀ m' H', ExW B m H m' H' → SqL K H' a vs) (r : Reps K B m H ds vs) : JAt K B m H ds (Itl K a) := fun m' H' x => by
  have q := h m' H' x
  have hl := r.length
  refine ⟨fun i hi => ?_, ⟨vs, q, by omega⟩, fun i v H'' hi hy => ?_⟩
  · exact ⟨vs, vs[i]'(by omega), q, by simp [show i < vs.length by omega]⟩
  · obtain ⟨rfl, hy⟩ := hy
    obtain ⟨d, ed, rd⟩ := r.get' (hy vs q)
    exact .inl ⟨rfl, d, ed, rd⟩
theorem JAt.tuple {a : Addr} {ds : List D} {vs : List V} (h : SqT K H a vs) (r : Reps K B m H ds vs) : JAt K B m H ds (Itt K a) := fun m' H' x => by
  have q := x.sqt h
  have hl := r.length
  refine ⟨fun i hi => ?_, ⟨vs, q, by omega⟩, fun i v H'' hi hy => ?_⟩
  · exact ⟨vs, vs[i]'(by omega), q, by simp [show i < vs.length by omega]⟩
  · obtain ⟨rfl, hy⟩ := hy
    obtain ⟨d, ed, rd⟩ := r.get' (hy vs q)
    exact .inl ⟨rfl, d, ed, rd⟩
theorem SqS.mono {a : Addr} {vs : List V} (x : ExW B m H m1 H1) (h : SqS K H a vs) : SqS K H1 a vs := by
  rcases h with ⟨o, h⟩ | h
  · exact .inl ⟨o, x.frzs _ _ _ h⟩
  · exact .inr h
theorem AftI.same {ds : List D} {J : It} {Q : It → Hp → Prop} (rs : RepSto K B m H S) (r : JAt K B m H ds J) (q : Aft K mg E B (JAt K B) m H (.ok ds S) Q) : Q J H := q m H J (Ex.refl rs) rs r
theorem i_list (h : PE X e (tD X.K mg E f)) : PI X tg e (tDI X.K mg E (iLst f)) := by
  refine ⟨fun pins s σ H R I hh => (pi_list h).run pins s σ H R I ?_⟩
  obtain ⟨B, m, ρ, S, re, rs, q⟩ := hh
  refine (part re rs q).imp ?_
  rintro v H1 ⟨m1, d, S1, x1, re1, rs1, r1, q1⟩
  split at q1
  · obtain ⟨a, vs, rfl, ha, hm, hb, rr⟩ := r1.lst_inv
    exact ⟨a, rfl, ⟨vs, SqL.of ha⟩, AftI.same rs1 (.list (fun m' H' x => SqL.of (x.keep _ _ ha (fun _ z => nomatch z) hm hb)) rr) q1⟩
  · obtain ⟨a, rfl, ha⟩ := r1.scr_inv
    exact ⟨a, rfl, ⟨_, ha.sq⟩, AftI.same rs1 (.list (fun m' H' x => (ha.mono x).sq) (Reps.ints _)) q1⟩
  · exact q1.elim
theorem i_tup (h : PE X e (tD X.K mg E f)) : PI X tg e (tDI X.K mg E (iTupD f)) := by
  refine ⟨fun pins s σ H R I hh => (pi_tup h).run pins s σ H R I ?_⟩
  obtain ⟨B, m, ρ, S, re, rs, q⟩ := hh
  refine (part re rs q).imp ?_
  rintro v H1 ⟨m1, d, S1, x1, re1, rs1, r1, q1⟩
  split at q1
  · obtain ⟨a, vs, rfl, ha, rr⟩ := r1.tup_inv
    exact ⟨a, rfl, ⟨vs, ha⟩, AftI.same rs1 (.tuple ha rr) q1⟩
  · exact q1.elim
theorem rangeD_length : ∀ {n : Nat} {lo : Int}, (rangeD lo n).length = n
  | 0, _ => rfl
  | n + 1, lo => by simp [rangeD, rangeD_length]
theorem rangeD_get : ∀ {n : Nat} {lo : Int} {i : Nat}, i < n → (rangeD lo n)[i]? = some (.int (lo + i))
  | 0, _, _, h => absurd h (Nat.not_lt_zero _)
  | n + 1, lo, 0, _ => by simp [rangeD]
  | n + 1, lo, i + 1, h => by
    simp only [rangeD, List.getElem?_cons_succ]
    rw [rangeD_get (by omega)]
    congr 2
    push_cast
    omega
theorem JAt.range {lo : Int} {n : Nat} : JAt K B m H (rangeD lo n) (Itr lo n) := fun m' H' x => by
  refine ⟨fun i hi => by rw [rangeD_length] at hi; exact hi, by rw [rangeD_length]; exact Nat.le_refl _, fun i v H'' hi hy => ?_⟩
  rw [rangeD_length] at hi
  obtain ⟨rfl, rfl⟩ := hy
  exact .inl ⟨rfl, _, rangeD_get hi, .int _⟩
theorem i_rng1 {a : Expr} {g : LD} {p pos : Pos} (hg : L2.Gl X "range") (hm : X.mg "range" = none) (ha : PA X [a] (tDL X.K mg E g)) (hs : starEach [a] X.env = [(false, eval a X.env)] := by rfl) : PI X tg (.Call (.Name "range" p) [a] [] pos) (tDI X.K mg E (iRng1 g)) := by
  refine ⟨fun pins s σ H R I hh => (pi_range1 hg hm ha hs).run pins s σ H R I ?_⟩
  obtain ⟨B, m, ρ, S, re, rs, q⟩ := hh
  refine (partL re rs q).imp ?_
  rintro vs H1 ⟨m1, ds, S1, x1, re1, rs1, r1, q1⟩
  split at q1
  · rename_i j
    cases r1 with
    | cons r2 r3 =>
      cases r3
      rw [r2.int_inv]
      split at q1
      · rename_i hj
        exact ⟨j, rfl, hj.1, hj.2, AftI.same rs1 .range q1⟩
      · exact q1.elim
  · exact q1.elim
theorem i_rng2 {a b : Expr} {g : LD} {p pos : Pos} (hg : L2.Gl X "range") (hm : X.mg "range" = none) (ha : PA X [a, b] (tDL X.K mg E g)) (hs : starEach [a, b] X.env = [(false, eval a X.env), (false, eval b X.env)] := by rfl)
    (hs2 : starEach [b] X.env = [(false, eval b X.env)] := by rfl) : PI X tg (.Call (.Name "range" p) [a, b] [] pos) (tDI X.K mg E (iRng2 g)) := by
  refine ⟨fun pins s σ H R I hh => (pi_range2 hg hm ha hs hs2).run pins s σ H R I ?_⟩
  obtain ⟨B, m, ρ, S, re, rs, q⟩ := hh
  refine (partL re rs q).imp ?_
  rintro vs H1 ⟨m1, ds, S1, x1, re1, rs1, r1, q1⟩
  split at q1
  · rename_i i j
    cases r1 with
    | cons r2 r3 =>
      cases r3 with
      | cons r4 r5 =>
        cases r5
        rw [r2.int_inv, r4.int_inv]
        split at q1
        · rename_i hj
          exact ⟨i, j, rfl, ⟨hj.1.1, hj.1.2, hj.2.1, hj.2.2⟩, AftI.same rs1 .range q1⟩
        · exact q1.elim
  · exact q1.elim
theorem zipD_length : ∀ {xs ys : List D}, (zipD xs ys).length = min xs.length ys.length
  | [], ys => by simp [zipD]
  | x :: xs, [] => by simp [zipD]
  | x :: xs, y :: ys => by simp only [zipD, List.length_cons, zipD_length]; omega
theorem zipD_get : ∀ {xs ys : List D} {i : Nat} {x y : D}, xs[i]? = some x → ys[i]? = some y → (zipD xs ys)[i]? = some (.tup [x, y])
  | [], _, _, _, _, h, _ => by simp at h
  | _ :: _, [], _, _, _, _, h => by simp at h
  | a :: xs, b :: ys, 0, x, y, h1, h2 => by simp at h1 h2; subst h1; subst h2; simp [zipD]
  | a :: xs, b :: ys, i + 1, x, y, h1, h2 => by
    simp only [zipD, List.getElem?_cons_succ]
    exact zipD_get (by simpa using h1) (by simpa using h2)
theorem enumD_length : ∀ {xs : List D} {k : Nat}, (enumD k xs).length = xs.length
  | [], _ => rfl
  | x :: xs, k => by simp [enumD, enumD_length]
theorem enumD_get : ∀ {xs : List D} {k i : Nat} {x : D}, xs[i]? = some x → (enumD k xs)[i]? = some (.tup [.int ((k + i : Nat) : Int), x])
  | [], _, _, _, h => by simp at h
  | a :: xs, k, 0, x, h => by simp at h; subst h; simp [enumD]
  | a :: xs, k, i + 1, x, h => by
    simp only [enumD, List.getElem?_cons_succ]
    rw [enumD_get (by simpa using h)]
    congr 3
    simp only [D.int.injEq, List.cons.injEq]
    first | omega | (refine ⟨?_, trivial⟩; omega) | skip
theorem JAt.zip {a b : Addr} {ds es : List D} {vs ws : List V} (h : ∀ m' H', ExW B m H m' H' → SqL K H' a vs ∧ SqL K H' b ws) (r : Reps K B m H ds vs) (r' : Reps K B m H es ws) : JAt K B m H (zipD ds es) (Itz K a b) := fun m' H' x => by
  obtain ⟨q1, q2⟩ := h m' H' x
  have hl := r.length
  have hl' := r'.length
  rw [zipD_length]
  refine ⟨fun i hi => ?_, ⟨vs, ws, q1, q2, by omega⟩, fun i v H'' hi hy => ?_⟩
  · exact ⟨vs, ws, vs[i]'(by omega), ws[i]'(by omega), q1, q2, by simp [show i < vs.length by omega], by simp [show i < ws.length by omega]⟩
  · obtain ⟨T, y, z, e1, e2, e3, e4, e5⟩ := hy
    obtain ⟨d, ed, rd⟩ := r.get' (e4 vs q1)
    obtain ⟨d', ed', rd'⟩ := r'.get' (e5 ws q2)
    exact .inr ⟨T, y, z, d, d', e1, e2, e3, zipD_get ed ed', rd, rd'⟩
theorem JAt.zipT {a b : Addr} {ds es : List D} {vs ws : List V} (h1 : SqT K H a vs) (h2 : SqT K H b ws) (r : Reps K B m H ds vs) (r' : Reps K B m H es ws) : JAt K B m H (zipD ds es) (ItzT K a b) := fun m' H' x => by
  have q1 := x.sqt h1
  have q2 := x.sqt h2
  have hl := r.length
  have hl' := r'.length
  rw [zipD_length]
  refine ⟨fun i hi => ?_, ⟨vs, ws, q1, q2, by omega⟩, fun i v H'' hi hy => ?_⟩
  · exact ⟨vs, ws, vs[i]'(by omega), ws[i]'(by omega), q1, q2, by simp [show i < vs.length by omega], by simp [show i < ws.length by omega]⟩
  · obtain ⟨T, y, z, e1, e2, e3, e4, e5⟩ := hy
    obtain ⟨d, ed, rd⟩ := r.get' (e4 vs q1)
    obtain ⟨d', ed', rd'⟩ := r'.get' (e5 ws q2)
    exact .inr ⟨T, y, z, d, d', e1, e2, e3, zipD_get ed ed', rd, rd'⟩
theorem Rep.itemsF {d : D} {v : V} {ds : List D} (h : Rep K B m H d v) (e : iZip.itemsF d = some ds) : ∃ a vs, v = .ref a ∧ (∀ m' H', ExW B m H m' H' → SqL K H' a vs) ∧ Reps K B m H ds vs := by
  cases d with
  | lst xs =>
    obtain ⟨a, vs, rfl, h1, hm, hb, r⟩ := h.lst_inv
    cases e
    exact ⟨a, vs, rfl, fun m' H' x => SqL.of (x.keep _ _ h1 (fun _ z => nomatch z) hm hb), r⟩
  | scr ns =>
    obtain ⟨a, rfl, h1⟩ := h.scr_inv
    cases e
    exact ⟨a, _, rfl, fun m' H' x => (h1.mono x).sq, Reps.ints ns⟩
  | _ => cases e
theorem i_zip {a b : Expr} {g : LD} {p pos tpos : Pos} {elts : List Expr} {kk : Nat} (hg : L2.Gl X "zip") (hm : X.mg "zip" = none) (ha : PA X [a, b] (tDL X.K mg E g)) (hs : starEach [a, b] X.env = (false, eval a X.env) :: starEach [b] X.env := by rfl)
    (hpl : (backTo pos (starEach [b] X.env)).any (·.1) = false := by rfl) : PI X (.Tuple elts kk tpos) (.Call (.Name "zip" p) [a, b] [] pos) (tDI X.K mg E (iZip g)) := by
  refine ⟨fun pins s σ H R I hh => (pi_zipA hg hm ha hs hpl).run pins s σ H R I ?_⟩
  obtain ⟨B, m, ρ, S, re, rs, q⟩ := hh
  refine (partL re rs q).imp ?_
  rintro vs H1 ⟨m1, ds, S1, x1, re1, rs1, r1, q1⟩
  split at q1
  · cases r1 with
    | cons r2 r3 =>
      cases r3 with
      | cons r4 r5 =>
        cases r5
        obtain ⟨a1, v1, rfl, ha1, rr1⟩ := r2.tup_inv
        obtain ⟨a2, v2, rfl, ha2, rr2⟩ := r4.tup_inv
        exact ⟨a1, a2, v1, v2, rfl, .inr ⟨ha1, ha2, AftI.same rs1 (.zipT ha1 ha2 rr1 rr2) q1⟩⟩
  · cases r1 with
    | cons r2 r3 =>
      cases r3 with
      | cons r4 r5 =>
        cases r5
        split at q1
        · rename_i e1 e2
          obtain ⟨a1, v1, rfl, ha1, rr1⟩ := r2.itemsF e1
          obtain ⟨a2, v2, rfl, ha2, rr2⟩ := r4.itemsF e2
          have y := (Ex.refl rs1).weak (B := B)
          exact ⟨a1, a2, v1, v2, rfl, .inl ⟨ha1 _ _ y, ha2 _ _ y, AftI.same rs1 (.zip (fun m' H' x => ⟨ha1 m' H' x, ha2 m' H' x⟩) rr1 rr2) q1⟩⟩
        · exact q1.elim
  · exact q1.elim
end
end Zed

namespace Zed
open PySem PySem.Spec PyProof.Rows L2 RZ

/-! ## enumerate of a tuple -/
theorem meets_enumT (t : Addr) (its : Array Value) :
    Meets (Builtin.«enumerate.__new__» ⟨[.type "enumerate", .ref t], []⟩) (fun _ R s => s.heap.IsTuple t its ∧
      R (.ok (.ret (.ref (s.heap.push { cls := .type "tuple_iterator", data := .fields #[.ref t, .int 0 0] }).objs.size)))
        { s with heap := (s.heap.push { cls := .type "tuple_iterator", data := .fields #[.ref t, .int 0 0] }).push { cls := .type "enumerate", data := .fields #[.none, .bool false, .ref s.heap.objs.size, rawInt 0, .none, .none] } }) := by
  refine .of_wp fun prog w A R s h => ?_
  obtain ⟨hp, g, d, tk, os⟩ := s
  obtain ⟨ht, h⟩ := h
  have hs := sub_enumerate
  wp_walk
  refine wpAny_stack_any fun st => wpAny_pure ?_
  split
  · rename_i c _ _ _ _ _
    cases (c == Value.type "enumerate") <;> (wp_walk using wpAny_pyIter_tuple ht; exact ⟨_, rfl, h⟩)
  · wp_walk using wpAny_pyIter_tuple ht
    exact ⟨_, rfl, h⟩
section
variable {prog : Program} {w : World} {A : Around} {E : Value → Shared → Prop} {s : Shared}
theorem call_enumT {t : Addr} {its : Array Value} {Q : Value → Shared → Prop} (ht : s.heap.IsTuple t its)
    (h : ∀ h', IsEnum h' (s.heap.objs.size + 1) s.heap.objs.size 0 .none → h'.IsTupleIter s.heap.objs.size t 0 → (∀ b o, s.heap.get? b = some o → h'.get? b = some o) → Q (.ref (s.heap.objs.size + 1)) { s with heap := h' }) :
    wpAny (model prog w) A (call (.type "enumerate") [.ref t]) Q E s := by
  refine callType_new F.called_enumerate (by decide) (F.typeCall_enumerate_1 _) (F.newCall_enumerate_1 _) (fun ob => F.args_object_init_2 ob _) F.entry_enumerate_new (meets_enumT t its) ⟨ht, ?_⟩
  have hz : (s.heap.push { cls := .type "tuple_iterator", data := .fields #[.ref t, .int 0 0] }).objs.size = s.heap.objs.size + 1 := Heap.size_push ..
  rw [hz]
  have he : IsEnum ((s.heap.push { cls := .type "tuple_iterator", data := .fields #[.ref t, .int 0 0] }).push { cls := .type "enumerate", data := .fields #[.none, .bool false, .ref s.heap.objs.size, rawInt 0, .none, .none] }) (s.heap.objs.size + 1) s.heap.objs.size 0 .none := by
    have q := Heap.get?_push_size (s.heap.push { cls := .type "tuple_iterator", data := .fields #[.ref t, .int 0 0] }) (o := { cls := .type "enumerate", data := .fields #[.none, .bool false, .ref s.heap.objs.size, rawInt 0, .none, .none] }) rfl
    rw [hz] at q
    exact q
  exact ⟨⟨_, he, rfl⟩, h _ he ⟨_, Heap.get?_push_of_some _ (Heap.get?_push_size _ rfl), rfl, rfl⟩ fun b o y => Heap.get?_push_of_some _ (Heap.get?_push_of_some _ y)⟩
end
def IteT (K : PySem.W.Frag) (a : Addr) : It :=
  ⟨fun i H => ∃ (xs : List V) (x : V), SqT K H a xs ∧ xs[i]? = some x,
   fun i H v H' => ∃ T x, v = .ref T ∧ H T = none ∧ H' = upd H T (.tup [.int (i : Nat), x]) ∧ ∀ xs, SqT K H a xs → xs[i]? = some x,
   fun i H => ∃ xs : List V, SqT K H a xs ∧ xs.length = i⟩
theorem turn_enumT {P : Program} {w : World} {K : PySem.W.Frag} {elts : List Expr} {kk : Nat} {tp : Pos} (a e it : Addr) :
    Turn P w K (.Tuple elts kk tp) (IteT K a) [e, it] e (fun i h => (∃ old, IsEnum h e it ((i : Nat) : Int) old) ∧ h.IsTupleIter it a i ∧ e ≠ it ∧ a ≠ it ∧ e ≠ a) where
  mem := by simp
  obj := fun i h st b hb => by
    obtain ⟨⟨old, he⟩, ⟨o, ho, _, hd⟩, _⟩ := st
    rcases (show b = e ∨ b = it by simpa using hb) with z | z
    · rw [z]
      exact ⟨_, he, fun v q => nomatch q⟩
    · rw [z]
      exact ⟨o, ho, fun v q => by rw [hd] at q; cases q⟩
  keep := fun i h h' st k => by
    obtain ⟨⟨old, he⟩, hi, hn⟩ := st
    exact ⟨⟨old, k e (by simp) _ he⟩, hi.at fun o q => k it (by simp) o q, hn⟩
  item := by
    intro X hP hw hK hc i pins s σ H E I hf st hg
    subst hP hw hK
    obtain ⟨⟨old, he⟩, hit, hne, hai, hea⟩ := st
    obtain ⟨xs, x, hq, hx⟩ := hg
    obtain ⟨its, rv, p, _⟩ := I.tuple hq
    obtain ⟨u, hu, ru⟩ := rv.get hx
    have hel := Heap.lt_size he
    have hil : it < s.heap.objs.size := by
      obtain ⟨_, q, _⟩ := hit
      exact Heap.lt_size q
    have hlt : i < its.toArray.size := by
      have := (List.getElem?_eq_some_iff.mp hu).1
      simpa using this
    refine wpAny_pyNext_enum_itemD (Draws.tuple (A := X.A.in1) (I.ok.hd hc) it a hai its.toArray) he (i := i) ⟨hit, p⟩ hlt hne (by simp [hne, hea]) fun y h' tk hy ho hst hT hsz hk => ?_
    have ey : y = u := by
      have q : its[i]? = some y := by simpa using hy
      rw [hu] at q
      exact (Option.some.inj q).symm
    subst ey
    refine ⟨_, rfl, wpAny_letOwnedTupleGo_enum (s := { s with heap := h', toks := tk + 1 }) ho fun h2 he2 sb => ?_⟩
    have hT2 : h2.get? s.heap.objs.size = some { cls := .type "tuple", data := .seq #[.int i tk, y] } := (sb.2 _ (Nat.ne_of_gt hel)).trans hT
    have new : ObjOk X.prog X.w (upd H s.heap.objs.size (.tup [.int (i : Nat), x])) h2 s.heap.objs.size (.tup [.int (i : Nat), x]) :=
      ⟨by show 2 ≤ sizeLine; decide, [.int i tk, y], .cons ⟨_, rfl⟩ (.cons ru .nil), ⟨_, hT2, rfl, _, rfl⟩⟩
    have J := I.turnedNew (t' := tk + 1) (h' := h2) (ch := [e, it]) (fun b ob hb q => (sb.2 b (fun z => hb (by simp [z]))).trans (hk b ob (fun z => hb (by simp [z])) (fun z => hb (by simp [z])) q)) hf (Nat.le_refl _) new
    refine ⟨.ref s.heap.objs.size, _, J, rfl, ⟨_, x, rfl, I.hok.fresh (Nat.le_refl _), rfl, fun ys hy => by rw [I.tuple_inj hy hq]; exact hx⟩, ⟨⟨y, ?_⟩, hst.1.at fun o q => (sb.2 it (Ne.symm hne)).trans q, hne, hai, hea⟩, fun b hb => ?_⟩
    · rw [show ((i + 1 : Nat) : Int) = (i : Int) + 1 by omega]
      exact he2
    · have hb' : b < s.heap.objs.size := by
        rcases (show b = e ∨ b = it by simpa using hb) with z | z
        · rw [z]; exact hel
        · rw [z]; exact hil
      rw [upd_ne (Nat.ne_of_lt hb')]
      exact (hf b hb).1
  done := by
    intro X hP hw hK hc i pins s σ H E I hf st hg
    subst hP hw hK
    obtain ⟨⟨old, he⟩, hit, hne, hai, hea⟩ := st
    obtain ⟨xs, hq, hx⟩ := hg
    obtain ⟨its, rv, p, _⟩ := I.tuple hq
    have hl : its.toArray.size = i := by
      have q := rv.length
      simp
      omega
    subst hl
    obtain ⟨f0, f1, f2, f3, f4, f5⟩ := hf it (by simp)
    exact wpAny_pyNext_enum_endD (Draws.tuple (A := X.A.in1) (I.ok.hd hc) it a hai its.toArray) he ⟨hit, p⟩ fun h' eb => ⟨rfl, I.turned (t' := s.toks) (fun b o hb q => eb b o hb q) f0 f1 f3 f4 f5⟩
  self := fun A i s Q E st h => let ⟨⟨_, he⟩, _⟩ := st; wpAny_pyIter_enum he h

def iEnumT (K : PySem.W.Frag) (ta : TA) : TI := fun σ H R => ta σ H fun vs H1 => ∃ a xs, vs = [.ref a] ∧ ((SqL K H1 a xs ∧ R (Ite K a) H1) ∨ (SqT K H1 a xs ∧ R (IteT K a) H1))
theorem pi_enumT {X : Cx} {e : Expr} {ta : TA} {p pos tp : Pos} {elts : List Expr} {kk : Nat} (hg : L2.Gl X "enumerate") (hm : X.mg "enumerate" = none) (ha : PA X [e] ta) (hs : starEach [e] X.env = [(false, eval e X.env)] := by rfl) :
    PI X (.Tuple elts kk tp) (.Call (.Name "enumerate" p) [e] [] pos) (iEnumT X.K ta) := by
  refine ⟨fun pins s σ H R I h => ?_⟩
  refine Call_ (ld_blt I hg hm boot_enumerate (callWith_type1 (thn (ha.run pos pins s σ H _ I h) fun us s1 z => ?_) hs rfl))
  obtain ⟨vs, H1, I1, r1, a, xs, ex, q⟩ := z
  subst ex
  cases r1 with
  | cons r rr =>
    cases rr
    cases r
    have fp : ∀ b ∈ [s1.heap.objs.size + 1, s1.heap.objs.size], FpOk X pins H1 b := fun b hb => by
      have hle : s1.heap.objs.size ≤ b := by
        rcases (show b = s1.heap.objs.size + 1 ∨ b = s1.heap.objs.size by simpa using hb) with z | z
        · rw [z]; exact Nat.le_add_right _ _
        · rw [z]; exact Nat.le_refl _
      exact I1.fpOk hle (I1.hok.fresh hle)
    rcases q with ⟨hq, q⟩ | ⟨hq, q⟩
    · obtain ⟨its, rv, p', _⟩ := I1.list hq
      refine call_enumerate_list p'.isList fun h' he hit _ hk => wpAny_pyIter_enum he ?_
      exact ⟨_, _, _, _, H1, rfl, I1.kept (t' := s1.toks) hk, turn_enum a (s1.heap.objs.size + 1) s1.heap.objs.size, ⟨⟨.none, he⟩, hit, Nat.succ_ne_self _⟩, fp, q⟩
    · obtain ⟨its, rv, p', _⟩ := I1.tuple hq
      have hlt : a < s1.heap.objs.size := by
        obtain ⟨o, e, _⟩ := id p'
        exact Heap.lt_size e
      refine call_enumT p' fun h' he hit hk => wpAny_pyIter_enum he ?_
      exact ⟨_, _, _, _, H1, rfl, I1.kept (t' := s1.toks) hk, turn_enumT a (s1.heap.objs.size + 1) s1.heap.objs.size, ⟨⟨.none, he⟩, hit, Nat.succ_ne_self _, Nat.ne_of_lt hlt, Nat.ne_of_gt (Nat.lt_succ_of_lt hlt)⟩, fp, q⟩
section
variable [TC : TabC] [AM : AmbC] {K : PySem.W.Frag} {mg : Str → Option Value} {E : XK} {X : Cx} {B m m1 m2 : List Addr} {H H1 H2 : Hp} {S : Sto} {tg e : Expr} {f : ED}
theorem JAt.enum {a : Addr} {ds : List D} {vs : List V} (h : ∀ m' H', ExW B m H m' H' → SqL K H' a vs) (r : Reps K B m H ds vs) : JAt K B m H (enumD 0 ds) (Ite K a) := fun m' H' x => by
  have q := h m' H' x
  have hl := r.length
  rw [enumD_length]
  refine ⟨fun i hi => ⟨vs, vs[i]'(by omega), q, by simp [show i < vs.length by omega]⟩, ⟨vs, q, by omega⟩, fun i v H'' hi hy => ?_⟩
  obtain ⟨T, y, e1, e2, e3, e4⟩ := hy
  obtain ⟨d, ed, rd⟩ := r.get' (e4 vs q)
  refine .inr ⟨T, _, y, _, d, e1, e2, e3, enumD_get ed, ?_, rd⟩
  rw [Nat.zero_add]
  exact .int _
theorem JAt.enumT {a : Addr} {ds : List D} {vs : List V} (h : SqT K H a vs) (r : Reps K B m H ds vs) : JAt K B m H (enumD 0 ds) (IteT K a) := fun m' H' x => by
  have q := x.sqt h
  have hl := r.length
  rw [enumD_length]
  refine ⟨fun i hi => ⟨vs, vs[i]'(by omega), q, by simp [show i < vs.length by omega]⟩, ⟨vs, q, by omega⟩, fun i v H'' hi hy => ?_⟩
  obtain ⟨T, y, e1, e2, e3, e4⟩ := hy
  obtain ⟨d, ed, rd⟩ := r.get' (e4 vs q)
  refine .inr ⟨T, _, y, _, d, e1, e2, e3, enumD_get ed, ?_, rd⟩
  rw [Nat.zero_add]
  exact .int _
theorem i_enum {a : Expr} {g : LD} {p pos tp : Pos} {elts : List Expr} {kk : Nat} (hg : L2.Gl X "enumerate") (hm : X.mg "enumerate" = none) (ha : PA X [a] (tDL X.K mg E g)) (hs : starEach [a] X.env = [(false, eval a X.env)] := by rfl) :
    PI X (.Tuple elts kk tp) (.Call (.Name "enumerate" p) [a] [] pos) (tDI X.K mg E (iEnum g)) := by
  refine ⟨fun pins s σ H R I hh => (pi_enumT hg hm ha hs).run pins s σ H R I ?_⟩
  obtain ⟨B, m, ρ, S, re, rs, q⟩ := hh
  refine (partL re rs q).imp ?_
  rintro vs H1 ⟨m1, ds, S1, x1, re1, rs1, r1, q1⟩
  split at q1
  · cases r1 with
    | cons r2 r3 =>
      cases r3
      obtain ⟨a1, v1, rfl, ha1, rr1⟩ := r2.tup_inv
      exact ⟨a1, v1, rfl, .inr ⟨ha1, AftI.same rs1 (.enumT ha1 rr1) q1⟩⟩
  · cases r1 with
    | cons r2 r3 =>
      cases r3
      obtain ⟨a1, v1, rfl, ha1, hm1, hb1, rr1⟩ := r2.lst_inv
      exact ⟨a1, v1, rfl, .inl ⟨SqL.of ha1, AftI.same rs1 (.enum (fun m' H' x => SqL.of (x.keep _ _ ha1 (fun _ z => nomatch z) hm1 hb1)) rr1) q1⟩⟩
  · exact q1.elim
end

/-! ## Comprehensions -/
def wipeE (ρ : En) : List Nat → En
  | [] => ρ
  | v :: vs => (wipeE ρ vs).set v none
def compN (vs : List Nat) (g : GT) (t : BD) (f : ED) (ρ : En) : Nat → List D → Sto → R (List D)
  | _, [], S => .ok [] S
  | k, d :: ds, S => match g d (wipeE ρ vs) with
    | none => .bad
    | some ρ1 => match t ρ1 S with
      | .ok false S1 => compN vs g t f ρ k ds S1
      | .ok true S1 => match f ρ1 S1 with
        | .ok y S2 => if k < sz then (compN vs g t f ρ (k + 1) ds S2).bind fun ys S3 => .ok (y :: ys) S3 else .bad
        | _ => .bad
      | _ => .bad
def lComp (i : LD) (vs : List Nat) (g : GT) (t : BD) (f : ED) : LD := fun ρ S => (i ρ S).bind fun ds S1 => compN vs g t f ρ 0 ds S1
def bYes : BD := fun _ S => .ok true S
abbrev noE : XK := fun _ _ _ => False
section
variable [TC : TabC] [AM : AmbC] {K : PySem.W.Frag} {mg : Str → Option Value} {E : XK} {X : Cx} {B m m1 m2 : List Addr} {H H1 H2 : Hp} {S : Sto}
theorem RepEn.wipe {ρ : En} {σ : L2.St} : ∀ {vs : List Nat}, RepEn K B m H ρ σ → RepEn K B m H (wipeE ρ vs) (wipe σ vs)
  | [], h => h
  | v :: vs, h => (RepEn.wipe (vs := vs) h).forget
theorem tt_nil {Y : Cx} : PTs Y [] (tDB Y.K mg E bYes) := ⟨fun pins s σ H Q I h => pts_nil.run pins s σ H Q I (by
  obtain ⟨B, m, ρ, S, re, rs, q⟩ := h
  exact AftB.same rs q)⟩
theorem comp_to {i : LD} {t : BD} {f : ED} {gt : TG} {g : GT} {own : List (Str × Nat)} (hs : GSp X.K gt g (own.map (·.2))) {σ : L2.St} {H : Hp} {Q : VK} (h : tDF X.K mg E (lComp i (own.map (·.2)) g t f) σ H Q) :
    tLc (tDI X.K mg E i) gt (tDB X.K mg noE t) (tD X.K mg noE f) (own.map (·.2)) σ H Q := by
  obtain ⟨B, m, ρ, S, re, rs, q⟩ := h
  refine ⟨B, m, ρ, S, re, rs, ?_⟩
  unfold lComp at q
  cases ei : i ρ S with
  | exc x S' => rw [ei] at q; exact q
  | bad => rw [ei] at q; exact q
  | ok ds S' =>
    rw [ei] at q
    simp only [R.bind] at q
    intro m1 H1 J x1 rs1 hJ D hD
    have hD0 : H D = none := by
      cases e0 : H D with
      | none => rfl
      | some o =>
        by_cases hm : D ∈ m
        · exact absurd hD (x1.live D (x1.sub D hm))
        · exact absurd hD (x1.there D o e0)
    have re1 := re.mono x1
    have xD := Ex.fresh (o := HO.lst []) rs1 hD
    have hw : ∀ {m' H'}, ExW (D :: B) m1 (upd H1 D (.lst [])) m' H' → ExW B m1 H1 m' H' := fun {m' H'} y =>
      ⟨by obtain ⟨e, e1, e2⟩ := y.app; exact ⟨e, e1, fun a ha => by
          have z := e2 a ha
          by_cases q : a = D
          · rw [q, upd_same] at z; cases z
          · rw [upd_ne q] at z; exact z⟩,
       fun a o e ht hm hb => y.keep a o (by rw [upd_ne (ne_of_none e hD)]; exact e) ht hm (fun z => by
          rcases List.mem_cons.mp z with z | z
          · exact ne_of_none e hD z
          · exact hb z), fun a o e => y.there a o (by rw [upd_ne (ne_of_none e hD)]; exact e), y.live, fun a xs e => y.tups a xs (by rw [upd_ne (ne_of_none e hD)]; exact e), fun a o u e => y.frzs a o u (by rw [upd_ne (ne_of_none e hD)]; exact e)⟩
    have hJ2 : JAt X.K (D :: B) m1 (upd H1 D (.lst [])) ds J := by
      intro m' H' y
      obtain ⟨g1, g2, g3⟩ := hJ m' H' (hw y)
      refine ⟨g1, g2, fun i v H'' hi hy => ?_⟩
      rcases g3 i v H'' hi hy with ⟨e, d, e1, r⟩ | ⟨T, p, q', dp, dq, e1, e2, e3, e4, r1, r2⟩
      · exact .inl ⟨e, d, e1, (Rep.hide hD r).mono xD⟩
      · exact .inr ⟨T, p, q', dp, dq, e1, e2, e3, e4, (Rep.hide hD r1).mono xD, (Rep.hide hD r2).mono xD⟩
    have reD : RepEn X.K (D :: B) m1 (upd H1 D (.lst [])) ρ σ := (re1.map fun _ _ r => Rep.hide hD r).mono xD
    have rsD := rs1.hide (o := HO.lst []) hD
    have fin : match compN (own.map (·.2)) g t f ρ 0 ds S' with
      | .ok ys S2 => ∀ m' H' vs, Ex m H m' H' → D ∉ m' → H' D = some (.lst vs) → RepSto X.K (D :: B) m' H' S2 → Reps X.K (D :: B) m' H' ([] ++ ys) vs → Q (.ref D) H'
      | .exc x S2 => True
      | .bad => False := by
      cases ec : compN (own.map (·.2)) g t f ρ 0 ds S' with
      | ok ys S2 => rw [ec] at q; exact fun m' H' vs y hn hv r1 r2 => q m' H' D vs y hD0 hn hv r1 r2
      | exc x S2 => trivial
      | bad => rw [ec] at q; exact q
    have xm : Ex m H m1 (upd H1 D (.lst [])) := x1.trans xD
    refine ⟨fun k n Hk => n = ds.length - k ∧ k ≤ ds.length ∧ ∃ mk Sk da acc, Ex m H mk Hk ∧ RepEn X.K (D :: B) mk Hk ρ σ ∧ JAt X.K (D :: B) mk Hk ds J ∧ RepSto X.K (D :: B) mk Hk Sk ∧ Hk D = some (.lst acc) ∧ Reps X.K (D :: B) mk Hk da acc ∧
      match compN (own.map (·.2)) g t f ρ da.length (ds.drop k) Sk with
      | .ok ys S2 => ∀ m' H' vs, Ex m H m' H' → D ∉ m' → H' D = some (.lst vs) → RepSto X.K (D :: B) m' H' S2 → Reps X.K (D :: B) m' H' (da ++ ys) vs → Q (.ref D) H'
      | .exc x S2 => True
      | .bad => False, ⟨_, rfl, Nat.zero_le _, m1, S', [], [], xm, reD, hJ2, rsD, upd_same, .nil, fin⟩, ?_⟩
    rintro k n Hk ⟨rfl, hk, mk, Sk, da, acc, xk, rek, jk, rsk, hacc, rda, fk⟩
    obtain ⟨j1, j2, j3⟩ := jk mk Hk (Ex.refl rsk).weak
    by_cases hlt : k < ds.length
    · refine .inr ⟨j1 k hlt, fun H' => k + 1 ≤ ds.length ∧ ∃ mk Sk da acc, Ex m H mk H' ∧ RepEn X.K (D :: B) mk H' ρ σ ∧ JAt X.K (D :: B) mk H' ds J ∧ RepSto X.K (D :: B) mk H' Sk ∧ H' D = some (.lst acc) ∧ Reps X.K (D :: B) mk H' da acc ∧
        match compN (own.map (·.2)) g t f ρ da.length (ds.drop (k + 1)) Sk with
        | .ok ys S2 => ∀ m' H' vs, Ex m H m' H' → D ∉ m' → H' D = some (.lst vs) → RepSto X.K (D :: B) m' H' S2 → Reps X.K (D :: B) m' H' (da ++ ys) vs → Q (.ref D) H'
        | .exc x S2 => True
        | .bad => False, fun H' z => ⟨ds.length - (k + 1), by omega, rfl, z⟩, fun x H' hy => ?_⟩
      obtain ⟨ex, rs', d, ed, rd⟩ := jk.item rsk hlt hy
      have ed' : ds.drop k = d :: ds.drop (k + 1) := by
        rw [List.drop_eq_getElem_cons hlt]
        rw [List.getElem?_eq_getElem hlt] at ed
        rw [Option.some.inj ed]
      rw [ed'] at fk
      unfold compN at fk
      cases eg : g d (wipeE ρ (own.map (·.2))) with
      | none => simp only [eg] at fk
      | some ρ1 =>
        simp only [eg] at fk
        refine hs.to (D :: B) mk H' (wipeE ρ (own.map (·.2))) ρ1 _ d x _ (RepEn.wipe (rek.mono ex)) rd eg fun σ2 re2 w2 => ⟨?_, ?_⟩
        · rw [w2]
          exact List.ext_getElem? fun j => by
            rw [wipe_at, wipe_at, wipe_length]
            by_cases c : j ∈ own.map (·.2) ∧ j < σ.length
            · rw [if_pos c, if_pos c]
            · rw [if_neg c, if_neg c]
        · refine ⟨D :: B, mk, ρ1, Sk, re2, rs', ?_⟩
          cases et : t ρ1 Sk with
          | exc x S2 => simp only [et] at fk
          | bad => simp only [et] at fk
          | ok b S1 =>
            simp only [et] at fk
            intro m3 H3 b' x3 rs3 eb
            cases eb
            cases b with
            | false =>
              rw [if_neg (by simp)]
              have y := ex.trans x3
              exact ⟨hlt, m3, S1, da, acc, xk.trans y, rek.mono y, jk.mono y, rs3, y.keep _ _ hacc (fun _ z => nomatch z) (rsk.hid D List.mem_cons_self).1, rda.mono y, fk⟩
            | true =>
              rw [if_pos rfl]
              refine ⟨D :: B, m3, ρ1, S1, re2.mono x3, rs3, ?_⟩
              cases ee : f ρ1 S1 with
              | exc x S2 => simp only [ee] at fk
              | bad => simp only [ee] at fk
              | ok y S2 =>
                simp only [ee] at fk
                intro m4 H4 v x4 rs4 rv
                have z := (ex.trans x3).trans x4
                have hacc4 : H4 D = some (.lst acc) := z.keep _ _ hacc (fun _ z => nomatch z) (rsk.hid D List.mem_cons_self).1
                by_cases hsz : da.length < sz
                · simp only [if_pos hsz] at fk
                  refine ⟨acc, hacc4, by rw [← sz_eq, ← rda.length]; exact hsz, hlt, m4, S2, da ++ [y], acc ++ [v], ?_, ?_, ?_, rs4.poke List.mem_cons_self hacc4, upd_same, ?_, ?_⟩
                  · have w := xk.trans z
                    refine ⟨w.app, fun a o e ht hm => ?_, fun a ha => ?_, fun a xs e => ?_, fun a o u e => ?_, fun a o e => ?_⟩
                    · rw [upd_ne (ne_of_none e hD0)]; exact w.keep a o e ht hm
                    · by_cases c : a = D
                      · rw [c, upd_same]; simp
                      · rw [upd_ne c]; exact w.live a ha
                    · rw [upd_ne (ne_of_none e hD0)]; exact w.tups a xs e
                    · rw [upd_ne (ne_of_none e hD0)]; exact w.frzs a o u e
                    · rw [upd_ne (ne_of_none e hD0)]; exact w.there a o e
                  · exact (rek.mono z).monoW (ExW.poke rs4 List.mem_cons_self hacc4)
                  · exact (jk.mono z).monoW (ExW.poke rs4 List.mem_cons_self hacc4)
                  · exact ((rda.mono z).append (.cons rv .nil)).monoW (ExW.poke rs4 List.mem_cons_self hacc4)
                  · rw [List.length_append, List.length_singleton]
                    simp only [R.bind] at fk
                    cases ec : compN (own.map (·.2)) g t f ρ (da.length + 1) (ds.drop (k + 1)) S2 with
                    | ok ys S3 =>
                      simp only [ec] at fk
                      intro m' H' vs h1 h2 h3 h4 h5
                      rw [List.append_assoc] at h5
                      exact fk m' H' vs h1 h2 h3 h4 h5
                    | exc x S3 => trivial
                    | bad => simp only [ec] at fk
                · simp only [if_neg hsz] at fk
    · have ek : k = ds.length := by omega
      subst ek
      rw [List.drop_length] at fk
      unfold compN at fk
      refine .inl ⟨j2, fk mk Hk acc xk (rsk.hid D List.mem_cons_self).1 hacc rsk (by rw [List.append_nil]; exact rda)⟩
/-- [f for g in i if t] -/
theorem f_comp {elt tg iter : Expr} {ifs : List Expr} {scope : Scope} {own : List (Str × Nat)} {pos : Pos} {i : LD} {t : BD} {f : ED} {gt : TG} {g : GT} (hc : X.calm = true) (hN : X.N.Nodup) (hi : PI X tg iter (tDI X.K mg E i)) (ok : BlkOk X.N X.env.scope scope own)
    (hg : ∀ (s : Shared) (H : Hp) (C : Addr) (cl : List (Str × Addr)) (fp : List Addr), PG (X.blk s H scope (compEnvC scope cl C X.env) fp) tg gt) (hs : GSp X.K gt g (own.map (·.2)))
    (ht : ∀ (s : Shared) (H : Hp) (C : Addr) (cl : List (Str × Addr)) (fp : List Addr), PTs (X.blk s H scope (compEnvC scope cl C X.env) fp) ifs (tDB X.K mg noE t))
    (he : ∀ (s : Shared) (H : Hp) (C : Addr) (cl : List (Str × Addr)) (fp : List Addr), PE (X.blk s H scope (compEnvC scope cl C X.env) fp) elt (tD X.K mg noE f))
    (hset : ∀ x, foldedSetIterable iter X.env x = pure x := by intro _; rfl) : PE X (.ListComp elt [⟨tg, iter, ifs, 0⟩] scope pos) (tDF X.K mg E (lComp i (own.map (·.2)) g t f)) := by
  refine PE.to (pe_lc hc hN hi ok hg ht he hset) fun σ H Q h => comp_to hs h
theorem frz_to {g : LD} {σ : L2.St} {H : Hp} {Q : VK} (h : tD K mg E (eFrz g) σ H Q) : tDF K mg E g σ H Q := by
  obtain ⟨B, m, ρ, S, re, rs, q⟩ := h
  refine ⟨B, m, ρ, S, re, rs, ?_⟩
  unfold eFrz at q
  cases eg : g ρ S with
  | ok ds S' =>
    rw [eg] at q
    intro m' H' p vs x hp hpm hpv rs' r'
    exact q m' H' (.ref p) x rs'.unhide (.lst hpv hpm (fun z => (rs.hid p z).2 hp) (r'.map fun _ _ r => r.unhide))
  | exc x S' => rw [eg] at q; exact q
  | bad => rw [eg] at q; exact q
theorem thaw_to {g : LD} {σ : L2.St} {H : Hp} {Q : VK} (h : tD K mg E (eThaw g) σ H Q) : tDF K mg E g σ H Q := by
  obtain ⟨B, m, ρ, S, re, rs, q⟩ := h
  refine ⟨B, m, ρ, S, re, rs, ?_⟩
  unfold eThaw at q
  cases eg : g ρ S with
  | ok ds S' =>
    rw [eg] at q
    intro m' H' p vs x hp hpm hpv rs' r'
    have hbp : p ∉ B := fun z => (rs.hid p z).2 hp
    have rs2 := rs'.cell' hbp hpv r'
    refine q (m' ++ [p]) H' (.ref p) ?_ rs2 (.ref ?_)
    · obtain ⟨e, rfl, he⟩ := x.app
      refine ⟨⟨e ++ [p], by rw [List.append_assoc], fun a ha => ?_⟩, x.keep, rs2.live, x.tups, x.frzs, x.there⟩
      rcases List.mem_append.mp ha with ha | ha
      · exact he a ha
      · rw [show a = p by simpa using ha]; exact hp
    · rw [← rs'.len, List.getElem?_append_right (Nat.le_refl _), Nat.sub_self]; rfl
  | exc x S' => rw [eg] at q; exact q
  | bad => rw [eg] at q; exact q
end
end Zed

namespace Zed
open PySem PySem.Spec PyProof.Rows L2 RZ

/-! ## A call's end: what was made within and is not handed out is forgotten -/
def frzL (f : D → Option D) : List D → Option (List D)
  | [] => some []
  | d :: ds => match f d with
    | some d' => match frzL f ds with
      | some ds' => some (d' :: ds')
      | none => none
    | none => none
def frzD (n : Nat) (S : Sto) : Nat → D → Option D
  | 0, _ => none
  | k + 1, .ref i => if i < n then some (.ref i) else match S[i]? with
    | some (.lst xs) => match frzL (frzD n S k) xs with
      | some ys => some (.lst ys)
      | none => none
    | _ => none
  | k + 1, .tup xs => match frzL (frzD n S k) xs with
    | some ys => some (.tup ys)
    | none => none
  | k + 1, .lst xs => match frzL (frzD n S k) xs with
    | some ys => some (.lst ys)
    | none => none
  | _ + 1, .exv => none
  | _ + 1, d => some d
def allL (f : D → Bool) : List D → Bool
  | [] => true
  | d :: ds => match f d with | true => allL f ds | false => false
def low (n : Nat) : Nat → D → Bool
  | 0, _ => false
  | _ + 1, .ref i => Nat.blt i n
  | k + 1, .tup xs => allL (low n k) xs
  | k + 1, .lst xs => allL (low n k) xs
  | _ + 1, .exv => false
  | _ + 1, _ => true
def lowC (n : Nat) : Cell → Bool
  | .lst xs => allL (low n 60) xs
  | .dic kvs => allL (low n 60) (kvs.map (·.2))
  | .tbl _ => true
def lowS (n : Nat) : Sto → Bool
  | [] => true
  | c :: cs => match lowC n c with | true => lowS n cs | false => false
def closeD (n : Nat) (d : D) (S : Sto) : R D :=
  match Nat.beq S.length n with
  | true => .ok d S
  | false => match frzD n S 60 d with
    | some d' => match lowS n (S.take n) with
      | true => .ok d' (S.take n)
      | false => .ok d S
    | none => .ok d S
def frzF (f : D → Option D) : List (Str × D) → Option (List (Str × D))
  | [] => some []
  | (y, d) :: ds => match f d with
    | some d' => match frzF f ds with
      | some ds' => some ((y, d') :: ds')
      | none => none
    | none => none
def closeX (n : Nat) (x : Exn) (S : Sto) : R D :=
  match Nat.beq S.length n with
  | true => .exc x S
  | false => match frzF (frzD n S 60) x.fs with
    | some fs => match lowS n (S.take n) with
      | true => .exc ⟨x.cls, fs⟩ (S.take n)
      | false => .exc x S
    | none => .exc x S
def fnD (n : Nat) (f : SD) : GD := fun ds S => match f (ds.map some ++ List.replicate (n - ds.length) none) S with
  | .ok (.rt d) S' => closeD S.length d S'
  | .ok (.nx _) S' => closeD S.length .non S'
  | .exc x S' => closeX S.length x S'
  | _ => .bad

section
variable [TC : TabC] [AM : AmbC] {K : PySem.W.Frag} {mg : Str → Option Value} {E : XK} {X : Cx} {B m m1 m2 : List Addr} {H H1 H2 : Hp} {S : Sto}
theorem allL_mem {f : D → Bool} : ∀ {ds : List D}, allL f ds = true → ∀ d ∈ ds, f d = true
  | [], _, d, hd => by cases hd
  | x :: ds, h, d, hd => by
    unfold allL at h
    split at h
    · rename_i e
      rcases List.mem_cons.mp hd with z | z
      · rw [z]; exact e
      · exact allL_mem h d z
    · cases h
theorem Reps.by {B' m' : List Addr} {H' : Hp} : ∀ {ds : List D} {vs : List V}, Reps K B m H ds vs → (∀ d ∈ ds, ∀ v, Rep K B m H d v → Rep K B' m' H' d v) → Reps K B' m' H' ds vs
  | [], _, h, _ => by cases h; exact .nil
  | d :: ds, _, h, f => by
    cases h with
    | cons r t => exact .cons (f d List.mem_cons_self _ r) (Reps.by t fun d hd => f d (List.mem_cons_of_mem _ hd))
theorem Rep.shrink (e : List Addr) : ∀ (k : Nat) {d : D} {v : V}, low m.length k d = true → Rep K B (m ++ e) H d v → Rep K B m H d v
  | 0, d, v, h, _ => by cases h
  | k + 1, d, v, h, r => by
    cases d with
    | non => rw [r.non_inv]; exact .non
    | bl b => rw [r.bl_inv]; exact .bl b
    | int i => rw [r.int_inv]; exact .int i
    | str x => rw [r.str_inv]; exact .str x
    | ty n => rw [r.ty_inv]; exact .ty n
    | scr ns => obtain ⟨a, rfl, q⟩ := r.scr_inv; exact .scr q
    | exv => simp [low] at h
    | fn n => obtain ⟨a, rfl, q⟩ := r.fn_inv; exact .fn q
    | ref i =>
      obtain ⟨a, rfl, q⟩ := r.ref_inv
      have hi : i < m.length := by simpa [low] using h
      rw [List.getElem?_append_left hi] at q
      exact .ref q
    | tup ds =>
      obtain ⟨a, vs, rfl, q, rr⟩ := r.tup_inv
      exact .tup q (rr.by fun d hd v r => Rep.shrink e k (allL_mem h d hd) r)
    | lst ds =>
      obtain ⟨a, vs, rfl, q, hm, hb, rr⟩ := r.lst_inv
      exact .lst q (fun z => hm (List.mem_append_left _ z)) hb (rr.by fun d hd v r => Rep.shrink e k (allL_mem h d hd) r)
theorem Reps.frz {f : D → Option D} {B' m' : List Addr} : ∀ {ds es : List D} {vs : List V}, frzL f ds = some es → Reps K B m H ds vs → (∀ d d' v, f d = some d' → Rep K B m H d v → Rep K B' m' H d' v) → Reps K B' m' H es vs
  | [], _, _, h, r, _ => by cases h; cases r; exact .nil
  | d :: ds, _, _, h, r, q => by
    unfold frzL at h
    split at h
    · rename_i d' e1
      split at h
      · rename_i ds' e2
        cases h
        cases r with
        | cons r1 r2 => exact .cons (q _ _ _ e1 r1) (Reps.frz e2 r2 q)
      · cases h
    · cases h
theorem Rep.frz {e : List Addr} (rs : RepSto K B (m ++ e) H S) : ∀ (k : Nat) {d d' : D} {v : V}, frzD m.length S k d = some d' → Rep K B (m ++ e) H d v → Rep K B m H d' v
  | 0, d, d', v, h, _ => by cases h
  | k + 1, d, d', v, h, r => by
    have nm : ∀ {a : Addr}, a ∉ m ++ e → a ∉ m := fun z y => z (List.mem_append_left _ y)
    cases d with
    | non => cases h; rw [r.non_inv]; exact .non
    | bl b => cases h; rw [r.bl_inv]; exact .bl b
    | int i => cases h; rw [r.int_inv]; exact .int i
    | str x => cases h; rw [r.str_inv]; exact .str x
    | ty n => cases h; rw [r.ty_inv]; exact .ty n
    | scr ns => cases h; obtain ⟨a, rfl, q⟩ := r.scr_inv; exact .scr q
    | exv => simp [frzD] at h
    | fn n => cases h; obtain ⟨a, rfl, q⟩ := r.fn_inv; exact .fn q
    | ref i =>
      obtain ⟨a, rfl, q⟩ := r.ref_inv
      simp only [frzD] at h
      split at h
      · rename_i hi
        cases h
        rw [List.getElem?_append_left hi] at q
        exact .ref q
      · rename_i hi
        split at h
        · rename_i xs ex
          split at h
          · rename_i ys ey
            cases h
            obtain ⟨vs, hv, rr⟩ := rs.cell i a _ q ex
            refine .lst hv (fun z => ?_) (fun z => (rs.hid a z).1 (List.mem_of_getElem? q)) (Reps.frz ey rr fun d d' v e1 r1 => Rep.frz rs k e1 r1)
            rw [List.getElem?_append_right (by omega)] at q
            have nd := rs.nd
            rw [List.nodup_append] at nd
            exact nd.2.2 a z a (List.mem_of_getElem? q) rfl
          · cases h
        · cases h
    | tup ds =>
      obtain ⟨a, vs, rfl, q, rr⟩ := r.tup_inv
      simp only [frzD] at h
      split at h
      · rename_i ys ey
        cases h
        exact .tup q (Reps.frz ey rr fun d d' v e1 r1 => Rep.frz rs k e1 r1)
      · cases h
    | lst ds =>
      obtain ⟨a, vs, rfl, q, hm, hb, rr⟩ := r.lst_inv
      simp only [frzD] at h
      split at h
      · rename_i ys ey
        cases h
        exact .lst q (nm hm) hb (Reps.frz ey rr fun d d' v e1 r1 => Rep.frz rs k e1 r1)
      · cases h
theorem lowS_get {n : Nat} : ∀ {S : Sto}, lowS n S = true → ∀ c ∈ S, lowC n c = true
  | [], _, c, h => by cases h
  | x :: S, h, c, hc => by
    unfold lowS at h
    split at h
    · rename_i e
      rcases List.mem_cons.mp hc with z | z
      · rw [z]; exact e
      · exact lowS_get h c z
    · cases h
theorem CellAt.shrink (e : List Addr) {a : Addr} {c : Cell} (hl : lowC m.length c = true) (h : CellAt K B (m ++ e) H a c) : CellAt K B m H a c := by
  cases c with
  | lst ds =>
    obtain ⟨vs, q, r⟩ := h
    exact ⟨vs, q, r.by fun d hd v r => Rep.shrink e 60 (allL_mem hl d hd) r⟩
  | tbl y =>
    obtain ⟨ps, q, r, k⟩ := h
    refine ⟨ps, q, r, fun pos cv hc => ?_⟩
    obtain ⟨c, ec, h1, h2, h3⟩ := k pos cv hc
    exact ⟨c, ec, h1, fun z => h2 (List.mem_append_left _ z), h3⟩
  | dic kvs =>
    obtain ⟨kws, q, r⟩ := h
    refine ⟨kws, q, ?_⟩
    have hl' : ∀ d ∈ kvs.map (·.2), low m.length 60 d = true := allL_mem hl
    clear hl q
    unfold RepKV at r ⊢
    induction r with
    | nil => exact .nil
    | cons h1 _ ih => exact .cons ⟨h1.1, Rep.shrink e 60 (hl' _ (by simp)) h1.2⟩ (ih fun d hd => hl' d (by simp at hd ⊢; exact .inr hd))
theorem close_ok {d : D} {v : V} {S' : Sto} {Q : VK} (hl : m.length = S.length) (ht : TabAt m S) (x : Ex m H m1 H1) (rs : RepSto K B m1 H1 S') (r : Rep K B m1 H1 d v) (h : Aft K mg E B (Rep K B) m H (closeD S.length d S') Q) : Q v H1 := by
  have plain : Aft K mg E B (Rep K B) m H (.ok d S') Q → Q v H1 := fun h => h m1 H1 v x rs r
  unfold closeD at h
  split at h
  · exact plain h
  · split at h
    · rename_i d' e1
      split at h
      · rename_i e2
        obtain ⟨e, rfl, he⟩ := x.app
        have tb := ht.back hl rs.tab
        rw [← hl] at e1 e2 h tb
        refine h m H1 v ⟨⟨[], by simp, by simp⟩, x.keep, fun a ha => x.live a (List.mem_append_left _ ha), x.tups, x.frzs, x.there⟩ ⟨?_, ?_, fun b hb => ⟨fun z => (rs.hid b hb).1 (List.mem_append_left _ z), (rs.hid b hb).2⟩, fun n a c e3 e4 => ?_, ?_⟩ (Rep.frz rs 60 e1 r)
        · rw [List.length_take]
          have := rs.len
          rw [List.length_append] at this
          omega
        · have nd := rs.nd
          rw [List.nodup_append] at nd
          exact nd.1
        · have hn : n < m.length := (List.getElem?_eq_some_iff.mp e3).1
          have e5 : S'[n]? = some c := by rw [List.getElem?_take] at e4; rw [if_pos hn] at e4; exact e4
          exact CellAt.shrink e (lowS_get e2 c (List.mem_of_getElem? e4)) (rs.cell n a c (by rw [List.getElem?_append_left hn]; exact e3) e5)
        · exact tb
      · exact plain h
    · exact plain h
theorem RepFs.frz {f : D → Option D} {B' m' : List Addr} : ∀ {ds es : List (Str × D)} {vs : List (Str × V)}, frzF f ds = some es → RepFs K B m H ds vs → (∀ d d' v, f d = some d' → Rep K B m H d v → Rep K B' m' H d' v) → RepFs K B' m' H es vs
  | [], _, _, h, r, _ => by cases h; cases r; exact .nil
  | (y, d) :: ds, _, _, h, r, q => by
    unfold frzF at h
    split at h
    · rename_i d' e1
      split at h
      · rename_i ds' e2
        cases h
        cases r with
        | cons r1 r2 => exact .cons ⟨r1.1, q _ _ _ e1 r1.2⟩ (RepFs.frz e2 r2 q)
      · cases h
    · cases h
theorem close_exc {x : Exn} {S' : Sto} {c : Value} {od : Option Addr} {Q : VK} (hl : m.length = S.length) (ht : TabAt m S) (xx : Ex m H m1 H1) (rs : RepSto K B m1 H1 S') (r : ExnAt K mg B m1 H1 x c od) (h : Aft K mg E B (Rep K B) m H (closeX S.length x S') Q) : E c od H1 := by
  have plain : Aft K mg E B (Rep K B) m H (.exc x S') Q → E c od H1 := fun h => h m1 H1 c od xx rs r
  unfold closeX at h
  split at h
  · exact plain h
  · split at h
    · rename_i fs e1
      split at h
      · rename_i e2
        obtain ⟨e, rfl, he⟩ := xx.app
        have tb := ht.back hl rs.tab
        rw [← hl] at e1 e2 h tb
        obtain ⟨C, dd, fvs, g1, g2, g3, g4, g5, g5b, g6⟩ := r
        refine h m H1 c od ⟨⟨[], by simp, by simp⟩, xx.keep, fun a ha => xx.live a (List.mem_append_left _ ha), xx.tups, xx.frzs, xx.there⟩ ⟨?_, ?_, fun b hb => ⟨fun z => (rs.hid b hb).1 (List.mem_append_left _ z), (rs.hid b hb).2⟩, fun n a c e3 e4 => ?_, ?_⟩ ⟨C, dd, fvs, g1, g2, g3, g4, fun z => g5 (List.mem_append_left _ z), g5b, RepFs.frz e1 g6 fun d d' v q z => Rep.frz rs 60 q z⟩
        · rw [List.length_take]
          have := rs.len
          rw [List.length_append] at this
          omega
        · have nd := rs.nd
          rw [List.nodup_append] at nd
          exact nd.1
        · have hn : n < m.length := (List.getElem?_eq_some_iff.mp e3).1
          have e5 : S'[n]? = some c := by rw [List.getElem?_take] at e4; rw [if_pos hn] at e4; exact e4
          exact CellAt.shrink e (lowS_get e2 c (List.mem_of_getElem? e4)) (rs.cell n a c (by rw [List.getElem?_append_left hn]; exact e3) e5)
        · exact tb
      · exact plain h
    · exact plain h
end

/-! ## What is told of a body's context, and a def's promise -/
structure XC (P : Program) (w : World) (K : PySem.W.Frag) (mg : Str → Option Value) (base : Heap) (gq : Bool) (E : XK) (k : Nat) (N : List Str) (sc : Scope) (X : Cx) : Prop where
  prog : X.prog = P
  w : X.w = w
  K : X.K = K
  mg : X.mg = mg
  base : X.base = base
  N : X.N = N
  sc : X.env.scope = sc
  calm : X.calm = true
  room : Room k X.A
  gds : gq = true → X.A.guards = some []
  nd : X.N.Nodup
  tk : Takes X (fun c d _ H => E c d H)
  po : PassesOwn (model X.prog X.w) X.A X.env X.xe
/-- what is told of a def's own context -/
structure DefC (qual : Str) (cdv : Value) (X : Cx) : Prop where
  fn : ∀ x, X.fn x = true
  qual : X.env.qual = qual ++ ".<locals>."
  code : X.env.code = cdv
  stack : X.stack = X.env :: X.outer
  frame : X.env.frame = some X.env.locals
structure FnG (P : Program) (w : World) (K : PySem.W.Frag) (mg : Str → Option Value) (base : Heap) (gq : Bool) (k : Nat) (f : Addr) (fd : FuncData) (ps : List Str) (sp : Sp) : Prop where
  len : ∀ vs H Q E, sp vs H Q E → vs.length = ps.length
  run : ∀ (A : Around) (outer : List PySem.Env) (s : Shared) (H : Hp) (args : Args) (us : List Value) (vs : List V) (Q : VK) (E : XK), Room k A → (gq = true → A.guards = some []) → Env0 P w K mg base A outer s H → BindsTo s fd args (ps.zip us) → Vals vs us → sp vs H Q E →
    codeAny (model P w) A (.call (.ref f) args) (CR (L2.CX P w) outer P w H s Q E) s
def spG [TC : TabC] (K : PySem.W.Frag) (mg : Str → Option Value) (n : Nat) (g : GD) : Sp := fun vs H Q E => ∃ B m ds S, ds.length = n ∧ Reps K B m H ds vs ∧ RepSto K B m H S ∧ Aft K mg E B (Rep K B) m H (g ds S) Q
section
variable [TC : TabC] {P : Program} {w : World} {K : PySem.W.Frag} {mg : Str → Option Value} {base : Heap} {gq : Bool}
theorem FnG.up {k : Nat} {f : Addr} {fd : FuncData} {ps : List Str} {sp : Sp} (F : FnG P w K mg base false k f fd ps sp) : FnG P w K mg base gq k f fd ps sp :=
  ⟨F.len, fun A outer s H args us vs Q E hr _ => F.run A outer s H args us vs Q E hr fun z => nomatch z⟩
theorem FnG.mono {j k : Nat} {f : Addr} {fd : FuncData} {ps : List Str} {sp : Sp} (F : FnG P w K mg base gq j f fd ps sp) (h : j ≤ k) : FnG P w K mg base gq k f fd ps sp :=
  ⟨F.len, fun A outer s H args us vs Q E hr => F.run A outer s H args us vs Q E (hr.mono h)⟩
/-- a better known function -/
theorem FnG.by {k : Nat} {f : Addr} {fd : FuncData} {ps : List Str} {n : Nat} {g g' : GD} (F : FnG P w K mg base gq k f fd ps (spG K mg n g)) (h : ∀ ds S, g' ds S ≠ .bad → g ds S = g' ds S) : FnG P w K mg base gq k f fd ps (spG K mg n g') := by
  have i : ∀ vs H Q E, spG K mg n g' vs H Q E → spG K mg n g vs H Q E := fun vs H Q E ⟨B, m, ds, S, h1, h2, h3, h4⟩ => ⟨B, m, ds, S, h1, h2, h3, by
    rw [h ds S (fun z => by rw [z] at h4; exact h4)]; exact h4⟩
  exact ⟨fun vs H Q E q => F.len vs H Q E (i _ _ _ _ q), fun A outer s H args us vs Q E h1 h2 h3 h4 h5 q => F.run A outer s H args us vs Q E h1 h2 h3 h4 h5 (i _ _ _ _ q)⟩
theorem rep_start {B m : List Addr} {H : Hp} {ds : List D} {vs : List V} (h : Reps K B m H ds vs) (j : Nat) : RepEn K B m H (ds.map some ++ List.replicate j none) (vs.map some ++ List.replicate j none) := by
  induction ds generalizing vs with
  | nil =>
    cases h
    simp only [List.map_nil, List.nil_append]
    induction j with
    | zero => exact .nil
    | succ j ih => exact .cons trivial ih
  | cons d ds ih => cases h with | cons r t => exact .cons r (ih t)
/-- THE RULE for a def -/
theorem fnG_of {k : Nat} {f : Addr} {name qual : Str} {params : Arguments} {body : List Stmt} {scope : Scope} {dV kV doc pm cdv ct oc : Value} {an od : Option Addr} {osl : Array (Option Value)} {N ps : List Str} {fb : SD}
    (lk : K.lookup f = some ⟨oc, od, .func (PySem.W.fnOf name qual params body scope dV kV doc pm an cdv ct), osl⟩) (hcd : PySem.W.codeIn K cdv qual = true) (Sc : FnScope N ps scope)
    (hbody : ∀ (X : Cx) (E : XK), XC P w K mg base gq E k N scope X → DefC qual cdv X → PSs X body (tDS K mg E fb)) :
    FnG P w K mg base gq (k + 1) f (PySem.W.fnOf name qual params body scope dV kV doc pm an cdv ct) ps (spG K mg ps.length (fnD N.length fb)) := by
  have len : ∀ vs H Q E, spG K mg ps.length (fnD N.length fb) vs H Q E → vs.length = ps.length := fun vs H Q E ⟨B, m, ds, S, h1, h2, _⟩ => by rw [← h2.length, h1]
  refine ⟨len, fun A outer s H args us vs Q E hr hgd e0 hb r hsp => ?_⟩
  have hl := len _ _ _ _ hsp
  have KX : K.In s.heap := e0.mod.kin.keeps fun b o e => (e0.bs b o e).1
  have lim : s.heap.NoLimit := e0.mod.nolimit.keeps fun b o e => (e0.bs b o e).1
  have hkind : ∀ y ∈ ps.zip us, scope.names.lookup y.1 = some .local ∨ (scope.names.lookup y.1 = some .cell ∧ ((cellsFrom (s.heap.objs.size + 1) scope.names []).lookup y.1).isSome = true) := by
    rintro ⟨n, v⟩ hy
    rcases Sc.par n (List.of_mem_zip hy).1 with q | q
    · exact .inl q
    · exact .inr ⟨q, PySem.W.cellsFrom_some _ _ _ (.inl q)⟩
  refine codeAny_call_function hr.depth (KX _ _ lk) rfl Sc.co Sc.gen rfl (PySem.W.codeRec_of KX hcd) (hb _ _ _ _ (wpAny_newFunctionEnv_cells Sc.kind hkind ?_))
  rintro env rfl s1 x
  refine ⟨lim.keeps x.toInCall.keep, codeAny_func ?_⟩
  have XCx : XC P w K mg base gq E k N scope (cxOf (L2.CX P w) P w K mg base N qual scope f cdv A outer s H E) :=
    ⟨rfl, rfl, rfl, rfl, rfl, rfl, rfl, rfl, hr.deeper _, hgd, Sc.nd, takes_of rfl rfl rfl rfl, passes_of rfl⟩
  have I : Inv (cxOf (L2.CX P w) P w K mg base N qual scope f cdv A outer s H E) [] (start N vs) H s1 := inv_start Sc hr.hd e0 hl r x
  obtain ⟨B, m, ds, S, h1, h2, h3, h4⟩ := hsp
  have hst : start N vs = vs.map some ++ List.replicate (N.length - ds.length) none := by rw [h2.length]; rfl
  have hD : tDS K mg E fb { nx := fun _ H' => Q .non H', rt := Q } (start N vs) H := by
    refine ⟨B, m, ds.map some ++ List.replicate (N.length - ds.length) none, S, by rw [hst]; exact rep_start h2 _, h3, ?_⟩
    unfold fnD at h4
    cases eb : fb (ds.map some ++ List.replicate (N.length - ds.length) none) S with
    | ok fl S' =>
      rw [eb] at h4
      intro m' H' y rs'
      cases fl with
      | rt d => exact fun v rv => close_ok h3.len h3.tab y rs' rv h4
      | nx ρ => exact fun σ _ => close_ok h3.len h3.tab y rs' .non h4
      | bk ρ => exact h4.elim
      | ct ρ => exact h4.elim
    | exc x S' => rw [eb] at h4; exact fun m' H' c od y rs' ea => close_exc h3.len h3.tab y rs' ea h4
    | bad => rw [eb] at h4; exact h4
  refine wpAny_mono ((hbody _ E XCx ⟨fun _ => rfl, rfl, rfl, rfl, rfl⟩).run [] s1 _ H _ I hD) (fun fl s' hs => ?_) fun e s' hs => hs
  cases fl with
  | ret u =>
    obtain ⟨v, σ', H', J, rv, q⟩ := hs
    exact ⟨v, H', J.os, J.bare, J.base, J.hok, rv, q⟩
  | next =>
    obtain ⟨σ', H', J, q⟩ := hs
    exact ⟨.non, H', J.os, J.bare, J.base, J.hok, rfl, q⟩
  | brk =>
    obtain ⟨_, _, _, q⟩ := hs
    exact q.elim
  | cont =>
    obtain ⟨_, _, _, q⟩ := hs
    exact q.elim
end

/-! ## Calls -/
def eCall (n : Nat) (g : GD) (f : LD) : ED := fun ρ S => (f ρ S).bind fun ds S1 => match Nat.beq ds.length n with
  | true => g ds S1
  | false => .bad
section
variable [TC : TabC] {P : Program} {w : World} {K : PySem.W.Frag} {mg : Str → Option Value} {base : Heap} {gq : Bool} {E : XK} {k j n : Nat} {N : List Str} {sc : Scope} {X : Cx} {f : Addr} {fd : FuncData} {ps : List Str} {g : GD} {x : Str} {p pos : Pos} {e : Expr} {es : List Expr} {la : LD}
theorem XC.run {sp : Sp} (c : XC P w K mg base gq E k N sc X) (F : FnG P w K mg base gq j f fd ps sp) (hj : j ≤ k) {pins : List (Addr × Obj)} {σ : L2.St} {H : Hp} {s : Shared} {Q : VK} {args : Args} {us : List Value} {vs : List V} (hb : BindsTo s fd args (ps.zip us)) (I : Inv X pins σ H s) (r : Vals vs us) (h : sp vs H Q E) :
    codeAny (model X.prog X.w) X.A (.call (.ref f) args) (fun r s' => match r with | .ok (.ret u) => EP X pins σ Q u s' | .ok _ => False | .error er => X.xe er s') s := by
  have e0 := I.env0
  rw [c.prog, c.w, c.K, c.mg, c.base] at e0
  have q := F.run X.A X.stack s H args us vs Q E (c.room.mono hj) c.gds e0 hb r h
  rw [← c.prog, ← c.w] at q
  refine codeAny_mono q fun r s' z => ?_
  cases r with
  | error er => exact passes_call c.tk (fun _ _ _ _ y => y) pins σ H s er s' I z
  | ok fl =>
    cases fl with
    | ret u => exact I.after z
    | next => exact z.elim
    | brk => exact z.elim
    | cont => exact z.elim
/-- f(e, ..) -/
theorem d_call (c : XC P w K mg base gq E k N sc X) (F : FnG P w K mg base gq j f fd ps (spG K mg n g)) (hj : j ≤ k) (hg : L2.Gl X x) (hm : mg x = some (.ref f)) (hk : PySem.W.keepIn K (.ref f) = true) (hb : Binds K fd ps [])
    (ha : PA X (e :: es) (tDL K mg E la)) (hdb : (x == ("__debug__" : Str)) = false := by decide) (he : starEach (e :: es) X.env = (false, eval e X.env) :: starEach es X.env := by rfl) (hpl : (backTo pos (starEach es X.env)).any (·.1) = false := by rfl) :
    PE X (.Call (.Name x p) (e :: es) [] pos) (tD K mg E (eCall n g la)) := by
  refine ⟨fun pins s σ H Q I h => ?_⟩
  have hm' : X.mg x = some (.ref f) := by rw [c.mg]; exact hm
  have hk' : PySem.W.keepIn X.K (.ref f) = true := by rw [c.K]; exact hk
  obtain ⟨B, m, ρ, S, re, rs, q⟩ := h
  refine wpAny_Call_Name_kw (ld_glob I hg hm' ?_ hdb)
  refine PySem.W.callWith_K (h₀ := X.base) I.ok.mod.kin hk' (thn (ha.run pos pins s σ H _ I (partL re rs q)) ?_) he hpl
  rintro us s1 ⟨vs, H1, I1, r, m1, ds, S1, x1, re1, rs1, r1, q1⟩
  refine ⟨I1.kIn, ?_⟩
  split at q1
  · rename_i hl
    have hsp : spG K mg n g vs H1 Q E := ⟨B, m1, ds, S1, Nat.eq_of_beq_eq_true hl, r1, rs1, q1⟩
    have hlen : us.length = ps.length := by rw [← r.length]; exact F.len _ _ _ _ hsp
    have kin : K.In s1.heap := by have := I1.kIn; rw [c.K] at this; exact this
    refine wpAny_call (codeAny_mono (c.run F hj (us := us) (by have z := hb s1 us kin (by rw [List.append_nil]; exact hlen); rw [List.append_nil] at z; exact z) I1 r hsp) fun r s' z => ?_)
    cases r with
    | error er => exact z
    | ok fl => cases fl with
      | ret u => exact z
      | next => exact z.elim
      | brk => exact z.elim
      | cont => exact z.elim
  · exact q1.elim
end
end Zed

namespace Zed
open PySem PySem.Spec PyProof.Rows L2 RZ

/-! ## Built-in functions by values -/
abbrev AD := List D → Sto → R D
def eBi (op : AD) (f : LD) : ED := fun ρ S => (f ρ S).bind op
def BiSp [TC : TabC] [AM : AmbC] (K : PySem.W.Frag) (mg : Str → Option Value) (E : XK) (op : AD) (r : List V → Hp → VK → Prop) : Prop :=
  ∀ (B m : List Addr) (H : Hp) (S : Sto) (ds : List D) (vs : List V) (Q : VK), RepSto K B m H S → Reps K B m H ds vs → Aft K mg E B (Rep K B) m H (op ds S) Q → r vs H Q
def lenD : AD
  | [.lst xs], S => .ok (.int xs.length) S
  | [.tup xs], S => .ok (.int xs.length) S
  | [.scr xs], S => .ok (.int xs.length) S
  | [.str x], S => if x.length ≤ sz then .ok (.int x.length) S else .bad
  | [.ref n], S => match S[n]? with
    | some (.lst xs) => .ok (.int xs.length) S
    | _ => .bad
  | _, _ => .bad
def boolsOf : List D → Option (List Bool)
  | [] => some []
  | .bl b :: ds => match boolsOf ds with
    | some bs => some (b :: bs)
    | none => none
  | _ => none
def flatT : List D → Option (List Bool)
  | [] => some []
  | .bl b :: ds => match flatT ds with
    | some bs => some (b :: bs)
    | none => none
  | .int i :: ds => match flatT ds with
    | some bs => some ((i != 0) :: bs)
    | none => none
  | _ => none
def allBs : List Bool → Bool
  | [] => true
  | b :: bs => match b with | true => allBs bs | false => false
def anyBs : List Bool → Bool
  | [] => false
  | b :: bs => match b with | true => true | false => anyBs bs
def allD : AD
  | [d], S => match itemsL S d with
    | some ds => match boolsOf ds with
      | some bs => .ok (.bl (allBs bs)) S
      | none => .bad
    | none => .bad
  | _, _ => .bad
def anyD : AD
  | [.tup ds], S => match flatT ds with
    | some bs => .ok (.bl (anyBs bs)) S
    | none => .bad
  | [d], S => match itemsL S d with
    | some ds => match boolsOf ds with
      | some bs => .ok (.bl (anyBs bs)) S
      | none => .bad
    | none => .bad
  | _, _ => .bad
def intD : AD
  | [.int i], S => .ok (.int i) S
  | [.bl b], S => .ok (.int (if b = true then 1 else 0)) S
  | _, _ => .bad
def tupD : AD
  | [.tup xs], S => .ok (.tup xs) S
  | [d], S => match itemsL S d with
    | some xs => .ok (.tup xs) S
    | none => .bad
  | _, _ => .bad
section
variable [TC : TabC] [AM : AmbC] {K : PySem.W.Frag} {mg : Str → Option Value} {E : XK} {X : Cx} {B m m1 m2 : List Addr} {H H1 H2 : Hp} {S : Sto} {op : AD} {r : List V → Hp → VK → Prop} {x : Str} {p pos : Pos} {e : Expr} {es : List Expr} {la : LD}
theorem bi_to (s : BiSp K mg E op r) {σ : L2.St} {Q : VK} (h : tD K mg E (eBi op la) σ H Q) : tCB r (tDL K mg E la) σ H Q := by
  obtain ⟨B, m, ρ, S, re, rs, q⟩ := h
  refine (partL re rs q).imp ?_
  rintro vs H1 ⟨m1, ds, S1, x1, re1, rs1, r1, q1⟩
  exact s B m1 H1 S1 ds vs Q rs1 r1 q1
theorem d_bi {id : String} (hc : CallR X (.builtin id) r) (s : BiSp K mg E op r) (hg : L2.Gl X x) (hm : X.mg x = none) (hv : bootBuiltins x = some (.builtin id)) (ha : PA X (e :: es) (tDL K mg E la)) (hn : x ≠ "__name__" := by decide) (hdb : (x == ("__debug__" : Str)) = false := by decide)
    (he : starEach (e :: es) X.env = (false, eval e X.env) :: starEach es X.env := by rfl) (hpl : (backTo pos (starEach es X.env)).any (·.1) = false := by rfl) : PE X (.Call (.Name x p) (e :: es) [] pos) (tD K mg E (eBi op la)) :=
  PE.to (pe_callB hc hg hm hv ha hn hdb he hpl) fun _ _ _ h => bi_to s h
theorem d_ty {T : String} (hc : CallR X (.type T) r) (s : BiSp K mg E op r) (hg : L2.Gl X x) (hm : X.mg x = none) (hv : bootBuiltins x = some (.type T)) (ha : PA X (e :: es) (tDL K mg E la)) (hn : x ≠ "__name__" := by decide) (hdb : (x == ("__debug__" : Str)) = false := by decide)
    (he : starEach (e :: es) X.env = (false, eval e X.env) :: starEach es X.env := by rfl) (hpl : (backTo pos (starEach es X.env)).any (·.1) = false := by rfl) : PE X (.Call (.Name x p) (e :: es) [] pos) (tD K mg E (eBi op la)) :=
  PE.to (pe_callTy hc hg hm hv ha hn hdb he hpl) fun _ _ _ h => bi_to s h
theorem Reps.one {d : D} {vs : List V} (h : Reps K B m H [d] vs) : ∃ v, vs = [v] ∧ Rep K B m H d v := by
  cases h with
  | cons r t => cases t; exact ⟨_, rfl, r⟩
theorem b_len : BiSp K mg E lenD (fun xs H Q => ∃ x n, xs = [x] ∧ LenV K x H n ∧ Q (.int (n : Nat)) H) := by
  intro B m H S ds vs Q rs r q
  unfold lenD at q
  split at q
  · obtain ⟨v, rfl, r1⟩ := r.one
    obtain ⟨a, ws, rfl, h1, _, _, r2⟩ := r1.lst_inv
    exact ⟨_, _, rfl, .inl ⟨ws, SqL.of h1, r2.length⟩, q.same rs (.int _)⟩
  · obtain ⟨v, rfl, r1⟩ := r.one
    obtain ⟨a, ws, rfl, h1, r2⟩ := r1.tup_inv
    exact ⟨_, _, rfl, .inr ⟨ws, h1, r2.length⟩, q.same rs (.int _)⟩
  · obtain ⟨v, rfl, r1⟩ := r.one
    obtain ⟨a, rfl, h1⟩ := r1.scr_inv
    exact ⟨_, _, rfl, .inl ⟨_, h1.sq, by simp⟩, q.same rs (.int _)⟩
  · obtain ⟨v, rfl, r1⟩ := r.one
    rw [r1.str_inv]
    split at q
    · rename_i hl
      exact ⟨_, _, rfl, ⟨by rw [← sz_eq]; exact hl, rfl⟩, q.same rs (.int _)⟩
    · exact q.elim
  · obtain ⟨v, rfl, r1⟩ := r.one
    obtain ⟨a, rfl, h1⟩ := r1.ref_inv
    split at q
    · rename_i xs e2
      obtain ⟨ws, h2, r2⟩ := rs.cell _ a _ h1 e2
      exact ⟨_, _, rfl, .inl ⟨ws, SqL.of h2, r2.length⟩, q.same rs (.int _)⟩
    · exact q.elim
  · exact q.elim
theorem boolsOf_reps : ∀ {ds : List D} {bs : List Bool} {vs : List V}, boolsOf ds = some bs → Reps K B m H ds vs → vs = bs.map V.bl
  | [], _, _, h, r => by cases h; cases r; rfl
  | d :: ds, bs, vs, h, r => by
    cases r with
    | cons r1 r2 =>
      cases d with
      | bl b =>
        simp only [boolsOf] at h
        split at h
        · rename_i bs' e
          cases h
          rw [r1.bl_inv, boolsOf_reps e r2]; rfl
        · cases h
      | _ => simp [boolsOf] at h
theorem allBs_eq : ∀ bs : List Bool, allBs bs = bs.all id
  | [] => rfl
  | true :: bs => by simp [allBs, allBs_eq bs]
  | false :: bs => by simp [allBs]
theorem anyBs_eq : ∀ bs : List Bool, anyBs bs = bs.any id
  | [] => rfl
  | true :: bs => by simp [anyBs]
  | false :: bs => by simp [anyBs, anyBs_eq bs]
theorem b_all : BiSp K mg E allD (rAll K) := by
  intro B m H S ds vs Q rs r q
  unfold allD at q
  split at q
  · obtain ⟨v, rfl, r1⟩ := r.one
    split at q
    · rename_i es e1
      obtain ⟨a, ws, rfl, h1, r2⟩ := r1.items rs e1
      split at q
      · rename_i bs e2
        rw [boolsOf_reps e2 r2] at h1
        exact ⟨a, bs, rfl, h1, by rw [← allBs_eq]; exact q.same rs (.bl _)⟩
      · exact q.elim
    · exact q.elim
  · exact q.elim
/-- any of a tuple of ints and bools -/
def truV : V → Bool
  | .bl b => b
  | .int i => i != 0
  | _ => false
def rAnyT (K : PySem.W.Frag) : List V → Hp → VK → Prop := fun vs H Q => ∃ (a : Addr) (ws : List V), vs = [V.ref a] ∧ SqT K H a ws ∧ (∀ v ∈ ws, (∃ b, v = .bl b) ∨ ∃ i, v = .int i) ∧ Q (.bl ((ws.map truV).any id)) H
theorem truth_flat {prog : Program} {w : World} {A : Around} {ws : List V} {its : List Value} (rv : Vals ws its) (hf : ∀ v ∈ ws, (∃ b, v = .bl b) ∨ ∃ i, v = .int i) :
    TruthOf prog w A (fun i v => its.toArray[i]? = some v) (fun i => (ws.map truV).getD i false) := fun i v s Q E hv hq => by
  have hv' : its[i]? = some v := by simpa using hv
  have hl := rv.length
  have hi : i < ws.length := by
    have := (List.getElem?_eq_some_iff.mp hv').1
    omega
  obtain ⟨u, hu, ru⟩ := rv.get (List.getElem?_eq_getElem hi)
  rw [hv'] at hu
  cases hu
  have hg : (ws.map truV).getD i false = truV ws[i] := by rw [List.getD_eq_getElem?_getD, List.getElem?_map, List.getElem?_eq_getElem hi]; rfl
  have hq' : Q ((ws.map truV).getD i false) s := hq
  rw [hg] at hq'
  rcases hf _ (List.getElem_mem hi) with ⟨b, e⟩ | ⟨j, e⟩
  · rw [e] at ru hq'
    cases ru
    exact wpAny_truthy_bool hq'
  · rw [e] at ru hq'
    obtain ⟨t, rfl⟩ := ru
    exact truthy_int hq'
theorem cr_anyT (hc : X.calm = true) : CallR X (.builtin "any") (rAnyT X.K) := by
  intro pins s σ H vs us Q I r h
  obtain ⟨a, ws, rfl, hs, hf, q⟩ := h
  obtain ⟨its, rv, ht, _⟩ := I.tuple hs
  rw [Vals.ref1 r]
  have hlt : a < s.heap.objs.size := by
    obtain ⟨_, e, _⟩ := id ht
    exact Heap.lt_size e
  have ht' : s.heap.IsTuple a its.toArray := ht
  refine call_any_walk (wpAny_pyIter_tuple ht' ?_)
  refine ⟨_, _, _, _, _, _, _, rfl, Walks.tuple (A := X.A.in1) (I.ok.hd hc) s.heap.objs.size a (Nat.ne_of_lt hlt) its.toArray, ⟨⟨_, Heap.get?_push_size _ rfl, rfl, rfl⟩, ht'.at fun o e => Heap.get?_push_of_some _ e⟩, truth_flat rv hf, fun h' tk hk => ?_⟩
  refine ⟨.bl _, H, I.kept fun b o eo => hk b o (fun hm => ?_) (Heap.get?_push_of_some _ eo), ?_, q⟩
  · rcases List.mem_cons.mp hm with e1 | hm
    · exact absurd (e1 ▸ Heap.lt_size eo) (Nat.lt_irrefl _)
    · cases hm
  · show Value.bool _ = Value.bool _
    rw [← L2.any_range, List.length_map, List.size_toArray, rv.length]
theorem flatT_reps : ∀ {ds : List D} {bs : List Bool} {vs : List V}, flatT ds = some bs → Reps K B m H ds vs → (∀ v ∈ vs, (∃ b, v = .bl b) ∨ ∃ i, v = .int i) ∧ vs.map truV = bs
  | [], _, _, h, r => by cases h; cases r; exact ⟨fun _ h => (nomatch h), rfl⟩
  | d :: ds, bs, vs, h, r => by
    cases r with
    | cons r1 r2 =>
      cases d with
      | bl b =>
        simp only [flatT] at h
        split at h
        · rename_i bs' e
          cases h
          obtain ⟨h1, h2⟩ := flatT_reps e r2
          rw [r1.bl_inv]
          exact ⟨fun v hv => by rcases List.mem_cons.mp hv with z | z; · exact .inl ⟨_, z⟩
                                · exact h1 v z, by rw [List.map_cons, h2]; rfl⟩
        · cases h
      | int i =>
        simp only [flatT] at h
        split at h
        · rename_i bs' e
          cases h
          obtain ⟨h1, h2⟩ := flatT_reps e r2
          rw [r1.int_inv]
          exact ⟨fun v hv => by rcases List.mem_cons.mp hv with z | z; · exact .inr ⟨_, z⟩
                                · exact h1 v z, by rw [List.map_cons, h2]; rfl⟩
        · cases h
      | _ => simp [flatT] at h
theorem CallR.or {f : Value} {r r' : List V → Hp → VK → Prop} (h : CallR X f r) (h' : CallR X f r') : CallR X f (fun xs H Q => r xs H Q ∨ r' xs H Q) := fun pins s σ H xs us Q I v q => by
  rcases q with q | q
  · exact h pins s σ H xs us Q I v q
  · exact h' pins s σ H xs us Q I v q
theorem b_any : BiSp K mg E anyD (fun xs H Q => rAnyT K xs H Q ∨ rAny K xs H Q) := by
  intro B m H S ds vs Q rs r q
  unfold anyD at q
  split at q
  · obtain ⟨v, rfl, r1⟩ := r.one
    obtain ⟨a, ws, rfl, h1, r2⟩ := r1.tup_inv
    split at q
    · rename_i bs e1
      obtain ⟨h2, h3⟩ := flatT_reps e1 r2
      exact .inl ⟨a, ws, rfl, h1, h2, by rw [h3, ← anyBs_eq]; exact q.same rs (.bl _)⟩
    · exact q.elim
  · obtain ⟨v, rfl, r1⟩ := r.one
    split at q
    · rename_i es e1
      obtain ⟨a, ws, rfl, h1, r2⟩ := r1.items rs e1
      split at q
      · rename_i bs e2
        rw [boolsOf_reps e2 r2] at h1
        exact .inr ⟨a, bs, rfl, h1, by rw [← anyBs_eq]; exact q.same rs (.bl _)⟩
      · exact q.elim
    · exact q.elim
  · exact q.elim
theorem b_int : BiSp K mg E intD (fun xs H Q => (∃ i, xs = [.int i] ∧ Q (.int i) H) ∨ ∃ k, xs = [.bl k] ∧ Q (.int (if k = true then 1 else 0)) H) := by
  intro B m H S ds vs Q rs r q
  unfold intD at q
  split at q
  · obtain ⟨v, rfl, r1⟩ := r.one
    rw [r1.int_inv]
    exact .inl ⟨_, rfl, q.same rs (.int _)⟩
  · obtain ⟨v, rfl, r1⟩ := r.one
    rw [r1.bl_inv]
    exact .inr ⟨_, rfl, q.same rs (.int _)⟩
  · exact q.elim
theorem b_tup : BiSp K mg E tupD (fun xs H Q => ∃ p ys, xs = [.ref p] ∧ ((SqL K H p ys ∧ ∀ l, H l = none → Q (.ref l) (upd H l (.tup ys))) ∨ (SqT K H p ys ∧ Q (.ref p) H))) := by
  intro B m H S ds vs Q rs r q
  unfold tupD at q
  split at q
  · obtain ⟨v, rfl, r1⟩ := r.one
    obtain ⟨a, ws, rfl, h1, r2⟩ := r1.tup_inv
    exact ⟨a, ws, rfl, .inr ⟨h1, q.same rs (.tup h1 r2)⟩⟩
  · obtain ⟨v, rfl, r1⟩ := r.one
    split at q
    · rename_i es e1
      obtain ⟨a, ws, rfl, h1, r2⟩ := r1.items rs e1
      exact ⟨a, ws, rfl, .inl ⟨h1, Aft.newTup rs r2 q⟩⟩
    · exact q.elim
  · exact q.elim
end

/-! ## isinstance with a built-in class -/
inductive TyC where
  | int | bool | tuple | list | str | dict
def TyC.nm : TyC → String
  | .int => "int" | .bool => "bool" | .tuple => "tuple" | .list => "list" | .str => "str" | .dict => "dict"
def isaD (T : TyC) (S : Sto) : D → Option Bool
  | .non => some false
  | .bl _ => some (match T with | .int => true | .bool => true | _ => false)
  | .int _ => some (match T with | .int => true | _ => false)
  | .str _ => some (match T with | .str => true | _ => false)
  | .tup _ => some (match T with | .tuple => true | _ => false)
  | .lst _ => some (match T with | .list => true | _ => false)
  | .scr _ => some (match T with | .list => true | _ => false)
  | .ref n => match S[n]? with
    | some (.lst _) => some (match T with | .list => true | _ => false)
    | some (.dic _) => some (match T with | .dict => true | _ => false)
    | _ => none
  | .ty _ => none
  | .exv => none
  | .fn _ => none
def eIsa (T : TyC) (f : ED) : ED := fun ρ S => (f ρ S).bind fun d S1 => match isaD T S1 d with
  | some b => .ok (.bl b) S1
  | none => .bad
section
variable [TC : TabC] [AM : AmbC] {K : PySem.W.Frag} {mg : Str → Option Value} {E : XK} {X : Cx} {B m m1 m2 : List Addr} {H H1 H2 : Hp} {S : Sto} {e : Expr} {f : ED} {p p2 pos : Pos}
theorem isa_of {T : TyC} {d : D} {v : V} {b : Bool} (r : Rep K B m H d v) (rs : RepSto K B m H S) (e : isaD T S d = some b) : ∃ t, TyX K H v t ∧ PySem.W.kitOne K t (.type T.nm) = some b := by
  have tab : ∀ (a : String), kitB a T.nm = some b → PySem.W.kitOne K (.type a) (.type T.nm) = some b := fun a h => kit_ty h
  cases d with
  | non => rw [r.non_inv]; exact ⟨_, .base .non, tab _ (by cases e; cases T <;> decide +kernel)⟩
  | bl c => rw [r.bl_inv]; exact ⟨_, .base (.bl c), tab _ (by cases e; cases T <;> decide +kernel)⟩
  | int i => rw [r.int_inv]; exact ⟨_, .base (.int i), tab _ (by cases e; cases T <;> decide +kernel)⟩
  | str x => rw [r.str_inv]; exact ⟨_, .base (.str x), tab _ (by cases e; cases T <;> decide +kernel)⟩
  | tup xs =>
    obtain ⟨a, vs, rfl, h1, _⟩ := r.tup_inv
    have q : kitB "tuple" T.nm = some b := by cases e; cases T <;> decide +kernel
    rcases h1 with (h1 | ⟨o, h1⟩) | ⟨o, its, n, h1, h2, _⟩
    · exact ⟨_, .base (.tup h1), tab _ q⟩
    · exact ⟨_, .fTuple h1, tab _ q⟩
    · exact ⟨_, .kTuple h1 h2, tab _ q⟩
  | lst xs =>
    obtain ⟨a, vs, rfl, h1, _⟩ := r.lst_inv
    exact ⟨_, .base (.lst h1), tab _ (by cases e; cases T <;> decide +kernel)⟩
  | scr xs =>
    obtain ⟨a, rfl, h1⟩ := r.scr_inv
    have q : kitB "list" T.nm = some b := by cases e; cases T <;> decide +kernel
    rcases h1 with ⟨o, h1⟩ | ⟨o, its, n, h1, h2, _⟩
    · exact ⟨_, .base (.frz h1), tab _ q⟩
    · exact ⟨_, .kList h1 h2, tab _ q⟩
  | ref n =>
    obtain ⟨a, rfl, h1⟩ := r.ref_inv
    simp only [isaD] at e
    split at e
    · rename_i xs e2
      obtain ⟨vs, h2, _⟩ := rs.cell n a _ h1 e2
      exact ⟨_, .base (.lst h2), tab _ (by cases e; cases T <;> decide +kernel)⟩
    · rename_i xs e2
      obtain ⟨vs, h2, _⟩ := rs.cell n a _ h1 e2
      exact ⟨_, .base (.dK h2), tab _ (by cases e; cases T <;> decide +kernel)⟩
    · cases e
  | ty n => cases e
  | exv => cases e
  | fn n => cases e
theorem d_isa (T : TyC) (hg : L2.Gl X "isinstance") (hm : X.mg "isinstance" = none) (hg2 : L2.Gl X T.nm) (hm2 : X.mg T.nm = none) (hv : bootBuiltins T.nm = some (.type T.nm)) (he : PE X e (tD X.K mg E f))
    (hn : (T.nm : Str) ≠ "__name__" := by decide) (hd : ((T.nm : Str) == ("__debug__" : Str)) = false := by decide)
    (hs : starEach (e :: [.Name T.nm p2]) X.env = (false, eval e X.env) :: starEach [.Name T.nm p2] X.env := by rfl) :
    PE X (.Call (.Name "isinstance" p) [e, .Name T.nm p2] [] pos) (tD X.K mg E (eIsa T f)) := by
  refine PE.to (pe_callB (call_isi (X := X)) hg hm (by decide +kernel) (pa_cons he (pa_cons (pe_bltn (v := .ty T.nm) hg2 hm2 hv rfl hn hd) pa_nil) hs) (by decide) (by decide) hs rfl) fun σ H Q h => ?_
  obtain ⟨B, m, ρ, S, re, rs, q⟩ := h
  refine (part re rs q).imp ?_
  rintro v H1 ⟨m1, d, S1, x1, re1, rs1, r1, q1⟩
  split at q1
  · rename_i b eb
    obtain ⟨t, h1, h2⟩ := isa_of r1 rs1 eb
    exact ⟨v, _, t, _, b, rfl, .ty _, h1, h2, q1.same rs1 (.bl b)⟩
  · exact q1.elim
end
end Zed

namespace Zed
open PySem PySem.Spec PyProof.Rows L2 RZ

/-! ## Data as a whole: ==, repr -/
def toPL (f : D → Option PyData) : List D → Option (List PyData)
  | [] => some []
  | d :: ds => match f d with
    | some p => match toPL f ds with
      | some ps => some (p :: ps)
      | none => none
    | none => none
def toP (S : Sto) : Nat → D → Option PyData
  | 0, _ => none
  | k + 1, d => match d with
    | .non => some .none
    | .bl b => some (.bool b)
    | .int i => some (.int i)
    | .str x => some (.str x)
    | .ty _ => none
    | .exv => none
    | .fn _ => none
    | .scr ns => some (.list (ns.map PyData.int))
    | .tup xs => match toPL (toP S k) xs with
      | some ps => some (.tuple ps)
      | none => none
    | .lst xs => match toPL (toP S k) xs with
      | some ps => some (.list ps)
      | none => none
    | .ref n => match S[n]? with
      | some (.lst xs) => match toPL (toP S k) xs with
        | some ps => some (.list ps)
        | none => none
      | _ => none
section
variable [TC : TabC] [AM : AmbC] {K : PySem.W.Frag} {mg : Str → Option Value} {E : XK} {X : Cx} {B m m1 m2 : List Addr} {H H1 H2 : Hp} {S : Sto}
theorem dpAll_of {f : D → Option PyData} : ∀ {ds : List D} {ps : List PyData} {vs : List V}, toPL f ds = some ps → Reps K B m H ds vs → (∀ d p v, f d = some p → Rep K B m H d v → Dp K H v p) → DpAll K H vs ps
  | [], _, _, h, r, _ => by cases h; cases r; exact .nil
  | d :: ds, _, _, h, r, q => by
    unfold toPL at h
    split at h
    · rename_i p e1
      split at h
      · rename_i ps e2
        cases h
        cases r with
        | cons r1 r2 => exact .cons (q _ _ _ e1 r1) (dpAll_of e2 r2 q)
      · cases h
    · cases h
theorem dpAll_ints : ∀ {ns : List Int}, DpAll K H (ns.map V.int) (ns.map PyData.int)
  | [] => .nil
  | n :: ns => .cons (.int n) dpAll_ints
theorem dp_of (rs : RepSto K B m H S) : ∀ (k : Nat) {d : D} {p : PyData} {v : V}, toP S k d = some p → Rep K B m H d v → Dp K H v p
  | 0, _, _, _, h, _ => by cases h
  | k + 1, d, p, v, h, r => by
    cases d with
    | non => cases h; rw [r.non_inv]; exact .non
    | bl b => cases h; rw [r.bl_inv]; exact .bl b
    | int i => cases h; rw [r.int_inv]; exact .int i
    | str x => cases h; rw [r.str_inv]; exact .str x
    | ty n => cases h
    | exv => cases h
    | fn n => cases h
    | scr ns =>
      cases h
      obtain ⟨a, rfl, h1⟩ := r.scr_inv
      exact .lst h1.sq dpAll_ints
    | tup xs =>
      obtain ⟨a, vs, rfl, h1, r1⟩ := r.tup_inv
      simp only [toP] at h
      split at h
      · rename_i ps e1
        cases h
        exact .tup h1 (dpAll_of e1 r1 fun d p v e1 r1 => dp_of rs k e1 r1)
      · cases h
    | lst xs =>
      obtain ⟨a, vs, rfl, h1, _, _, r1⟩ := r.lst_inv
      simp only [toP] at h
      split at h
      · rename_i ps e1
        cases h
        exact .lst (SqL.of h1) (dpAll_of e1 r1 fun d p v e1 r1 => dp_of rs k e1 r1)
      · cases h
    | ref n =>
      obtain ⟨a, rfl, h1⟩ := r.ref_inv
      simp only [toP] at h
      split at h
      · rename_i xs e2
        obtain ⟨vs, h2, r1⟩ := rs.cell n a _ h1 e2
        split at h
        · rename_i ps e1
          cases h
          exact .lst (SqL.of h2) (dpAll_of e1 r1 fun d p v e1 r1 => dp_of rs k e1 r1)
        · cases h
      · cases h
end
def natsEq : List Nat → List Nat → Bool
  | [], [] => true
  | a :: as, b :: bs => match Nat.beq a b with | true => natsEq as bs | false => false
  | _, _ => false
def strEq (x y : Str) : Bool := natsEq x.cps.toList y.cps.toList
theorem natsEq_iff : ∀ {a b : List Nat}, natsEq a b = true ↔ a = b
  | [], [] => by simp [natsEq]
  | [], _ :: _ => by simp [natsEq]
  | _ :: _, [] => by simp [natsEq]
  | a :: as, b :: bs => by
    unfold natsEq
    split
    · rename_i h
      have e := Nat.eq_of_beq_eq_true h
      rw [natsEq_iff, List.cons.injEq]
      exact ⟨fun z => ⟨e, z⟩, fun z => z.2⟩
    · rename_i h
      have e := Nat.ne_of_beq_eq_false h
      simp [e]
theorem strEq_iff {x y : Str} : strEq x y = decide (x = y) := by
  have q : strEq x y = true ↔ x = y := by
    unfold strEq
    rw [natsEq_iff]
    constructor
    · intro h
      cases x; cases y
      simp at h
      rw [h]
    · intro h; rw [h]
  by_cases h : x = y
  · rw [decide_eq_true h]; exact q.mpr h
  · rw [decide_eq_false h]
    cases e : strEq x y with
    | false => rfl
    | true => exact absurd (q.mp e) h
def scalEq : D → D → Option Bool
  | .int i, .int j => some (decide (i = j))
  | .str x, .str y => some (strEq x y)
  | .bl a, .bl b => some (a == b)
  | .non, .non => some true
  | .non, .int _ => some false
  | .int _, .non => some false
  | .non, .bl _ => some false
  | .bl _, .non => some false
  | .non, .str _ => some false
  | .str _, .non => some false
  | .int _, .str _ => some false
  | .str _, .int _ => some false
  | .bl _, .str _ => some false
  | .str _, .bl _ => some false
  | _, _ => none
def eqP (S : Sto) (d e : D) : Option Bool := match scalEq d e with
  | some b => some b
  | none => match toP S 60 d, toP S 60 e with
    | some p, some q => if SeqAt.shaped p = true ∧ SeqAt.shaped q = true then some (PyData.eqv p q) else none
    | _, _ => none
def eqOD : OD := fun d e S => match eqP S d e with
  | some b => .ok (.bl b) S
  | none => .bad
def neOD : OD := fun d e S => match eqP S d e with
  | some b => .ok (.bl (!b)) S
  | none => .bad
section
variable [TC : TabC] [AM : AmbC] {K : PySem.W.Frag} {mg : Str → Option Value} {E : XK} {X : Cx} {B m m1 m2 : List Addr} {H H1 H2 : Hp} {S : Sto}
theorem scal_of {d e : D} {x y : V} {b : Bool} (h : scalEq d e = some b) (rd : Rep K B m H d x) (re : Rep K B m H e y) : scal x y = true ∧ decide (x = y) = b := by
  cases d <;> cases e <;> simp only [scalEq, Option.some.injEq, reduceCtorEq] at h <;> subst h
  all_goals first
    | (rw [rd.int_inv, re.int_inv]; exact ⟨rfl, by simp⟩)
    | (rw [rd.str_inv, re.str_inv]; exact ⟨rfl, by rw [strEq_iff]; simp⟩)
    | (rw [rd.bl_inv, re.bl_inv]; rename_i a b; exact ⟨rfl, by cases a <;> cases b <;> rfl⟩)
    | (rw [rd.non_inv, re.non_inv]; exact ⟨rfl, by simp⟩)
    | (rw [rd.non_inv, re.int_inv]; exact ⟨rfl, by simp⟩)
    | (rw [rd.int_inv, re.non_inv]; exact ⟨rfl, by simp⟩)
    | (rw [rd.non_inv, re.bl_inv]; exact ⟨rfl, by simp⟩)
    | (rw [rd.bl_inv, re.non_inv]; exact ⟨rfl, by simp⟩)
    | (rw [rd.non_inv, re.str_inv]; exact ⟨rfl, by simp⟩)
    | (rw [rd.str_inv, re.non_inv]; exact ⟨rfl, by simp⟩)
    | (rw [rd.int_inv, re.str_inv]; exact ⟨rfl, by simp⟩)
    | (rw [rd.str_inv, re.int_inv]; exact ⟨rfl, by simp⟩)
    | (rw [rd.bl_inv, re.str_inv]; exact ⟨rfl, by simp⟩)
    | (rw [rd.str_inv, re.bl_inv]; exact ⟨rfl, by simp⟩)
theorem eqP_of {d e : D} {x y : V} {b : Bool} (rs : RepSto K B m H S) (h : eqP S d e = some b) (rd : Rep K B m H d x) (re : Rep K B m H e y) : (scal x y = true ∧ decide (x = y) = b) ∨ ∃ p q, Dp K H x p ∧ Dp K H y q ∧ SeqAt.shaped p = true ∧ SeqAt.shaped q = true ∧ PyData.eqv p q = b := by
  unfold eqP at h
  split at h
  · rename_i c e1
    cases h
    exact .inl (scal_of e1 rd re)
  · split at h
    · rename_i p q e1 e2
      split at h
      · rename_i hs
        cases h
        exact .inr ⟨p, q, dp_of rs 60 e1 rd, dp_of rs 60 e2 re, hs.1, hs.2, rfl⟩
      · cases h
    · cases h
theorem sp_eq : OpSp K mg E eqOD (fun x y H Q => rEq x y H Q ∨ rEqD K x y H Q) := by
  intro B m H S d e x y Q rs rd re q
  unfold eqOD at q
  split at q
  · rename_i b eb
    have q' := q.same rs (.bl b)
    rcases eqP_of rs eb rd re with ⟨h1, h2⟩ | ⟨p, q2, h1, h2, h3, h4, h5⟩
    · exact .inl ⟨h1, by rw [h2]; exact q'⟩
    · exact .inr ⟨p, q2, h1, h2, h3, h4, by rw [h5]; exact q'⟩
  · exact q.elim
theorem sp_ne : OpSp K mg E neOD (fun x y H Q => rNe x y H Q ∨ rNeD K x y H Q) := by
  intro B m H S d e x y Q rs rd re q
  unfold neOD at q
  split at q
  · rename_i b eb
    have q' := q.same rs (.bl (!b))
    rcases eqP_of rs eb rd re with ⟨h1, h2⟩ | ⟨p, q2, h1, h2, h3, h4, h5⟩
    · exact .inl ⟨h1, by rw [h2]; exact q'⟩
    · exact .inr ⟨p, q2, h1, h2, h3, h4, by rw [h5]; exact q'⟩
  · exact q.elim
end
/-- repr -/
def reprD : AD
  | [d], S => match toP S 60 d with
    | some p => if p.showable = true ∧ p.hasDict = false ∧ p.depth ≤ 60 ∧ p.shown.length ≤ sz then .ok (.str p.shown) S else .bad
    | none => .bad
  | _, _ => .bad
def rRepr (K : PySem.W.Frag) : List V → Hp → VK → Prop := fun xs H Q => ∃ x d, xs = [x] ∧ Dp K H x d ∧ d.showable = true ∧ d.hasDict = false ∧ d.depth ≤ 60 ∧ d.shown.length ≤ sizeLine ∧ Q (.str d.shown) H
section
variable [TC : TabC] [AM : AmbC] {K : PySem.W.Frag} {mg : Str → Option Value} {E : XK} {X : Cx} {B m m1 m2 : List Addr} {H H1 H2 : Hp} {S : Sto}
theorem cr_repr (hu : X.A.units + 64 < cLine) (hg : X.A.guards = some []) : CallR X (.builtin "repr") (rRepr X.K) := by
  intro pins s σ H vs us Q I r h
  obtain ⟨x, d, rfl, hd, h1, h2, h3, h4, q⟩ := h
  obtain ⟨u, rfl, ru⟩ := r.one
  cases hd with
  | non =>
    cases ru
    exact PySem.P.repr_of_none ⟨.str _, H, I.tok _, ⟨_, rfl⟩, q⟩
  | bl b =>
    cases ru
    exact PySem.P.repr_of_bool ⟨.str _, H, I.tok _, ⟨_, rfl⟩, by cases b <;> exact q⟩
  | int i =>
    obtain ⟨t, rfl⟩ := ru
    exact PySem.P.repr_of_int (of_decide_eq_true h1) ⟨.str _, H, I.tok _, ⟨_, rfl⟩, q⟩
  | str y =>
    obtain ⟨t, rfl⟩ := ru
    exact PySem.P.repr_of_str ⟨.str _, H, I.tok _, ⟨_, rfl⟩, q⟩ h4
  | lst g1 g2 =>
    cases ru
    obtain ⟨as, rr⟩ := Dp.reads I _ _ _ (.lst g1 g2) rfl
    exact repr_of_reads' rr h1 (PyData.noDict_hsm h2) hg (by omega) (fun _ _ e => e) (fun h' u tk hk => ⟨.str _, H, I.kept hk, ⟨u, rfl⟩, q⟩) h4
  | tup g1 g2 =>
    cases ru
    obtain ⟨as, rr⟩ := Dp.reads I _ _ _ (.tup g1 g2) rfl
    exact repr_of_reads' rr h1 (PyData.noDict_hsm h2) hg (by omega) (fun _ _ e => e) (fun h' u tk hk => ⟨.str _, H, I.kept hk, ⟨u, rfl⟩, q⟩) h4
theorem b_repr : BiSp K mg E reprD (rRepr K) := by
  intro B m H S ds vs Q rs r q
  unfold reprD at q
  split at q
  · obtain ⟨v, rfl, r1⟩ := r.one
    split at q
    · rename_i p e1
      split at q
      · rename_i hh
        exact ⟨v, p, rfl, dp_of rs 60 e1 r1, hh.1, hh.2.1, hh.2.2.1, by rw [← sz_eq]; exact hh.2.2.2, q.same rs (.str _)⟩
      · exact q.elim
    · exact q.elim
  · exact q.elim
end

/-! ## Items, slices -/
def atD (ds : List D) (i : Int) : Option D := atI ds i
def itemD : OD
  | .tup xs, .int i, S => match atI xs i with
    | some d => .ok d S
    | none => .bad
  | d, .int i, S => match itemsL S d with
    | some xs => match atI xs i with
      | some d => .ok d S
      | none => .bad
    | none => .bad
  | _, _, _ => .bad
def oB (f : ED) : En → Sto → R (Option Int) := fun ρ S => (f ρ S).bind fun d S1 => match d with
  | .int i => .ok (some i) S1
  | _ => .bad
def oN : En → Sto → R (Option Int) := fun _ S => .ok none S
def cutD (xs : List D) (lo hi : Option Int) : List D := (xs.drop (HT.sIx xs.length 0 lo)).take (HT.sIx xs.length xs.length hi - HT.sIx xs.length 0 lo)
/-- xs[a:b] of a list: a new one | of a tuple -/
def lSl (f : ED) (a b : En → Sto → R (Option Int)) : LD := fun ρ S => (f ρ S).bind fun d S1 => (a ρ S1).bind fun lo S2 => (b ρ S2).bind fun hi S3 => match itemsL S3 d with
  | some xs => .ok (cutD xs lo hi) S3
  | none => .bad
def eSlT (f : ED) (a b : En → Sto → R (Option Int)) : ED := fun ρ S => (f ρ S).bind fun d S1 => (a ρ S1).bind fun lo S2 => (b ρ S2).bind fun hi S3 => match d with
  | .tup xs => .ok (.tup (cutD xs lo hi)) S3
  | _ => .bad
def tDO [TC : TabC] [AM : AmbC] (K : PySem.W.Frag) (mg : Str → Option Value) (E : XK) (f : En → Sto → R (Option Int)) : TO := fun σ H Q => ∃ B m ρ S, RepEn K B m H ρ σ ∧ RepSto K B m H S ∧ Aft K mg E B (fun _ _ (a b : Option Int) => a = b) m H (f ρ S) Q
section
variable [TC : TabC] [AM : AmbC] {K : PySem.W.Frag} {mg : Str → Option Value} {E : XK} {X : Cx} {B m m1 m2 : List Addr} {H H1 H2 : Hp} {S : Sto} {a b e : Expr} {f g : ED} {pos : Pos}
theorem atI_reps {ds : List D} {vs : List V} {i : Int} {d : D} (r : Reps K B m H ds vs) (h : atI ds i = some d) : ∃ v, atI vs i = some v ∧ Rep K B m H d v := by
  unfold atI at h ⊢
  rw [← r.length]
  cases e : ixN ds.length i with
  | none => rw [e] at h; cases h
  | some j =>
    rw [e] at h
    exact r.get h
theorem sp_item : OpSp K mg E itemD (fun x y H Q => rIxL K x y H Q ∨ rIxT K x y H Q) := by
  intro B m H S d e x y Q rs rd re q
  unfold itemD at q
  split at q
  · obtain ⟨a, vs, rfl, h1, r1⟩ := rd.tup_inv
    rw [re.int_inv]
    split at q
    · rename_i d' e1
      obtain ⟨v, e2, r2⟩ := atI_reps r1 e1
      exact .inr ⟨a, vs, _, v, rfl, rfl, h1, e2, q.same rs r2⟩
    · exact q.elim
  · rw [re.int_inv]
    split at q
    · rename_i xs e0
      obtain ⟨a, vs, rfl, h1, r1⟩ := rd.items rs e0
      split at q
      · rename_i d' e1
        obtain ⟨v, e2, r2⟩ := atI_reps r1 e1
        exact .inl ⟨a, vs, _, v, rfl, rfl, h1, e2, q.same rs r2⟩
      · exact q.elim
    · exact q.elim
  · exact q.elim
theorem d_item (ha : PE X a (tD X.K mg E f)) (hb : PE X b (tD X.K mg E g)) (hs : PlainIx b := by exact fun _ _ => rfl) : PE X (.Subscript a b pos) (tD X.K mg E (eBin itemD f g)) :=
  PE.to (pe_ix (ix_list.or ix_tup) ha hb hs) fun _ _ _ h => op_to sp_item h
theorem AftO.same {x : Option Int} {Q : Option Int → Hp → Prop} (rs : RepSto K B m H S) (q : Aft K mg E B (fun _ _ (a b : Option Int) => a = b) m H (.ok x S) Q) : Q x H := q m H x (Ex.refl rs) rs rfl
theorem o_none : PO X none (tDO K mg E oN) := ⟨fun pins s σ H Q I h => po_none.run pins s σ H Q I (by
  obtain ⟨B, m, ρ, S, re, rs, q⟩ := h
  exact AftO.same rs q)⟩
theorem o_some (he : PE X e (tD K mg E f)) : PO X (some e) (tDO K mg E (oB f)) := ⟨fun pins s σ H Q I h => (po_some he).run pins s σ H Q I (by
  obtain ⟨B, m, ρ, S, re, rs, q⟩ := h
  refine (part re rs q).imp ?_
  rintro v H1 ⟨m1, d, S1, x1, re1, rs1, r1, q1⟩
  split at q1
  · exact ⟨_, r1.int_inv, AftO.same rs1 q1⟩
  · exact q1.elim)⟩
theorem partO {γ δ : Type} {rel2 : List Addr → Hp → γ → δ → Prop} {fa : En → Sto → R (Option Int)} {ρ : En} {σ : L2.St} {g : Option Int → Sto → R γ} {Q : δ → Hp → Prop} (re : RepEn K B m H ρ σ) (rs : RepSto K B m H S) (h : Aft K mg E B rel2 m H ((fa ρ S).bind g) Q) :
    tDO K mg E fa σ H fun v H1 => ∃ m1 S1, Ex m H m1 H1 ∧ RepEn K B m1 H1 ρ σ ∧ RepSto K B m1 H1 S1 ∧ Aft K mg E B rel2 m1 H1 (g v S1) Q :=
  ⟨B, m, ρ, S, re, rs, h.bind.imp fun _ _ ⟨m1, d, S1, x, st, rl, q⟩ => ⟨m1, S1, x, re.mono x, st, by cases rl; exact q⟩⟩
theorem cut_reps {ds : List D} {vs : List V} {lo hi : Option Int} (r : Reps K B m H ds vs) : Reps K B m H (cutD ds lo hi) (cutV vs lo hi) := by
  unfold cutD cutV
  rw [r.length]
  exact (r.drop _).take _
theorem d_slT {lo hi : Option Expr} {fl fh : En → Sto → R (Option Int)} {p2 : Pos} (he : PE X e (tD X.K mg E f)) (hl : PO X lo (tDO X.K mg E fl)) (hh : PO X hi (tDO X.K mg E fh)) : PE X (.Subscript e (.Slice lo hi none p2) pos) (tD X.K mg E (eSlT f fl fh)) := by
  refine PE.to (pe_slice sl_tupA he hl hh) fun σ H Q h => ?_
  obtain ⟨B, m, ρ, S, re, rs, q⟩ := h
  refine (part re rs q).imp ?_
  rintro v H1 ⟨m1, d, S1, x1, re1, rs1, r1, q1⟩
  obtain ⟨B', m', ρ', S', h1, h2, h3⟩ := partO re1 rs1 q1
  refine ⟨B', m', ρ', S', h1, h2, h3.imp ?_⟩
  rintro o1 H2 ⟨m2, S2, x2, re2, rs2, q2⟩
  obtain ⟨B', m', ρ', S', h1, h2, h3⟩ := partO re2 rs2 q2
  refine ⟨B', m', ρ', S', h1, h2, h3.imp ?_⟩
  rintro o2 H3 ⟨m3, S3, x3, re3, rs3, q3⟩
  have r3 := r1.mono (x2.trans x3)
  split at q3
  · obtain ⟨a, vs, rfl, ha, rr⟩ := r3.tup_inv
    refine ⟨a, vs, rfl, ha, fun z => ?_, fun _ => Aft.newTup rs3 (cut_reps rr) q3⟩
    refine q3.same rs3 (.tup ha ?_)
    unfold cutD
    rw [rr.length, z.1, z.2, List.drop_zero, Nat.sub_zero, ← rr.length, List.take_length]
    exact rr
  · exact q3.elim
theorem f_sl {lo hi : Option Expr} {fl fh : En → Sto → R (Option Int)} {p2 : Pos} (he : PE X e (tD X.K mg E f)) (hl : PO X lo (tDO X.K mg E fl)) (hh : PO X hi (tDO X.K mg E fh)) : PE X (.Subscript e (.Slice lo hi none p2) pos) (tDF X.K mg E (lSl f fl fh)) := by
  refine PE.to (pe_slice sl_list he hl hh) fun σ H Q h => ?_
  obtain ⟨B, m, ρ, S, re, rs, q⟩ := h
  have key : ∀ m' H' p vs ds S', lSl f fl fh ρ S = .ok ds S' → Ex m H m' H' → RepSto X.K B m' H' S' → Reps X.K B m' H' ds vs → H' p = none → Q (.ref p) (upd H' p (.lst vs)) := by
    intro m' H' p vs ds S' e1 x rs' r' hp
    rw [e1] at q
    have hp0 : H p = none := by
      cases e0 : H p with
      | none => rfl
      | some o =>
        by_cases hm : p ∈ m
        · exact absurd hp (x.live p (x.sub p hm))
        · exact absurd hp (x.there p o e0)
    have x2 := Ex.fresh (o := HO.lst vs) rs' hp
    exact q m' _ p vs (x.trans x2) hp0 (rs'.notin hp) upd_same (rs'.hide hp) ((r'.map fun _ _ r => Rep.hide hp r).mono x2)
  have ex : ∀ x S', lSl f fl fh ρ S = .exc x S' → ∀ m' H' c od, Ex m H m' H' → RepSto X.K B m' H' S' → ExnAt X.K mg B m' H' x c od → E c od H' := by
    intro x S' e1
    rw [e1] at q
    exact q
  have nb : lSl f fl fh ρ S ≠ .bad := fun z => by rw [z] at q; exact q
  clear q
  unfold lSl at key ex nb
  refine ⟨B, m, ρ, S, re, rs, ?_⟩
  cases e1 : f ρ S with
  | exc x S1 => rw [e1] at ex; exact ex x S1 rfl
  | bad => rw [e1] at nb; exact nb rfl
  | ok d S1 =>
    rw [e1] at key ex nb
    simp only [R.bind] at key ex nb
    intro m1 H1 v x1 rs1 r1
    refine ⟨B, m1, ρ, S1, re.mono x1, rs1, ?_⟩
    cases e2 : fl ρ S1 with
    | exc x S2 => rw [e2] at ex; exact fun m' H' c od y => ex x S2 rfl m' H' c od (x1.trans y)
    | bad => rw [e2] at nb; exact nb rfl
    | ok lo' S2 =>
      rw [e2] at key ex nb
      simp only [R.bind] at key ex nb
      intro m2 H2 o2 x2 rs2 r2
      cases r2
      refine ⟨B, m2, ρ, S2, (re.mono x1).mono x2, rs2, ?_⟩
      cases e3 : fh ρ S2 with
      | exc x S3 => rw [e3] at ex; exact fun m' H' c od y => ex x S3 rfl m' H' c od ((x1.trans x2).trans y)
      | bad => rw [e3] at nb; exact nb rfl
      | ok hi' S3 =>
        rw [e3] at key ex nb
        simp only [R.bind] at key ex nb
        intro m3 H3 o3 x3 rs3 r3
        cases r3
        have r4 := r1.mono (x2.trans x3)
        cases e4 : itemsL S3 d with
        | none => rw [e4] at nb; exact absurd rfl nb
        | some xs =>
          rw [e4] at key
          obtain ⟨a, vs, rfl, ha, rr⟩ := r4.items rs3 e4
          exact ⟨a, vs, rfl, ha, fun p hp => key m3 H3 p _ _ S3 rfl ((x1.trans x2).trans x3) rs3 (cut_reps rr) hp⟩
end
end Zed

namespace Zed
open PySem PySem.Spec PyProof.Rows L2 RZ

/-! ## More calls -/
def eCall0 (g : GD) : ED := fun _ S => g [] S
def pick (pm : List Nat) (ds : List D) : Option (List D) := match pm with
  | [] => some []
  | i :: is => match ds[i]? with
    | some d => match pick is ds with
      | some es => some (d :: es)
      | none => none
    | none => none
/-- f(a, .., k = b, ..): the parameters' places among the values as written -/
def eCallK (n : Nat) (pm : List Nat) (g : GD) (f : LD) : ED := fun ρ S => (f ρ S).bind fun ds S1 => match Nat.beq ds.length n with
  | true => match pick pm ds with
    | some es => g es S1
    | none => .bad
  | false => .bad
def pickV {α : Type} : List Nat → List α → List α
  | [], _ => []
  | i :: is, us => match us[i]? with
    | some u => u :: pickV is us
    | none => pickV is us
section
variable [TC : TabC] {P : Program} {w : World} {K : PySem.W.Frag} {mg : Str → Option Value} {base : Heap} {gq : Bool} {E : XK} {k j n : Nat} {N : List Str} {sc : Scope} {X : Cx} {f : Addr} {fd : FuncData} {ps ks : List Str} {g : GD} {x : Str} {p pos : Pos} {e : Expr} {es : List Expr} {la : LD}
/-- f() -/
theorem d_call0 (c : XC P w K mg base gq E k N sc X) (F : FnG P w K mg base gq j f fd ps (spG K mg 0 g)) (hj : j ≤ k) (hg : L2.Gl X x) (hm : mg x = some (.ref f)) (hk : PySem.W.keepIn K (.ref f) = true) (hb : Binds K fd ps [])
    (hdb : (x == ("__debug__" : Str)) = false := by decide) : PE X (.Call (.Name x p) [] [] pos) (tD K mg E (eCall0 g)) := by
  refine ⟨fun pins s σ H Q I h => ?_⟩
  have hm' : X.mg x = some (.ref f) := by rw [c.mg]; exact hm
  have hk' : PySem.W.keepIn X.K (.ref f) = true := by rw [c.K]; exact hk
  obtain ⟨B, m, ρ, S, re, rs, q⟩ := h
  have hsp : spG K mg 0 g [] H Q E := ⟨B, m, [], S, rfl, .nil, rs, q⟩
  have hlen : ([] : List Value).length = ps.length := F.len _ _ _ _ hsp
  have kin : K.In s.heap := by have := I.kIn; rw [c.K] at this; exact this
  refine wpAny_Call_Name_kw (ld_glob I hg hm' ?_ hdb)
  refine PySem.W.callWith_K0 I.kIn hk' (wpAny_call (codeAny_mono (c.run F hj (us := []) (hb s [] kin hlen) I .nil hsp) fun r s' z => ?_))
  cases r with
  | error er => exact z
  | ok fl => cases fl with
    | ret u => exact z
    | next => exact z.elim
    | brk => exact z.elim
    | cont => exact z.elim
theorem pick_reps {B m : List Addr} {H : Hp} {ds : List D} {vs : List V} (r : Reps K B m H ds vs) : ∀ {pm : List Nat} {es : List D}, pick pm ds = some es → Reps K B m H es (pickV pm vs)
  | [], _, h => by cases h; exact .nil
  | i :: is, es, h => by
    unfold pick at h
    split at h
    · rename_i d e1
      split at h
      · rename_i es' e2
        cases h
        obtain ⟨v, ev, rv⟩ := r.get e1
        unfold pickV
        rw [ev]
        exact .cons rv (pick_reps r e2)
      · cases h
    · cases h
theorem pick_vals {vs : List V} {us : List Value} (r : Vals vs us) : ∀ {pm : List Nat}, Vals (pickV pm vs) (pickV pm us)
  | [] => .nil
  | i :: is => by
    unfold pickV
    cases e : vs[i]? with
    | some v =>
      obtain ⟨u, eu, ru⟩ := r.get e
      rw [eu]
      exact .cons ru (pick_vals r)
    | none =>
      rw [r.none_of e]
      exact pick_vals r
theorem pick_len {ds : List D} : ∀ {pm : List Nat} {es : List D}, pick pm ds = some es → es.length = pm.length
  | [], _, h => by cases h; rfl
  | i :: is, es, h => by
    unfold pick at h
    split at h
    · split at h
      · rename_i es' e2
        cases h
        simp [pick_len e2]
      · cases h
    · cases h
theorem PK.to {kws : List Keyword} {t t' : TA} (h : PK X kws t) (i : ∀ σ H Q, t' σ H Q → t σ H Q) : PK X kws t' := ⟨fun pos pins s σ H Q I q => h.run pos pins s σ H Q I (i _ _ _ q)⟩
theorem k_nil : PK X [] (tDL K mg E lNil) := PK.to pk_nil fun σ H Q h => by
  obtain ⟨B, m, ρ, S, re, rs, q⟩ := h
  exact q m H [] (Ex.refl rs) rs .nil
theorem k_cons {nm : Option Str} {kp : Pos} {kws : List Keyword} {fe : ED} {lb : LD} (ha : PE X e (tD K mg E fe)) (hr : PK X kws (tDL K mg E lb)) : PK X (⟨nm, e, kp⟩ :: kws) (tDL K mg E (lCons fe lb)) := by
  refine PK.to (pk_cons ha hr) fun σ H Q h => ?_
  obtain ⟨B, m, ρ, S, re, rs, q⟩ := h
  refine (part re rs q).imp ?_
  rintro v H1 ⟨m1, d, S1, x1, re1, rs1, r1, q1⟩
  refine (partL re1 rs1 q1).imp ?_
  rintro vs H2 ⟨m2, ds, S2, x2, re2, rs2, r2, q2⟩
  exact q2 m2 H2 (v :: vs) (Ex.refl rs2) rs2 (.cons (r1.mono x2) r2)
/-- all by keywords -/
theorem d_callK0 {kws : List Keyword} {pm : List Nat} (c : XC P w K mg base gq E k N sc X) (F : FnG P w K mg base gq j f fd ps (spG K mg ps.length g)) (hj : j ≤ k) (hpm : pm.length = ps.length) (hg : L2.Gl X x) (hm : mg x = some (.ref f)) (hk : PySem.W.keepIn K (.ref f) = true)
    (hb : ∀ (s : Shared) (ws : List Value), K.In s.heap → ws.length = n → BindsTo s fd ⟨[], ks.zip ws⟩ (ps.zip (pickV pm ws))) (ha : PK X kws (tDL K mg E la))
    (hall : (backToKw pos (keywordEach kws X.env)).all (·.1.isSome) = true := by rfl) (hks : (backToKw pos (keywordEach kws X.env)).filterMap (·.1) = ks := by rfl) (hdb : (x == ("__debug__" : Str)) = false := by decide)
    (hpl : ((backTo pos (starEach [] X.env)).any (·.1) || (backToKw pos (keywordEach kws X.env)).any (·.1.isNone)) = false := by rfl) : PE X (.Call (.Name x p) [] kws pos) (tD K mg E (eCallK n pm g la)) := by
  refine ⟨fun pins s σ H Q I h => ?_⟩
  have hm' : X.mg x = some (.ref f) := by rw [c.mg]; exact hm
  have hk' : PySem.W.keepIn X.K (.ref f) = true := by rw [c.K]; exact hk
  obtain ⟨B, m, ρ, S, re, rs, q⟩ := h
  refine wpAny_Call_Name_kw (ld_glob I hg hm' ?_ hdb)
  refine PySem.W.callWith_KW0 (h₀ := X.base) I.ok.mod.kin hk' hall (thn (ha.run pos pins s σ H _ I (partL re rs q)) ?_) hpl
  rintro us s1 ⟨vs, H1, I1, r, m1, ds, S1, x1, re1, rs1, r1, q1⟩
  refine ⟨I1.kIn, ?_⟩
  rw [hks]
  split at q1
  · rename_i hl
    split at q1
    · rename_i es' ep
      have hpl' : es'.length = ps.length → spG K mg ps.length g (pickV pm vs) H1 Q E := fun z => ⟨B, m1, es', S1, z, pick_reps r1 ep, rs1, q1⟩
      have kin : K.In s1.heap := by have := I1.kIn; rw [c.K] at this; exact this
      have hul : us.length = n := by rw [← r.length, ← r1.length]; exact Nat.eq_of_beq_eq_true hl
      have hlen : es'.length = ps.length := (pick_len ep).trans hpm
      · refine wpAny_call (codeAny_mono (c.run F hj (hb s1 us kin hul) I1 (pick_vals r) (hpl' hlen)) fun r s' z => ?_)
        cases r with
        | error er => exact z
        | ok fl => cases fl with
          | ret u => exact z
          | next => exact z.elim
          | brk => exact z.elim
          | cont => exact z.elim
    · exact q1.elim
  · exact q1.elim
end

/-! ## Dicts -/
def keyD : D → Option Key
  | .int i => some (.inl i)
  | .str x => some (.inr x)
  | _ => none
def keyEq : Key → Key → Bool
  | .inl i, .inl j => decide (i = j)
  | .inr x, .inr y => strEq x y
  | _, _ => false
theorem keyEq_iff (a b : Key) : keyEq a b = decide (a = b) := by
  cases a <;> cases b <;> simp [keyEq, strEq_iff]
def getK (kvs : List (Key × D)) (k : Key) : Option D := match kvs with
  | [] => none
  | (k', d) :: r => match keyEq k' k with | true => some d | false => getK r k
def hasK (kvs : List (Key × D)) (k : Key) : Bool := match kvs with
  | [] => false
  | (k', _) :: r => match keyEq k' k with | true => true | false => hasK r k
def subK (kvs : List (Key × D)) (k : Key) (d : D) : List (Key × D) := match kvs with
  | [] => []
  | (k', e) :: r => match keyEq k' k with | true => (k', d) :: subK r k d | false => (k', e) :: subK r k d
def addK (kvs : List (Key × D)) (k : Key) (d : D) : List (Key × D) := match hasK kvs k with
  | true => subK kvs k d
  | false => kvs ++ [(k, d)]
def dicOf (S : Sto) : D → Option (Nat × List (Key × D))
  | .ref n => match S[n]? with
    | some (.dic kvs) => some (n, kvs)
    | _ => none
  | _ => none
def dGetD : OD := fun d k S => match dicOf S d, keyD k with
  | some (_, kvs), some k => match getK kvs k with
    | some v => .ok v S
    | none => .bad
  | _, _ => .bad
def dInD : OD := fun k d S => match dicOf S d, keyD k with
  | some (_, kvs), some k => .ok (.bl (hasK kvs k)) S
  | _, _ => .bad
def sDPutD (fd fk fv : ED) : SD := fun ρ S => (fv ρ S).bind fun v S1 => (fd ρ S1).bind fun d S2 => (fk ρ S2).bind fun k S3 => match dicOf S3 d, keyD k with
  | some (n, kvs), some k => if kvs.length < sz then .ok (.nx ρ) (S3.set n (.dic (addK kvs k v))) else .bad
  | _, _ => .bad
/-- {'a': e, ..}: a new cell -/
def eDict (ks : List Key) (f : LD) : ED := fun ρ S => (f ρ S).bind fun ds S1 => match Nat.beq ds.length ks.length with
  | true => .ok (.ref S1.length) (S1 ++ [.dic ((ks.zip ds).foldl (fun acc kv => addK acc kv.1 kv.2) [])])
  | false => .bad
section
variable [TC : TabC] [AM : AmbC] {K : PySem.W.Frag} {mg : Str → Option Value} {E : XK} {X : Cx} {B m m1 m2 : List Addr} {H H1 H2 : Hp} {S : Sto} {o i e : Expr} {f g fv : ED} {pos pos' : Pos}
theorem getK_reps : ∀ {kvs : List (Key × D)} {kws : List (Key × V)} {k : Key} {d : D}, RepKV K B m H kvs kws → getK kvs k = some d → ∃ v, valV kws k = some v ∧ Rep K B m H d v
  | [], _, _, _, h, e => by cases e
  | (k', d') :: r, _, k, d, h, e => by
    cases h with
    | cons h1 h2 =>
      rename_i q kws'
      obtain ⟨kq, vq⟩ := q
      obtain ⟨rfl, h1⟩ := h1
      unfold getK at e
      unfold valV
      rw [List.find?_cons]
      split at e
      · rename_i c
        cases e
        rw [keyEq_iff] at c
        simp only [c]
        exact ⟨vq, rfl, h1⟩
      · rename_i c
        rw [keyEq_iff] at c
        simp only [c]
        exact getK_reps h2 e
theorem hasK_reps : ∀ {kvs : List (Key × D)} {kws : List (Key × V)} {k : Key}, RepKV K B m H kvs kws → hasK kvs k = (valV kws k).isSome ∧ hasK kvs k = (kws.any fun kv => decide (kv.1 = k))
  | [], _, _, h => by cases h; exact ⟨rfl, rfl⟩
  | (k', d') :: r, _, k, h => by
    cases h with
    | cons h1 h2 =>
      rename_i q kws'
      obtain ⟨kq, vq⟩ := q
      obtain ⟨rfl, h1⟩ := h1
      have ih := hasK_reps (k := k) h2
      unfold hasK valV
      rw [List.find?_cons, List.any_cons, ← keyEq_iff]
      cases c : keyEq k' k with
      | true => simp [c]
      | false =>
        refine ⟨?_, ?_⟩
        · have := ih.1
          unfold valV at this
          simpa [c] using this
        · simpa [c] using ih.2
theorem subK_reps : ∀ {kvs : List (Key × D)} {kws : List (Key × V)} {k : Key} {d : D} {v : V}, RepKV K B m H kvs kws → Rep K B m H d v → RepKV K B m H (subK kvs k d) (kws.map fun kv => if kv.1 = k then (kv.1, v) else kv)
  | [], _, _, _, _, h, _ => by cases h; exact .nil
  | (k', d') :: r, _, k, d, v, h, hr => by
    cases h with
    | cons h1 h2 =>
      rename_i q kws'
      obtain ⟨kq, vq⟩ := q
      obtain ⟨rfl, h1⟩ := h1
      have ih := subK_reps (k := k) h2 hr
      unfold subK
      cases c : keyEq k' k with
      | true =>
        have c' := c
        rw [keyEq_iff] at c'
        simp only [List.map_cons, of_decide_eq_true c', if_true]
        exact .cons ⟨rfl, hr⟩ (by have e := of_decide_eq_true c'; subst e; exact ih)
      | false =>
        have c' := c
        rw [keyEq_iff] at c'
        simp only [List.map_cons, of_decide_eq_false c', if_false]
        exact .cons ⟨rfl, h1⟩ ih
theorem RepKV.append {a b : List (Key × D)} {c d : List (Key × V)} (h1 : RepKV K B m H a c) (h2 : RepKV K B m H b d) : RepKV K B m H (a ++ b) (c ++ d) := by
  unfold RepKV at h1 h2 ⊢
  induction h1 with
  | nil => exact h2
  | cons r _ ih => exact .cons r ih
theorem addK_reps {kvs : List (Key × D)} {kws : List (Key × V)} {k : Key} {d : D} {v : V} (h : RepKV K B m H kvs kws) (hr : Rep K B m H d v) : RepKV K B m H (addK kvs k d) (putK kws k v) := by
  unfold addK putK
  rw [← (hasK_reps (k := k) h).2]
  cases c : hasK kvs k with
  | true => rw [if_pos rfl]; exact subK_reps h hr
  | false => rw [if_neg (by simp)]; exact h.append (.cons ⟨rfl, hr⟩ .nil)
theorem RepKV.length {a : List (Key × D)} {c : List (Key × V)} (h : RepKV K B m H a c) : a.length = c.length := Paired.length h
theorem dic_of {d : D} {v : V} {n : Nat} {kvs : List (Key × D)} (r : Rep K B m H d v) (rs : RepSto K B m H S) (e : dicOf S d = some (n, kvs)) : ∃ a kws, v = .ref a ∧ m[n]? = some a ∧ S[n]? = some (.dic kvs) ∧ H a = some (.dK kws) ∧ RepKV K B m H kvs kws := by
  cases d with
  | ref k =>
    obtain ⟨a, rfl, h1⟩ := r.ref_inv
    simp only [dicOf] at e
    split at e
    · rename_i kvs' e2
      cases e
      obtain ⟨kws, h2, r1⟩ := rs.cell n a _ h1 e2
      exact ⟨a, kws, rfl, h1, e2, h2, r1⟩
    · cases e
  | _ => cases e
theorem key_of {d : D} {v : V} {k : Key} (r : Rep K B m H d v) (e : keyD d = some k) : v = kV k := by
  cases d with
  | int i => cases e; exact r.int_inv
  | str x => cases e; exact r.str_inv
  | _ => cases e
theorem d_dget (hu : X.A.units + 1 < cLine) (ho : PE X o (tD K mg E f)) (hi : PE X i (tD K mg E g)) (hs : NoSl i := by exact fun _ _ => rfl) : PE X (.Subscript o i pos) (tD K mg E (eBin dGetD f g)) := by
  refine PE.to (pe_dget hu ho hi hs) fun σ H Q h => ?_
  obtain ⟨B, m, ρ, S, re, rs, q⟩ := h
  refine (part re rs q).imp ?_
  rintro v H1 ⟨m1, d, S1, x1, re1, rs1, r1, q1⟩
  refine (part re1 rs1 q1).imp ?_
  rintro w H2 ⟨m2, k, S2, x2, re2, rs2, r2, q2⟩
  unfold dGetD at q2
  split at q2
  · rename_i n kvs k' e1 e2
    obtain ⟨a, kws, rfl, h1, h2, h3, h4⟩ := dic_of (r1.mono x2) rs2 e1
    have ek := key_of r2 e2
    split at q2
    · rename_i d' e3
      obtain ⟨v', h5, h6⟩ := getK_reps h4 e3
      exact ⟨a, v', rfl, .inl ⟨kws, k', .inl h3, ek, h5.symm⟩, q2.same rs2 h6⟩
    · exact q2.elim
  · exact q2.elim
theorem s_dput {value : Expr} (hu : X.A.units + 1 < cLine) (ho : PE X o (tD K mg E f)) (hi : PE X i (tD K mg E g)) (hv : PE X value (tD K mg E fv)) (hs : swapsWith value (some (.Subscript o i pos')) pos.line X.env = pure false := by rfl) :
    PS X (.Assign [.Subscript o i pos'] value pos) (tDS K mg E (sDPutD f g fv)) := by
  refine PS.to (ps_dput hu ho hi hv hs) fun F σ H h => ?_
  obtain ⟨B, m, ρ, S, re, rs, q⟩ := h
  refine (partS re rs q).imp ?_
  rintro v H1 ⟨m1, dv, S1, x1, re1, rs1, r1, q1⟩
  refine (partS re1 rs1 q1).imp ?_
  rintro w H2 ⟨m2, d, S2, x2, re2, rs2, r2, q2⟩
  refine (partS re2 rs2 q2).imp ?_
  rintro y H3 ⟨m3, k, S3, x3, re3, rs3, r3, q3⟩
  split at q3
  · rename_i n kvs k' e1 e2
    obtain ⟨a, kws, rfl, h1, h2, h3, h4⟩ := dic_of (r2.mono x3) rs3 e1
    have ek := key_of r3 e2
    split at q3
    · rename_i hl
      have ha := List.mem_of_getElem? h1
      have xw := Ex.write (o := HO.dK (putK kws k' v)) rs3 ha
      have rv := (r1.mono (x2.trans x3))
      refine ⟨a, _, rfl, .inl ⟨kws, k', h3, ek, by rw [← sz_eq, ← h4.length]; exact hl, rfl⟩, ?_⟩
      exact q3 m3 _ xw (rs3.write h1 (fun ps z => by rw [h3] at z; cases z) ⟨_, upd_same, RepKV.mono xw (addK_reps h4 rv)⟩) σ (re3.mono xw)
    · exact q3.elim
  · exact q3.elim
/-- the entries of a display, from the left -/
structure DDs [TC : TabC] [AM : AmbC] (X : Cx) (K : PySem.W.Frag) (mg : Str → Option Value) (E : XK) (pos : Pos) (keys : List (Option Expr)) (vals : List Expr) (ks : List Key) (g : LD) : Prop where
  to : ∃ trs, PPs X pos keys vals trs ∧ keys.length = ks.length ∧ vals.length = ks.length ∧ keys.all (·.isSome) = true ∧
    ∀ σ H Q, tDL K mg E g σ H (fun vs H1 => vs.length = ks.length ∧ Q ((ks.map kV).zip vs) H1) → tPairs trs σ H Q
theorem dd_nil : DDs X K mg E pos [] [] [] lNil := ⟨[], pps_nil, rfl, rfl, rfl, fun σ H Q h => by
  obtain ⟨B, m, ρ, S, re, rs, q⟩ := h
  exact (q m H [] (Ex.refl rs) rs .nil).2⟩
theorem dd_cons {x : Str} {j : Nat} {p : Pos} {keys : List (Option Expr)} {vals : List Expr} {ks : List Key} {lg : LD} (he : PE X e (tD K mg E f)) (h : DDs X K mg E pos keys vals ks lg) :
    DDs X K mg E pos (some (.Constant (.str x) j p) :: keys) (e :: vals) (.inr x :: ks) (lCons f lg) := by
  obtain ⟨trs, h1, h2, h3, h4, h5⟩ := h.to
  refine ⟨(tC (.str x), tD K mg E f) :: trs, pps_cons pe_str he h1, by simp [h2], by simp [h3], by simp [h4], fun σ H Q q => ?_⟩
  obtain ⟨B, m, ρ, S, re, rs, q⟩ := q
  refine (part re rs q).imp ?_
  rintro v H1 ⟨m1, d, S1, x1, re1, rs1, r1, q1⟩
  refine h5 σ H1 _ ((partL re1 rs1 q1).imp ?_)
  rintro vs H2 ⟨m2, ds, S2, x2, re2, rs2, r2, q2⟩
  have z := q2 m2 H2 (v :: vs) (Ex.refl rs2) rs2 (.cons (r1.mono x2) r2)
  exact ⟨by simpa using z.1, z.2⟩
theorem foldl_addK {ks : List Key} {ds : List D} {vs : List V} (h : Reps K B m H ds vs) : ∀ {acc : List (Key × D)} {bcc : List (Key × V)}, RepKV K B m H acc bcc → RepKV K B m H ((ks.zip ds).foldl (fun acc kv => addK acc kv.1 kv.2) acc) ((ks.zip vs).foldl (fun acc kv => putK acc kv.1 kv.2) bcc) := by
  induction ks generalizing ds vs with
  | nil => intro acc bcc r; exact r
  | cons k ks ih =>
    intro acc bcc r
    cases h with
    | nil => exact r
    | cons r1 r2 => exact ih r2 (addK_reps r r1)
theorem zip_kV : ∀ {ks : List Key} {vs : List V}, (ks.map kV).zip vs = (ks.zip vs).map fun kv => (kV kv.1, kv.2)
  | [], _ => rfl
  | _ :: _, [] => rfl
  | k :: ks, v :: vs => by
    simp only [List.map_cons, List.zip_cons_cons]
    rw [zip_kV]
theorem d_dict {keys : List (Option Expr)} {vals : List Expr} {ks : List Key} {lg : LD} (h : DDs X K mg E pos keys vals ks lg) (h0 : keys ≠ []) (h15 : keys.length ≤ 15) : PE X (.Dict keys vals pos) (tD K mg E (eDict ks lg)) := by
  obtain ⟨trs, h1, h2, h3, h4, h5⟩ := h.to
  refine PE.to (pe_disp h1 h4 (h2.trans h3.symm) h0 h15) fun σ H Q h => ?_
  obtain ⟨B, m, ρ, S, re, rs, q⟩ := h
  intro p hp
  have xp := Ex.fresh (o := HO.dK []) rs hp
  have rs1 := rs.hide (o := HO.dK []) hp
  have re1 : RepEn K (p :: B) m (upd H p (.dK [])) ρ σ := (re.map fun _ _ r => Rep.hide hp r).mono xp
  refine h5 σ _ _ ⟨p :: B, m, ρ, S, re1, rs1, ?_⟩
  unfold eDict at q
  cases el : lg ρ S with
  | exc x S1 =>
    rw [el] at q
    exact fun m' H' c od y st ea => q m' H' c od (xp.trans y) st.unhide (by
      obtain ⟨C, dd, fvs, g1, g2, g3, g4, g5, g5b, g6⟩ := ea
      exact ⟨C, dd, fvs, g1, g2, g3, g4, g5, fun z => g5b (List.mem_cons_of_mem _ z), Paired.mapP g6 fun _ _ z => ⟨z.1, z.2.unhide⟩⟩)
  | bad => rw [el] at q; exact q
  | ok ds S1 =>
    rw [el] at q
    simp only [R.bind] at q
    intro m2 H2 vs x2 rs2 r2
    split at q
    · rename_i hl
      have hdl : ds.length = ks.length := Nat.eq_of_beq_eq_true hl
      have hvl : vs.length = ks.length := by rw [← r2.length, hdl]
      have hpe : H2 p = some (.dK []) := x2.keep p _ upd_same (fun _ z => nomatch z) (fun z => (rs.live p z) hp)
      refine ⟨hvl, hpe, ks.zip vs, ?_, ?_, ?_⟩
      · exact zip_kV
      · rw [List.length_zip, hvl, Nat.min_self, ← h2]; exact h15
      · -- the new cell
        have xq := xp.trans x2
        have hpm : p ∉ m2 := (rs2.hid p List.mem_cons_self).1
        have hpB : p ∉ B := fun z => (rs.hid p z).2 hp
        let o : HO := .dK (mergeK [] (ks.zip vs))
        have live2 : ∀ a ∈ m2, a ≠ p := fun a ha z => hpm (z ▸ ha)
        have weak : ∀ d v, Rep K (p :: B) m2 H2 d v → Rep K B (m2 ++ [p]) (upd H2 p o) d v := fun d v r => by
          have w : ExW (p :: B) m2 H2 m2 (upd H2 p o) := ⟨⟨[], by simp, by simp⟩, fun a u e1 _ _ hb => by rw [upd_ne (fun z => hb (by rw [z]; exact List.mem_cons_self))]; exact e1, fun a u e1 => by
              by_cases z : a = p
              · rw [z, upd_same]; simp
              · rw [upd_ne z, e1]; simp, fun a ha => by rw [upd_ne (live2 a ha)]; exact rs2.live a ha,
            fun a xs e1 => by rw [upd_ne (fun z => by rw [z, hpe] at e1; cases e1)]; exact e1, fun a u w e1 => by rw [upd_ne (fun z => by rw [z, hpe] at e1; cases e1)]; exact e1⟩
          exact (r.monoW w).cell
        have rsq : RepSto K B (m2 ++ [p]) (upd H2 p o) (S1 ++ [.dic ((ks.zip ds).foldl (fun acc kv => addK acc kv.1 kv.2) [])]) := by
          refine ⟨by simp [rs2.len], ?_, fun b hb => ⟨fun z => ?_, ?_⟩, fun n a c e1 e2 => ?_, rs2.tab.app _ _⟩
          · rw [List.nodup_append]
            refine ⟨rs2.nd, by simp, fun a ha b hb => ?_⟩
            rw [show b = p by simpa using hb]
            exact live2 a ha
          · rcases List.mem_append.mp z with z | z
            · exact (rs2.hid b (List.mem_cons_of_mem _ hb)).1 z
            · exact hpB ((show b = p by simpa using z) ▸ hb)
          · rw [upd_ne (fun z => hpB (by rw [← z]; exact hb))]
            exact (rs2.hid b (List.mem_cons_of_mem _ hb)).2
          · by_cases hn : n < m2.length
            · rw [List.getElem?_append_left hn] at e1
              rw [List.getElem?_append_left (by rw [← rs2.len]; exact hn)] at e2
              have q2 := rs2.cell n a c e1 e2
              have ne := live2 a (List.mem_of_getElem? e1)
              cases c with
              | lst ds => obtain ⟨vs, g1, g2⟩ := q2; exact ⟨vs, by rw [upd_ne ne]; exact g1, g2.map weak⟩
              | dic kvs => obtain ⟨kws, g1, g2⟩ := q2; exact ⟨kws, by rw [upd_ne ne]; exact g1, Paired.mapP g2 fun _ _ z => ⟨z.1, weak _ _ z.2⟩⟩
              | tbl y =>
                obtain ⟨ps, g1, g2, k⟩ := q2
                refine ⟨ps, by rw [upd_ne ne]; exact g1, g2, fun pos cv hc => ?_⟩
                obtain ⟨c, ec, k1, k2, k3⟩ := k pos cv hc
                have hcp : c ≠ p := fun z => k3 (by rw [z]; exact List.mem_cons_self)
                refine ⟨c, ec, by rw [upd_ne hcp]; exact k1, fun z => ?_, fun z => k3 (List.mem_cons_of_mem _ z)⟩
                rcases List.mem_append.mp z with z | z
                · exact k2 z
                · exact hcp (by simpa using z)
            · have hn' : m2.length ≤ n := by omega
              rw [List.getElem?_append_right hn'] at e1
              rw [List.getElem?_append_right (by rw [← rs2.len]; exact hn'), ← rs2.len] at e2
              cases z : n - m2.length with
              | zero =>
                rw [z] at e1 e2
                simp at e1 e2
                rw [← e1, ← e2]
                exact ⟨_, upd_same, foldl_addK (r2.map weak) .nil⟩
              | succ k => rw [z] at e1; simp at e1
        refine q (m2 ++ [p]) _ _ ⟨?_, fun a u e1 ht hm => ?_, rsq.live, fun a xs e1 => ?_, fun a u w e1 => ?_, fun a u e1 => ?_⟩ rsq (.ref ?_)
        · obtain ⟨e', ee, he'⟩ := xq.app
          exact ⟨e' ++ [p], by rw [ee, List.append_assoc], fun a ha => by
            rcases List.mem_append.mp ha with ha | ha
            · exact he' a ha
            · rw [show a = p by simpa using ha]; exact hp⟩
        · rw [upd_ne (ne_of_none e1 hp)]; exact xq.keep a u e1 ht hm
        · rw [upd_ne (ne_of_none e1 hp)]; exact xq.tups a xs e1
        · rw [upd_ne (ne_of_none e1 hp)]; exact xq.frzs a u w e1
        · rw [upd_ne (ne_of_none e1 hp)]; exact xq.there a u e1
        · rw [← rs2.len, List.getElem?_append_right (Nat.le_refl _), Nat.sub_self]; rfl
    · exact q.elim
end

/-! ## Lists that change -/
def lstOf (S : Sto) : D → Option (Nat × List D)
  | .ref n => match S[n]? with
    | some (.lst xs) => some (n, xs)
    | _ => none
  | _ => none
def eApp (f g : ED) : ED := fun ρ S => (f ρ S).bind fun d S1 => match lstOf S1 d with
  | some _ => (g ρ S1).bind fun y S2 => match lstOf S2 d with
    | some (n, xs) => if xs.length < sz then .ok .non (S2.set n (.lst (xs ++ [y]))) else .bad
    | none => .bad
  | none => .bad
/-- xs.extend(ys) -/
def eExt (f g : ED) : ED := fun ρ S => (f ρ S).bind fun d S1 => match lstOf S1 d with
  | some _ => (g ρ S1).bind fun y S2 => match lstOf S2 d, itemsW S2 y with
    | some (n, xs), some ys => if xs.length + ys.length ≤ sz then .ok .non (S2.set n (.lst (xs ++ ys))) else .bad
    | _, _ => .bad
  | none => .bad
section
variable [TC : TabC] [AM : AmbC] {K : PySem.W.Frag} {mg : Str → Option Value} {E : XK} {X : Cx} {B m m1 m2 : List Addr} {H H1 H2 : Hp} {S : Sto} {o e : Expr} {f g : ED} {apos cpos : Pos}
theorem lst_of {d : D} {v : V} {n : Nat} {xs : List D} (r : Rep K B m H d v) (rs : RepSto K B m H S) (e : lstOf S d = some (n, xs)) : ∃ a vs, v = .ref a ∧ m[n]? = some a ∧ H a = some (.lst vs) ∧ Reps K B m H xs vs := by
  cases d with
  | ref k =>
    obtain ⟨a, rfl, h1⟩ := r.ref_inv
    simp only [lstOf] at e
    split at e
    · rename_i kvs' e2
      cases e
      obtain ⟨vs, h2, r1⟩ := rs.cell n a _ h1 e2
      exact ⟨a, vs, rfl, h1, h2, r1⟩
    · cases e
  | _ => cases e
theorem AftL.nil {σ : L2.St} {Q : List V → Hp → Prop} (rs : RepSto K B m H S) (h : Q [] H) : tNil σ H Q := h
theorem d_app (ho : PE X o (tD X.K mg E f)) (he : PE X e (tD X.K mg E g)) (hbase : attributeBase o "append" X.env (eval o X.env) = eval o X.env := by rfl)
    (hst : starEach (e :: []) X.env = (false, eval e X.env) :: starEach [] X.env := by rfl)
    (h30 : ((((backTo cpos (starEach (e :: []) X.env)).all fun x => !x.1) && (backToKw cpos (keywordEach [] X.env)).all fun x => x.1.isSome) && decide (((e :: []).length + ([] : List Keyword).length + if ([] : List Keyword).isEmpty = true then 0 else 1) < 30)) = true := by rfl)
    (hl : (apos.endLine == cpos.line) = true := by rfl) (hpl : (backTo cpos (starEach [] X.env)).any (·.1) = false := by rfl) :
    PE X (.Call (.Attribute o "append" apos) [e] [] cpos) (tD X.K mg E (eApp f g)) := by
  refine PE.to (pe_bm PySem.F.plainAttrs_list PySem.F.slot_list_append PySem.F.type_list_append mt_append ho (pa_cons he pa_nil hst) hbase h30 hl hst hpl) fun σ H Q h => ?_
  obtain ⟨B, m, ρ, S, re, rs, q⟩ := h
  refine (part re rs q).imp ?_
  rintro v H1 ⟨m1, d, S1, x1, re1, rs1, r1, q1⟩
  split at q1
  · rename_i nx e0
    obtain ⟨n0, xs0⟩ := nx
    obtain ⟨a, vs, rfl, h1, h2, h3⟩ := lst_of r1 rs1 e0
    refine ⟨.inl ⟨rfl, vs, SqL.of h2⟩, ?_⟩
    have z := part re1 rs1 q1
    obtain ⟨B', m', ρ', S', g1, g2, g3⟩ := z
    refine ⟨B', m', ρ', S', g1, g2, g3.imp ?_⟩
    rintro w H2 ⟨m2, y, S2, x2, re2, rs2, r2, q2⟩
    refine AftL.nil rs2 ?_
    split at q2
    · rename_i n xs e1
      obtain ⟨a', ws, ea, k1, k2, k3⟩ := lst_of (r1.mono x2) rs2 e1
      cases ea
      split at q2
      · rename_i hl
        have ha := List.mem_of_getElem? k1
        have xw := Ex.write (o := HO.lst (ws ++ [w])) rs2 ha
        exact ⟨a, ws, w, rfl, rfl, k2, by rw [← sz_eq, ← k3.length]; exact hl, q2 m2 _ .non xw (rs2.write k1 (fun ps z => by rw [k2] at z; cases z) ⟨_, upd_same, (k3.append (.cons r2 .nil)).mono xw⟩) .non⟩
      · exact q2.elim
    · exact q2.elim
  · exact q1.elim
end
end Zed

namespace Zed
open PySem PySem.Spec PyProof.Rows L2 RZ

/-! ## Tuples of ints in order -/
def lexLt : List Int → List Int → Bool
  | [], [] => false
  | [], _ :: _ => true
  | _ :: _, [] => false
  | a :: as, b :: bs => match decide (a = b) with
    | true => lexLt as bs
    | false => decide (a < b)
theorem lexLt_asym : ∀ a b : List Int, lexLt a b = true → lexLt b a = false
  | [], [], h => by cases h
  | [], _ :: _, _ => rfl
  | _ :: _, [], h => by cases h
  | a :: as, b :: bs, h => by
    by_cases e : a = b
    · subst e
      simp [lexLt] at h ⊢
      exact lexLt_asym as bs h
    · have e' : ¬ b = a := fun z => e z.symm
      simp [lexLt, e, e'] at h ⊢
      omega
theorem lexLt_anti : ∀ a b : List Int, lexLt a b = false → lexLt b a = false → a = b
  | [], [], _, _ => rfl
  | [], _ :: _, h, _ => by cases h
  | _ :: _, [], _, h => by cases h
  | a :: as, b :: bs, h, g => by
    by_cases e : a = b
    · subst e
      simp [lexLt] at h g
      rw [lexLt_anti as bs h g]
    · have e' : ¬ b = a := fun z => e z.symm
      simp [lexLt, e, e'] at h g
      omega
theorem lexLt_tr : ∀ x y z : List Int, lexLt y x = false → lexLt z y = false → lexLt z x = false
  | [], y, [], _, _ => rfl
  | [], [], _ :: _, _, g => by cases g <;> rfl
  | [], _ :: _, _ :: _, _, _ => rfl
  | _ :: _, [], _, h, _ => by cases h
  | x :: xs, y :: ys, [], h, g => by cases g
  | x :: xs, y :: ys, z :: zs, h, g => by
    by_cases e1 : y = x
    · subst e1
      by_cases e2 : z = y
      · subst e2
        simp [lexLt] at h g ⊢
        exact lexLt_tr xs ys zs h g
      · simp [lexLt, e2] at h g ⊢
        omega
    · by_cases e2 : z = y
      · subst e2
        simp [lexLt, e1] at h g ⊢
        omega
      · have e3 : ¬ z = x := fun q => by simp [lexLt, e1, e2] at h g; omega
        simp [lexLt, e1, e2, e3] at h g ⊢
        omega
def insL (x : List Int) : List (List Int) → List (List Int)
  | [] => [x]
  | y :: ys => match lexLt x y with
    | true => x :: y :: ys
    | false => y :: insL x ys
def srtL : List (List Int) → List (List Int)
  | [] => []
  | x :: xs => insL x (srtL xs)
theorem insL_perm (x : List Int) : ∀ ys, (insL x ys).Perm (x :: ys)
  | [] => .refl _
  | y :: ys => by
    unfold insL
    split
    · exact .refl _
    · exact ((insL_perm x ys).cons y).trans (.swap x y ys)
theorem srtL_perm : ∀ xs, (srtL xs).Perm xs
  | [] => .refl _
  | x :: xs => (insL_perm x _).trans ((srtL_perm xs).cons x)
theorem insL_srt (x : List Int) : ∀ ys : List (List Int), ys.Pairwise (fun a b => lexLt b a = false) → (insL x ys).Pairwise (fun a b => lexLt b a = false)
  | [], _ => List.pairwise_singleton _ _
  | y :: ys, h => by
    unfold insL
    have hy := List.pairwise_cons.mp h
    split
    · rename_i e
      refine List.pairwise_cons.mpr ⟨fun z hz => ?_, h⟩
      have e1 := lexLt_asym _ _ e
      rcases List.mem_cons.mp hz with q | q
      · rw [q]; exact e1
      · exact lexLt_tr _ _ _ e1 (hy.1 z q)
    · rename_i e
      refine List.pairwise_cons.mpr ⟨fun z hz => ?_, insL_srt x ys hy.2⟩
      rcases List.mem_cons.mp ((insL_perm x ys).mem_iff.mp hz) with q | q
      · rw [q]; exact e
      · exact hy.1 z q
theorem srtL_srt : ∀ xs, (srtL xs).Pairwise (fun a b => lexLt b a = false)
  | [] => .nil
  | x :: xs => insL_srt x _ (srtL_srt xs)
theorem srtL_uniq {xs ys : List (List Int)} (p : ys.Perm xs) (h : ys.Pairwise (fun a b => lexLt b a = false)) : ys = srtL xs :=
  List.Perm.eq_of_pairwise (le := fun a b => lexLt b a = false) (fun a b _ _ h1 h2 => lexLt_anti a b h2 h1) h (srtL_srt xs) (p.trans (srtL_perm xs).symm)

section
variable {prog : Program} {w : World} {A : Around} {E : Value → Shared → Prop} {s : Shared} {Q : Bool → Shared → Prop}
theorem intsAre_len {xs : List Value} {ns : List Int} (h : IntsAre xs ns) : xs.length = ns.length := by
  induction h with
  | nil => rfl
  | cons n t _ ih => simp [ih]
theorem lex_any {b fin : Bool} {xs ys : List Value} {ns ms : List Int} (i : Nat) (hx : IntsAre xs ns) (hy : IntsAre ys ms) (hf : (ns.length ≤ ms.length ∨ True) ∧ (∀ k, ns.length = k + 0 → True))
    (hfin : ∀ k ns' ms', ns = k ++ ns' → ms = k ++ ms' → (ns' = [] ∨ ms' = []) → fin = lexLt ns' ms') (h : Q (lexLt ns ms) s) : PySem.W.KatLex prog w A b fin Q (xs.zip ys) i s := by
  clear hf
  induction hx generalizing ys ms i with
  | nil =>
    have e := hfin [] [] ms rfl rfl (.inl rfl)
    rw [List.zip_nil_left]
    refine PySem.W.kat_nil ?_
    rw [e]; exact h
  | @cons p t xs ns hx ih =>
    cases hy with
    | nil =>
      have e := hfin [] (p :: ns) [] rfl rfl (.inr rfl)
      rw [List.zip_nil_right]
      refine PySem.W.kat_nil ?_
      rw [e]; exact h
    | @cons q u ys ms hy =>
      rw [List.zip_cons_cons]
      refine PySem.W.kat_cons (SeqAt.EqAt.int_int p t q u prog w _ _ ?_)
      refine PySem.W.kat_go (fun e1 => ?_) (fun e1 => ?_)
      · have ex : p = q := by simpa using e1
        refine PySem.W.kat_yes (ih (i + 1) hy (fun k ns' ms' e2 e3 e4 => ?_) ?_)
        · exact hfin (p :: k) ns' ms' (by rw [e2]; rfl) (by rw [e3, ex]; rfl) e4
        · subst ex
          simpa [lexLt] using h
      · have ex : ¬ p = q := by simpa using e1
        refine PySem.W.kat_no (TS.oneLt_ints _ ?_)
        simpa [lexLt, ex] using h
theorem lt_tups {v u : Value} {ns ms : List Int} {b : Bool} (hv : TS.TupInts s.heap v ns) (hu : TS.TupInts s.heap u ms) (h : Q (lexLt ns ms) s) : wpAny (model prog w) A (keyLt' (tuples' b) v u) Q E s := by
  obtain ⟨a, xs, rfl, ⟨o, ho, hc, n, hd⟩, hi⟩ := hv
  obtain ⟨a', ys, rfl, ⟨o', ho', hc', n', hd'⟩, hi'⟩ := hu
  refine PySem.W.kat_lt ho hd ho' hd' ?_
  refine lex_any 0 hi hi' ⟨.inr trivial, fun _ _ => trivial⟩ (fun k ns' ms' e1 e2 e3 => ?_) h
  have l1 : xs.size = k.length + ns'.length := by rw [← Array.length_toList, intsAre_len hi, e1, List.length_append]
  have l2 : ys.size = k.length + ms'.length := by rw [← Array.length_toList, intsAre_len hi', e2, List.length_append]
  rcases e3 with rfl | rfl
  · cases ms' with
    | nil => simp [lexLt]; simp at l1 l2; omega
    | cons m ms' => simp [lexLt]; simp at l1 l2; omega
  · cases ns' with
    | nil => simp [lexLt]; simp at l1 l2; omega
    | cons m ms' => simp [lexLt]; simp at l1 l2; omega
abbrev ltT (h : Heap) : Value → Value → Bool := fun v u => lexLt (TS.intsOf h v) (TS.intsOf h u)
theorem swoT (h : Heap) : SrtO.Swo (ltT h) := ⟨fun _ _ => lexLt_asym _ _, fun _ _ _ => lexLt_tr _ _ _⟩
theorem firstsT {h : Heap} : ∀ {vs : List Value}, (∀ v ∈ vs, ∃ ns, ns ≠ [] ∧ TS.TupInts h v ns) → ∃ fs : List Value, PySem.W.KatTups h vs fs ∧ fs.length = vs.length ∧ ∀ f ∈ fs, ∃ x t, f = Value.int x t
  | [], _ => ⟨[], PySem.W.KatTups.nil, rfl, fun f hf => by cases hf⟩
  | v :: vs, hh => by
    obtain ⟨fs, h1, h2, h3⟩ := firstsT (vs := vs) fun v hv => hh v (List.mem_cons_of_mem _ hv)
    obtain ⟨ns, hne, a, xs, rfl, ⟨o, ho, hc, n, hd⟩, hi⟩ := hh v List.mem_cons_self
    cases ns with
    | nil => exact absurd rfl hne
    | cons k ns =>
      cases e : xs.toList with
      | nil => rw [e] at hi; cases hi
      | cons f r =>
        rw [e] at hi
        cases hi with
        | cons _ t hi =>
          refine ⟨.int k t :: fs, PySem.W.KatTups.cons ho hc hd ?_ h1, by simp [h2], fun g hg => ?_⟩
          · rw [← Array.getElem?_toList, e]; rfl
          · rcases List.mem_cons.mp hg with z | z
            · exact ⟨k, t, z⟩
            · exact h3 g z
theorem sortableT {a : Addr} {vs : List Value} (h2 : 2 ≤ vs.length) (hp : ∀ v ∈ vs, ∃ ns, ns ≠ [] ∧ TS.TupInts s.heap v ns) (h0 : Heap) (hk : ∀ v ∈ vs, TS.intsOf h0 v = TS.intsOf s.heap v) (ha : ∀ o, s.heap.get? a = some o → o.cls ≠ .type "tuple") : SrtO.SortableO prog w A s a vs (ltT h0) := by
  intro h' keep
  have kp : ∀ b o, s.heap.get? b = some o → o.cls = .type "tuple" → h'.get? b = some o := fun b o e c => keep b o (fun z => by subst z; exact ha o e c) e
  have hp' : ∀ v ∈ vs, ∃ ns, ns ≠ [] ∧ TS.TupInts h' v ns := fun v hm => by
    obtain ⟨ns, h1, h2⟩ := hp v hm
    exact ⟨ns, h1, h2.keeps kp⟩
  obtain ⟨fs, f1, f2, f3⟩ := firstsT hp'
  refine ⟨tuples' true, fun Q E hq => ?_, ?_⟩
  · refine PySem.W.kat_kind (T := .type "int") f1 (by omega) (fun f hm => ?_) (by rfl) ?_
    · obtain ⟨x, t, rfl⟩ := f3 f hm
      exact PySem.W.Looks.now
    · have e : (Value.type "int" != Value.type "tuple") = true := by first | decide +kernel | rfl | decide
      rw [e]
      exact hq
  · intro p q hm hm'
    obtain ⟨ns, _, t1⟩ := hp _ hm
    obtain ⟨ms, _, t2⟩ := hp _ hm'
    refine lt_tups (s := { s with heap := h' }) (t1.keeps kp) (t2.keeps kp) ⟨rfl, ?_⟩
    show lexLt ns ms = lexLt (TS.intsOf h0 p.1) (TS.intsOf h0 q.1)
    rw [hk _ hm, hk _ hm', t1.ints, t2.ints]
end
end Zed

namespace Zed
open PySem PySem.Spec PyProof.Rows L2 RZ

/-! ## sorted -/
def ordL (b : Bool) (N : List (List Int)) : List (List Int) := match b with
  | true => (srtL N).reverse
  | false => srtL N
def rSrtL (K : PySem.W.Frag) (b : Bool) : List V → Hp → VK → Prop := fun vs H Q => ∃ (a : Addr) (xs : List V), vs = [V.ref a] ∧ SqL K H a xs ∧ (∀ x ∈ xs, ∃ t ns, ns ≠ [] ∧ x = V.ref t ∧ SqT K H t (ns.map V.int)) ∧
  ∀ (ys : List V) (p : Addr) (kv : V → List Int), (∀ x ∈ xs, ∀ t ns, x = V.ref t → SqT K H t (ns.map V.int) → kv x = ns) → ys.Perm xs → ys.map kv = ordL b (xs.map kv) → H p = none → Q (.ref p) (upd H p (.lst ys))
section
variable {X : Cx} {pins : List (Addr × Obj)} {s : Shared} {σ : L2.St} {H : Hp} {Q : VK}
theorem srt_fin {b : Bool} {a : Addr} {xs : List V} {its out : List Value} (I : Inv X pins σ H s) (rv : Vals xs its) (hz : xs.length ≤ sizeLine) (hx : ∀ x ∈ xs, ∃ t ns, ns ≠ [] ∧ x = V.ref t ∧ SqT X.K H t (ns.map V.int))
    (q : ∀ (ys : List V) (p : Addr) (kv : V → List Int), (∀ x ∈ xs, ∀ t ns, x = V.ref t → SqT X.K H t (ns.map V.int) → kv x = ns) → ys.Perm xs → ys.map kv = ordL b (xs.map kv) → H p = none → Q (.ref p) (upd H p (.lst ys)))
    (h1 : SrtO.Srtd (ltT s.heap) out) (h2 : SrtO.Stb (ltT s.heap) out (if b = true then its.reverse else its)) :
    EP X pins σ Q (.ref (s.heap.objs.size + 1)) { s with heap := sortedAll s.heap its (if b = true then out.toArray.reverse else out.toArray) } := by
  obtain ⟨e1, e2⟩ := bkV_refs rv fun x m => by
    obtain ⟨t, ns, _, e, _⟩ := hx x m
    exact ⟨t, e⟩
  have hp0 : out.Perm its := by
    refine h2.perm.trans ?_
    cases b
    · exact .refl _
    · exact List.reverse_perm its
  have hO : (if b = true then out.toArray.reverse else out.toArray).toList = if b = true then out.reverse else out := by cases b <;> simp
  obtain ⟨ep, he'⟩ := PyProof.Rows.sortedAll_at s.heap its (if b = true then out.toArray.reverse else out.toArray)
  let o2 : List Value := if b = true then out.reverse else out
  have hp2 : o2.Perm its := by
    show (if b = true then out.reverse else out).Perm its
    cases b
    · exact hp0
    · exact (List.reverse_perm out).trans hp0
  have h3 : ∀ u ∈ o2, ∃ a, u = Value.ref a := fun u hu => e2 u (hp2.mem_iff.mp hu)
  have hpx : (o2.map bkV).Perm xs := by
    rw [e1]
    exact hp2.map bkV
  let kv : V → List Int := fun x => match x with
    | .ref t => TS.intsOf s.heap (.ref t)
    | _ => []
  have hkv : ∀ u, (∃ a, u = Value.ref a) → kv (bkV u) = TS.intsOf s.heap u := by
    rintro _ ⟨a, rfl⟩
    rfl
  have mapk : ∀ l : List Value, (∀ u ∈ l, ∃ a, u = Value.ref a) → (l.map bkV).map kv = l.map (TS.intsOf s.heap) := fun l hl => by
    rw [List.map_map]
    exact List.map_congr_left fun u hu => hkv u (hl u hu)
  have hlen : (o2.map bkV).length ≤ sizeLine := by
    rw [hpx.length_eq]
    exact hz
  refine ⟨.ref _, upd H (s.heap.objs.size + 1) (.lst (o2.map bkV)), I.laid (t' := s.toks) (fun _ _ => PyProof.Rows.sortedAll_old) (Nat.le_succ _) ⟨hlen, o2, ep, bkV_vals h3, ?_⟩, rfl, q _ _ kv (fun x hx t ns et hq => ?_) hpx ?_ (I.hok.fresh (Nat.le_succ _))⟩
  · show _ = some (seqObj "list" (if b = true then out.reverse else out).toArray ep)
    rw [← hO, Array.toArray_toList]
    exact he'
  · subst et
    exact (tupI_raw I hq).ints
  · rw [mapk o2 h3, e1, mapk its e2]
    have hs : (out.map (TS.intsOf s.heap)).Pairwise (fun a b => lexLt b a = false) := List.pairwise_map.mpr h1
    have hu := srtL_uniq (hp0.map (TS.intsOf s.heap)) hs
    show List.map (TS.intsOf s.heap) (if b = true then out.reverse else out) = ordL b (its.map (TS.intsOf s.heap))
    cases b with
    | false => exact hu
    | true =>
      show List.map (TS.intsOf s.heap) out.reverse = (srtL (its.map (TS.intsOf s.heap))).reverse
      rw [List.map_reverse, hu]
theorem cr_srt : CallR X (.builtin "sorted") (rSrtL X.K false) := by
  intro pins s σ H vs us Q I r h
  obtain ⟨a, xs, rfl, hs, hx, q⟩ := h
  obtain ⟨its, rv, hl, hz⟩ := I.list hs
  rw [Vals.ref1 r]
  obtain ⟨e1, e2⟩ := bkV_refs rv fun x m => by
    obtain ⟨t, ns, _, e, _⟩ := hx x m
    exact ⟨t, e⟩
  have tp : ∀ v ∈ its, ∃ ns, ns ≠ [] ∧ TS.TupInts s.heap v ns := fun v hv => by
    obtain ⟨t, rfl⟩ := e2 v hv
    have hm : V.ref t ∈ xs := by rw [e1]; exact List.mem_map.mpr ⟨_, hv, rfl⟩
    obtain ⟨t', ns, hn, e, ht⟩ := hx _ hm
    cases e
    exact ⟨ns, hn, tupI_raw I ht⟩
  refine SrtO.sorted_ord (swoT s.heap) hl.isList (by rw [← rv.length]; exact hz) (fun h2 h₁ a' ha kk => ?_) fun out h1 h2 => srt_fin (b := false) (a := a) I rv hz hx q h1 h2
  refine sortableT (s := { s with heap := h₁ }) h2 (fun v hv => ?_) s.heap (fun v hv => ?_) fun o e => ?_
  · obtain ⟨ns, hn, t⟩ := tp v hv
    exact ⟨ns, hn, t.keeps fun b o e _ => (kk b o e).2⟩
  · obtain ⟨ns, hn, t⟩ := tp v hv
    rw [t.ints]
    exact (TS.TupInts.ints (t.keeps fun b o e _ => (kk b o e).2)).symm
  · have e' : some o = some (seqObj "list" its.toArray 0) := e.symm.trans ha
    cases e'
    intro c
    exact absurd (Value.type.inj c) (by decide)
theorem cr_srtR : CallRK X (.builtin "sorted") [Str.ofString "reverse"] (fun vs zs H Q => zs = [.bl true] ∧ rSrtL X.K true vs H Q) := by
  intro pins s σ H vs zs us ws Q I r rz h
  obtain ⟨rfl, a, xs, rfl, hs, hx, q⟩ := h
  obtain ⟨its, rv, hl, hz⟩ := I.list hs
  rw [Vals.ref1 r]
  obtain ⟨w1, rfl, ew⟩ := vals1 rz
  obtain rfl : w1 = Value.bool true := ew
  obtain ⟨e1, e2⟩ := bkV_refs rv fun x m => by
    obtain ⟨t, ns, _, e, _⟩ := hx x m
    exact ⟨t, e⟩
  have tp : ∀ v ∈ its, ∃ ns, ns ≠ [] ∧ TS.TupInts s.heap v ns := fun v hv => by
    obtain ⟨t, rfl⟩ := e2 v hv
    have hm : V.ref t ∈ xs := by rw [e1]; exact List.mem_map.mpr ⟨_, hv, rfl⟩
    obtain ⟨t', ns, hn, e, ht⟩ := hx _ hm
    cases e
    exact ⟨ns, hn, tupI_raw I ht⟩
  refine SrtR.sorted_ordK (b := true) (fun _ => rfl) (PyProof.Rows.args_sorted_rev _ _) (fun _ => PyProof.Rows.args_list_sort_rev _ _) (swoT s.heap) hl.isList (by rw [← rv.length]; exact hz) (fun h2 h₁ a' ha kk => ?_) fun out h1 h2 => srt_fin (b := true) (a := a) I rv hz hx q h1 h2
  refine sortableT (s := { s with heap := h₁ }) h2 (fun v hv => ?_) s.heap (fun v hv => ?_) fun o e => ?_
  · obtain ⟨ns, hn, t⟩ := tp v hv
    exact ⟨ns, hn, t.keeps fun b o e _ => (kk b o e).2⟩
  · obtain ⟨ns, hn, t⟩ := tp v hv
    rw [t.ints]
    exact (TS.TupInts.ints (t.keeps fun b o e _ => (kk b o e).2)).symm
  · have e' : some o = some (seqObj "list" its.toArray 0) := e.symm.trans ha
    cases e'
    intro c
    exact absurd (Value.type.inj c) (by decide)
end
def intsL : List D → Option (List Int)
  | [] => some []
  | .int i :: ds => match intsL ds with
    | some is => some (i :: is)
    | none => none
  | _ => none
/-- the ints of each tuple -/
def keysL : List D → Option (List (List Int))
  | [] => some []
  | .tup (.int i :: ds) :: es => match intsL ds with
    | some is => match keysL es with
      | some ks => some ((i :: is) :: ks)
      | none => none
    | none => none
  | _ => none
def toTup (ns : List Int) : D := .tup (ns.map .int)
def sortD (b : Bool) : AD
  | [d], S => match itemsL S d with
    | some ds => match keysL ds with
      | some N => .ok (.lst ((ordL b N).map toTup)) S
      | none => .bad
    | none => .bad
  | _, _ => .bad
def eSrtR (f g : LD) : ED := fun ρ S => (f ρ S).bind fun ds S1 => (g ρ S1).bind fun es S2 => match es with
  | [.bl true] => sortD true ds S2
  | _ => .bad
section
variable [TC : TabC] {K : PySem.W.Frag} {mg : Str → Option Value} {E : XK} {X : Cx} {B m m1 m2 : List Addr} {H H1 H2 : Hp} {S : Sto} {x : Str} {p pos : Pos} {e : Expr} {es : List Expr} {la lb : LD}
theorem intsL_reps : ∀ {ds : List D} {is : List Int} {vs : List V}, intsL ds = some is → Reps K B m H ds vs → vs = is.map V.int
  | [], _, _, h, r => by cases h; cases r; rfl
  | d :: ds, is, vs, h, r => by
    cases r with
    | cons r1 r2 =>
      cases d with
      | int i =>
        simp only [intsL] at h
        split at h
        · rename_i is' e
          cases h
          rw [r1.int_inv, intsL_reps e r2]; rfl
        · cases h
      | _ => simp [intsL] at h
theorem keysL_reps : ∀ {ds : List D} {N : List (List Int)} {vs : List V}, keysL ds = some N → Reps K B m H ds vs → Paired (fun ns v => ns ≠ [] ∧ ∃ t, v = V.ref t ∧ SqT K H t (ns.map V.int)) N vs
  | [], _, _, h, r => by cases h; cases r; exact .nil
  | d :: ds, N, vs, h, r => by
    cases r with
    | cons r1 r2 =>
      unfold keysL at h
      split at h
      · rename_i e; cases e
      · rename_i i ds' es' e
        cases e
        split at h
        · rename_i is ei
          split at h
          · rename_i ks ek
            cases h
            obtain ⟨a, ws, rfl, ha, rr⟩ := r1.tup_inv
            have e2 : ws = (i :: is).map V.int := by
              cases rr with
              | cons q1 q2 => rw [q1.int_inv, intsL_reps ei q2]; rfl
            exact .cons ⟨by simp, a, rfl, by rw [← e2]; exact ha⟩ (keysL_reps ek r2)
          · cases h
        · cases h
      · cases h
theorem srt_of {b : Bool} {ds : List D} {vs : List V} {Q : VK} (rs : RepSto K B m H S) (r : Reps K B m H ds vs) (q : Aft K mg E B (Rep K B) m H (sortD b ds S) Q) : rSrtL K b vs H Q := by
  unfold sortD at q
  split at q
  · obtain ⟨v, rfl, r1⟩ := r.one
    split at q
    · rename_i ds' e1
      split at q
      · rename_i N e2
        obtain ⟨a, ws, rfl, ha, rr⟩ := r1.items rs e1
        have pr := keysL_reps e2 rr
        have all : ∀ {N : List (List Int)} {ws : List V}, Paired (fun ns v => ns ≠ [] ∧ ∃ t, v = V.ref t ∧ SqT K H t (ns.map V.int)) N ws → ∀ x ∈ ws, ∃ t ns, ns ≠ [] ∧ x = V.ref t ∧ SqT K H t (ns.map V.int) := by
          intro N ws pr
          induction pr with
          | nil => intro x hx; cases hx
          | cons h _ ih =>
            intro x hx
            rcases List.mem_cons.mp hx with z | z
            · obtain ⟨h1, t, h2, h3⟩ := h
              exact ⟨t, _, h1, z.trans h2, h3⟩
            · exact ih x z
        refine ⟨a, ws, rfl, ha, all pr, fun ys p kv hkv hp hk hn => ?_⟩
        have ek : ∀ {N : List (List Int)} {ws : List V}, Paired (fun ns v => ns ≠ [] ∧ ∃ t, v = V.ref t ∧ SqT K H t (ns.map V.int)) N ws → (∀ x ∈ ws, ∀ t ns, x = V.ref t → SqT K H t (ns.map V.int) → kv x = ns) → ws.map kv = N := by
          intro N ws pr hkv
          induction pr with
          | nil => rfl
          | cons h _ ih =>
            obtain ⟨h1, t, h2, h3⟩ := h
            rw [List.map_cons, ih fun x hx => hkv x (List.mem_cons_of_mem _ hx), hkv _ List.mem_cons_self t _ h2 h3]
        rw [ek pr hkv] at hk
        have ry : ∀ l : List V, (∀ y ∈ l, y ∈ ws) → Reps K B m H ((l.map kv).map toTup) l := by
          intro l
          induction l with
          | nil => intro _; exact .nil
          | cons y l ih =>
            intro hl
            obtain ⟨t, ns, _, ey, ht⟩ := all pr y (hl y List.mem_cons_self)
            refine .cons ?_ (ih fun z hz => hl z (List.mem_cons_of_mem _ hz))
            rw [hkv y (hl y List.mem_cons_self) t ns ey ht, ey]
            exact .tup ht (Reps.ints ns)
        have r2 := ry ys fun y hy => hp.mem_iff.mp hy
        rw [hk] at r2
        exact Aft.newLst rs r2 q p hn
      · exact q.elim
    · exact q.elim
  · exact q.elim
theorem d_srtR {kws : List Keyword} (hg : L2.Gl X x) (hm : X.mg x = none) (hv : bootBuiltins x = some (.builtin "sorted")) (ha : PA X (e :: es) (tDL X.K mg E la)) (hk : PK X kws (tDL X.K mg E lb)) (hn : x ≠ "__name__" := by decide) (hdb : (x == ("__debug__" : Str)) = false := by decide)
    (he : backTo pos (starEach (e :: es) X.env) = (false, eval e X.env) :: backTo pos (starEach es X.env) := by rfl) (hpl : (backTo pos (starEach (e :: es) X.env)).any (·.1) = false := by rfl)
    (hall : (backToKw pos (keywordEach kws X.env)).all (·.1.isSome) = true := by rfl) (hnone : (backToKw pos (keywordEach kws X.env)).any (·.1.isNone) = false := by rfl) (hks : (backToKw pos (keywordEach kws X.env)).filterMap (·.1) = [Str.ofString "reverse"] := by rfl) :
    PE X (.Call (.Name x p) (e :: es) kws pos) (tD X.K mg E (eSrtR la lb)) := by
  refine PE.to (pe_callBK cr_srtR hg hm hv ha hk hn hdb he hpl hall hnone hks) fun σ H Q h => ?_
  obtain ⟨B, m, ρ, S, re, rs, q⟩ := h
  refine (partL re rs q).imp ?_
  rintro vs H1 ⟨m1, ds, S1, x1, re1, rs1, r1, q1⟩
  refine (partL re1 rs1 q1).imp ?_
  rintro zs H2 ⟨m2, es', S2, x2, re2, rs2, r2, q2⟩
  split at q2
  · obtain ⟨v, rfl, rb⟩ := r2.one
    exact ⟨by rw [rb.bl_inv], srt_of rs2 (r1.mono x2) q2⟩
  · exact q2.elim

/-! ## list(x), - x, *x -/
def lstD : AD
  | [.tup xs], S => .ok (.lst xs) S
  | [d], S => match itemsL S d with
    | some xs => .ok (.lst xs) S
    | none => .bad
  | _, _ => .bad
theorem b_lst : BiSp K mg E lstD (fun xs H Q => ∃ p ys, xs = [.ref p] ∧ (SqL K H p ys ∨ SqT K H p ys) ∧ ∀ l, H l = none → Q (.ref l) (upd H l (.lst ys))) := by
  intro B m H S ds vs Q rs r q
  unfold lstD at q
  split at q
  · obtain ⟨v, rfl, r1⟩ := r.one
    obtain ⟨a, ws, rfl, ha, rr⟩ := r1.tup_inv
    exact ⟨a, ws, rfl, .inr ha, Aft.newLst rs rr q⟩
  · obtain ⟨v, rfl, r1⟩ := r.one
    split at q
    · rename_i xs e1
      obtain ⟨a, ws, rfl, ha, rr⟩ := r1.items rs e1
      exact ⟨a, ws, rfl, .inl ha, Aft.newLst rs rr q⟩
    · exact q.elim
  · exact q.elim
def eNeg (f : ED) : ED := fun ρ S => (f ρ S).bind fun d S1 => match d with
  | .int i => .ok (.int (-i)) S1
  | _ => .bad
theorem d_neg {a : Expr} {f : ED} (h : PE X a (tD K mg E f)) : PE X (.UnaryOp .USub a pos) (tD K mg E (eNeg f)) := by
  refine PE.to (pe_un un_neg h) fun σ H Q h => ?_
  obtain ⟨B, m, ρ, S, re, rs, q⟩ := h
  refine (part re rs q).imp ?_
  rintro v H1 ⟨m1, d, S1, x1, re1, rs1, r1, q1⟩
  split at q1
  · exact ⟨_, r1.int_inv, q1.same rs1 (.int _)⟩
  · exact q1.elim
def itemsA (S : Sto) : D → Option (List D)
  | .tup xs => some xs
  | d => itemsL S d
def lStar (f : ED) (g : LD) : LD := fun ρ S => (f ρ S).bind fun d S1 => match itemsA S1 d with
  | some xs => (g ρ S1).bind fun ds S2 => .ok (xs ++ ds) S2
  | none => .bad
theorem l_star {a : Expr} {f : ED} (he : PE X a (tD X.K mg E f)) (hr : PA X es (tDL X.K mg E la)) (hs : starEach (.Starred a p :: es) X.env = (true, eval a X.env) :: starEach es X.env := by rfl) : PA X (.Starred a p :: es) (tDL X.K mg E (lStar f la)) := by
  refine PA.to (StX.pa_star he hr hs) fun σ H Q h => ?_
  obtain ⟨B, m, ρ, S, re, rs, q⟩ := h
  refine (part re rs q).imp ?_
  rintro v H1 ⟨m1, d, S1, x1, re1, rs1, r1, q1⟩
  split at q1
  · rename_i xs e1
    have hi : ∃ a vs, v = .ref a ∧ (SqT X.K H1 a vs ∨ SqL X.K H1 a vs) ∧ Reps X.K B m1 H1 xs vs := by
      unfold itemsA at e1
      split at e1
      · cases e1
        obtain ⟨a, ws, rfl, ha, rr⟩ := r1.tup_inv
        exact ⟨a, ws, rfl, .inl ha, rr⟩
      · obtain ⟨a, ws, rfl, ha, rr⟩ := r1.items rs1 e1
        exact ⟨a, ws, rfl, .inr ha, rr⟩
    obtain ⟨a, vs, rfl, ha, rr⟩ := hi
    refine ⟨a, vs, rfl, ha, (partL re1 rs1 q1).imp ?_⟩
    rintro ws H2 ⟨m2, ds, S2, x2, re2, rs2, r2, q2⟩
    exact q2 m2 H2 _ (Ex.refl rs2) rs2 ((rr.mono x2).append r2)
  · exact q1.elim
end
end Zed

namespace Zed
open PySem PySem.Spec PyProof.Rows L2 RZ

/-! ## {k: v for ..}: a new cell -/
def dcN (vs : List Nat) (g : GT) (t : BD) (fk fv : ED) (ρ : En) : List (Key × D) → List D → Sto → R (List (Key × D))
  | acc, [], S => .ok acc S
  | acc, d :: ds, S => match g d (wipeE ρ vs) with
    | none => .bad
    | some ρ1 => match t ρ1 S with
      | .ok false S1 => dcN vs g t fk fv ρ acc ds S1
      | .ok true S1 => match fk ρ1 S1 with
        | .ok kd S2 => match fv ρ1 S2 with
          | .ok y S3 => match keyD kd with
            | some k => if acc.length < sz then dcN vs g t fk fv ρ (addK acc k y) ds S3 else .bad
            | none => .bad
          | _ => .bad
        | _ => .bad
      | _ => .bad
def eDc (i : LD) (vs : List Nat) (g : GT) (t : BD) (fk fv : ED) : ED := fun ρ S => (i ρ S).bind fun ds S1 => (dcN vs g t fk fv ρ [] ds S1).bind fun kvs S2 => .ok (.ref S2.length) (S2 ++ [.dic kvs])
section
variable [TC : TabC] {K : PySem.W.Frag} {mg : Str → Option Value} {E : XK} {X : Cx} {B m m1 m2 : List Addr} {H H1 H2 : Hp} {S : Sto}
theorem ExW.pokeD {S : Sto} (h : RepSto K B m H S) {p : Addr} {vs ws : List (Key × V)} (hp : p ∈ B) (e : H p = some (.dK vs)) : ExW B m H m (upd H p (.dK ws)) := by
  refine ⟨⟨[], by simp, by simp⟩, fun a o q _ _ hb => by rw [upd_ne (fun z => hb (by rw [z]; exact hp))]; exact q, fun a o q => ?_, fun a ha => ?_, fun a xs q => ?_, fun a o u q => ?_⟩
  · by_cases z : a = p
    · rw [z, upd_same]; simp
    · rw [upd_ne z, q]; simp
  · rw [upd_ne (fun z => (h.hid p hp).1 (by rw [← z]; exact ha))]
    exact h.live a ha
  · rw [upd_ne (fun z => by rw [z, e] at q; cases q)]; exact q
  · rw [upd_ne (fun z => by rw [z, e] at q; cases q)]; exact q
theorem RepSto.pokeD {S : Sto} (h : RepSto K B m H S) {p : Addr} {vs ws : List (Key × V)} (hp : p ∈ B) (e : H p = some (.dK vs)) : RepSto K B m (upd H p (.dK ws)) S :=
  ⟨h.len, h.nd, fun b hb => ⟨(h.hid b hb).1, by
    by_cases z : b = p
    · rw [z, upd_same]; simp
    · rw [upd_ne z]; exact (h.hid b hb).2⟩, fun n a c e1 e2 => (h.cell n a c e1 e2).monoW (ExW.pokeD h hp e) (upd_ne fun z => (h.hid p hp).1 (by rw [← z]; exact List.mem_of_getElem? e1)), h.tab⟩
theorem RepKV.map {B' m' : List Addr} (f : ∀ d v, Rep K B m H d v → Rep K B' m' H1 d v) {a : List (Key × D)} {c : List (Key × V)} (h : RepKV K B m H a c) : RepKV K B' m' H1 a c := Paired.mapP h fun _ _ z => ⟨z.1, f _ _ z.2⟩
theorem RepSto.cellD {p : Addr} {ds : List (Key × D)} {vs : List (Key × V)} (h : RepSto K (p :: B) m H S) (hb : p ∉ B) (hp : H p = some (.dK vs)) (r : RepKV K (p :: B) m H ds vs) : RepSto K B (m ++ [p]) H (S ++ [.dic ds]) := by
  have hpm := (h.hid p List.mem_cons_self).1
  refine ⟨by simp [h.len], ?_, fun b hb' => ⟨fun z => ?_, (h.hid b (List.mem_cons_of_mem _ hb')).2⟩, fun n a c e1 e2 => ?_, h.tab.app _ _⟩
  · rw [List.nodup_append]
    refine ⟨h.nd, by simp, fun a ha b hb2 => ?_⟩
    have e : b = p := by simpa using hb2
    rw [e]; exact fun z => hpm (z ▸ ha)
  · rcases List.mem_append.mp z with z | z
    · exact (h.hid b (List.mem_cons_of_mem _ hb')).1 z
    · exact hb ((show b = p by simpa using z) ▸ hb')
  · by_cases hn : n < m.length
    · rw [List.getElem?_append_left hn] at e1
      rw [List.getElem?_append_left (by rw [← h.len]; exact hn)] at e2
      exact (h.cell n a c e1 e2).map (fun _ _ r => r.cell) fun c o e h2 h3 => ⟨fun z => by
        rcases List.mem_append.mp z with z | z
        · exact h2 z
        · exact h3 (by rw [show c = p by simpa using z]; exact List.mem_cons_self), fun z => h3 (List.mem_cons_of_mem _ z)⟩
    · have hn' : m.length ≤ n := by omega
      rw [List.getElem?_append_right hn'] at e1
      rw [List.getElem?_append_right (by rw [← h.len]; exact hn'), ← h.len] at e2
      cases q : n - m.length with
      | zero =>
        rw [q] at e1 e2
        simp at e1 e2
        rw [← e1, ← e2]
        exact ⟨vs, hp, RepKV.map (fun _ _ z => z.cell) r⟩
      | succ k => rw [q] at e1; simp at e1
theorem d_dc {kx vx tg iter : Expr} {ifs : List Expr} {scope : Scope} {own : List (Str × Nat)} {pos : Pos} {i : LD} {t : BD} {fk fv : ED} {gt : TG} {g : GT} (hc : X.calm = true) (hN : X.N.Nodup) (hi : PI X tg iter (tDI X.K mg E i)) (ok : BlkOk X.N X.env.scope scope own)
    (hg : ∀ (s : Shared) (H : Hp) (C : Addr) (cl : List (Str × Addr)) (fp : List Addr), PG (X.blk s H scope (compEnvC scope cl C X.env) fp) tg gt) (hs : GSp X.K gt g (own.map (·.2)))
    (ht : ∀ (s : Shared) (H : Hp) (C : Addr) (cl : List (Str × Addr)) (fp : List Addr), PTs (X.blk s H scope (compEnvC scope cl C X.env) fp) ifs (tDB X.K mg noE t))
    (hk : ∀ (s : Shared) (H : Hp) (C : Addr) (cl : List (Str × Addr)) (fp : List Addr), PE (X.blk s H scope (compEnvC scope cl C X.env) fp) kx (tD X.K mg noE fk))
    (he : ∀ (s : Shared) (H : Hp) (C : Addr) (cl : List (Str × Addr)) (fp : List Addr), PE (X.blk s H scope (compEnvC scope cl C X.env) fp) vx (tD X.K mg noE fv))
    (hset : ∀ x, foldedSetIterable iter X.env x = pure x := by intro _; rfl) : PE X (.DictComp kx vx [⟨tg, iter, ifs, 0⟩] scope pos) (tD X.K mg E (eDc i (own.map (·.2)) g t fk fv)) := by
  refine PE.to (pe_dc hc hN hi ok hg ht hk he hset) fun σ H Q h => ?_
  obtain ⟨B, m, ρ, S, re, rs, q⟩ := h
  refine ⟨B, m, ρ, S, re, rs, ?_⟩
  unfold eDc at q
  cases ei : i ρ S with
  | exc x S' => rw [ei] at q; exact q
  | bad => rw [ei] at q; exact q
  | ok ds S' =>
    rw [ei] at q
    simp only [R.bind] at q
    intro m1 H1 J x1 rs1 hJ D hD
    have hD0 : H D = none := by
      cases e0 : H D with
      | none => rfl
      | some o =>
        by_cases hm : D ∈ m
        · exact absurd hD (x1.live D (x1.sub D hm))
        · exact absurd hD (x1.there D o e0)
    have hDB : D ∉ B := fun z => (rs1.hid D z).2 hD
    have re1 := re.mono x1
    have xD := Ex.fresh (o := HO.dK []) rs1 hD
    have hw : ∀ {m' H'}, ExW (D :: B) m1 (upd H1 D (.dK [])) m' H' → ExW B m1 H1 m' H' := fun {m' H'} y =>
      ⟨by obtain ⟨e, e1, e2⟩ := y.app; exact ⟨e, e1, fun a ha => by
          have z := e2 a ha
          by_cases q : a = D
          · rw [q, upd_same] at z; cases z
          · rw [upd_ne q] at z; exact z⟩,
       fun a o e ht hm hb => y.keep a o (by rw [upd_ne (ne_of_none e hD)]; exact e) ht hm (fun z => by
          rcases List.mem_cons.mp z with z | z
          · exact ne_of_none e hD z
          · exact hb z), fun a o e => y.there a o (by rw [upd_ne (ne_of_none e hD)]; exact e), y.live, fun a xs e => y.tups a xs (by rw [upd_ne (ne_of_none e hD)]; exact e), fun a o u e => y.frzs a o u (by rw [upd_ne (ne_of_none e hD)]; exact e)⟩
    have hJ2 : JAt X.K (D :: B) m1 (upd H1 D (.dK [])) ds J := by
      intro m' H' y
      obtain ⟨g1, g2, g3⟩ := hJ m' H' (hw y)
      refine ⟨g1, g2, fun i v H'' hi hy => ?_⟩
      rcases g3 i v H'' hi hy with ⟨e, d, e1, r⟩ | ⟨T, p, q', dp, dq, e1, e2, e3, e4, r1, r2⟩
      · exact .inl ⟨e, d, e1, (Rep.hide hD r).mono xD⟩
      · exact .inr ⟨T, p, q', dp, dq, e1, e2, e3, e4, (Rep.hide hD r1).mono xD, (Rep.hide hD r2).mono xD⟩
    have reD : RepEn X.K (D :: B) m1 (upd H1 D (.dK [])) ρ σ := (re1.map fun _ _ r => Rep.hide hD r).mono xD
    have rsD := rs1.hide (o := HO.dK []) hD
    have fin : match dcN (own.map (·.2)) g t fk fv ρ [] ds S' with
      | .ok ys S2 => ∀ m' H' vs, Ex m H m' H' → D ∉ m' → H' D = some (.dK vs) → RepSto X.K (D :: B) m' H' S2 → RepKV X.K (D :: B) m' H' ys vs → Q (.ref D) H'
      | .exc x S2 => True
      | .bad => False := by
      cases ec : dcN (own.map (·.2)) g t fk fv ρ [] ds S' with
      | ok ys S2 =>
        rw [ec] at q
        simp only at q
        intro m' H' vs y hn hv r1 r2
        have rs2 := r1.cellD hDB hv r2
        refine q (m' ++ [D]) H' (.ref D) ?_ rs2 (.ref ?_)
        · obtain ⟨e, rfl, he⟩ := y.app
          refine ⟨⟨e ++ [D], by rw [List.append_assoc], fun a ha => ?_⟩, y.keep, rs2.live, y.tups, y.frzs, y.there⟩
          rcases List.mem_append.mp ha with ha | ha
          · exact he a ha
          · rw [show a = D by simpa using ha]; exact hD0
        · rw [← r1.len, List.getElem?_append_right (Nat.le_refl _), Nat.sub_self]; rfl
      | exc x S2 => trivial
      | bad => rw [ec] at q; exact q
    have xm : Ex m H m1 (upd H1 D (.dK [])) := x1.trans xD
    refine ⟨fun k n Hk => n = ds.length - k ∧ k ≤ ds.length ∧ ∃ mk Sk da acc, Ex m H mk Hk ∧ RepEn X.K (D :: B) mk Hk ρ σ ∧ JAt X.K (D :: B) mk Hk ds J ∧ RepSto X.K (D :: B) mk Hk Sk ∧ Hk D = some (.dK acc) ∧ RepKV X.K (D :: B) mk Hk da acc ∧
      match dcN (own.map (·.2)) g t fk fv ρ da (ds.drop k) Sk with
      | .ok ys S2 => ∀ m' H' vs, Ex m H m' H' → D ∉ m' → H' D = some (.dK vs) → RepSto X.K (D :: B) m' H' S2 → RepKV X.K (D :: B) m' H' ys vs → Q (.ref D) H'
      | .exc x S2 => True
      | .bad => False, ⟨_, rfl, Nat.zero_le _, m1, S', [], [], xm, reD, hJ2, rsD, upd_same, .nil, fin⟩, ?_⟩
    rintro k n Hk ⟨rfl, hk, mk, Sk, da, acc, xk, rek, jk, rsk, hacc, rda, fk'⟩
    obtain ⟨j1, j2, j3⟩ := jk mk Hk (Ex.refl rsk).weak
    by_cases hlt : k < ds.length
    · refine .inr ⟨j1 k hlt, fun H' => k + 1 ≤ ds.length ∧ ∃ mk Sk da acc, Ex m H mk H' ∧ RepEn X.K (D :: B) mk H' ρ σ ∧ JAt X.K (D :: B) mk H' ds J ∧ RepSto X.K (D :: B) mk H' Sk ∧ H' D = some (.dK acc) ∧ RepKV X.K (D :: B) mk H' da acc ∧
        match dcN (own.map (·.2)) g t fk fv ρ da (ds.drop (k + 1)) Sk with
        | .ok ys S2 => ∀ m' H' vs, Ex m H m' H' → D ∉ m' → H' D = some (.dK vs) → RepSto X.K (D :: B) m' H' S2 → RepKV X.K (D :: B) m' H' ys vs → Q (.ref D) H'
        | .exc x S2 => True
        | .bad => False, fun H' z => ⟨ds.length - (k + 1), by omega, rfl, z⟩, fun x H' hy => ?_⟩
      obtain ⟨ex, rs', d, ed, rd⟩ := jk.item rsk hlt hy
      have ed' : ds.drop k = d :: ds.drop (k + 1) := by
        rw [List.drop_eq_getElem_cons hlt]
        rw [List.getElem?_eq_getElem hlt] at ed
        rw [Option.some.inj ed]
      rw [ed'] at fk'
      unfold dcN at fk'
      cases eg : g d (wipeE ρ (own.map (·.2))) with
      | none => simp only [eg] at fk'
      | some ρ1 =>
        simp only [eg] at fk'
        refine hs.to (D :: B) mk H' (wipeE ρ (own.map (·.2))) ρ1 _ d x _ (RepEn.wipe (rek.mono ex)) rd eg fun σ2 re2 w2 => ⟨?_, ?_⟩
        · rw [w2]
          exact List.ext_getElem? fun j => by
            rw [wipe_at, wipe_at, wipe_length]
            by_cases c : j ∈ own.map (·.2) ∧ j < σ.length
            · rw [if_pos c, if_pos c]
            · rw [if_neg c, if_neg c]
        · refine ⟨D :: B, mk, ρ1, Sk, re2, rs', ?_⟩
          cases et : t ρ1 Sk with
          | exc x S2 => simp only [et] at fk'
          | bad => simp only [et] at fk'
          | ok b S1 =>
            simp only [et] at fk'
            intro m3 H3 b' x3 rs3 eb
            cases eb
            cases b with
            | false =>
              rw [if_neg (by simp)]
              have y := ex.trans x3
              exact ⟨hlt, m3, S1, da, acc, xk.trans y, rek.mono y, jk.mono y, rs3, y.keep _ _ hacc (fun _ z => nomatch z) (rsk.hid D List.mem_cons_self).1, RepKV.mono y rda, fk'⟩
            | true =>
              rw [if_pos rfl]
              refine ⟨D :: B, m3, ρ1, S1, re2.mono x3, rs3, ?_⟩
              cases ee : fk ρ1 S1 with
              | exc x S2 => simp only [ee] at fk'
              | bad => simp only [ee] at fk'
              | ok kd S2 =>
                simp only [ee] at fk'
                intro m4 H4 kv4 x4 rs4 rk
                refine ⟨D :: B, m4, ρ1, S2, (re2.mono x3).mono x4, rs4, ?_⟩
                cases ef : fv ρ1 S2 with
                | exc x S3 => simp only [ef] at fk'
                | bad => simp only [ef] at fk'
                | ok y S3 =>
                  simp only [ef] at fk'
                  intro m5 H5 v x5 rs5 rv
                  have z := ((ex.trans x3).trans x4).trans x5
                  have hacc5 : H5 D = some (.dK acc) := z.keep _ _ hacc (fun _ z => nomatch z) (rsk.hid D List.mem_cons_self).1
                  cases ekd : keyD kd with
                  | none => simp only [ekd] at fk'
                  | some ky =>
                    simp only [ekd] at fk'
                    have ek := key_of rk ekd
                    by_cases hsz : da.length < sz
                    · simp only [if_pos hsz] at fk'
                      refine ⟨acc, ky, ek, hacc5, by rw [← sz_eq, ← rda.length]; exact hsz, hlt, m5, S3, addK da ky y, putK acc ky v, ?_, ?_, ?_, rs5.pokeD List.mem_cons_self hacc5, upd_same, ?_, fk'⟩
                      · have w := xk.trans z
                        refine ⟨w.app, fun a o e ht hm => ?_, fun a ha => ?_, fun a xs e => ?_, fun a o u e => ?_, fun a o e => ?_⟩
                        · rw [upd_ne (ne_of_none e hD0)]; exact w.keep a o e ht hm
                        · by_cases c : a = D
                          · rw [c, upd_same]; simp
                          · rw [upd_ne c]; exact w.live a ha
                        · rw [upd_ne (ne_of_none e hD0)]; exact w.tups a xs e
                        · rw [upd_ne (ne_of_none e hD0)]; exact w.frzs a o u e
                        · rw [upd_ne (ne_of_none e hD0)]; exact w.there a o e
                      · exact (rek.mono z).monoW (ExW.pokeD rs5 List.mem_cons_self hacc5)
                      · exact (jk.mono z).monoW (ExW.pokeD rs5 List.mem_cons_self hacc5)
                      · exact RepKV.monoW (ExW.pokeD rs5 List.mem_cons_self hacc5) (addK_reps (RepKV.mono z rda) rv)
                    · simp only [if_neg hsz] at fk'
    · have ek : k = ds.length := by omega
      subst ek
      rw [List.drop_length] at fk'
      unfold dcN at fk'
      refine .inl ⟨j2, fk' mk Hk acc xk (rsk.hid D List.mem_cons_self).1 hacc rsk rda⟩
end
end Zed

namespace Zed
open PySem PySem.Spec PyProof.Rows L2 RZ HT

/-! ## t[::-1] of a tuple -/
section
variable {prog : Program} {w : World} {A : Around} {E : Value → Shared → Prop} {s : Shared}
theorem revApplied {sl : Addr} {vl vu vs : Value} {n : Nat} {Q : Int × Int × Nat → Shared → Prop} (hs : s.heap.IsSliceOf sl vl vu vs) (pl : IsPart vl none) (pu : IsPart vu none) (ps : IsPart vs (some (-1)))
    (h : Q ((n : Int) - 1, -1, n) s) : wpAny (model prog w) A (Builtin.Slice.sliceApplied (.ref sl) (pure (n : Int))) Q E s := by
  obtain ⟨os, hos, hcs, hds⟩ := id hs
  unfold Builtin.Slice.sliceApplied Builtin.Slice.sliceFields
  refine wpAny_bind (wpAny_bind (wpAny_field hos hds (x := vl) rfl (wpAny_bind (wpAny_field hos hds (x := vu) rfl (wpAny_bind (wpAny_field hos hds (x := vs) rfl (wpAny_pure ?_)))))))
  refine wpAny_bind (slicePart_ ps ?_)
  show wpAny _ _ (if ((-1 : Int) == 0) = true then _ else _) _ _ s
  rw [if_neg (by decide)]
  refine wpAny_bind (slicePart_ pl (wpAny_bind (slicePart_ pu (wpAny_bind (wpAny_pure ?_)))))
  have e : Builtin.Slice.slicePlaces ((n : Int) - 1) (-1) (-1) = n := by
    unfold Builtin.Slice.slicePlaces
    rw [if_neg (by decide)]
    by_cases hn : n = 0
    · subst hn; rfl
    · have : (n : Int) - 1 > -1 := by omega
      rw [if_pos this]
      have e2 : ((n : Int) - 1 - -1 - 1) / (- -1) = (n : Int) - 1 := by
        have : (n : Int) - 1 - -1 - 1 = (n : Int) - 1 := by omega
        rw [this]
        exact Int.ediv_one _
      rw [e2]
      omega
  show wpAny _ _ (pure (((n : Int) - 1), (-1 : Int), Builtin.Slice.slicePlaces ((n : Int) - 1) (-1) (-1))) _ _ s
  rw [e]
  exact wpAny_pure h
theorem pick_rev (xs : Array Value) : ((List.range xs.size).filterMap fun (m : Nat) => xs[(((xs.size : Int) - 1) + (m : Int) * (-1)).toNat]?) = xs.toList.reverse := by
  refine List.ext_getElem? fun i => ?_
  have hall : ∀ m ∈ List.range xs.size, xs[(((xs.size : Int) - 1) + (m : Int) * (-1)).toNat]? = some (xs.toList.reverse.getD m .none) := fun m hm => by
    have hm : m < xs.size := List.mem_range.mp hm
    have e : (((xs.size : Int) - 1) + (m : Int) * (-1)).toNat = xs.size - 1 - m := by omega
    rw [e, List.getD_eq_getElem?_getD, List.getElem?_reverse (by simpa using hm)]
    have hlt : xs.size - 1 - m < xs.size := by omega
    rw [Array.length_toList, Array.getElem?_toList, Array.getElem?_eq_getElem hlt]
    rfl
  have e1 : ((List.range xs.size).filterMap fun (m : Nat) => xs[(((xs.size : Int) - 1) + (m : Int) * (-1)).toNat]?) = (List.range xs.size).map fun m => xs.toList.reverse.getD m .none := by
    have gen : ∀ (l : List Nat) (f : Nat → Option Value) (g : Nat → Value), (∀ m ∈ l, f m = some (g m)) → l.filterMap f = l.map g := by
      intro l f g
      induction l with
      | nil => intro _; rfl
      | cons a l ih =>
        intro hh
        rw [List.filterMap_cons, hh a List.mem_cons_self, List.map_cons]
        simp only
        rw [ih fun m hm => hh m (List.mem_cons_of_mem _ hm)]
    exact gen _ _ _ hall
  rw [e1, List.getElem?_map]
  by_cases hi : i < xs.size
  · rw [List.getElem?_range hi]
    have : i < xs.toList.reverse.length := by simpa using hi
    rw [List.getElem?_eq_getElem this]
    show some (xs.toList.reverse.getD i .none) = _
    rw [List.getD_eq_getElem?_getD, List.getElem?_eq_getElem this]
    rfl
  · rw [List.getElem?_eq_none (by simpa using hi), List.getElem?_eq_none (by simpa using hi)]
    rfl
theorem getItem_tuple_rev {t sl : Addr} {items : Array Value} {vl vu vs : Value} {Q : Value → Shared → Prop} (ht : IsTup s.heap t items) (hs : s.heap.IsSliceOf sl vl vu vs) (pl : IsPart vl none) (pu : IsPart vu none) (ps : IsPart vs (some (-1)))
    (h : Q (.ref s.heap.objs.size) { s with heap := s.heap.push { cls := .type "tuple", data := .seq items.toList.reverse.toArray } })
    (hsz : items.size ≤ sizeLine) : wpAny (model prog w) A (getItem (.ref t) (.ref sl)) Q E s := by
  obtain ⟨os, hos, hcs, hds⟩ := id hs
  have hTs : s.TypeIs (.ref sl) "slice" := ⟨os, hos, hcs⟩
  unfold getItem
  try with_reducible refine wpAny_holding ?_
  first | refine wpAny_bind (wpAny_pure ?_) | skip
  refine wpAny_bind (wpAny_sequenceKey ht.typeIs (by decide) ?_)
  refine wpAny_bind (wpAny_callSpecial?_slot (name := Str.ofString "__getitem__") ht.typeIs PyProof.Rows.slot_tuple_getitem
    (wpAny_call_entry PyProof.Rows.slot_tuple_getitem ht.typeIs entry_tuple_getitem ?_ (args_tuple_getitem _ _)))
  show wpAny _ _ (Builtin.Tuple.tupleItemsOf (.ref t) >>= _) _ _ s
  refine wpAny_bind (tupleItemsOf_ ht ?_)
  refine wpAny_bind (wpAny_typeOf hTs ?_)
  rw [if_pos (by decide)]
  refine wpAny_bind (revApplied hs pl pu ps ?_)
  have hno : ¬ ((((items.size : Int) - 1 == 0) && ((-1 : Int) == 1) && (items.size == items.size)) = true) := by simp
  show wpAny _ _ (if (((items.size : Int) - 1 == 0) && ((-1 : Int) == 1) && (items.size == items.size)) = true then _ else _) _ _ s
  rw [if_neg hno, pick_rev]
  have hz2 : sizeOk (.seq items.toList.reverse.toArray) := by
    show items.toList.reverse.toArray.size ≤ sizeLine
    simpa using hsz
  have run : ∀ (Q' : Value → Shared → Prop), Q' (.ref s.heap.objs.size) { s with heap := s.heap.push { cls := .type "tuple", data := .seq items.toList.reverse.toArray } } → wpAny (model prog w) A.in1 (Builtin.Tuple.tupleExact items.toList.reverse.toArray) Q' (fun e s' => E e s') s := fun Q' hq =>
    wpAny_newObj_type hq hz2
  first
    | exact wpAny_bind (m := Builtin.Tuple.tupleExact _) (wpAny_newObj_type (wpAny_pure ⟨_, rfl, wpAny_pure h⟩) hz2)
    | exact wpAny_bind (m := Builtin.Tuple.tupleExact _) (wpAny_newObj_type (wpAny_bind (wpAny_pure (wpAny_pure ⟨_, rfl, wpAny_pure h⟩))) hz2)
    | exact wpAny_bind (wpAny_bind (m := Builtin.Tuple.tupleExact _) (wpAny_newObj_type (wpAny_pure (wpAny_pure ⟨_, rfl, wpAny_pure h⟩)) hz2))
    | exact wpAny_bind (wpAny_bind (m := Builtin.Tuple.tupleExact _) (wpAny_newObj_type (wpAny_pure ⟨_, rfl, wpAny_pure h⟩) hz2))
end
def tRevT (K : PySem.W.Frag) (te : TE) : TE := fun σ H Q => te σ H fun x H1 => ∃ a xs, x = .ref a ∧ SqT K H1 a xs ∧ ∀ p, H1 p = none → Q (.ref p) (upd H1 p (.tup xs.reverse))
section
variable [TC : TabC] {X : Cx} {K : PySem.W.Frag} {mg : Str → Option Value} {E : XK}
theorem pe_revT {e : Expr} {te : TE} {k : Nat} {p1 p2 p3 pos : Pos} (he : PE X e te) : PE X (.Subscript e (.Slice none none (some (.UnaryOp .USub (.Constant (.int 1) k p1) p2)) p3) pos) (tRevT X.K te) := by
  refine ⟨fun pins s σ H Q I h => ?_⟩
  refine Subscript_ (thn (he.run pins s σ H _ I h) fun v s1 ⟨x, H1, I1, r1, q1⟩ => ?_)
  obtain ⟨a, xs, ex, hx, q⟩ := q1
  subst ex
  cases r1
  have hst : PO X (some (.UnaryOp .USub (.Constant (.int 1) k p1) p2)) (tPart (tUn (rU fun i => .int (-i)) (tC (.int 1)))) := po_some (pe_un un_neg pe_int)
  refine wpAny_Slice (thn (po_none.run pins s1 σ H1 (fun o H2 => o = none ∧ H2 = H1) I1 ⟨rfl, rfl⟩) fun vl s2 ⟨l, H2, I2, pl, el, e2⟩ => ?_)
  subst el e2
  refine thn (po_none.run pins s2 σ H2 (fun o H3 => o = none ∧ H3 = H2) I2 ⟨rfl, rfl⟩) fun vu s3 ⟨u, H3, I3, pu, eu, e3⟩ => ?_
  subst eu e3
  refine thn (hst.run pins s3 σ H3 (fun o H4 => o = some (-1) ∧ H4 = H3) I3 ⟨1, rfl, -1, rfl, rfl, rfl⟩) fun vs s4 ⟨o, H4, I4, ps, eo, e4⟩ => ?_
  subst eo e4
  have I5 : Inv X pins σ H4 { s4 with heap := s4.heap.push { cls := .type "slice", data := .fields #[vl, vu, vs] } } := I4.kept (t' := s4.toks) fun b ob q => Heap.get?_push_of_some _ q
  obtain ⟨its, r, ht, hz⟩ := I5.tuple hx
  have hlen := r.length
  show wpAny (model X.prog X.w) X.A (subscriptTail e (.Slice none none (some (.UnaryOp .USub (.Constant (.int 1) k p1) p2)) p3) (.ref a) (.ref s4.heap.objs.size)) (EP X pins σ Q) X.xe { s4 with heap := s4.heap.push { cls := .type "slice", data := .fields #[vl, vu, vs] } }
  refine tail_any (ops := [.ref a, .ref s4.heap.objs.size]) ht.typeIs (PyProof.Rows.slot_tuple_getitem.lookup) ?_ (by with_unfolding_all rfl)
  refine getItem_tuple_rev ht (Heap.IsSliceOf.new _ vl vu vs) pl pu ps ?_ (by rw [List.size_toArray]; omega)
  refine ⟨.ref _, _, I5.laid (t' := s4.toks) (o := .tup xs.reverse) (fun b ob q => Heap.get?_push_of_some _ q) (Nat.le_refl _) ?_, rfl, q _ (I5.hok.fresh (Nat.le_refl _))⟩
  exact ⟨by rw [List.length_reverse]; exact hz, _, r.reverse, IsTup.new _ _⟩
def eRevT (f : ED) : ED := fun ρ S => (f ρ S).bind fun d S1 => match d with
  | .tup xs => .ok (.tup xs.reverse) S1
  | _ => .bad
theorem d_revT {e : Expr} {f : ED} {k : Nat} {p1 p2 p3 pos : Pos} (he : PE X e (tD X.K mg E f)) : PE X (.Subscript e (.Slice none none (some (.UnaryOp .USub (.Constant (.int 1) k p1) p2)) p3) pos) (tD X.K mg E (eRevT f)) := by
  refine PE.to (pe_revT he) fun σ H Q h => ?_
  obtain ⟨B, m, ρ, S, re, rs, q⟩ := h
  refine (part re rs q).imp ?_
  rintro v H1 ⟨m1, d, S1, x1, re1, rs1, r1, q1⟩
  split at q1
  · obtain ⟨a, vs, rfl, ha, rr⟩ := r1.tup_inv
    exact ⟨a, vs, rfl, ha, Aft.newTup rs1 rr.reverse q1⟩
  · exact q1.elim
end
end Zed

namespace Zed
open PySem PySem.Spec PyProof.Rows L2 RZ

/-! ## Generators: what has been handed out so far goes along -/
abbrev SG := List D → En → Sto → R (Fl × List D)
def gPlain (f : SD) : SG := fun ds ρ S => (f ρ S).bind fun fl S1 => .ok (fl, ds) S1
def gNext : SG := fun ds ρ S => .ok (.nx ρ, ds) S
def gSeq (f g : SG) : SG := fun ds ρ S => match f ds ρ S with
  | .ok (.nx ρ', ds') S' => g ds' ρ' S'
  | r => r
def gYield (f : ED) : SG := fun ds ρ S => if ds.length < sz then (f ρ S).bind fun d S1 => .ok (.nx ρ, ds ++ [d]) S1 else .bad
def gWhileN (c : BD) (f : SG) : Nat → SG
  | 0 => fun _ _ _ => .bad
  | n + 1 => fun ds ρ S => (c ρ S).bind fun b S1 => match b with
    | false => .ok (.nx ρ, ds) S1
    | true => match f ds ρ S1 with
      | .ok (.nx ρ', ds') S2 => gWhileN c f n ds' ρ' S2
      | .ok (.ct ρ', ds') S2 => gWhileN c f n ds' ρ' S2
      | .ok (.bk ρ', ds') S2 => .ok (.nx ρ', ds') S2
      | r => r
def gWhile (n : Nat) (c : BD) (f : SG) : SG := gWhileN c f n
section
variable [TC : TabC] (K : PySem.W.Frag) (mg : Str → Option Value) (E : XK) (B : List Addr)
def FlAtG (m : List Addr) (H : Hp) (F : GEnds) (ds : List D) : Fl → Prop
  | .nx ρ => ∀ ys σ, Reps K B m H ds ys → RepEn K B m H ρ σ → F.nx ys σ H
  | .bk ρ => ∀ ys σ, Reps K B m H ds ys → RepEn K B m H ρ σ → F.bk ys σ H
  | .ct ρ => ∀ ys σ, Reps K B m H ds ys → RepEn K B m H ρ σ → F.ct ys σ H
  | .rt d => ∀ ys v, Reps K B m H ds ys → Rep K B m H d v → F.rt ys v H
def AftG (m : List Addr) (H : Hp) (r : R (Fl × List D)) (F : GEnds) : Prop :=
  match r with
  | .ok (fl, ds) S' => ∀ m' H', Ex m H m' H' → RepSto K B m' H' S' → FlAtG K B m' H' F ds fl
  | .exc x S' => ∀ m' H' c od, Ex m H m' H' → RepSto K B m' H' S' → ExnAt K mg B m' H' x c od → E c od H'
  | .bad => False
def tDG (f : SG) : TGn := fun F ys σ H => ∃ B m ρ S ds, RepEn K B m H ρ σ ∧ RepSto K B m H S ∧ Reps K B m H ds ys ∧ AftG K mg E B m H (f ds ρ S) F
end
section
variable [TC : TabC] {K : PySem.W.Frag} {mg : Str → Option Value} {E : XK} {X : Cx} {B m m1 m2 : List Addr} {H H1 H2 : Hp} {S : Sto} {F : GEnds}
theorem AftG.shift {r : R (Fl × List D)} (x : Ex m H m1 H1) (h : AftG K mg E B m H r F) : AftG K mg E B m1 H1 r F := by
  cases r with
  | ok a S => obtain ⟨fl, ds⟩ := a; intro m' H' y; exact h m' H' (x.trans y)
  | exc e S => intro m' H' c od y; exact h m' H' c od (x.trans y)
  | bad => exact h
theorem GS.to {st : Stmt} {t t' : TGn} (h : GS X st t) (i : ∀ F ys σ H, t' F ys σ H → t F ys σ H) : GS X st t' :=
  ⟨fun A S ip R n ys s₀ c fs K J gd lv s σ H D g hn k hI ht => h.run A S ip R n ys s₀ c fs K J gd lv s σ H D g hn k hI (i _ _ _ _ ht)⟩
theorem GSs.to {st : List Stmt} {t t' : TGn} (h : GSs X st t) (i : ∀ F ys σ H, t' F ys σ H → t F ys σ H) : GSs X st t' :=
  ⟨fun A S ip R n ys s₀ c fs K J gd lv s σ H D g hn k hI ht => h.run A S ip R n ys s₀ c fs K J gd lv s σ H D g hn k hI (i _ _ _ _ ht)⟩
theorem plain_of {f : SD} {ys : List V} {σ : L2.St} (h : tDG K mg E (gPlain f) F ys σ H) : tDS K mg E f (F.at ys) σ H := by
  obtain ⟨B, m, ρ, S, ds, re, rs, rd, q⟩ := h
  refine ⟨B, m, ρ, S, re, rs, ?_⟩
  unfold gPlain at q
  cases e : f ρ S with
  | ok fl S1 =>
    rw [e] at q
    intro m' H' x rs'
    have z := q m' H' x rs'
    cases fl with
    | nx ρ' => exact fun σ' re' => z ys σ' (rd.mono x) re'
    | bk ρ' => exact fun σ' re' => z ys σ' (rd.mono x) re'
    | ct ρ' => exact fun σ' re' => z ys σ' (rd.mono x) re'
    | rt d => exact fun v r => z ys v (rd.mono x) r
  | exc x S1 => rw [e] at q; exact q
  | bad => rw [e] at q; exact q
theorem g_plain {st : Stmt} {f : SD} (h : PS X st (tDS K mg E f)) : GS X st (tDG K mg E (gPlain f)) := GS.to (gs_ps h) fun F ys σ H q => plain_of q
theorem gg_nil : GSs X [] (tDG K mg E gNext) := GSs.to gss_nil fun F ys σ H q => by
  obtain ⟨B, m, ρ, S, ds, re, rs, rd, q⟩ := q
  exact q m H (Ex.refl rs) rs ys σ rd re
theorem gg_cons {st : Stmt} {rest : List Stmt} {f g : SG} (h1 : GS X st (tDG K mg E f)) (h2 : GSs X rest (tDG K mg E g)) : GSs X (st :: rest) (tDG K mg E (gSeq f g)) := by
  refine GSs.to (gss_cons h1 h2) fun F ys σ H h => ?_
  obtain ⟨B, m, ρ, S, ds, re, rs, rd, q⟩ := h
  refine ⟨B, m, ρ, S, ds, re, rs, rd, ?_⟩
  unfold gSeq at q
  cases e : f ds ρ S with
  | ok a S1 =>
    obtain ⟨fl, ds1⟩ := a
    rw [e] at q
    intro m' H' x rs'
    cases fl with
    | nx ρ' => exact fun ys' σ' rd' re' => ⟨B, m', ρ', S1, ds1, re', rs', rd', AftG.shift x q⟩
    | bk ρ' => exact q m' H' x rs'
    | ct ρ' => exact q m' H' x rs'
    | rt d => exact q m' H' x rs'
  | exc x S1 => rw [e] at q; exact q
  | bad => rw [e] at q; exact q
theorem g_yield {e : Expr} {f : ED} {yp pos : Pos} (he : PE X e (tD K mg E f)) (hco : X.env.scope.isCoroutine = false := by rfl) (hi : interactive X.env = false := by rfl) : GS X (.Expr (.Yield (some e) yp) pos) (tDG K mg E (gYield f)) := by
  refine GS.to (gs_yield he hco hi) fun F ys σ H h => ?_
  obtain ⟨B, m, ρ, S, ds, re, rs, rd, q⟩ := h
  unfold gYield at q
  split at q
  · rename_i hl
    refine ⟨by rw [← sz_eq, ← rd.length]; exact hl, B, m, ρ, S, re, rs, ?_⟩
    cases ef : f ρ S with
    | ok d S1 =>
      rw [ef] at q
      intro m' H' v x rs' rv
      exact q m' H' x rs' _ σ ((rd.mono x).append (.cons rv .nil)) (re.mono x)
    | exc x S1 => rw [ef] at q; exact q
    | bad => rw [ef] at q; exact q
  · exact q.elim
theorem g_while {n : Nat} {c : Expr} {body : List Stmt} {cd : BD} {f : SG} {pos : Pos} (hp : PassesOwn (model X.prog X.w) X.A X.env X.xe) (hc : PT X c (tDB K mg E cd)) (hb : GSs X body (tDG K mg E f)) : GS X (.While c body [] pos) (tDG K mg E (gWhile n cd f)) := by
  refine GS.to (gs_while hp hc hb) fun F ys σ H h => ?_
  obtain ⟨B, m, ρ, S, ds, re, rs, rd, q⟩ := h
  refine ⟨fun k ys σ H => ∃ m ρ S ds, RepEn K B m H ρ σ ∧ RepSto K B m H S ∧ Reps K B m H ds ys ∧ AftG K mg E B m H (gWhileN cd f k ds ρ S) F, ⟨n, m, ρ, S, ds, re, rs, rd, q⟩, ?_⟩
  rintro k ys σ H ⟨m, ρ, S, ds, re, rs, rd, q⟩
  cases k with
  | zero => exact q.elim
  | succ k =>
    unfold gWhileN at q
    refine ⟨B, m, ρ, S, re, rs, ?_⟩
    cases ec : cd ρ S with
    | exc x S1 => rw [ec] at q; exact q
    | bad => rw [ec] at q; exact q
    | ok b S1 =>
      rw [ec] at q
      simp only [R.bind] at q
      intro m1 H1 v x1 rs1 ev
      cases ev
      have re1 := re.mono x1
      have rd1 := rd.mono x1
      cases b with
      | false => rw [if_neg (by simp)]; exact q m1 H1 x1 rs1 ys σ rd1 re1
      | true =>
        rw [if_pos rfl]
        refine ⟨fun ys' σ' H' => ∃ m ρ S ds, RepEn K B m H' ρ σ' ∧ RepSto K B m H' S ∧ Reps K B m H' ds ys' ∧ AftG K mg E B m H' (gWhileN cd f k ds ρ S) F, fun ys' σ' H' z => ⟨k, Nat.lt_succ_self _, z⟩, B, m1, ρ, S1, ds, re1, rs1, rd1, ?_⟩
        dsimp only at q
        cases e : f ds ρ S1 with
        | ok a S2 =>
          obtain ⟨fl, ds2⟩ := a
          rw [e] at q
          intro m2 H2 x2 rs2
          cases fl with
          | nx ρ' => exact fun ys' σ' rd' re' => ⟨m2, ρ', S2, ds2, re', rs2, rd', AftG.shift (x1.trans x2) q⟩
          | ct ρ' => exact fun ys' σ' rd' re' => ⟨m2, ρ', S2, ds2, re', rs2, rd', AftG.shift (x1.trans x2) q⟩
          | bk ρ' => exact fun ys' σ' rd' re' => q m2 H2 (x1.trans x2) rs2 ys' σ' rd' re'
          | rt d => exact fun ys' v rd' r => q m2 H2 (x1.trans x2) rs2 ys' v rd' r
        | exc x S2 => rw [e] at q; exact fun m' H' c od y => q m' H' c od (x1.trans y)
        | bad => rw [e] at q; exact q
end

/-! ## A generator def's promise: the list of what it hands out -/
def closeL (n : Nat) (ds : List D) (S : Sto) : R (List D) :=
  match Nat.beq S.length n with
  | true => .ok ds S
  | false => match frzL (frzD n S 60) ds with
    | some ds' => match lowS n (S.take n) with
      | true => .ok ds' (S.take n)
      | false => .ok ds S
    | none => .ok ds S
abbrev LGD := List D → Sto → R (List D)
def fnL (n : Nat) (f : SG) : LGD := fun ds S => match f [] (ds.map some ++ List.replicate (n - ds.length) none) S with
  | .ok (.nx _, out) S' => closeL S.length out S'
  | .ok (.rt .non, out) S' => closeL S.length out S'
  | _ => .bad
def spGG [TC : TabC] (K : PySem.W.Frag) (mg : Str → Option Value) (n : Nat) (g : LGD) : SpG := fun vs H Q E => ∃ B m ds S, ds.length = n ∧ Reps K B m H ds vs ∧ RepSto K B m H S ∧ Aft K mg E B (Reps K B) m H (g ds S) Q
section
variable [TC : TabC] {K : PySem.W.Frag} {mg : Str → Option Value} {E : XK} {B m m1 : List Addr} {H H1 : Hp} {S : Sto}
theorem closeL_ok {ds : List D} {vs : List V} {S' : Sto} {Q : List V → Hp → Prop} (hl : m.length = S.length) (ht : TabAt m S) (x : Ex m H m1 H1) (rs : RepSto K B m1 H1 S') (r : Reps K B m1 H1 ds vs) (h : Aft K mg E B (Reps K B) m H (closeL S.length ds S') Q) : Q vs H1 := by
  have plain : Aft K mg E B (Reps K B) m H (.ok ds S') Q → Q vs H1 := fun h => h m1 H1 vs x rs r
  unfold closeL at h
  split at h
  · exact plain h
  · split at h
    · rename_i ds' e1
      split at h
      · rename_i e2
        obtain ⟨e, rfl, he⟩ := x.app
        have tb := ht.back hl rs.tab
        rw [← hl] at e1 e2 h tb
        refine h m H1 vs ⟨⟨[], by simp, by simp⟩, x.keep, fun a ha => x.live a (List.mem_append_left _ ha), x.tups, x.frzs, x.there⟩ ⟨?_, ?_, fun b hb => ⟨fun z => (rs.hid b hb).1 (List.mem_append_left _ z), (rs.hid b hb).2⟩, fun n a c e3 e4 => ?_, ?_⟩ (Reps.frz e1 r fun d d' v q z => Rep.frz rs 60 q z)
        · rw [List.length_take]
          have := rs.len
          rw [List.length_append] at this
          omega
        · have nd := rs.nd
          rw [List.nodup_append] at nd
          exact nd.1
        · have hn : n < m.length := (List.getElem?_eq_some_iff.mp e3).1
          have e5 : S'[n]? = some c := by rw [List.getElem?_take] at e4; rw [if_pos hn] at e4; exact e4
          exact CellAt.shrink e (lowS_get e2 c (List.mem_of_getElem? e4)) (rs.cell n a c (by rw [List.getElem?_append_left hn]; exact e3) e5)
        · exact tb
      · exact plain h
    · exact plain h
end
section
variable [TC : TabC] {P : Program} {w : World} {K : PySem.W.Frag} {mg : Str → Option Value} {base : Heap}
/-- THE RULE for a generator def -/
theorem gnG_of {k : Nat} {f : Addr} {name qual : Str} {params : Arguments} {body : List Stmt} {scope : Scope} {dV kV doc pm cdv ct oc : Value} {an od : Option Addr} {osl : Array (Option Value)} {N ps : List Str} {fb : SG}
    (lk : K.lookup f = some ⟨oc, od, .func (PySem.W.fnOf name qual params body scope dV kV doc pm an cdv ct), osl⟩) (hcd : PySem.W.codeIn K cdv qual = true) (Sc : GScope N ps scope) 
    (hbody : ∀ (X : Cx) (E : XK), XC P w K mg base false E k N scope X → (∀ x, X.fn x = true) → X.env.scope = scope → GSs X body (tDG K mg E fb)) :
    GFn P w K mg base (k + 1) f (PySem.W.fnOf name qual params body scope dV kV doc pm an cdv ct) ps (spGG K mg ps.length (fnL N.length fb)) := by
  have len : ∀ vs H Q E, spGG K mg ps.length (fnL N.length fb) vs H Q E → vs.length = ps.length := fun vs H Q E ⟨B, m, ds, S, h1, h2, _⟩ => by rw [← h2.length, h1]
  refine gfn_of lk hcd Sc len fun A outer s H vs Q E pn hr hsp => ?_
  have XCx : XC P w K mg base false E k N scope (gcxOf P w K mg base N qual scope f cdv A outer s H E pn) :=
    ⟨rfl, rfl, rfl, rfl, rfl, rfl, rfl, rfl, hr, (fun z => nomatch z), Sc.nd, takes_gcx, owns_gcx⟩
  refine ⟨_, hbody _ E XCx (fun _ => rfl) rfl, ?_⟩
  obtain ⟨B, m, ds, S, h1, h2, h3, h4⟩ := hsp
  have hst : start N vs = vs.map some ++ List.replicate (N.length - ds.length) none := by rw [h2.length]; rfl
  refine ⟨B, m, ds.map some ++ List.replicate (N.length - ds.length) none, S, [], by rw [hst]; exact rep_start h2 _, h3, .nil, ?_⟩
  unfold fnL at h4
  cases eb : fb [] (ds.map some ++ List.replicate (N.length - ds.length) none) S with
  | ok a S' =>
    obtain ⟨fl, out⟩ := a
    rw [eb] at h4
    intro m' H' y rs'
    cases fl with
    | rt d => cases d with
      | non => exact fun ys v rd rv => ⟨rv.non_inv, closeL_ok h3.len h3.tab y rs' rd h4⟩
      | _ => exact h4.elim
    | nx ρ => exact fun ys σ rd _ => closeL_ok h3.len h3.tab y rs' rd h4
    | bk ρ => exact h4.elim
    | ct ρ => exact h4.elim
  | exc x S' => rw [eb] at h4; exact h4.elim
  | bad => rw [eb] at h4; exact h4
end
/-- list(f(..)) -/
def eListG (n : Nat) (g : LGD) (f : LD) : ED := fun ρ S => (f ρ S).bind fun ds S1 => match Nat.beq ds.length n with
  | true => match g ds S1 with
    | .ok out S2 => .ok (.lst out) S2
    | _ => .bad
  | false => .bad
def eListGK (n : Nat) (pm : List Nat) (g : LGD) (f : LD) : ED := fun ρ S => (f ρ S).bind fun ds S1 => match Nat.beq ds.length n with
  | true => match pick pm ds with
    | some es => match g es S1 with
      | .ok out S2 => .ok (.lst out) S2
      | _ => .bad
    | none => .bad
  | false => .bad
section
variable [TC : TabC] {P : Program} {w : World} {K : PySem.W.Frag} {mg : Str → Option Value} {base : Heap} {gq : Bool} {E : XK} {k j n : Nat} {N : List Str} {sc : Scope} {X : Cx} {f : Addr} {fd : FuncData} {ps ks : List Str} {g : LGD} {x : Str} {p pos pos' : Pos} {e : Expr} {es : List Expr} {la : LD}
theorem GFn.mono {sp : SpG} (F : GFn P w K mg base j f fd ps sp) (h : j ≤ k) : GFn P w K mg base k f fd ps sp :=
  ⟨F.len, fun A outer s H args us vs Q E hr e0 hb r h1 => codeAny_mono (F.run A outer s H args us vs Q E (hr.mono h) e0 hb r h1) fun r s' z => by
    cases r with
    | error e => exact z
    | ok fl => cases fl with
      | ret u =>
        obtain ⟨a, g, c, q1, q2, q3, q4, q5, q6, q7, q8, q9, q10⟩ := z
        exact ⟨a, g, c, q1, q2, q3, q4, q5, q6, q7, q8, q9, fun A S s2 hrw => q10 A S s2 (hrw.mono h)⟩
      | next => exact z
      | brk => exact z
      | cont => exact z⟩
theorem XC.passNo (c : XC P w K mg base gq E k N sc X) : Passes (CX X.prog X.w) X noE := fun pins σ H s e s' I z => passes_call c.tk (E := noE) (fun _ _ _ _ y => y.elim) pins σ H s e s' I z
theorem runG (c : XC P w K mg base gq E k N sc X) (F : GFn P w K mg base j f fd ps (spGG K mg n g)) (hj : j ≤ k) {pins : List (Addr × Obj)} {σ : L2.St} {H : Hp} {s : Shared} {args : Args} {us : List Value} {vs : List V} {cont : List V → Hp → Prop} {E1 : Value → Shared → Prop} (hb : BindsTo s fd args (ps.zip us)) (I : Inv X pins σ H s) (r : Vals vs us)
    (h : spGG K mg n g vs H cont noE) :
    codeAny (model X.prog X.w) X.A (.call (.ref f) args) (fun r s' => match r with | .ok (.ret u) => ∃ H1 sc ex, Inv X pins σ H1 sc ∧ ExOk X pins ex ∧ GMade X.prog X.w j X.stack H1 sc ex cont noE u s' | .ok .next => False | .ok .brk => False | .ok .cont => False | .error er => E1 er s') s := by
  have e0 := I.env0
  rw [c.prog, c.w, c.K, c.mg, c.base] at e0
  have q := F.run X.A X.stack s H args us vs cont noE (c.room.mono hj) e0 hb r h
  rw [← c.prog, ← c.w] at q
  refine codeAny_mono q fun r s' z => ?_
  cases r with
  | error er => exact z.elim
  | ok fl =>
    cases fl with
    | ret u => exact ⟨H, s, [], I, .nil, by rw [c.prog, c.w] at *; exact z⟩
    | next => exact z.elim
    | brk => exact z.elim
    | cont => exact z.elim
theorem no_stop {K : PySem.W.Frag} : NoStop K noE := fun _ _ _ h => h.elim
def tGG [TC : TabC] (K : PySem.W.Frag) (mg : Str → Option Value) (E : XK) (n : Nat) (g : LGD) (la : LD) : TGen := fun σ H cont => tDL K mg E la σ H fun vs H1 => spGG K mg n g vs H1 cont noE
theorem pg_call (c : XC P w K mg base gq E k N sc X) (F : GFn P w K mg base j f fd ps (spGG K mg n g)) (hj : j + 3 ≤ k) (hg : L2.Gl X x) (hm : mg x = some (.ref f)) (hk : PySem.W.keepIn K (.ref f) = true) (hb : Binds K fd ps [])
    (ha : PA X (e :: es) (tDL K mg E la)) (hdb : (x == ("__debug__" : Str)) = false := by decide) (he : starEach (e :: es) X.env = (false, eval e X.env) :: starEach es X.env := by rfl) (hpl : (backTo pos (starEach es X.env)).any (·.1) = false := by rfl) :
    PGen X j (.Call (.Name x p) (e :: es) [] pos) (tGG K mg E n g la) noE := by
  refine ⟨fun pins s σ H cont I h => ?_⟩
  have hm' : X.mg x = some (.ref f) := by rw [c.mg]; exact hm
  have hk' : PySem.W.keepIn X.K (.ref f) = true := by rw [c.K]; exact hk
  refine wpAny_Call_Name_kw (ld_glob I hg hm' ?_ hdb)
  refine PySem.W.callWith_K (h₀ := X.base) I.ok.mod.kin hk' (thn (ha.run pos pins s σ H _ I h) fun us s1 ⟨vs, H1, I1, r, q⟩ => ⟨I1.kIn, ?_⟩) he hpl
  have hlen : us.length = ps.length := by rw [← r.length]; exact F.len _ _ _ _ q
  have kin : K.In s1.heap := by have := I1.kIn; rw [c.K] at this; exact this
  refine wpAny_call (codeAny_mono (runG c F (by omega) (us := us) (E1 := fun _ _ => False) (by have z := hb s1 us kin (by rw [List.append_nil]; exact hlen); rw [List.append_nil] at z; exact z) I1 r q) fun r s' z => ?_)
  cases r with
  | error er => exact z.elim
  | ok fl => cases fl with
    | ret u => exact z
    | next => exact z.elim
    | brk => exact z.elim
    | cont => exact z.elim
theorem pg_callK {kws : List Keyword} {pm : List Nat} (c : XC P w K mg base gq E k N sc X) (F : GFn P w K mg base j f fd ps (spGG K mg ps.length g)) (hj : j + 3 ≤ k) (hpm : pm.length = ps.length) (hg : L2.Gl X x) (hm : mg x = some (.ref f)) (hk : PySem.W.keepIn K (.ref f) = true)
    (hb : ∀ (s : Shared) (ws : List Value), K.In s.heap → ws.length = n → BindsTo s fd ⟨[], ks.zip ws⟩ (ps.zip (pickV pm ws))) (ha : PK X kws (tDL K mg E la))
    (hall : (backToKw pos (keywordEach kws X.env)).all (·.1.isSome) = true := by rfl) (hks : (backToKw pos (keywordEach kws X.env)).filterMap (·.1) = ks := by rfl) (hdb : (x == ("__debug__" : Str)) = false := by decide)
    (hpl : ((backTo pos (starEach [] X.env)).any (·.1) || (backToKw pos (keywordEach kws X.env)).any (·.1.isNone)) = false := by rfl) :
    PGen X j (.Call (.Name x p) [] kws pos) (fun σ H cont => tDL K mg E la σ H fun vs H1 => vs.length = n ∧ spGG K mg ps.length g (pickV pm vs) H1 cont noE) noE := by
  refine ⟨fun pins s σ H cont I h => ?_⟩
  have hm' : X.mg x = some (.ref f) := by rw [c.mg]; exact hm
  have hk' : PySem.W.keepIn X.K (.ref f) = true := by rw [c.K]; exact hk
  refine wpAny_Call_Name_kw (ld_glob I hg hm' ?_ hdb)
  refine PySem.W.callWith_KW0 (h₀ := X.base) I.ok.mod.kin hk' hall (thn (ha.run pos pins s σ H _ I h) ?_) hpl
  rintro us s1 ⟨vs, H1, I1, r, hl, q⟩
  refine ⟨I1.kIn, ?_⟩
  rw [hks]
  have kin : K.In s1.heap := by have := I1.kIn; rw [c.K] at this; exact this
  have hul : us.length = n := by rw [← r.length]; exact hl
  refine wpAny_call (codeAny_mono (runG c F (by omega) (E1 := fun _ _ => False) (hb s1 us kin hul) I1 (pick_vals r) q) fun r s' z => ?_)
  cases r with
  | error er => exact z.elim
  | ok fl => cases fl with
    | ret u => exact z
    | next => exact z.elim
    | brk => exact z.elim
    | cont => exact z.elim
/-- list(f(e, ..)) -/
theorem d_listG {nm : Str} {p2 pos2 : Pos} (c : XC P w K mg base gq E k N sc X) (F : GFn P w K mg base j f fd ps (spGG K mg n g)) (hj : j + 3 ≤ k) (hg : L2.Gl X x) (hm : mg x = some (.ref f)) (hk : PySem.W.keepIn K (.ref f) = true) (hb : Binds K fd ps [])
    (hgl : L2.Gl X nm) (hml : X.mg nm = none) (hv : bootBuiltins nm = some (.type "list"))
    (ha : PA X (e :: es) (tDL K mg E la)) (hnm : nm ≠ "__name__" := by decide) (hdb2 : (nm == ("__debug__" : Str)) = false := by decide) (hdb : (x == ("__debug__" : Str)) = false := by decide) (he : starEach (e :: es) X.env = (false, eval e X.env) :: starEach es X.env := by rfl) (hpl : (backTo pos (starEach es X.env)).any (·.1) = false := by rfl)
    (he2 : starEach [.Call (.Name x p) (e :: es) [] pos] X.env = (false, eval (.Call (.Name x p) (e :: es) [] pos) X.env) :: starEach [] X.env := by rfl) :
    PE X (.Call (.Name nm p2) [.Call (.Name x p) (e :: es) [] pos] [] pos2) (tD K mg E (eListG n g la)) := by
  refine PE.to (pe_listG (pg_call c F hj hg hm hk hb ha hdb he hpl) c.passNo no_stop (c.room.mono hj) hgl hml hv hnm hdb2 he2) fun σ H Q h => ?_
  obtain ⟨B, m, ρ, S, re, rs, q⟩ := h
  refine (partL re rs q).imp ?_
  rintro vs H1 ⟨m1, ds, S1, x1, re1, rs1, r1, q1⟩
  split at q1
  · rename_i hl
    refine ⟨B, m1, ds, S1, Nat.eq_of_beq_eq_true hl, r1, rs1, ?_⟩
    cases eg : g ds S1 with
    | ok out S2 =>
      rw [eg] at q1
      intro m' H' ys y rs' ry p hp
      exact Aft.newLst rs' ry (Aft.shift y q1) p hp
    | exc e S2 => rw [eg] at q1; exact q1.elim
    | bad => rw [eg] at q1; exact q1.elim
  · exact q1.elim
theorem d_listGK {nm : Str} {p2 pos2 : Pos} {kws : List Keyword} {pm : List Nat} (c : XC P w K mg base gq E k N sc X) (F : GFn P w K mg base j f fd ps (spGG K mg ps.length g)) (hj : j + 3 ≤ k) (hpm : pm.length = ps.length) (hg : L2.Gl X x) (hm : mg x = some (.ref f)) (hk : PySem.W.keepIn K (.ref f) = true)
    (hb : ∀ (s : Shared) (ws : List Value), K.In s.heap → ws.length = n → BindsTo s fd ⟨[], ks.zip ws⟩ (ps.zip (pickV pm ws)))
    (hgl : L2.Gl X nm) (hml : X.mg nm = none) (hv : bootBuiltins nm = some (.type "list")) (ha : PK X kws (tDL K mg E la))
    (hall : (backToKw pos (keywordEach kws X.env)).all (·.1.isSome) = true := by rfl) (hks : (backToKw pos (keywordEach kws X.env)).filterMap (·.1) = ks := by rfl) (hdb : (x == ("__debug__" : Str)) = false := by decide)
    (hpl : ((backTo pos (starEach [] X.env)).any (·.1) || (backToKw pos (keywordEach kws X.env)).any (·.1.isNone)) = false := by rfl)
    (hnm : nm ≠ "__name__" := by decide) (hdb2 : (nm == ("__debug__" : Str)) = false := by decide)
    (he2 : starEach [.Call (.Name x p) [] kws pos] X.env = (false, eval (.Call (.Name x p) [] kws pos) X.env) :: starEach [] X.env := by rfl) :
    PE X (.Call (.Name nm p2) [.Call (.Name x p) [] kws pos] [] pos2) (tD K mg E (eListGK n pm g la)) := by
  refine PE.to (pe_listG (pg_callK c F hj hpm hg hm hk hb ha hall hks hdb hpl) c.passNo no_stop (c.room.mono hj) hgl hml hv hnm hdb2 he2) fun σ H Q h => ?_
  obtain ⟨B, m, ρ, S, re, rs, q⟩ := h
  refine (partL re rs q).imp ?_
  rintro vs H1 ⟨m1, ds, S1, x1, re1, rs1, r1, q1⟩
  split at q1
  · rename_i hl
    split at q1
    · rename_i es' ep
      refine ⟨by rw [← r1.length]; exact Nat.eq_of_beq_eq_true hl, B, m1, es', S1, (pick_len ep).trans hpm, pick_reps r1 ep, rs1, ?_⟩
      cases eg : g es' S1 with
      | ok out S2 =>
        rw [eg] at q1
        intro m' H' ys y rs' ry p hp
        exact Aft.newLst rs' ry (Aft.shift y q1) p hp
      | exc e S2 => rw [eg] at q1; exact q1.elim
      | bad => rw [eg] at q1; exact q1.elim
    · exact q1.elim
  · exact q1.elim
end
end Zed

namespace Zed
open PySem PySem.Spec PyProof.Rows L2 RZ

/-! ## The end: the law's call on the claim's own ground -/
def Fine (s : Shared) (r : Result) (t : Shared) : Prop := r = .ok (.ret (.bool true)) ∧ OldK s.heap t.heap ∧ t.os = s.os ∧ AllBare t.gens
/-- what a heap shows of the script alone -/
def sees (a : Addr) (o : Obj) (ns : List Int) (yes : Bool) : Hp := fun b => match yes, decide (b = a) with
  | true, true => some (.frz o (.lst (ns.map V.int)))
  | _, _ => none
theorem sees_at (a : Addr) (o : Obj) (ns : List Int) : sees a o ns true a = some (.frz o (.lst (ns.map V.int))) := by simp [sees]
theorem sees_off {a b : Addr} (o : Obj) (ns : List Int) (y : Bool) (h : b ≠ a) : sees a o ns y b = none := by cases y <;> simp [sees, h]
theorem sees_is {a b : Addr} {o : Obj} {ns : List Int} {y : Bool} {u : HO} (h : sees a o ns y b = some u) : y = true ∧ b = a ∧ u = .frz o (.lst (ns.map V.int)) := by
  by_cases e : b = a
  · subst e
    cases y with
    | false => cases h
    | true => rw [sees_at] at h; cases h; exact ⟨rfl, rfl, rfl⟩
  · rw [sees_off o ns y e] at h; cases h
/-- the tables, first among the cells -/
def tabS : Nat → Nat → Sto
  | _, 0 => []
  | i, n + 1 => .tbl i :: tabS (i + 1) n
theorem tabS_len : ∀ {n i : Nat}, (tabS i n).length = n
  | 0, _ => rfl
  | n + 1, i => by simp [tabS, tabS_len]
theorem tabS_get : ∀ {n i j : Nat}, j < n → (tabS i n)[j]? = some (.tbl (i + j))
  | 0, _, _, h => absurd h (Nat.not_lt_zero _)
  | n + 1, i, 0, _ => by simp [tabS]
  | n + 1, i, j + 1, h => by
    simp only [tabS, List.getElem?_cons_succ]
    rw [tabS_get (by omega)]
    congr 2
    omega
/-- code object, table, the lambda's name -/
abbrev TabL := List (Addr × Addr × Str)
abbrev tcOf (cs : TabL) (fs : List Addr := []) : TabC := ⟨cs.map (·.2), fs⟩
def seesT (ts : List Addr) (a : Addr) (o : Obj) (ns : List Int) (yes : Bool) : Hp := fun b => if b ∈ ts then some (.tbl #[]) else sees a o ns yes b
section
variable {P : Program} {w : World} {K : PySem.W.Frag} {mg mb : Str → Option Value} {k : Nat} {fa a : Addr} {fd : FuncData} {x : Str} {g : GD} {s₁ : Shared} {vs : List Value} {ns : List Int} {cs : TabL} {fs : List Addr}
/-- what is known of the tables at the start -/
structure TabsOk (K : PySem.W.Frag) (h : Heap) (cs : TabL) : Prop where
  obj : ∀ p ∈ cs, h.get? p.2.1 = some { cls := .none, data := .fields #[] }
  out : ∀ p ∈ cs, K.lookup p.2.1 = none
  code : ∀ p ∈ cs, PySem.W.CodeHd h p.1 p.2.1
  nd : (cs.map (·.2.1)).Nodup
def BmAt (mg : Str → Option Value) (h : Heap) : Prop := ∃ (m : Addr) (o : Obj), mg "__builtins__" = some (.ref m) ∧ m ≠ builtinsNs ∧ h.get? m = some o ∧ o.cls = .type "module" ∧ o.dict = some builtinsNs ∧ o.data = .plain
theorem end_with (y : Bool) (TT : TabsOk K s₁.heap cs) (hbm : BmAt mg s₁.heap) (hk : y = true → K.lookup a = none) (hS : SqS K (seesT (cs.map (·.2.1)) a { cls := .type "list", data := .seq vs.toArray } ns y) a (ns.map V.int))
    (kin : K.In s₁.heap) (top : s₁.heap.Ns mainGlobals mg) (blt : s₁.heap.Ns builtinsNs mb) (std : ∀ x : Str, x ≠ "__name__" → mb x = bootBuiltins x) (free : s₁.heap.NoLimit) (calm : s₁.gens = #[])
    (scr : s₁.heap.get? a = some { cls := .type "list", data := .seq vs.toArray }) (isI : IntsAre vs ns) (few : ns.length ≤ sizeLine) (room : Room k callerA)
    (F : ∀ base : Heap, K.In base → base.Ns mainGlobals mg → (∀ p ∈ cs, LamX.TabB base mg p.1 p.2.1) → FnG P w K mg base true k fa fd [x] (@spG (tcOf cs fs) K mg 1 g)) (bind : ∀ (s : Shared) (u : Value), BindsTo s fd ⟨[u], []⟩ [(x, u)])
    (yes : ∃ S', g [.scr ns] (tabS 0 cs.length) = .ok (.bl true) S') : codeAny (model P w) callerA (.call (.ref fa) ⟨[.ref a], []⟩) (Fine s₁) s₁ := by
  have tObj : ∀ b, b ∈ cs.map (·.2.1) → s₁.heap.get? b = some { cls := .none, data := .fields #[] } := fun b hb => by
    obtain ⟨p, hp, rfl⟩ := List.mem_map.mp hb
    exact TT.obj p hp
  have aNot : a ∉ cs.map (·.2.1) := fun z => by
    have q := tObj a z
    rw [scr] at q
    simp at q
  generalize hH : seesT (cs.map (·.2.1)) a { cls := .type "list", data := .seq vs.toArray } ns y = H at hS
  have atT : ∀ b, b ∈ cs.map (·.2.1) → H b = some (.tbl #[]) := fun b hb => by rw [← hH]; exact if_pos hb
  have isA : ∀ b u, H b = some u → (b ∈ cs.map (·.2.1) ∧ u = .tbl #[]) ∨ (y = true ∧ b = a ∧ u = .frz { cls := .type "list", data := .seq vs.toArray } (.lst (ns.map V.int))) := fun b u h => by
    by_cases hb : b ∈ cs.map (·.2.1)
    · rw [atT b hb] at h
      exact .inl ⟨hb, (Option.some.inj h).symm⟩
    · rw [← hH] at h
      exact .inr (sees_is ((if_neg hb).symm.trans h))
  have nsB : ∀ b o, s₁.heap.get? b = some o → (b = a → y = false) → b ∉ cs.map (·.2.1) → (hidT s₁.heap H).get? b = some o := fun b o e q nt => hidT_get e (by
    cases z : H b with
    | none => rfl
    | some u =>
      rcases isA b u z with ⟨t1, _⟩ | ⟨y1, y2, _⟩
      · exact absurd t1 nt
      · rw [q y2] at y1; cases y1)
  have dicts : ∀ {b : Addr} {f : Str → Option Value}, s₁.heap.Ns b f → (hidT s₁.heap H).Ns b f := by
    rintro b f ⟨o, es, ep, e, d, r⟩
    refine ⟨o, es, ep, nsB b o e (fun z => ?_) (fun z => ?_), d, r⟩
    · subst z
      rw [scr] at e
      cases e
      cases d
    · rw [tObj b z] at e
      cases e
      cases d
  have kin' : K.In (hidT s₁.heap H) := fun b o e => nsB b o (kin b o e) (fun z => by
    cases q : y with
    | false => rfl
    | true =>
      subst z
      rw [hk q] at e
      cases e) fun z => by
    obtain ⟨p, hp, rfl⟩ := List.mem_map.mp z
    rw [TT.out p hp] at e
    cases e
  have md : Mod K mg (hidT s₁.heap H) := by
    refine ⟨kin', dicts top, ⟨mb, dicts blt, std⟩, ?_⟩
    obtain ⟨mc, f1, f2⟩ := free
    exact ⟨mc, dicts f1, f2⟩
  have tabB : ∀ p ∈ cs, LamX.TabB (hidT s₁.heap H) mg p.1 p.2.1 := fun p hp => by
    have pT := TT.obj p hp
    refine ⟨?_, ?_, fun z => ?_⟩
    · obtain ⟨o, us, fl, tf, fg, tg, inF, tx, tt, e1, w1, w2, w3, w4⟩ := TT.code p hp
      refine ⟨o, us, fl, tf, fg, tg, inF, tx, tt, nsB _ _ e1 (fun z => ?_) (fun z => ?_), w1, w2, w3, w4⟩
      · rw [z, scr] at e1
        cases e1
        cases w2
      · rw [tObj _ z] at e1
        cases e1
        cases w2
        simp at w3
    · obtain ⟨bm, ob, c1, c2, c3, c4, c5, c6⟩ := hbm
      have n1 : bm ≠ mainGlobals := fun q => by
        obtain ⟨o, es, ep, e, hd, _⟩ := top
        rw [q, e] at c3
        cases c3
        rw [hd] at c6
        cases c6
      have n2 : bm ∉ cs.map (·.2.1) := fun z => by
        rw [tObj bm z] at c3
        cases c3
        cases c6
      refine ⟨bm, ob, c1, c2, n1, fun z => n2 (z ▸ List.mem_map.mpr ⟨p, hp, rfl⟩), nsB bm ob c3 (fun z => ?_) n2, c4, c5, c6⟩
      rw [z, scr] at c3
      cases c3
      cases c6
    · obtain ⟨o, es, ep, e, hd, _⟩ := top
      rw [z, pT] at e
      cases e
      cases hd
  have hok : HOk P w H s₁.heap := fun b u e => by
    rcases isA b u e with ⟨t1, rfl⟩ | ⟨_, rfl, rfl⟩
    · exact tObj b t1
    · exact ⟨scr, by rw [List.length_map]; exact few, vs, _, L2.vals_ints isI, scr⟩
  have e0 : Env0 P w K mg (hidT s₁.heap H) callerA [] s₁ H := by
    constructor
    · rfl
    · exact md
    · exact fun b o e => of_hidT e
    · rw [hidT_size]
      exact Nat.le_refl _
    · trivial
    · intro b hb
      exact (List.not_mem_nil (show b ∈ ([] : List Addr) from hb)).elim
    · exact hok
    · exact .of_eq calm
  letI : TabC := tcOf cs fs
  have first : @RepSto (tcOf cs fs) amb0 K [] (cs.map (·.2.1)) H (tabS 0 cs.length) := by
    refine ⟨by rw [List.length_map, tabS_len], TT.nd, fun b hb => (List.not_mem_nil hb).elim, fun n b c e1 e2 => ?_, fun i p q => ?_⟩
    · have hn : n < cs.length := by
        have := (List.getElem?_eq_some_iff.mp e1).1
        rwa [List.length_map] at this
      rw [tabS_get hn] at e2
      cases e2
      refine ⟨#[], atT b (List.mem_of_getElem? e1), trivial, fun pos cv hc => ?_⟩
      have z : codeAmong pos [] = some cv := hc
      simp [codeAmong] at z
    · have q' : (cs.map (·.2))[i]? = some p := q
      rw [List.getElem?_map] at q' ⊢
      cases hi : cs[i]? with
      | none => rw [hi] at q'; cases q'
      | some r =>
        rw [hi] at q'
        simp at q'
        refine ⟨by simp [q'], ?_⟩
        rw [tabS_get (List.getElem?_eq_some_iff.mp hi).1, Nat.zero_add]
  have told : @spG (tcOf cs fs) K mg 1 g [.ref a] H (fun v _ => v = .bl true) (fun _ _ _ => False) := ⟨[], cs.map (·.2.1), [.scr ns], tabS 0 cs.length, rfl, @Reps.cons _ amb0 K [] _ H _ _ _ _ (.scr hS) .nil, first, by
    obtain ⟨S', yes⟩ := yes
    rw [yes]
    exact fun m' H' v _ _ rv => rv.bl_inv⟩
  have main := (F _ kin' (dicts top) tabB).run callerA [] s₁ H ⟨[.ref a], []⟩ [.ref a] [.ref a] _ _ room (fun _ => rfl) e0 (bind s₁ (.ref a)) (.cons rfl .nil) told
  refine codeAny_mono main fun r t q => ?_
  cases r with
  | error e =>
    obtain ⟨_, _, _, _, _, _, _, _, _, _, _, _, no⟩ := q
    exact no.elim
  | ok fl =>
    cases fl with
    | ret u =>
      obtain ⟨v, H', os, bare, un, hok', rv, rfl⟩ := q
      cases rv
      have stays : ∀ b o, b ∉ cs.map (·.2.1) → s₁.heap.get? b = some o → t.heap.get? b = some o := fun b o nb e => by
        cases z : H b with
        | none => exact un.keep b o e z (fun z => (List.not_mem_nil (show b ∈ ([] : List Addr) from z)).elim) (by simp)
        | some u =>
          rcases isA b u z with ⟨t1, _⟩ | ⟨_, rfl, rfl⟩
          · exact absurd t1 nb
          · have later := un.frzs b _ _ z
            rw [scr] at e
            cases e
            exact (hok' b _ later).1
      have grew : ∀ p ∈ cs, ∃ m : Array Value, t.heap.get? p.2.1 = some { cls := .none, data := .fields m } := fun p hp => by
        obtain ⟨m, z⟩ := un.tbls p.2.1 #[] (atT _ (List.mem_map.mpr ⟨p, hp, rfl⟩))
        exact ⟨_, hok' p.2.1 _ z⟩
      refine ⟨rfl, ⟨fun b o e => ?_, fun b o e => ?_⟩, os, bare⟩
      · by_cases nb : b ∈ cs.map (·.2.1)
        · obtain ⟨p, hp, rfl⟩ := List.mem_map.mp nb
          obtain ⟨m, hm⟩ := grew p hp
          rw [TT.obj p hp] at e
          cases e
          exact .inr (.inl ⟨((TT.code p hp).tab (TT.obj p hp)).isCodeTable, rfl, #[], m, rfl, by rw [Array.empty_append]; exact hm⟩)
        · exact .inl (stays b o nb e)
      · by_cases nb : b ∈ cs.map (·.2.1)
        · obtain ⟨p, hp, rfl⟩ := List.mem_map.mp nb
          obtain ⟨m, hm⟩ := grew p hp
          exact ⟨_, hm⟩
        · exact ⟨o, stays b o nb e⟩
    | next => exact q.elim
    | brk => exact q.elim
    | cont => exact q.elim
theorem end_run (TT : TabsOk K s₁.heap cs) (hbm : BmAt mg s₁.heap) (kin : K.In s₁.heap) (top : s₁.heap.Ns mainGlobals mg) (blt : s₁.heap.Ns builtinsNs mb) (std : ∀ x : Str, x ≠ "__name__" → mb x = bootBuiltins x) (free : s₁.heap.NoLimit) (calm : s₁.gens = #[])
    (scr : s₁.heap.get? a = some { cls := .type "list", data := .seq vs.toArray }) (isI : IntsAre vs ns) (few : ns.length ≤ sizeLine) (room : Room k callerA)
    (F : ∀ base : Heap, K.In base → base.Ns mainGlobals mg → (∀ p ∈ cs, LamX.TabB base mg p.1 p.2.1) → FnG P w K mg base true k fa fd [x] (@spG (tcOf cs fs) K mg 1 g)) (bind : ∀ (s : Shared) (u : Value), BindsTo s fd ⟨[u], []⟩ [(x, u)])
    (yes : ∃ S', g [.scr ns] (tabS 0 cs.length) = .ok (.bl true) S') : codeAny (model P w) callerA (.call (.ref fa) ⟨[.ref a], []⟩) (Fine s₁) s₁ := by
  have aNot : a ∉ cs.map (·.2.1) := fun z => by
    obtain ⟨p, hp, e⟩ := List.mem_map.mp z
    have q := TT.obj p hp
    rw [e, scr] at q
    simp at q
  cases q : K.lookup a with
  | none => exact end_with true TT hbm (fun _ => q) (.inl ⟨_, (if_neg aNot).trans (sees_at _ _ _)⟩) kin top blt std free calm scr isI few room F bind yes
  | some o =>
    have same := kin a o q
    rw [scr] at same
    cases same
    refine end_with false TT hbm (fun z => nomatch z) (.inr ⟨_, vs.toArray, _, q, rfl, rfl, rfl, ?_, ?_⟩) kin top blt std free calm scr isI few room F bind yes
    · rw [List.size_toArray, isI.length]
      exact few
    · simpa using L2.vals_ints isI
end
/-- in the place of the walk: xs, the defs that hold lambdas -/
theorem the_end {l : PySem.W.OpenLaw} {n k : Nat} {q : Program} {loose : List Str} {XP : (Str → Option Value) → Heap → Prop} {YP : World → Heap → Prop} {d : DefRec} {K : Params → PySem.W.Frag} {g : GD} {x : Str} (xs : List Str)
    (most : l.most = some n) (small : n ≤ sizeLine) (plain : d.params.defaults = []) (room : Room k callerA) (recs : ∀ y ∈ xs, ((recsOf q).find? fun e => e.name == y).isSome = true) (kin : ∀ (w : World) (h : Heap), YP w h → (K w.params).In h)
    (F : ∀ (w : World) (mg : Str → Option Value) (fa : Addr) (h : Heap), (K w.params).In h → h.Ns mainGlobals mg → mg d.name = some (.ref fa) → (∀ y ∈ xs, ∀ c P, PySem.W.tabIn (K w.params) y = some (c, P) → PySem.W.CodeHd h c P ∧ h.get? P = some { cls := .none, data := .fields #[] }) →
      ∃ (fd : FuncData) (cs : TabL) (fs : List Addr), cs.length = xs.length ∧ TabsOk (K w.params) h cs ∧ (∀ (s : Shared) (u : Value), BindsTo s fd ⟨[u], []⟩ [(x, u)]) ∧ ∀ base : Heap, (K w.params).In base → base.Ns mainGlobals mg → (∀ p ∈ cs, LamX.TabB base mg p.1 p.2.1) → FnG l.prog w (K w.params) mg base true k fa fd [x] (@spG (tcOf cs fs) (K w.params) mg 1 g))
    (yes : ∀ ns : List Int, ns.length ≤ n → ∃ S', g [.scr ns] (tabS 0 xs.length) = .ok (.bl true) S') : PySem.W.WalkO q loose XP YP l.row.toRowW d [] (fun f vs => PySem.call f vs) :=
  Att.attach_call most plain fun w _ s₁ mg mb fa _ _ _ _ a vs ns G Y _ _ _ hm scr isI len calm => by
    have top := G.T.g
    have X := kin w _ Y
    obtain ⟨fd, cs, fs, hl, TT, bind, ok⟩ := F w mg fa _ X top hm fun y hy c P ht => by
      obtain ⟨dr, hr⟩ := Option.isSome_iff_exists.mp (recs y hy)
      exact PySem.W.tab_of G.T X hr ht
    exact end_run TT G.T.bmain X top G.T.b G.T.builtins G.T.nolimit calm scr isI (Nat.le_trans len small) room ok bind (by rw [hl]; exact yes ns len)
end Zed

namespace Zed
open PySem PySem.Spec PyProof.Rows L2 RZ

/-! ## A tuple once -/
theorem tup_once (l : Addr) (items : Array Value) (n : Nat) (dd : Option Addr) (sl : Array (Option Value)) (u : Tok) :
    Meets (Builtin.«tuple.__mul__» ⟨[.ref l, .int 1 u], []⟩) (fun _ R s => s.heap.get? l = some { cls := .type "tuple", dict := dd, data := .seq items n, slots := sl } ∧ R (.ok (.ret (.ref l))) s) :=
  .of_wp fun prog w A R s h => by
    obtain ⟨hp, g, d, tk, os⟩ := s
    obtain ⟨hl, h⟩ := h
    have f1 := AutoSeq1.idx_int
    have c0 : (decide ((1 : Int) < -(2 ^ 63)) || decide ((1 : Int) ≥ 2 ^ 63)) = false := by decide
    have c1 : (items.isEmpty || (1 : Int) == 1) = true := by simp
    wp_walk using wpAny_loadPart' hl
    repeat (first
      | (refine wpAny_ite_false (decide_eq_false (by rw [c0]; exact Bool.false_ne_true)) ?_; wp_walk using wpAny_loadPart' hl)
      | (refine wpAny_ite_true (decide_eq_true c1) ?_; wp_walk using wpAny_loadPart' hl))
    exact ⟨_, rfl, h⟩
def rOnce (K : PySem.W.Frag) : R2 := fun x y H Q => ∃ l xs, x = .ref l ∧ y = .int 1 ∧ SqT K H l xs ∧ Q (.ref l) H
section
variable [TC : TabC] [AM : AmbC] {X : Cx}
theorem op_once : OpR X (binaryOp .Mult) (rOnce X.K) := by
  intro pins s σ H x y v u Q I rx ry h
  obtain ⟨l, xs, rfl, rfl, hT, q⟩ := h
  cases rx
  obtain ⟨t, rfl⟩ := ry
  obtain ⟨its, r, ⟨⟨cls, dd, data, sl⟩, ho, hc, n, hd⟩, hs⟩ := I.tuple hT
  simp only at hc hd
  subst hc hd
  refine wpAny_binaryOp_repeat_ref (T := "tuple") (U := "int") (by decide) ⟨_, ho, rfl⟩ (fun s' => typeIs_int s' 1 t) noFill_tuple_mul F.fills_int_mul F.slot_int_rmul repeat_tuple F.slot_int_index.lookup
    (call_meets F.slot_int_rmul (typeIs_int s 1 t) F.entry_int_rmul (F.args_int_rmul_2 _ _) (int_rmul_tuple 1 t l its.toArray n dd sl)
      ⟨ho, rfl, ⟨_, ho, rfl⟩, call_meets F.slot_tuple_mul ⟨_, ho, rfl⟩ F.entry_tuple_mul (F.args_tuple_mul_2 _ _) (tup_once l its.toArray n dd sl t) ⟨ho, ?_⟩⟩)
  exact ⟨.ref l, H, I, rfl, q⟩
theorem o_mul' : OpR X (binaryOp .Mult) (fun x y H Q => rOnce X.K x y H Q ∨ ((rI CMulW (fun i j => .int (i * j))) x y H Q ∨ rRepT X.K x y H Q ∨ rRep x y H Q)) := op_once.or o_mul
end
def mulD' : OD
  | .tup xs, .int 1, S => .ok (.tup xs) S
  | d, e, S => mulD d e S
section
variable [TC : TabC] [AM : AmbC] {K : PySem.W.Frag} {mg : Str → Option Value} {E : XK} {X : Cx}
theorem sp_mul' : OpSp K mg E mulD' (fun x y H Q => rOnce K x y H Q ∨ ((rI CMulW (fun i j => .int (i * j))) x y H Q ∨ rRepT K x y H Q ∨ rRep x y H Q)) := by
  intro B m H S d e x y Q rs rd re q
  unfold mulD' at q
  split at q
  · obtain ⟨a, vs, rfl, ha, ra⟩ := rd.tup_inv
    rw [re.int_inv]
    exact .inl ⟨a, vs, rfl, rfl, ha, q.same rs (.tup ha ra)⟩
  · exact .inr (sp_mul B m H S d e x y Q rs rd re q)
end

/-! ## Either kind walked; two lists joined as a list that is then changed -/
def iAny (f : ED) : LD := fun ρ S => (f ρ S).bind fun d S1 => match d with
  | .tup ds => .ok ds S1
  | .lst ds => .ok ds S1
  | .scr ns => .ok (ns.map D.int) S1
  | _ => .bad
section
variable [TC : TabC] [AM : AmbC] {K : PySem.W.Frag} {mg : Str → Option Value} {E : XK} {X : Cx} {B m m1 m2 : List Addr} {H H1 H2 : Hp} {S : Sto} {tg e a b : Expr} {f g : ED} {pos : Pos}
theorem i_any (h : PE X e (tD X.K mg E f)) : PI X tg e (tDI X.K mg E (iAny f)) := by
  refine ⟨fun pins s σ H R I hh => ?_⟩
  obtain ⟨B, m, ρ, S, re, rs, q⟩ := hh
  have t1 := (i_tup (tg := tg) h).run pins s σ H R I
  have t2 := (i_list (tg := tg) h).run pins s σ H R I
  cases ef : f ρ S with
  | exc x S1 => exact t1 ⟨B, m, ρ, S, re, rs, by unfold iAny at q; unfold iTupD; rw [ef] at q ⊢; exact q⟩
  | bad => exact t1 ⟨B, m, ρ, S, re, rs, by unfold iAny at q; unfold iTupD; rw [ef] at q ⊢; exact q⟩
  | ok d S1 =>
    cases d with
    | lst ds => exact t2 ⟨B, m, ρ, S, re, rs, by unfold iAny at q; unfold iLst; rw [ef] at q ⊢; exact q⟩
    | scr ds => exact t2 ⟨B, m, ρ, S, re, rs, by unfold iAny at q; unfold iLst; rw [ef] at q ⊢; exact q⟩
    | _ => exact t1 ⟨B, m, ρ, S, re, rs, by unfold iAny at q; unfold iTupD; rw [ef] at q ⊢; exact q⟩
def lAdd (f g : ED) : LD := fun ρ S => (f ρ S).bind fun d S1 => (g ρ S1).bind fun e S2 => match itemsW S2 d, itemsW S2 e with
  | some xs, some ys => if xs.length + ys.length ≤ sz then .ok (xs ++ ys) S2 else .bad
  | _, _ => .bad
theorem f_addL (ha : PE X a (tD X.K mg E f)) (hb : PE X b (tD X.K mg E g)) : PE X (.BinOp a .Add b pos) (tDF X.K mg E (lAdd f g)) := by
  refine PE.to (pe_op (o_add) ha hb) fun σ H Q h => ?_
  obtain ⟨B, m, ρ, S, re, rs, q⟩ := h
  have key : ∀ m' H' p vs ds S', lAdd f g ρ S = .ok ds S' → Ex m H m' H' → RepSto X.K B m' H' S' → Reps X.K B m' H' ds vs → H' p = none → Q (.ref p) (upd H' p (.lst vs)) := by
    intro m' H' p vs ds S' e1 x rs' r' hp
    rw [e1] at q
    have x2 := Ex.fresh (o := HO.lst vs) rs' hp
    exact q m' _ p vs (x.trans x2) (x.none_of hp) (rs'.notin hp) upd_same (rs'.hide hp) ((r'.map fun _ _ r => Rep.hide hp r).mono x2)
  have ex : ∀ x S', lAdd f g ρ S = .exc x S' → ∀ m' H' c od, Ex m H m' H' → RepSto X.K B m' H' S' → ExnAt X.K mg B m' H' x c od → E c od H' := by
    intro x S' e1
    rw [e1] at q
    exact q
  have nb : lAdd f g ρ S ≠ .bad := fun z => by rw [z] at q; exact q
  clear q
  unfold lAdd at key ex nb
  refine ⟨B, m, ρ, S, re, rs, ?_⟩
  cases e1 : f ρ S with
  | exc x S1 => rw [e1] at ex; exact ex x S1 rfl
  | bad => rw [e1] at nb; exact nb rfl
  | ok d S1 =>
    rw [e1] at key ex nb
    simp only [R.bind] at key ex nb
    intro m1 H1 v x1 rs1 r1
    refine ⟨B, m1, ρ, S1, re.mono x1, rs1, ?_⟩
    cases e2 : g ρ S1 with
    | exc x S2 => rw [e2] at ex; exact fun m' H' c od y => ex x S2 rfl m' H' c od (x1.trans y)
    | bad => rw [e2] at nb; exact nb rfl
    | ok e S2 =>
      rw [e2] at key ex nb
      simp only [R.bind] at key ex nb
      intro m2 H2 w x2 rs2 r2
      have r3 := r1.mono x2
      cases i1 : itemsW S2 d with
      | none => rw [i1] at nb; exact absurd rfl nb
      | some xs =>
        cases i2 : itemsW S2 e with
        | none => rw [i1, i2] at nb; exact absurd rfl nb
        | some ys =>
          rw [i1, i2] at key nb
          simp only at key nb
          split at nb
          · rename_i hl
            rw [if_pos hl] at key
            obtain ⟨a1, vs, rfl, h1, k1⟩ := r3.itemsW rs2 i1
            obtain ⟨a2, ws, rfl, h2, k2⟩ := r2.itemsW rs2 i2
            exact .inr (.inr ⟨a1, a2, vs, ws, rfl, rfl, h1, h2, by rw [← sz_eq, ← k1.length, ← k2.length]; exact hl, fun p hp => key m2 H2 p _ _ S2 rfl (x1.trans x2) rs2 (k1.append k2) hp⟩)
          · exact absurd rfl nb
end
end Zed

namespace Zed
open PySem PySem.Spec PyProof.Rows L2 RZ

/-! ## The rules by the body's context -/
/-- a block's names, seen from around -/
def rel (scope sc : Scope) : Scope := { scope with names := scope.names.map fun (n, k) => if (k == NameKind.free && sc.kind == .function && sc.names.lookup n == some .cell) then (n, NameKind.cell) else (n, k) }
abbrev glo (sc : Scope) (x : Str) : Prop := sc.names.lookup x = some .globalImplicit
section
variable [TC : TabC] {P : Program} {w : World} {K : PySem.W.Frag} {mg : Str → Option Value} {base : Heap} {gq : Bool} {E : XK} {k j n : Nat} {N : List Str} {sc : Scope} {X : Cx} {f : Addr} {fd : FuncData} {ps ks : List Str} {x : Str} {p p2 p3 pos pos' : Pos} {e a b o i : Expr} {es : List Expr} {la lb : LD} {fe ff fg fv : ED}
theorem XC.gl (c : XC P w K mg base gq E k N sc X) (h : glo sc x) : L2.Gl X x := by
  have := c.sc
  subst this
  exact h
theorem XC.no (c : XC P w K mg base gq E k N sc X) (h : mg x = none) : X.mg x = none := by rw [c.mg]; exact h
theorem XC.un (c : XC P w K mg base gq E k N sc X) : X.A.units + 64 < cLine := by have := c.room.un; omega
theorem XC.blk (c : XC P w K mg base gq E k N sc X) (s : Shared) (H : Hp) (scope : Scope) (C : Addr) (cl : List (Str × Addr)) (fp : List Addr) : XC P w K mg base gq noE k N (rel scope sc) (X.blk s H scope (compEnvC scope cl C X.env) fp) := by
  obtain ⟨h1, h2, h3, h4, h5, h6, h7, h8, h9, h10, h11, h12, h13⟩ := c
  refine ⟨h1, h2, h3, h4, h5, h6, ?_, h8, h9, h10, h11, fun u s' xx => ?_, PassesOwn.never⟩
  · subst h7
    rfl
  · obtain ⟨_, _, _, _, _, _, _, _, _, _, _, _, _, _, _, _, no⟩ := xx
    exact no.elim
theorem XC.var (c : XC P w K mg base gq E k N sc X) (i : Nat) (h : N[i]? = some x) (hv : Vis sc x) (hd : (x == ("__debug__" : Str)) = false := by decide) (hcd : (x == ("__classdict__" : Str)) = false := by decide) : PE X (.Name x p) (tD K mg E (eV i)) := by
  have h6 := c.N
  have h7 := c.sc
  subst h6 h7
  exact d_var h hv hd hcd
theorem XC.glob {v : V} {u : Value} (c : XC P w K mg base gq E k N sc X) (d : D) (hg : glo sc x) (hm : mg x = some u) (r : RelV v u) (hd : flatD d = some v) (hdb : (x == ("__debug__" : Str)) = false := by decide) : PE X (.Name x p) (tD K mg E (eC d)) :=
  d_glob (c.gl hg) (by rw [c.mg]; exact hm) r hd hdb
theorem XC.len (c : XC P w K mg base gq E k N sc X) (hg : glo sc "len") (hm : mg "len" = none) (ha : PA X [e] (tDL K mg E la)) (he : starEach [e] X.env = (false, eval e X.env) :: starEach [] X.env := by rfl) : PE X (.Call (.Name "len" p) [e] [] pos) (tD K mg E (eBi lenD la)) := by
  have h3 := c.K
  subst h3
  exact d_bi call_len b_len (c.gl hg) (c.no hm) PySem.boot_len ha (by decide) (by decide) he rfl
theorem XC.all (c : XC P w K mg base gq E k N sc X) (hg : glo sc "all") (hm : mg "all" = none) (ha : PA X [e] (tDL K mg E la)) (he : starEach [e] X.env = (false, eval e X.env) :: starEach [] X.env := by rfl) : PE X (.Call (.Name "all" p) [e] [] pos) (tD K mg E (eBi allD la)) := by
  have h3 := c.K
  subst h3
  exact d_bi (cr_all c.calm) b_all (c.gl hg) (c.no hm) PyProof.Rows.boot_all ha (by decide) (by decide) he rfl
theorem XC.any (c : XC P w K mg base gq E k N sc X) (hg : glo sc "any") (hm : mg "any" = none) (ha : PA X [e] (tDL K mg E la)) (he : starEach [e] X.env = (false, eval e X.env) :: starEach [] X.env := by rfl) : PE X (.Call (.Name "any" p) [e] [] pos) (tD K mg E (eBi anyD la)) := by
  have h3 := c.K
  subst h3
  exact d_bi ((cr_anyT c.calm).or (cr_any c.calm)) b_any (c.gl hg) (c.no hm) PyProof.Rows.boot_any ha (by decide) (by decide) he rfl
theorem XC.int (c : XC P w K mg base gq E k N sc X) (hg : glo sc "int") (hm : mg "int" = none) (ha : PA X [e] (tDL K mg E la)) (he : starEach [e] X.env = (false, eval e X.env) :: starEach [] X.env := by rfl) : PE X (.Call (.Name "int" p) [e] [] pos) (tD K mg E (eBi intD la)) := by
  have h3 := c.K
  subst h3
  exact d_ty call_int1 b_int (c.gl hg) (c.no hm) PyProof.Rows.boot_int ha (by decide) (by decide) he rfl
theorem XC.tup (c : XC P w K mg base gq E k N sc X) (hg : glo sc "tuple") (hm : mg "tuple" = none) (ha : PA X [e] (tDL K mg E la)) (he : starEach [e] X.env = (false, eval e X.env) :: starEach [] X.env := by rfl) : PE X (.Call (.Name "tuple" p) [e] [] pos) (tD K mg E (eBi tupD la)) := by
  have h3 := c.K
  subst h3
  exact d_ty call_tuple_of b_tup (c.gl hg) (c.no hm) PyProof.Rows.boot_tuple ha (by decide) (by decide) he rfl
theorem XC.lst (c : XC P w K mg base gq E k N sc X) (hg : glo sc "list") (hm : mg "list" = none) (ha : PA X [e] (tDL K mg E la)) (he : starEach [e] X.env = (false, eval e X.env) :: starEach [] X.env := by rfl) : PE X (.Call (.Name "list" p) [e] [] pos) (tD K mg E (eBi lstD la)) := by
  have h3 := c.K
  subst h3
  exact d_ty call_list_of b_lst (c.gl hg) (c.no hm) PyProof.Rows.boot_list ha (by decide) (by decide) he rfl
theorem XC.srtR {kws : List Keyword} (c : XC P w K mg base gq E k N sc X) (hg : glo sc "sorted") (hm : mg "sorted" = none) (ha : PA X [e] (tDL K mg E la)) (hk : PK X kws (tDL K mg E lb))
    (he : backTo pos (starEach [e] X.env) = (false, eval e X.env) :: backTo pos (starEach [] X.env) := by rfl) (hpl : (backTo pos (starEach [e] X.env)).any (·.1) = false := by rfl)
    (hall : (backToKw pos (keywordEach kws X.env)).all (·.1.isSome) = true := by rfl) (hnone : (backToKw pos (keywordEach kws X.env)).any (·.1.isNone) = false := by rfl) (hks : (backToKw pos (keywordEach kws X.env)).filterMap (·.1) = [Str.ofString "reverse"] := by rfl) :
    PE X (.Call (.Name "sorted" p) [e] kws pos) (tD K mg E (eSrtR la lb)) := by
  have h3 := c.K
  subst h3
  exact d_srtR (c.gl hg) (c.no hm) PyProof.Rows.boot_sorted ha hk (by decide) (by decide) he hpl hall hnone hks
theorem XC.repr (c : XC P w K mg base true E k N sc X) (hg : glo sc "repr") (hm : mg "repr" = none) (ha : PA X [e] (tDL K mg E la)) (he : starEach [e] X.env = (false, eval e X.env) :: starEach [] X.env := by rfl) : PE X (.Call (.Name "repr" p) [e] [] pos) (tD K mg E (eBi reprD la)) := by
  have h3 := c.K
  subst h3
  exact d_bi (cr_repr c.un (c.gds rfl)) b_repr (c.gl hg) (c.no hm) PyProof.Rows.boot_repr ha (by decide) (by decide) he rfl
theorem XC.isa (c : XC P w K mg base gq E k N sc X) (T : TyC) (hg : glo sc "isinstance") (hm : mg "isinstance" = none) (hg2 : glo sc T.nm) (hm2 : mg T.nm = none) (hv : bootBuiltins T.nm = some (.type T.nm)) (he : PE X e (tD K mg E fe))
    (hn : (T.nm : Str) ≠ "__name__" := by decide) (hd : ((T.nm : Str) == ("__debug__" : Str)) = false := by decide)
    (hs : starEach (e :: [.Name T.nm p2]) X.env = (false, eval e X.env) :: starEach [.Name T.nm p2] X.env := by rfl) :
    PE X (.Call (.Name "isinstance" p) [e, .Name T.nm p2] [] pos) (tD K mg E (eIsa T fe)) := by
  have h3 := c.K
  subst h3
  exact d_isa T (c.gl hg) (c.no hm) (c.gl hg2) (c.no hm2) hv he hn hd hs
theorem XC.item (c : XC P w K mg base gq E k N sc X) (ha : PE X a (tD K mg E ff)) (hb : PE X b (tD K mg E fg)) (hs : PlainIx b := by exact fun _ _ => rfl) : PE X (.Subscript a b pos) (tD K mg E (eBin itemD ff fg)) := by
  have h3 := c.K
  subst h3
  exact d_item ha hb hs
theorem XC.dget (c : XC P w K mg base gq E k N sc X) (ha : PE X a (tD K mg E ff)) (hb : PE X b (tD K mg E fg)) (hs : NoSl b := by exact fun _ _ => rfl) : PE X (.Subscript a b pos) (tD K mg E (eBin dGetD ff fg)) :=
  d_dget (by have := c.un; omega) ha hb hs
theorem XC.dput (c : XC P w K mg base gq E k N sc X) (ho : PE X o (tD K mg E ff)) (hi : PE X i (tD K mg E fg)) (hv : PE X e (tD K mg E fv)) (hs : swapsWith e (some (.Subscript o i pos')) pos.line X.env = pure false := by rfl) :
    PS X (.Assign [.Subscript o i pos'] e pos) (tDS K mg E (sDPutD ff fg fv)) := s_dput (by have := c.un; omega) ho hi hv hs
theorem XC.slT {lo hi : Option Expr} {fl fh : En → Sto → R (Option Int)} (c : XC P w K mg base gq E k N sc X) (he : PE X e (tD K mg E fe)) (hl : PO X lo (tDO K mg E fl)) (hh : PO X hi (tDO K mg E fh)) : PE X (.Subscript e (.Slice lo hi none p2) pos) (tD K mg E (eSlT fe fl fh)) := by
  have h3 := c.K
  subst h3
  exact d_slT he hl hh
theorem XC.slL {lo hi : Option Expr} {fl fh : En → Sto → R (Option Int)} (c : XC P w K mg base gq E k N sc X) (he : PE X e (tD K mg E fe)) (hl : PO X lo (tDO K mg E fl)) (hh : PO X hi (tDO K mg E fh)) : PE X (.Subscript e (.Slice lo hi none p2) pos) (tDF K mg E (lSl fe fl fh)) := by
  have h3 := c.K
  subst h3
  exact f_sl he hl hh
theorem XC.revT {kk : Nat} (c : XC P w K mg base gq E k N sc X) (he : PE X e (tD K mg E fe)) {p1 p5 : Pos} : PE X (.Subscript e (.Slice none none (some (.UnaryOp .USub (.Constant (.int 1) kk p1) p2)) p5) pos) (tD K mg E (eRevT fe)) := by
  have h3 := c.K
  subst h3
  exact d_revT he
theorem XC.star (c : XC P w K mg base gq E k N sc X) (he : PE X a (tD K mg E ff)) (hr : PA X es (tDL K mg E la)) (hs : starEach (.Starred a p :: es) X.env = (true, eval a X.env) :: starEach es X.env := by rfl) : PA X (.Starred a p :: es) (tDL K mg E (lStar ff la)) := by
  have h3 := c.K
  subst h3
  exact l_star he hr hs
theorem XC.addL (c : XC P w K mg base gq E k N sc X) (ha : PE X a (tD K mg E ff)) (hb : PE X b (tD K mg E fg)) : PE X (.BinOp a .Add b pos) (tDF K mg E (lAdd ff fg)) := by
  have h3 := c.K
  subst h3
  exact f_addL ha hb
theorem XC.add (c : XC P w K mg base gq E k N sc X) (ha : PE X a (tD K mg E ff)) (hb : PE X b (tD K mg E fg)) : PE X (.BinOp a .Add b pos) (tD K mg E (eBin addD ff fg)) := by
  have h3 := c.K
  subst h3
  exact d_bin o_add sp_add ha hb
theorem XC.mul (c : XC P w K mg base gq E k N sc X) (ha : PE X a (tD K mg E ff)) (hb : PE X b (tD K mg E fg)) : PE X (.BinOp a .Mult b pos) (tD K mg E (eBin mulD' ff fg)) := by
  have h3 := c.K
  subst h3
  exact d_bin o_mul' sp_mul' ha hb
theorem XC.eq (c : XC P w K mg base gq E k N sc X) (ha : PE X a (tD K mg E ff)) (hb : PE X b (tD K mg E fg)) (hm : behindInMarks .Eq b = false := by rfl) : PE X (.Compare a [.Eq] [b] pos) (tD K mg E (eBin eqOD ff fg)) := by
  have h3 := c.K
  subst h3
  exact d_cmp (op_eq.or (op_eqD (by have := c.un; omega))) sp_eq ha hb hm
theorem XC.ne (c : XC P w K mg base gq E k N sc X) (ha : PE X a (tD K mg E ff)) (hb : PE X b (tD K mg E fg)) (hm : behindInMarks .NotEq b = false := by rfl) : PE X (.Compare a [.NotEq] [b] pos) (tD K mg E (eBin neOD ff fg)) := by
  have h3 := c.K
  subst h3
  exact d_cmp (op_ne.or (op_neD (by have := c.un; omega))) sp_ne ha hb hm
theorem XC.teq (c : XC P w K mg base gq E k N sc X) (ha : PE X a (tD K mg E ff)) (hb : PE X b (tD K mg E fg)) (hm : behindInMarks .Eq b = false := by rfl) : PT X (.Compare a [.Eq] [b] pos) (tDB K mg E (bB (eBin eqOD ff fg))) := by
  have h3 := c.K
  subst h3
  exact t_cmp (op_eq.or (op_eqD (by have := c.un; omega))) sp_eq ha hb hm
theorem XC.tne (c : XC P w K mg base gq E k N sc X) (ha : PE X a (tD K mg E ff)) (hb : PE X b (tD K mg E fg)) (hm : behindInMarks .NotEq b = false := by rfl) : PT X (.Compare a [.NotEq] [b] pos) (tDB K mg E (bB (eBin neOD ff fg))) := by
  have h3 := c.K
  subst h3
  exact t_cmp (op_ne.or (op_neD (by have := c.un; omega))) sp_ne ha hb hm
theorem XC.val (c : XC P w K mg base gq E k N sc X) (h : PE X e (tD K mg E fe)) (he : ∀ whole, isTrue e X.env whole = (do let v ← whole; standAt e.pos; holding [v] (truthy v)) := by intro _; rfl) : PT X e (tDB K mg E (bT fe)) := by
  have h3 := c.K
  subst h3
  exact t_val h he
theorem XC.anyI (c : XC P w K mg base gq E k N sc X) {tg : Expr} (h : PE X e (tD K mg E fe)) : PI X tg e (tDI K mg E (iAny fe)) := by
  have h3 := c.K
  subst h3
  exact i_any h
theorem XC.zip (c : XC P w K mg base gq E k N sc X) {elts : List Expr} {kk : Nat} (hg : glo sc "zip") (hm : mg "zip" = none) (ha : PA X [a, b] (tDL K mg E la)) (hs : starEach [a, b] X.env = (false, eval a X.env) :: starEach [b] X.env := by rfl)
    (hpl : (backTo pos (starEach [b] X.env)).any (·.1) = false := by rfl) : PI X (.Tuple elts kk p2) (.Call (.Name "zip" p) [a, b] [] pos) (tDI K mg E (iZip la)) := by
  have h3 := c.K
  subst h3
  exact i_zip (c.gl hg) (c.no hm) ha hs hpl
theorem XC.enum (c : XC P w K mg base gq E k N sc X) {elts : List Expr} {kk : Nat} (hg : glo sc "enumerate") (hm : mg "enumerate" = none) (ha : PA X [a] (tDL K mg E la)) (hs : starEach [a] X.env = [(false, eval a X.env)] := by rfl) : PI X (.Tuple elts kk p2) (.Call (.Name "enumerate" p) [a] [] pos) (tDI K mg E (iEnum la)) := by
  have h3 := c.K
  subst h3
  exact i_enum (c.gl hg) (c.no hm) ha hs
theorem XC.rng1 (c : XC P w K mg base gq E k N sc X) {tg : Expr} (hg : glo sc "range") (hm : mg "range" = none) (ha : PA X [a] (tDL K mg E la)) (hs : starEach [a] X.env = [(false, eval a X.env)] := by rfl) : PI X tg (.Call (.Name "range" p) [a] [] pos) (tDI K mg E (iRng1 la)) := by
  have h3 := c.K
  subst h3
  exact i_rng1 (c.gl hg) (c.no hm) ha hs
theorem XC.rng2 (c : XC P w K mg base gq E k N sc X) {tg : Expr} (hg : glo sc "range") (hm : mg "range" = none) (ha : PA X [a, b] (tDL K mg E la)) (hs : starEach [a, b] X.env = [(false, eval a X.env), (false, eval b X.env)] := by rfl) (hs2 : starEach [b] X.env = [(false, eval b X.env)] := by rfl) : PI X tg (.Call (.Name "range" p) [a, b] [] pos) (tDI K mg E (iRng2 la)) := by
  have h3 := c.K
  subst h3
  exact i_rng2 (c.gl hg) (c.no hm) ha hs hs2
theorem XC.gN (c : XC P w K mg base gq E k N sc X) (i : Nat) (h : N[i]? = some x) (hv : Loc sc x) (hf : X.fn x = true ∨ sc.names.lookup x = some .local) : PG X (.Name x p) (gName i) := by
  have h6 := c.N
  have h7 := c.sc
  subst h6 h7
  exact pg_name c.nd h hv hf
theorem XC.set (c : XC P w K mg base gq E k N sc X) (i : Nat) (h : N[i]? = some x) (hv : Loc sc x) (hf : X.fn x = true ∨ sc.names.lookup x = some .local) (he : PE X e (tD K mg E fe)) (hs : swapsWith e (some (.Name x pos')) pos.line X.env = pure false := by rfl) : PS X (.Assign [.Name x pos'] e pos) (tDS K mg E (sAsg fe (Zed.gN i))) := by
  have h6 := c.N
  have h7 := c.sc
  subst h6 h7
  exact s_set c.nd h hv he hs (hf := hf)
theorem XC.for {tg : Expr} {body : List Stmt} {li : LD} {t : TG} {g : GT} {vs : List Nat} {f : SD} (c : XC P w K mg base gq E k N sc X) (hi : PI X tg i (tDI K mg E li)) (hg : PG X tg t) (hs : GSp K t g vs) (hb : PSs X body (tDS K mg E f))
    (hset : ∀ x, foldedSetIterable i X.env x = pure x := by intro _; rfl) : PS X (.For tg i body [] pos) (tDS K mg E (sFor li g f)) := s_for c.po c.calm hi hg hs hb hset
theorem XC.while {body : List Stmt} {cd : BD} {f : SD} (c : XC P w K mg base gq E k N sc X) (m : Nat) (hc : PT X e (tDB K mg E cd)) (hb : PSs X body (tDS K mg E f)) : PS X (.While e body [] pos) (tDS K mg E (sWhile m cd f)) := s_while c.po hc hb
theorem XC.gwhile {body : List Stmt} {cd : BD} {f : SG} (c : XC P w K mg base gq E k N sc X) (m : Nat) (hc : PT X e (tDB K mg E cd)) (hb : GSs X body (tDG K mg E f)) : GS X (.While e body [] pos) (tDG K mg E (gWhile m cd f)) := g_while c.po hc hb
theorem XC.comp {tg : Expr} {ifs : List Expr} {scope : Scope} {own : List (Str × Nat)} {li : LD} {t : BD} {gt : TG} {g : GT} (c : XC P w K mg base gq E k N sc X) (ok : blkC N sc scope own = true) (hi : PI X tg i (tDI K mg E li)) 
    (hg : ∀ Y : Cx, XC P w K mg base gq noE k N (rel scope sc) Y → (∀ y, scope.names.lookup y = some .cell → Y.fn y = true) → PG Y tg gt) (hs : GSp K gt g (own.map (·.2)))
    (ht : ∀ Y : Cx, XC P w K mg base gq noE k N (rel scope sc) Y → PTs Y ifs (tDB K mg noE t)) (he : ∀ Y : Cx, XC P w K mg base gq noE k N (rel scope sc) Y → PE Y e (tD K mg noE fe))
    (hset : ∀ x, foldedSetIterable i X.env x = pure x := by intro _; rfl) : PE X (.ListComp e [⟨tg, i, ifs, 0⟩] scope pos) (tDF K mg E (lComp li (own.map (·.2)) g t fe)) := by
  have h3 := c.K
  have h6 := c.N
  have h7 := c.sc
  have ok' : BlkOk X.N X.env.scope scope own := blkOk_by (by rw [h6, h7]; exact ok)
  subst h3
  exact f_comp c.calm c.nd hi ok' (fun s H C cl fp => hg _ (c.blk s H scope C cl fp) fun y hy => by show (scope.names.lookup y == some NameKind.cell) = true; rw [hy]; rfl) hs (fun s H C cl fp => ht _ (c.blk s H scope C cl fp)) (fun s H C cl fp => he _ (c.blk s H scope C cl fp)) hset
theorem XC.dcomp {tg kx : Expr} {ifs : List Expr} {scope : Scope} {own : List (Str × Nat)} {li : LD} {t : BD} {fk : ED} {gt : TG} {g : GT} (c : XC P w K mg base gq E k N sc X) (ok : blkC N sc scope own = true) (hi : PI X tg i (tDI K mg E li)) 
    (hg : ∀ Y : Cx, XC P w K mg base gq noE k N (rel scope sc) Y → (∀ y, scope.names.lookup y = some .cell → Y.fn y = true) → PG Y tg gt) (hs : GSp K gt g (own.map (·.2)))
    (ht : ∀ Y : Cx, XC P w K mg base gq noE k N (rel scope sc) Y → PTs Y ifs (tDB K mg noE t)) (hk : ∀ Y : Cx, XC P w K mg base gq noE k N (rel scope sc) Y → PE Y kx (tD K mg noE fk)) (he : ∀ Y : Cx, XC P w K mg base gq noE k N (rel scope sc) Y → PE Y e (tD K mg noE fe))
    (hset : ∀ x, foldedSetIterable i X.env x = pure x := by intro _; rfl) : PE X (.DictComp kx e [⟨tg, i, ifs, 0⟩] scope pos) (tD K mg E (eDc li (own.map (·.2)) g t fk fe)) := by
  have h3 := c.K
  have h6 := c.N
  have h7 := c.sc
  have ok' : BlkOk X.N X.env.scope scope own := blkOk_by (by rw [h6, h7]; exact ok)
  subst h3
  exact d_dc c.calm c.nd hi ok' (fun s H C cl fp => hg _ (c.blk s H scope C cl fp) fun y hy => by show (scope.names.lookup y == some NameKind.cell) = true; rw [hy]; rfl) hs (fun s H C cl fp => ht _ (c.blk s H scope C cl fp)) (fun s H C cl fp => hk _ (c.blk s H scope C cl fp)) (fun s H C cl fp => he _ (c.blk s H scope C cl fp)) hset
theorem XC.tnil (c : XC P w K mg base gq E k N sc X) : PTs X [] (tDB K mg E bYes) := by
  have h3 := c.K
  subst h3
  exact tt_nil
theorem XC.tone {cd : BD} (c : XC P w K mg base gq E k N sc X) (h : PT X e (tDB K mg E cd)) : PTs X [e] (tDB K mg E cd) := pts_one h
theorem XC.app (c : XC P w K mg base gq E k N sc X) (ho : PE X o (tD K mg E ff)) (he : PE X e (tD K mg E fg)) (hbase : attributeBase o "append" X.env (eval o X.env) = eval o X.env := by rfl)
    (hst : starEach (e :: []) X.env = (false, eval e X.env) :: starEach [] X.env := by rfl)
    (h30 : ((((backTo pos (starEach (e :: []) X.env)).all fun x => !x.1) && (backToKw pos (keywordEach [] X.env)).all fun x => x.1.isSome) && decide (((e :: []).length + ([] : List Keyword).length + if ([] : List Keyword).isEmpty = true then 0 else 1) < 30)) = true := by rfl)
    (hl : (p.endLine == pos.line) = true := by rfl) (hpl : (backTo pos (starEach [] X.env)).any (·.1) = false := by rfl) :
    PE X (.Call (.Attribute o "append" p) [e] [] pos) (tD K mg E (eApp ff fg)) := by
  have h3 := c.K
  subst h3
  exact d_app ho he hbase hst h30 hl hpl
theorem XC.call {g : GD} (c : XC P w K mg base gq E k N sc X) (F : FnG P w K mg base gq j f fd ps (spG K mg n g)) (hg : glo sc x) (hm : mg x = some (.ref f)) (hk : PySem.W.keepIn K (.ref f) = true) (hb : Binds K fd ps [])
    (ha : PA X (e :: es) (tDL K mg E la)) (hj : j ≤ k := by decide) (hdb : (x == ("__debug__" : Str)) = false := by decide) (he : starEach (e :: es) X.env = (false, eval e X.env) :: starEach es X.env := by rfl) (hpl : (backTo pos (starEach es X.env)).any (·.1) = false := by rfl) :
    PE X (.Call (.Name x p) (e :: es) [] pos) (tD K mg E (eCall n g la)) := d_call c F hj (c.gl hg) hm hk hb ha hdb he hpl
theorem XC.call0 {g : GD} (c : XC P w K mg base gq E k N sc X) (F : FnG P w K mg base gq j f fd ps (spG K mg 0 g)) (hg : glo sc x) (hm : mg x = some (.ref f)) (hk : PySem.W.keepIn K (.ref f) = true) (hb : Binds K fd ps [])
    (hj : j ≤ k := by decide) (hdb : (x == ("__debug__" : Str)) = false := by decide) : PE X (.Call (.Name x p) [] [] pos) (tD K mg E (eCall0 g)) := d_call0 c F hj (c.gl hg) hm hk hb hdb
end
end Zed

namespace Zed
open PySem PySem.Spec PyProof.Rows L2 RZ

/-! ## A call that sees no cell but tables runs by itself -/
def tblN : Sto → Nat
  | .tbl _ :: S => tblN S + 1
  | _ => 0
def noT : Sto → Bool
  | [] => true
  | .tbl _ :: _ => false
  | _ :: S => noT S
def sameT : Sto → Sto → Bool
  | [], [] => true
  | .tbl x :: S, .tbl y :: T => match Nat.beq x y with
    | true => sameT S T
    | false => false
  | _, _ => false
theorem sameT_eq : ∀ {S T : Sto}, sameT S T = true → S = T
  | [], [], _ => rfl
  | .tbl x :: S, .tbl y :: T, h => by
    unfold sameT at h
    split at h
    · rename_i e
      rw [Nat.eq_of_beq_eq_true e, sameT_eq h]
    · cases h
  | [], _ :: _, h => by cases h
  | .tbl _ :: _, [], h => by cases h
  | .tbl _ :: _, .lst _ :: _, h => by cases h
  | .tbl _ :: _, .dic _ :: _, h => by cases h
  | .lst _ :: _, [], h => by cases h
  | .lst _ :: _, .lst _ :: _, h => by cases h
  | .lst _ :: _, .dic _ :: _, h => by cases h
  | .lst _ :: _, .tbl _ :: _, h => by cases h
  | .dic _ :: _, [], h => by cases h
  | .dic _ :: _, .lst _ :: _, h => by cases h
  | .dic _ :: _, .dic _ :: _, h => by cases h
  | .dic _ :: _, .tbl _ :: _, h => by cases h
theorem tblN_at : ∀ {S : Sto} {k : Nat}, k < tblN S → ∃ q, S[k]? = some (.tbl q)
  | .tbl q :: S, 0, _ => ⟨q, rfl⟩
  | .tbl _ :: S, k + 1, h => by
    have : k < tblN S := by simp [tblN] at h; omega
    simpa using tblN_at this
  | [], k, h => by simp [tblN] at h
  | .lst _ :: _, k, h => by simp [tblN] at h
  | .dic _ :: _, k, h => by simp [tblN] at h
theorem tblN_le : ∀ {S : Sto}, tblN S ≤ S.length
  | [] => Nat.le_refl _
  | .tbl _ :: S => Nat.succ_le_succ tblN_le
  | .lst _ :: _ => Nat.zero_le _
  | .dic _ :: _ => Nat.zero_le _
theorem noT_at : ∀ {S : Sto}, noT S = true → ∀ c ∈ S, ∀ q, c ≠ .tbl q
  | [], _, c, h, _ => by cases h
  | .tbl _ :: _, h, _, _, _ => by cases h
  | .lst x :: S, h, c, hc, q => by
    rcases List.mem_cons.mp hc with z | z
    · rw [z]; simp
    · exact noT_at (S := S) h c z q
  | .dic x :: S, h, c, hc, q => by
    rcases List.mem_cons.mp hc with z | z
    · rw [z]; simp
    · exact noT_at (S := S) h c z q
def frm (g : GD) : GD := fun ds S => match allL (low (tblN S) 60) ds, noT (S.drop (tblN S)) with
  | true, true => match g ds (S.take (tblN S)) with
    | .ok d S' => match sameT S' (S.take (tblN S)) with
      | true => .ok d S
      | false => g ds S
    | .exc x S' => match sameT S' (S.take (tblN S)) with
      | true => .exc x S
      | false => g ds S
    | _ => g ds S
  | _, _ => g ds S
section
variable [TC : TabC] {P : Program} {w : World} {K : PySem.W.Frag} {mg : Str → Option Value} {base : Heap} {gq : Bool} {E : XK} {B m m1 : List Addr} {H H1 : Hp} {S : Sto}
theorem Rep.veil (n : Nat) (hn : n ≤ m.length) : ∀ (k : Nat) {d : D} {v : V}, low n k d = true → Rep K B m H d v → Rep K (B ++ m.drop n) (m.take n) H d v
  | 0, d, v, h, _ => by cases h
  | k + 1, d, v, h, r => by
    cases d with
    | non => rw [r.non_inv]; exact .non
    | bl b => rw [r.bl_inv]; exact .bl b
    | int i => rw [r.int_inv]; exact .int i
    | str x => rw [r.str_inv]; exact .str x
    | ty n => rw [r.ty_inv]; exact .ty n
    | scr ns => obtain ⟨a, rfl, q⟩ := r.scr_inv; exact .scr q
    | exv => simp [low] at h
    | fn n => obtain ⟨a, rfl, q⟩ := r.fn_inv; exact .fn q
    | ref i =>
      obtain ⟨a, rfl, q⟩ := r.ref_inv
      have hi : i < n := by simpa [low] using h
      exact .ref (by rw [List.getElem?_take, if_pos hi]; exact q)
    | tup ds =>
      obtain ⟨a, vs, rfl, q, rr⟩ := r.tup_inv
      exact .tup q (rr.by fun d hd v r => Rep.veil n hn k (allL_mem h d hd) r)
    | lst ds =>
      obtain ⟨a, vs, rfl, q, hm, hb, rr⟩ := r.lst_inv
      exact .lst q (fun z => hm (List.mem_of_mem_take z)) (fun z => (List.mem_append.mp z).elim hb fun z => hm (List.mem_of_mem_drop z)) (rr.by fun d hd v r => Rep.veil n hn k (allL_mem h d hd) r)
theorem mem_split {n : Nat} {a : Addr} (h : a ∈ m) : a ∈ m.take n ∨ a ∈ m.drop n := by
  rw [← List.take_append_drop n m] at h
  exact List.mem_append.mp h
theorem Rep.unveil {n : Nat} {d : D} {v : V} (h : Rep K (B ++ m.drop n) (m.take n) H d v) : Rep K B m H d v := by
  refine Rep.rec (motive_1 := fun d v _ => Rep K B m H d v) (motive_2 := fun ds vs _ => Reps K B m H ds vs) ?_ ?_ ?_ ?_ ?_ ?_ ?_ ?_ ?_ ?_ ?_ ?_ ?_ h
  · exact .non
  · exact .bl
  · exact .int
  · exact .str
  · exact .ty
  · intro a ds vs hs _ ih; exact .tup hs ih
  · intro a ds vs hs hm hb _ ih
    exact .lst hs (fun z => (mem_split z).elim hm fun z => hb (List.mem_append_right _ z)) (fun z => hb (List.mem_append_left _ z)) ih
  · intro i a e
    refine .ref ?_
    rw [List.getElem?_take] at e
    split at e
    · exact e
    · cases e
  · intro a ns e; exact .scr e
  · intro e fvs h1 h2 h3 h4 h5 _ ih
    exact .exv h1 h2 (fun z => (mem_split z).elim h3 fun z => h4 (List.mem_append_right _ z)) (fun z => h4 (List.mem_append_left _ z)) h5 ih
  · intro n a e; exact .fn e
  · exact .nil
  · intro d v ds vs _ _ h1 h2; exact .cons h1 h2
theorem tab_in [TC : TabC] {m : List Addr} {S : Sto} (h : TabAt m S) {i : Nat} {p : Addr × Str} (q : TC.T[i]? = some p) : i < tblN S := by
  have key : ∀ (S : Sto) (i : Nat), (∀ j, j ≤ i → ∃ q, S[j]? = some (.tbl q)) → i < tblN S := by
    intro S
    induction S with
    | nil => intro i h; obtain ⟨q, z⟩ := h 0 (Nat.zero_le _); cases z
    | cons c S ih =>
      intro i h
      obtain ⟨q, z⟩ := h 0 (Nat.zero_le _)
      have z' : c = .tbl q := by simpa using z
      subst z'
      cases i with
      | zero => simp [tblN]
      | succ i =>
        have := ih i fun j hj => by
          obtain ⟨q', z'⟩ := h (j + 1) (by omega)
          exact ⟨q', by simpa using z'⟩
        simp only [tblN]
        omega
  refine key S i fun j hj => ?_
  obtain ⟨hi, _⟩ := List.getElem?_eq_some_iff.mp q
  have hj' : j < TC.T.length := by omega
  exact ⟨_, (h j _ (List.getElem?_eq_getElem hj')).2⟩
theorem tab_take [TC : TabC] {m : List Addr} {S : Sto} (h : TabAt m S) : TabAt (m.take (tblN S)) (S.take (tblN S)) := fun i p q => by
  have hi := tab_in h q
  obtain ⟨h1, h2⟩ := h i p q
  exact ⟨by rw [List.getElem?_take, if_pos hi]; exact h1, by rw [List.getElem?_take, if_pos hi]; exact h2⟩
theorem veilS (h3 : RepSto K B m H S) : RepSto K (B ++ m.drop (tblN S)) (m.take (tblN S)) H (S.take (tblN S)) := by
  have hn : tblN S ≤ m.length := by rw [h3.len]; exact tblN_le
  refine ⟨by rw [List.length_take, List.length_take, h3.len], h3.nd.sublist (List.take_sublist _ _), fun b hb => ?_, fun k a c e1 e2 => ?_, tab_take h3.tab⟩
  · rcases List.mem_append.mp hb with z | z
    · exact ⟨fun y => (h3.hid b z).1 (List.mem_of_mem_take y), (h3.hid b z).2⟩
    · refine ⟨fun y => ?_, h3.live b (List.mem_of_mem_drop z)⟩
      have nd := h3.nd
      rw [← List.take_append_drop (tblN S) m, List.nodup_append] at nd
      exact nd.2.2 b y b z rfl
  · rw [List.getElem?_take] at e1 e2
    split at e1
    · rename_i hk
      rw [if_pos hk] at e2
      obtain ⟨q, eq⟩ := tblN_at hk
      rw [e2] at eq
      cases eq
      obtain ⟨ps, g1, g2, f⟩ := h3.cell k a _ e1 e2
      refine ⟨ps, g1, g2, fun pos cv hc => ?_⟩
      obtain ⟨c, ec, k1, k2, k3⟩ := f pos cv hc
      exact ⟨c, ec, k1, fun z => k2 (List.mem_of_mem_take z), fun z => (List.mem_append.mp z).elim k3 fun z => k2 (List.mem_of_mem_drop z)⟩
    · cases e1
theorem unveilS {H' : Hp} {m' : List Addr} (h3 : RepSto K B m H S) (hno : noT (S.drop (tblN S)) = true) (x : Ex (m.take (tblN S)) H m' H') (rs : RepSto K (B ++ m.drop (tblN S)) m' H' (S.take (tblN S))) : m' = m.take (tblN S) ∧ Ex m H m H' ∧ RepSto K B m H' S := by
  have em : m' = m.take (tblN S) := by
    obtain ⟨e, rfl, _⟩ := x.app
    have l1 := rs.len
    have l2 := (veilS h3).len
    rw [List.length_append] at l1
    have : e = [] := List.eq_nil_of_length_eq_zero (by omega)
    rw [this, List.append_nil]
  subst em
  have x2 : Ex m H m H' := ⟨⟨[], by simp, by simp⟩, fun a o e ht hm => x.keep a o e ht fun z => hm (List.mem_of_mem_take z), fun a ha => by
    cases q : H a with
    | none => exact absurd q (h3.live a ha)
    | some o => exact x.there a o q, x.tups, x.frzs, x.there⟩
  refine ⟨rfl, x2, h3.len, h3.nd, fun b hb => ⟨(h3.hid b hb).1, by
    cases q : H b with
    | none => exact absurd q (h3.hid b hb).2
    | some o => exact x.there b o q⟩, fun k a c e1 e2 => ?_, h3.tab⟩
  by_cases hk : k < tblN S
  · obtain ⟨q, eq⟩ := tblN_at hk
    rw [e2] at eq
    cases eq
    have e1' : (m.take (tblN S))[k]? = some a := by rw [List.getElem?_take, if_pos hk]; exact e1
    have e2' : (S.take (tblN S))[k]? = some (.tbl q) := by rw [List.getElem?_take, if_pos hk]; exact e2
    obtain ⟨ps, g1, g2, f⟩ := rs.cell k a _ e1' e2'
    refine ⟨ps, g1, g2, fun pos cv hc => ?_⟩
    obtain ⟨c, ec, k1, k2, k3⟩ := f pos cv hc
    exact ⟨c, ec, k1, fun z => (mem_split z).elim k2 fun z => k3 (List.mem_append_right _ z), fun z => k3 (List.mem_append_left _ z)⟩
  · have hd : (S.drop (tblN S))[k - tblN S]? = some c := by rw [List.getElem?_drop, show tblN S + (k - tblN S) = k by omega]; exact e2
    have nt := noT_at hno c (List.mem_of_getElem? hd)
    have ha : a ∈ m.drop (tblN S) := by
      refine List.mem_of_getElem? (i := k - tblN S) ?_
      rw [List.getElem?_drop, show tblN S + (k - tblN S) = k by omega]
      exact e1
    have hat : a ∉ m.take (tblN S) := fun y => by
      have nd := h3.nd
      rw [← List.take_append_drop (tblN S) m, List.nodup_append] at nd
      exact nd.2.2 a y a ha rfl
    have hc := h3.cell k a c e1 e2
    refine hc.mono x2 ?_
    cases c with
    | lst ds => obtain ⟨vs, g1, _⟩ := hc; rw [x.keep a _ g1 (fun _ z => nomatch z) hat, g1]
    | dic ds => obtain ⟨vs, g1, _⟩ := hc; rw [x.keep a _ g1 (fun _ z => nomatch z) hat, g1]
    | tbl q => exact absurd rfl (nt q)
theorem frm_to {n : Nat} {g : GD} {vs : List V} {Q : VK} (h : spG K mg n (frm g) vs H Q E) : spG K mg n g vs H Q E := by
  obtain ⟨B, m, ds, S, h1, h2, h3, h4⟩ := h
  have plain : Aft K mg E B (Rep K B) m H (g ds S) Q → spG K mg n g vs H Q E := fun q => ⟨B, m, ds, S, h1, h2, h3, q⟩
  unfold frm at h4
  split at h4
  · rename_i hl hno
    split at h4
    · rename_i d S' e1
      split at h4
      · rename_i e2
        have es := sameT_eq e2
        subst es
        refine ⟨B ++ m.drop (tblN S), m.take (tblN S), ds, S.take (tblN S), h1, h2.by fun d hd v r => Rep.veil (tblN S) (by rw [h3.len]; exact tblN_le) 60 (allL_mem hl d hd) r, veilS h3, ?_⟩
        rw [e1]
        intro m' H' v x rs' r'
        obtain ⟨em, x2, rs2⟩ := unveilS h3 hno x rs'
        subst em
        exact h4 m H' v x2 rs2 r'.unveil
      · exact plain h4
    · rename_i xn S' e1
      split at h4
      · rename_i e2
        have es := sameT_eq e2
        subst es
        refine ⟨B ++ m.drop (tblN S), m.take (tblN S), ds, S.take (tblN S), h1, h2.by fun d hd v r => Rep.veil (tblN S) (by rw [h3.len]; exact tblN_le) 60 (allL_mem hl d hd) r, veilS h3, ?_⟩
        rw [e1]
        intro m' H' c od x rs' r'
        obtain ⟨em, x2, rs2⟩ := unveilS h3 hno x rs'
        subst em
        obtain ⟨C, dd, fvs, g1, g2, g3, g4, g5, g5b, g6⟩ := r'
        exact h4 m H' c od x2 rs2 ⟨C, dd, fvs, g1, g2, g3, g4, fun z => (mem_split z).elim g5 fun z => g5b (List.mem_append_right _ z), fun z => g5b (List.mem_append_left _ z), Paired.mapP g6 fun _ _ z => ⟨z.1, z.2.unveil⟩⟩
      · exact plain h4
    · exact plain h4
  · exact plain h4
theorem FnG.frm {k n : Nat} {f : Addr} {fd : FuncData} {ps : List Str} {g : GD} (F : FnG P w K mg base gq k f fd ps (spG K mg n g)) : FnG P w K mg base gq k f fd ps (spG K mg n (frm g)) :=
  ⟨fun vs H Q E q => F.len vs H Q E (frm_to q), fun A outer s H args us vs Q E h1 h2 h3 h4 h5 q => F.run A outer s H args us vs Q E h1 h2 h3 h4 h5 (frm_to q)⟩
def frmL (g : LGD) : LGD := fun ds S => match allL (low (tblN S) 60) ds, noT (S.drop (tblN S)) with
  | true, true => match g ds (S.take (tblN S)) with
    | .ok d S' => match sameT S' (S.take (tblN S)) with
      | true => .ok d S
      | false => g ds S
    | _ => g ds S
  | _, _ => g ds S
theorem frmL_to {n : Nat} {g : LGD} {vs : List V} {Q : List V → Hp → Prop} (h : spGG K mg n (frmL g) vs H Q E) : spGG K mg n g vs H Q E := by
  obtain ⟨B, m, ds, S, h1, h2, h3, h4⟩ := h
  have plain : Aft K mg E B (Reps K B) m H (g ds S) Q → spGG K mg n g vs H Q E := fun q => ⟨B, m, ds, S, h1, h2, h3, q⟩
  unfold frmL at h4
  split at h4
  · rename_i hl hno
    split at h4
    · rename_i d S' e1
      split at h4
      · rename_i e2
        have es := sameT_eq e2
        subst es
        refine ⟨B ++ m.drop (tblN S), m.take (tblN S), ds, S.take (tblN S), h1, h2.by fun d hd v r => Rep.veil (tblN S) (by rw [h3.len]; exact tblN_le) 60 (allL_mem hl d hd) r, veilS h3, ?_⟩
        rw [e1]
        intro m' H' v x rs' r'
        obtain ⟨em, x2, rs2⟩ := unveilS h3 hno x rs'
        subst em
        exact h4 m H' v x2 rs2 (r'.map fun _ _ z => z.unveil)
      · exact plain h4
    · exact plain h4
  · exact plain h4
theorem GFnfrm {k n : Nat} {f : Addr} {fd : FuncData} {ps : List Str} {g : LGD} (F : GFn P w K mg base k f fd ps (spGG K mg n g)) : GFn P w K mg base k f fd ps (spGG K mg n (frmL g)) :=
  ⟨fun vs H Q E q => F.len vs H Q E (frmL_to q), fun A outer s H args us vs Q E h1 h2 h3 h4 q => F.run A outer s H args us vs Q E h1 h2 h3 h4 (frmL_to q)⟩
end
/-! ## More rules by the context -/
def dNotInD : OD := fun k d S => match dicOf S d, keyD k with
  | some (_, kvs), some k => .ok (.bl (!hasK kvs k)) S
  | _, _ => .bad
section
variable [TC : TabC] {P : Program} {w : World} {K : PySem.W.Frag} {mg : Str → Option Value} {base : Heap} {gq : Bool} {E : XK} {k j n : Nat} {N : List Str} {sc : Scope} {X : Cx} {f : Addr} {fd : FuncData} {ps ks : List Str} {x : Str} {p p2 p3 pos pos' : Pos} {e a b o i : Expr} {es : List Expr} {la lb : LD} {fe ff fg fv : ED}
theorem XC.tin (c : XC P w K mg base gq E k N sc X) (hi : PE X i (tD K mg E fg)) (ho : PE X o (tD K mg E ff)) (hb : behindInMarks .In o = false := by rfl) : PT X (.Compare i [.In] [o] pos) (tDB K mg E (bB (eBin dInD fg ff))) := by
  refine PT.to (pt_cmp (pc_din (by have := c.un; omega) hi ho) hb) fun σ H Q h => ?_
  have h := test_to h
  obtain ⟨B, m, ρ, S, re, rs, q⟩ := h
  refine (part re rs q).imp ?_
  rintro v H1 ⟨m1, k, S1, x1, re1, rs1, r1, q1⟩
  refine (part re1 rs1 q1).imp ?_
  rintro w H2 ⟨m2, d, S2, x2, re2, rs2, r2, q2⟩
  unfold dInD at q2
  split at q2
  · rename_i n kvs k' e1 e2
    obtain ⟨a, kws, rfl, h1, h2, h3, h4⟩ := dic_of r2 rs2 e1
    have ek := key_of (r1.mono x2) e2
    exact ⟨a, _, rfl, .inl ⟨kws, k', .inl h3, ek, rfl⟩, by rw [← (hasK_reps h4).1]; exact q2.same rs2 (.bl _)⟩
  · exact q2.elim
theorem XC.tnin (c : XC P w K mg base gq E k N sc X) (hi : PE X i (tD K mg E fg)) (ho : PE X o (tD K mg E ff)) (hb : behindInMarks .NotIn o = false := by rfl) : PT X (.Compare i [.NotIn] [o] pos) (tDB K mg E (bB (eBin dNotInD fg ff))) := by
  refine PT.to (pt_cmp (pc_dnotin (by have := c.un; omega) hi ho) hb) fun σ H Q h => ?_
  have h := test_to h
  obtain ⟨B, m, ρ, S, re, rs, q⟩ := h
  refine (part re rs q).imp ?_
  rintro v H1 ⟨m1, k, S1, x1, re1, rs1, r1, q1⟩
  refine (part re1 rs1 q1).imp ?_
  rintro w H2 ⟨m2, d, S2, x2, re2, rs2, r2, q2⟩
  unfold dNotInD at q2
  split at q2
  · rename_i n kvs k' e1 e2
    obtain ⟨a, kws, rfl, h1, h2, h3, h4⟩ := dic_of r2 rs2 e1
    have ek := key_of (r1.mono x2) e2
    exact ⟨a, _, rfl, .inl ⟨kws, k', .inl h3, ek, rfl⟩, by rw [← (hasK_reps h4).1]; exact q2.same rs2 (.bl _)⟩
  · exact q2.elim
theorem Fun.bindsK {x qual : Str} {st : Stmt} {pm : List Nat} (F : L2.Fun K x qual st f fd) (h : ∀ (kV doc pv : Value) (an : Option Addr) (cdv ct : Value) (us : List Value), us.length = n → bindArgs (PySem.W.fnOf x qual (defArgs st) (defBody st) (defScope st) .none kV doc pv an cdv ct) ⟨[], ks.zip us⟩ = pure (ps.zip (pickV pm us))) :
    ∀ (s : Shared) (ws : List Value), K.In s.heap → ws.length = n → BindsTo s fd ⟨[], ks.zip ws⟩ (ps.zip (pickV pm ws)) := by
  obtain ⟨oc, od, kV, doc, pv, an, cdv, ct, osl, rfl, lk, hcd⟩ := F.ex
  exact fun s ws _ hl => .of_eq (h kV doc pv an cdv ct ws hl)
theorem XC.callK {kws : List Keyword} {pm : List Nat} {g : GD} (c : XC P w K mg base gq E k N sc X) (F : FnG P w K mg base gq j f fd ps (spG K mg ps.length g)) (hg : glo sc x) (hm : mg x = some (.ref f)) (hk : PySem.W.keepIn K (.ref f) = true)
    (hb : ∀ (s : Shared) (ws : List Value), K.In s.heap → ws.length = n → BindsTo s fd ⟨[], ks.zip ws⟩ (ps.zip (pickV pm ws))) (ha : PK X kws (tDL K mg E la)) (hpm : pm.length = ps.length := by rfl) (hj : j ≤ k := by decide)
    (hall : (backToKw pos (keywordEach kws X.env)).all (·.1.isSome) = true := by rfl) (hks : (backToKw pos (keywordEach kws X.env)).filterMap (·.1) = ks := by rfl) (hdb : (x == ("__debug__" : Str)) = false := by decide)
    (hpl : ((backTo pos (starEach [] X.env)).any (·.1) || (backToKw pos (keywordEach kws X.env)).any (·.1.isNone)) = false := by rfl) : PE X (.Call (.Name x p) [] kws pos) (tD K mg E (eCallK n pm g la)) :=
  d_callK0 c F hj hpm (c.gl hg) hm hk hb ha hall hks hdb hpl
theorem XC.lstG {g : LGD} (c : XC P w K mg base gq E k N sc X) (F : GFn P w K mg base j f fd ps (spGG K mg n g)) (hg : glo sc x) (hm : mg x = some (.ref f)) (hk : PySem.W.keepIn K (.ref f) = true) (hb : Binds K fd ps [])
    (hgl : glo sc "list") (hml : mg "list" = none) (ha : PA X (e :: es) (tDL K mg E la)) (hj : j + 3 ≤ k := by decide) (hdb : (x == ("__debug__" : Str)) = false := by decide) (he : starEach (e :: es) X.env = (false, eval e X.env) :: starEach es X.env := by rfl) (hpl : (backTo pos (starEach es X.env)).any (·.1) = false := by rfl)
    (he2 : starEach [.Call (.Name x p) (e :: es) [] pos] X.env = (false, eval (.Call (.Name x p) (e :: es) [] pos) X.env) :: starEach [] X.env := by rfl) :
    PE X (.Call (.Name "list" p2) [.Call (.Name x p) (e :: es) [] pos] [] pos') (tD K mg E (eListG n g la)) :=
  d_listG c F hj (c.gl hg) hm hk hb (c.gl hgl) (c.no hml) PyProof.Rows.boot_list ha (by decide) (by decide) hdb he hpl he2
theorem XC.lstGK {g : LGD} {kws : List Keyword} {pm : List Nat} (c : XC P w K mg base gq E k N sc X) (F : GFn P w K mg base j f fd ps (spGG K mg ps.length g)) (hg : glo sc x) (hm : mg x = some (.ref f)) (hk : PySem.W.keepIn K (.ref f) = true)
    (hb : ∀ (s : Shared) (ws : List Value), K.In s.heap → ws.length = n → BindsTo s fd ⟨[], ks.zip ws⟩ (ps.zip (pickV pm ws)))
    (hgl : glo sc "list") (hml : mg "list" = none) (ha : PK X kws (tDL K mg E la)) (hpm : pm.length = ps.length := by rfl) (hj : j + 3 ≤ k := by decide)
    (hall : (backToKw pos (keywordEach kws X.env)).all (·.1.isSome) = true := by rfl) (hks : (backToKw pos (keywordEach kws X.env)).filterMap (·.1) = ks := by rfl) (hdb : (x == ("__debug__" : Str)) = false := by decide)
    (hpl : ((backTo pos (starEach [] X.env)).any (·.1) || (backToKw pos (keywordEach kws X.env)).any (·.1.isNone)) = false := by rfl)
    (he2 : starEach [.Call (.Name x p) [] kws pos] X.env = (false, eval (.Call (.Name x p) [] kws pos) X.env) :: starEach [] X.env := by rfl) :
    PE X (.Call (.Name "list" p2) [.Call (.Name x p) [] kws pos] [] pos') (tD K mg E (eListGK n pm g la)) :=
  d_listGK c F hj hpm (c.gl hg) hm hk hb (c.gl hgl) (c.no hml) PyProof.Rows.boot_list ha hall hks hdb hpl (by decide) (by decide) he2
/-- a, b = x, y of plain names -/
def sPar (i j : Nat) (f : LD) : SD := fun ρ S => (f ρ S).bind fun ds S1 => match ds with
  | [d, e] => .ok (.nx ((ρ.set i (some d)).set j (some e))) S1
  | _ => .bad
theorem XC.par {y : Str} {px py pt : Pos} {kt k2 : Nat} {pt2 : Pos} (c : XC P w K mg base gq E k N sc X) (i j : Nat) (hi : N[i]? = some x) (hj : N[j]? = some y) (hij : i ≠ j) (hx : sc.names.lookup x = some .local) (hy : sc.names.lookup y = some .local) (ha : PA X [a, b] (tDL K mg E la))
    (hw : ∀ env : Env, env.scope = sc → swappedStores [.Tuple [.Name x px, .Name y py] kt pt] (.Tuple [a, b] k2 pt2) env = pure (some [x, y]))
    (hs : ∀ env : Env, env.scope = sc → swapsWithSole [.Tuple [.Name x px, .Name y py] kt pt] (.Tuple [a, b] k2 pt2) pos.line env = pure false) :
    PS X (.Assign [.Tuple [.Name x px, .Name y py] kt pt] (.Tuple [a, b] k2 pt2) pos) (tDS K mg E (sPar i j la)) := by
  have h6 := c.N
  have h7 := c.sc
  refine PS.to (ps_par c.calm c.nd (by rw [h6]; exact hi) (by rw [h6]; exact hj) hij (by rw [h7]; exact hx) (by rw [h7]; exact hy) ha (hw _ h7) (hs _ h7)) fun F σ H h => ?_
  obtain ⟨B, m, ρ, S, re, rs, q⟩ := h
  have z : tDL K mg E la σ H fun vs H1 => ∃ m1 ds S1, Ex m H m1 H1 ∧ RepEn K B m1 H1 ρ σ ∧ RepSto K B m1 H1 S1 ∧ Reps K B m1 H1 ds vs ∧ AftS K mg E B m1 H1 (match ds with
    | [d, e] => .ok (.nx ((ρ.set i (some d)).set j (some e))) S1
    | _ => .bad) F := ⟨B, m, ρ, S, re, rs, (AftS.bind (rel := Reps K B) q).imp fun _ _ ⟨m1, ds, S1, x, st, rl, q⟩ => ⟨m1, ds, S1, x, re.mono x, st, rl, q⟩⟩
  refine z.imp ?_
  rintro vs H1 ⟨m1, ds, S1, x1, re1, rs1, r1, q1⟩
  split at q1
  · cases r1 with
    | cons ra r1 => cases r1 with
      | cons rb r1 =>
        cases r1
        exact ⟨_, _, rfl, FlAt.same rs1 q1 _ ((re1.set (d := some _) (v := some _) ra).set (d := some _) (v := some _) rb)⟩
  · exact q1.elim
theorem XC.asg {tg : Expr} {t : TG} {g : GT} (c : XC P w K mg base gq E k N sc X) (vs : List Nat) (he : PE X e (tD K mg E fe)) (hg : PG X tg t) (hs : GSp K t g vs) (h1 : ∀ env : Env, env.scope = sc → swapsWithSole [tg] e pos.line env = pure false) (h2 : ∀ env : Env, env.scope = sc → swappedStores [tg] e env = pure none)
    (h3 : (assignEach [tg] X.env).map (·.2) = [assign tg X.env] := by rfl) : PS X (.Assign [tg] e pos) (tDS K mg E (sAsg fe g)) := s_asg he hg hs (h1 _ c.sc) (h2 _ c.sc) h3
theorem XC.pgt {t : TGs} {kk : Nat} (c : XC P w K mg base gq E k N sc X) (n : Nat) (h : PGs X es t) (hn : (assignEach es X.env).length = n := by rfl) (hst : (assignEach es X.env).findIdx? (·.1) = none := by rfl) : PG X (.Tuple es kk pos) (gTup K n t) := by
  have h3 := c.K
  subst h3
  exact pg_tup c.calm h hn hst
theorem XC.set' (c : XC P w K mg base gq E k N sc X) (i : Nat) (h : N[i]? = some x) (hv : Loc sc x) (hf : X.fn x = true ∨ sc.names.lookup x = some .local) (he : PE X e (tD K mg E fe)) (hs : ∀ env : Env, env.scope = sc → swapsWith e (some (.Name x pos')) pos.line env = pure false) : PS X (.Assign [.Name x pos'] e pos) (tDS K mg E (sAsg fe (Zed.gN i))) :=
  c.set i h hv hf he (hs _ c.sc)
/-- name = [..], the name a plain local, on one line -/
theorem XC.lcTo {tg : Expr} {ifs : List Expr} {scope : Scope} {own : List (Str × Nat)} {li : LD} {t : BD} {gt : TG} {g : GT} {y : Str} {py : Pos} {fq : ED} (c : XC P w K mg base gq E k N sc X) (i0 : Nat) (h0 : N[i0]? = some y) (hy : sc.names.lookup y = some .local) (ok : blkC N sc scope own = true) (hi : PI X tg i (tDI K mg E li)) 
    (hg : ∀ Y : Cx, XC P w K mg base gq noE k N (rel scope sc) Y → (∀ y, scope.names.lookup y = some .cell → Y.fn y = true) → PG Y tg gt) (hs : GSp K gt g (own.map (·.2)))
    (ht : ∀ Y : Cx, XC P w K mg base gq noE k N (rel scope sc) Y → PTs Y ifs (tDB K mg noE t)) (he : ∀ Y : Cx, XC P w K mg base gq noE k N (rel scope sc) Y → PE Y e (tD K mg noE fe))
    (hsw : ∀ env : Env, env.scope = sc → swapsWith (.ListComp e [⟨tg, i, ifs, 0⟩] scope p2) (some (.Name y py)) pos.line env = pure true) (hset : ∀ x, foldedSetIterable i X.env x = pure x)
    (to : ∀ σ H Q, tD K mg E fq σ H Q → tDF K mg E (lComp li (own.map (·.2)) g t fe) σ H Q) : PS X (.Assign [.Name y py] (.ListComp e [⟨tg, i, ifs, 0⟩] scope p2) pos) (tDS K mg E (sAsg fq (Zed.gN i0))) := by
  have h3 := c.K
  have h6 := c.N
  have h7 := c.sc
  have ok' : BlkOk X.N X.env.scope scope own := blkOk_by (by rw [h6, h7]; exact ok)
  have hsw' := hsw _ h7
  subst h3
  refine PS.to (ps_setLc c.calm c.nd (by rw [h6]; exact h0) (by rw [h7]; exact hy) hsw' hi ok' (fun s H C cl fp => hg _ (c.blk s H scope C cl fp) fun y hy => by show (scope.names.lookup y == some NameKind.cell) = true; rw [hy]; rfl) (fun s H C cl fp => ht _ (c.blk s H scope C cl fp)) (fun s H C cl fp => he _ (c.blk s H scope C cl fp)) hset) fun F σ H h => ?_
  obtain ⟨B, m, ρ, S, re, rs, q⟩ := h
  refine comp_to hs (to _ _ _ ((partS re rs q).imp ?_))
  rintro v H1 ⟨m1, d, S1, x1, re1, rs1, r1, q1⟩
  exact FlAt.same rs1 q1 _ (re1.set (d := some d) (v := some v) r1)
theorem XC.setLF {tg : Expr} {ifs : List Expr} {scope : Scope} {own : List (Str × Nat)} {li : LD} {t : BD} {gt : TG} {g : GT} {y : Str} {py : Pos} (c : XC P w K mg base gq E k N sc X) (i0 : Nat) (h0 : N[i0]? = some y) (hy : sc.names.lookup y = some .local) (ok : blkC N sc scope own = true) (hi : PI X tg i (tDI K mg E li)) 
    (hg : ∀ Y : Cx, XC P w K mg base gq noE k N (rel scope sc) Y → (∀ y, scope.names.lookup y = some .cell → Y.fn y = true) → PG Y tg gt) (hs : GSp K gt g (own.map (·.2)))
    (ht : ∀ Y : Cx, XC P w K mg base gq noE k N (rel scope sc) Y → PTs Y ifs (tDB K mg noE t)) (he : ∀ Y : Cx, XC P w K mg base gq noE k N (rel scope sc) Y → PE Y e (tD K mg noE fe))
    (hsw : ∀ env : Env, env.scope = sc → swapsWith (.ListComp e [⟨tg, i, ifs, 0⟩] scope p2) (some (.Name y py)) pos.line env = pure true) (hset : ∀ x, foldedSetIterable i X.env x = pure x := by intro _; rfl) :
    PS X (.Assign [.Name y py] (.ListComp e [⟨tg, i, ifs, 0⟩] scope p2) pos) (tDS K mg E (sAsg (eFrz (lComp li (own.map (·.2)) g t fe)) (Zed.gN i0))) := c.lcTo i0 h0 hy ok hi hg hs ht he hsw hset fun _ _ _ => frz_to
theorem XC.setLT {tg : Expr} {ifs : List Expr} {scope : Scope} {own : List (Str × Nat)} {li : LD} {t : BD} {gt : TG} {g : GT} {y : Str} {py : Pos} (c : XC P w K mg base gq E k N sc X) (i0 : Nat) (h0 : N[i0]? = some y) (hy : sc.names.lookup y = some .local) (ok : blkC N sc scope own = true) (hi : PI X tg i (tDI K mg E li)) 
    (hg : ∀ Y : Cx, XC P w K mg base gq noE k N (rel scope sc) Y → (∀ y, scope.names.lookup y = some .cell → Y.fn y = true) → PG Y tg gt) (hs : GSp K gt g (own.map (·.2)))
    (ht : ∀ Y : Cx, XC P w K mg base gq noE k N (rel scope sc) Y → PTs Y ifs (tDB K mg noE t)) (he : ∀ Y : Cx, XC P w K mg base gq noE k N (rel scope sc) Y → PE Y e (tD K mg noE fe))
    (hsw : ∀ env : Env, env.scope = sc → swapsWith (.ListComp e [⟨tg, i, ifs, 0⟩] scope p2) (some (.Name y py)) pos.line env = pure true) (hset : ∀ x, foldedSetIterable i X.env x = pure x := by intro _; rfl) :
    PS X (.Assign [.Name y py] (.ListComp e [⟨tg, i, ifs, 0⟩] scope p2) pos) (tDS K mg E (sAsg (eThaw (lComp li (own.map (·.2)) g t fe)) (Zed.gN i0))) := c.lcTo i0 h0 hy ok hi hg hs ht he hsw hset fun _ _ _ => thaw_to
/-- xs[i] = e -/
def sLPut (fd fk fv : ED) : SD := fun ρ S => (fv ρ S).bind fun v S1 => (fd ρ S1).bind fun d S2 => (fk ρ S2).bind fun k S3 => match lstOf S3 d, k with
  | some (n, xs), .int i => match ixN xs.length i with
    | some j => .ok (.nx ρ) (S3.set n (.lst (xs.set j v)))
    | none => .bad
  | _, _ => .bad
theorem XC.lput (c : XC P w K mg base gq E k N sc X) (ho : PE X o (tD K mg E ff)) (hi : PE X i (tD K mg E fg)) (hv : PE X e (tD K mg E fv)) (h1 : swapsWithSole [.Subscript o i pos'] e pos.line X.env = pure false := by rfl) (h2 : swappedStores [.Subscript o i pos'] e X.env = pure none := by rfl)
    (h3 : (assignEach [.Subscript o i pos'] X.env).map (·.2) = [assign (.Subscript o i pos') X.env] := by rfl)
    (ha : ∀ v, assign (.Subscript o i pos') X.env v = (do
      let ov ← holding [v] (eval o X.env)
      let iv ← holding [v, ov] (eval i X.env)
      standAt pos'
      holding [v, ov, iv] (setItem ov iv v)
      release [v, ov, iv] []) := by intro _; rfl) : PS X (.Assign [.Subscript o i pos'] e pos) (tDS K mg E (sLPut ff fg fv)) := by
  refine PS.to (ps_asg hv (pg_sub ho hi set_list ha) h1 h2 h3) fun F σ H h => ?_
  obtain ⟨B, m, ρ, S, re, rs, q⟩ := h
  refine (partS re rs q).imp ?_
  rintro v H1 ⟨m1, dv, S1, x1, re1, rs1, r1, q1⟩
  refine (partS re1 rs1 q1).imp ?_
  rintro w H2 ⟨m2, d, S2, x2, re2, rs2, r2, q2⟩
  refine (partS re2 rs2 q2).imp ?_
  rintro y H3 ⟨m3, kd, S3, x3, re3, rs3, r3, q3⟩
  split at q3
  · rename_i n xs i e1
    split at q3
    · rename_i j e2
      obtain ⟨a, ws, rfl, k1, k2, k3⟩ := lst_of (r2.mono x3) rs3 e1
      have xw := Ex.write (o := HO.lst (ws.set j v)) rs3 (List.mem_of_getElem? k1)
      have rv := r1.mono (x2.trans x3)
      exact ⟨a, ws, _, j, rfl, r3.int_inv, k2, by rw [← k3.length]; exact e2, q3 m3 _ xw (rs3.write k1 (fun ps z => by rw [k2] at z; cases z) ⟨_, upd_same, (k3.set j rv).mono xw⟩) σ (re3.mono xw)⟩
    · exact q3.elim
  · exact q3.elim
/-- a def's promise from its body -/
theorem fnG_fun {qual : Str} {st : Stmt} {fb : SD} (F : L2.Fun K x qual st f fd) (Sc : FnScope N ps (defScope st)) (hbody : ∀ (X : Cx) (E : XK), XC P w K mg base gq E k N (defScope st) X → (∀ x, X.fn x = true) → PSs X (defBody st) (tDS K mg E fb)) :
    FnG P w K mg base gq (k + 1) f fd ps (spG K mg ps.length (frm (fnD N.length fb))) := by
  obtain ⟨oc, od, kV, doc, pv, an, cdv, ct, osl, rfl, lk, hcd⟩ := F.ex
  exact (fnG_of lk hcd Sc fun X E c d => hbody X E c d.fn).frm
theorem gnG_fun {qual : Str} {st : Stmt} {fb : SG} (F : L2.Fun K x qual st f fd) (Sc : GScope N ps (defScope st)) (hbody : ∀ (X : Cx) (E : XK), XC P w K mg base false E k N (defScope st) X → (∀ x, X.fn x = true) → X.env.scope = defScope st → GSs X (defBody st) (tDG K mg E fb)) :
    GFn P w K mg base (k + 1) f fd ps (spGG K mg ps.length (frmL (fnL N.length fb))) := by
  obtain ⟨oc, od, kV, doc, pv, an, cdv, ct, osl, rfl, lk, hcd⟩ := F.ex
  exact GFnfrm (gnG_of lk hcd Sc hbody)
end
end Zed

namespace Zed
open PySem PySem.Spec PyProof.Rows L2 RZ

/-! ## Two values that are one have one text -/
def eqL (f : D → D → Bool) : List D → List D → Bool
  | [], [] => true
  | a :: as, b :: bs => match f a b with
    | true => eqL f as bs
    | false => false
  | _, _ => false
def deq : Nat → D → D → Bool
  | 0, _, _ => false
  | _ + 1, .non, .non => true
  | _ + 1, .bl a, .bl b => a == b
  | _ + 1, .int i, .int j => decide (i = j)
  | _ + 1, .str x, .str y => strEq x y
  | k + 1, .tup xs, .tup ys => eqL (deq k) xs ys
  | k + 1, .lst xs, .lst ys => eqL (deq k) xs ys
  | _ + 1, _, _ => false
theorem eqL_eq {f : D → D → Bool} (h : ∀ a b, f a b = true → a = b) : ∀ {xs ys : List D}, eqL f xs ys = true → xs = ys
  | [], [], _ => rfl
  | [], _ :: _, e => by cases e
  | _ :: _, [], e => by cases e
  | a :: as, b :: bs, e => by
    unfold eqL at e
    split at e
    · rename_i e1
      rw [h a b e1, eqL_eq h e]
    · cases e
theorem deq_eq : ∀ (k : Nat) (a b : D), deq k a b = true → a = b
  | 0, _, _, e => by cases e
  | k + 1, a, b, e => by
    cases a <;> cases b <;> first | rfl | (simp [deq] at e; done) | skip
    · simp [deq] at e; rw [e]
    · simp [deq] at e; rw [e]
    · simp only [deq] at e
      rw [strEq_iff] at e
      rw [of_decide_eq_true e]
    · simp only [deq] at e
      rw [eqL_eq (deq_eq k) e]
    · simp only [deq] at e
      rw [eqL_eq (deq_eq k) e]
/-- it has a text -/
def fine (T : Sto) (a : D) : Bool := match toP T 60 a with
  | some p => p.showable && (!p.hasDict) && decide (p.depth ≤ 60) && p.leavesShort 20 && decide (22 * p.bulk + 20 ≤ sz)
  | none => false
theorem fine_repr {a : D} {T : Sto} (h : fine T a = true) : ∃ s, reprD [a] T = .ok (.str s) T := by
  unfold fine at h
  split at h
  · rename_i p e
    simp only [Bool.and_eq_true, decide_eq_true_eq, Bool.not_eq_true'] at h
    obtain ⟨⟨⟨⟨h1, h2⟩, h3⟩, h4⟩, h5⟩ := h
    have := PyData.shown_le_bulk 20 (by decide) p h4
    refine ⟨p.shown, ?_⟩
    simp only [reprD, e]
    rw [if_pos ⟨h1, h2, h3, by omega⟩]
  · cases h
abbrev fbS : SD := sRet (eBin eqOD (eBi reprD (lCons (eV 0) lNil)) (eBi reprD (lCons (eV 1) lNil)))
def sameF : GD
  | [a, b], S => match allL (low (tblN S) 60) [a, b], noT (S.drop (tblN S)), sameT (S.take (tblN S)) (S.take (tblN S)), deq 60 a b, fine (S.take (tblN S)) a with
    | true, true, true, true, true => .ok (.bl true) S
    | _, _, _, _, _ => .bad
  | _, _ => .bad
theorem sameF_by : ∀ ds S, sameF ds S ≠ .bad → frm (fnD 2 fbS) ds S = sameF ds S := by
  intro ds S h
  unfold sameF at h ⊢
  split at h
  · rename_i a b
    split at h
    · rename_i e1 e2 e3 e4 e5
      have e := deq_eq _ _ _ e4
      subst e
      obtain ⟨s, hs⟩ := fine_repr e5
      have gen : ∀ T : Sto, reprD [a] T = .ok (.str s) T → fnD 2 fbS [a, a] T = .ok (.bl true) T := by
        intro T hs
        have h1 : eBi reprD (lCons (eV 0) lNil) [some a, some a] T = .ok (.str s) T := hs
        have h2 : eBi reprD (lCons (eV 1) lNil) [some a, some a] T = .ok (.str s) T := hs
        have h3 : eqOD (.str s) (.str s) T = .ok (.bl true) T := by
          have : strEq s s = true := by rw [strEq_iff]; exact decide_eq_true rfl
          simp [eqOD, eqP, scalEq, this]
        have h4 : fbS [some a, some a] T = .ok (.rt (.bl true)) T := by
          show R.bind (R.bind (eBi reprD (lCons (eV 0) lNil) [some a, some a] T) _) _ = _
          rw [h1]
          show R.bind (R.bind (eBi reprD (lCons (eV 1) lNil) [some a, some a] T) _) _ = _
          rw [h2]
          show R.bind (eqOD (.str s) (.str s) T) _ = _
          rw [h3]
          rfl
        show (match fbS [some a, some a] T with
          | .ok (.rt d) S' => closeD T.length d S'
          | .ok (.nx _) S' => closeD T.length .non S'
          | .exc x S' => closeX T.length x S'
          | _ => .bad) = _
        rw [h4]
        unfold closeD
        have : Nat.beq T.length T.length = true := by simp
        simp only [this]
      unfold frm
      rw [e1, e2]
      simp only [gen _ hs]
      rw [e3]
    · exact absurd rfl h
  · exact absurd rfl h
end Zed

namespace Zed
open PySem PySem.Spec PyProof.Rows L2 RZ

/-! ## Own exceptions of two fields: made and raised -/
structure Ecl (K : PySem.W.Frag) (mg : Str → Option Value) (nm f1 f2 : Str) (C fI : Addr) : Prop where
  m : mg nm = some (.ref C)
  T : OexC K C
  x : XfC K C
  e : ExcC K C
  iC : PySem.W.findIn K (.ref C) "__init__" = some (some (.ref fI))
  tI : PySem.W.typeIn K (.ref fI) = some (.type "function")
  n1 : PySem.W.findIn K (.ref C) f1 = some none
  n2 : PySem.W.findIn K (.ref C) f2 = some none
def spI (K : PySem.W.Frag) (f1 f2 : Str) : Sp := fun vs H Q E => ∃ (a C : Addr) (y1 y2 : V), vs = [.ref a, y1, y2] ∧ OexC K C ∧ PySem.W.findIn K (.ref C) f1 = some none ∧ PySem.W.findIn K (.ref C) f2 = some none ∧ H a = some (exo a C none) ∧
  ∀ dx, H dx = none → dx ≠ a → Q .non (upd (upd (upd H dx (exd dx [(f1, y1)])) a (exo a C (some dx))) dx (exd dx [(f2, y2), (f1, y1)]))
section
variable [TC : TabC] {P : Program} {w : World} {K : PySem.W.Frag} {mg : Str → Option Value} {base : Heap}
theorem init_ok {qual : Str} {st : Stmt} {f : Addr} {fd : FuncData} {f1 f2 : Str} {a1 a2 a3 a4 b1 b2 b3 b4 : Pos} (F : L2.Fun K "__init__" qual st f fd) (Sc : FnScope ["self", f1, f2] ["self", f1, f2] (defScope st))
    (hb : defBody st = [.Assign [.Attribute (.Name "self" a1) f1 a2] (.Name f1 a3) a4, .Assign [.Attribute (.Name "self" b1) f2 b2] (.Name f2 b3) b4])
    (h1 : ∀ env, swapsWith (.Name f1 a3) (some (.Attribute (.Name "self" a1) f1 a2)) a4.line env = pure false) (h2 : ∀ env, swapsWith (.Name f2 b3) (some (.Attribute (.Name "self" b1) f2 b2)) b4.line env = pure false)
    (v0 : Vis (defScope st) "self") (v1 : Vis (defScope st) f1) (v2 : Vis (defScope st) f2) (d1 : (f1 == ("__debug__" : Str)) = false) (d2 : (f2 == ("__debug__" : Str)) = false) (c1 : (f1 == ("__classdict__" : Str)) = false) (c2 : (f2 == ("__classdict__" : Str)) = false) :
    FnOk P w K mg base CX0 1 f fd ["self", f1, f2] (spI K f1 f2) := by
  refine F.ok (k := 0) Sc (fun vs H Q E ⟨a, C, y1, y2, e, _⟩ => by rw [e]; rfl) fun cdv A outer s H vs Q E hr hsp => ?_
  obtain ⟨a, C, y1, y2, rfl, T, n1, n2, ha, q⟩ := hsp
  rw [hb]
  refine ⟨_, pss_cons (ps_ost (pe_var (i := 0) rfl v0) (pe_var (i := 1) rfl v1 d1 c1) (h1 _)) (pss_one (ps_ost (pe_var (i := 0) rfl v0) (pe_var (i := 2) rfl v2 d2 c2) (h2 _))), ?_⟩
  refine ⟨y1, rfl, .ref a, rfl, a, C, rfl, T, n1, .inl ⟨ha, fun dx hd hne => ?_⟩⟩
  refine ⟨y2, rfl, .ref a, rfl, a, C, rfl, T, n2, .inr ⟨dx, [(f1, y1)], upd_same, ?_, by simp, q dx hd hne⟩⟩
  rw [upd_ne hne, upd_same]
end
def sRaise (nm f1 f2 : Str) (f : LD) : SD := fun ρ S => (f ρ S).bind fun ds S1 => match ds with
  | [a, b] => .exc ⟨nm, [(f2, b), (f1, a)]⟩ S1
  | _ => .bad
section
variable [TC : TabC] {P : Program} {w : World} {K : PySem.W.Frag} {mg : Str → Option Value} {base : Heap} {gq : Bool} {E : XK} {k j n : Nat} {N : List Str} {sc : Scope} {X : Cx} {p p2 p3 pos pos' : Pos} {e e1 e2 : Expr} {la : LD} {nm f1 f2 : Str} {C fI : Addr} {fd : FuncData}
theorem XC.raise2 (c : XC P w K mg base gq E k N sc X) (T : Ecl K mg nm f1 f2 C fI) (F : FnOk P w K mg base CX0 1 fI fd ["self", f1, f2] (spI K f1 f2)) (hb : Binds K fd ["self", f1, f2] []) (hg : glo sc nm) (ha : PA X [e1, e2] (tDL K mg E la)) (hk : 2 ≤ k := by decide)
    (hdb : (nm == ("__debug__" : Str)) = false := by decide) (he : starEach [e1, e2] X.env = (false, eval e1 X.env) :: starEach [e2] X.env := by rfl) (hpl : (backTo pos (starEach [e2] X.env)).any (·.1) = false := by rfl) :
    PS X (.Raise (some (.Call (.Name nm p) [e1, e2] [] pos)) none pos') (tDS K mg E (sRaise nm f1 f2 la)) := by
  have hgl := c.gl hg
  obtain ⟨k1, k2, k3, k4, k5, k6, k7, k8, k9, k10, k11, k12, k13⟩ := c
  subst k1 k2 k3 k4 k5
  refine PS.to (ps_raise k8 k12 (pmk_oex (CX := CX0) (k := 1) T.T T.iC T.tI F (k9.mono hk) hb .nil (fun _ _ _ _ _ _ _ h => h.elim) hgl T.m ha hdb he hpl)) fun D σ H h => ?_
  obtain ⟨B, m, ρ, S, re, rs, q⟩ := h
  refine ⟨B, m, ρ, S, re, rs, (AftS.bind (rel := Reps X.K B) q).imp ?_⟩
  rintro vs H1 ⟨m1, ds, S1, x1, rs1, r1, q1⟩
  split at q1
  · rename_i a b
    cases r1 with
    | cons ra r1 => cases r1 with
      | cons rb r1 =>
        cases r1
        rename_i va vb
        refine ⟨by simp, fun a' ha' => ⟨a', C, va, vb, rfl, T.T, T.n1, T.n2, upd_same, fun dx hdx hne => ⟨rfl, dx, [(f2, vb), (f1, va)], ?_, upd_same, ?_, ?_⟩⟩⟩
        · rw [upd_ne (Ne.symm hne), upd_same]
        · rw [upd_ne hne] at hdx; exact hdx
        · rw [upd_ne hne] at hdx
          have eH : upd (del (upd (upd (upd (upd H1 a' (exo a' C none)) dx (exd dx [(f1, va)])) a' (exo a' C (some dx))) dx (exd dx [(f2, vb), (f1, va)])) a') dx (.xd [(f2, vb), (f1, va)]) = upd H1 dx (.xd [(f2, vb), (f1, va)]) := by
            funext z
            by_cases z1 : z = dx
            · rw [z1, upd_same, upd_same]
            · rw [upd_ne z1, upd_ne z1]
              by_cases z2 : z = a'
              · rw [z2, del_same, ha']
              · rw [del_ne z2, upd_ne z1, upd_ne z2, upd_ne z1, upd_ne z2]
          rw [eH]
          have xf := Ex.fresh (o := HO.xd [(f2, vb), (f1, va)]) rs1 hdx
          exact q1 m1 _ (.ref C) (some dx) xf (rs1.fresh hdx) ⟨C, dx, _, T.m, rfl, rfl, upd_same, rs1.notin hdx, fun z => (rs1.hid dx z).2 hdx, .cons ⟨rfl, rb.mono xf⟩ (.cons ⟨rfl, ra.mono xf⟩ .nil)⟩
  · exact q1.elim
end

/-! ## In an except suite -/
/-- what is known of the classes: a name, its fields, and whether it is a class's kind -/
structure Ent where
  nm : Str
  fs : List Str
  subs : List (Str × Bool)
def clsV (mg : Str → Option Value) (c : Str) (cv : Value) : Prop := mg c = some cv ∨ (mg c = none ∧ bootBuiltins c = some cv ∧ c ≠ "__name__")
structure TbOk (K : PySem.W.Frag) (mg : Str → Option Value) (tb : List Ent) : Prop where
  at_ : ∀ t ∈ tb, ∃ C, mg t.nm = some (.ref C) ∧ XfC K C ∧ ExcC K C ∧ (∀ f ∈ t.fs, PySem.W.findIn K (.ref C) f = some none) ∧ ∀ s ∈ t.subs, ∃ cv, clsV mg s.1 cv ∧ (cv = .type "ValueError" ∨ ∃ A, cv = .ref A) ∧ PySem.W.kitOne K (.ref C) cv = some s.2 ∧ PySem.W.exmOne K (.ref C) cv = some s.2
def entOf (tb : List Ent) (x : Str) : Option Ent := match tb with
  | [] => none
  | t :: r => match strEq t.nm x with | true => some t | false => entOf r x
def lookS {α : Type} (l : List (Str × α)) (x : Str) : Option α := match l with
  | [] => none
  | (y, a) :: r => match strEq y x with | true => some a | false => lookS r x
/-- is an exception of the class x one of the class c? -/
def subE (tb : List Ent) (x c : Str) : Option Bool := match entOf tb x with
  | some t => lookS t.subs c
  | none => none
structure XS [TC : TabC] [AM : AmbC] (K : PySem.W.Frag) (mg : Str → Option Value) (k : Nat) (N : List Str) (sc : Scope) (tb : List Ent) (x : Exn) (a dd C : Addr) (Y : Cx) : Prop where
  amb : AM.amb = some ⟨a, dd, x⟩
  cls : mg x.cls = some (.ref C)
  tbl : TbOk K mg tb
  form : ∃ (X : Cx) (oe : Obj) (pn : List (Addr × Obj)), Y = X.suite a ((a, oe) :: pn) ∧ Zc (.ref C) (some dd) oe ∧ ∃ vs, oe.data = .fields vs
  sc : Y.env.scope = sc
  nd : Y.N.Nodup
  un : Y.A.units + 64 < cLine
  fn : ∀ x, Y.fn x = true
  K : Y.K = K
  mg : Y.mg = mg
  N : Y.N = N
theorem entOf_mem : ∀ {tb : List Ent} {x : Str} {t : Ent}, entOf tb x = some t → t ∈ tb ∧ t.nm = x
  | [], _, _, h => by cases h
  | y :: r, x, t, h => by
    unfold entOf at h
    split at h
    · rename_i e
      cases h
      rw [strEq_iff] at e
      exact ⟨List.mem_cons_self, of_decide_eq_true e⟩
    · obtain ⟨h1, h2⟩ := entOf_mem h
      exact ⟨List.mem_cons_of_mem _ h1, h2⟩
theorem lookS_mem {α : Type} : ∀ {l : List (Str × α)} {x : Str} {a : α}, lookS l x = some a → (x, a) ∈ l
  | [], _, _, h => by cases h
  | (y, b) :: r, x, a, h => by
    unfold lookS at h
    split at h
    · rename_i e
      cases h
      rw [strEq_iff] at e
      rw [of_decide_eq_true e]
      exact List.mem_cons_self
    · exact List.mem_cons_of_mem _ (lookS_mem h)
section
variable [TC : TabC] [AM : AmbC] {K : PySem.W.Frag} {mg : Str → Option Value} {B m : List Addr} {H : Hp}
end
section
variable [TC : TabC] [AM : AmbC] {K : PySem.W.Frag} {mg : Str → Option Value} {k : Nat} {N : List Str} {sc : Scope} {tb : List Ent} {x : Exn} {a dd C : Addr} {Y : Cx} {y n c : Str} {p p1 p2 p3 pos : Pos} {E : XK}
theorem XS.var (s : XS K mg k N sc tb x a dd C Y) (i : Nat) (h : N[i]? = some y) (hv : Vis sc y) (hd : (y == ("__debug__" : Str)) = false := by decide) (hcd : (y == ("__classdict__" : Str)) = false := by decide) : PE Y (.Name y p) (tD K mg E (eV i)) := by
  have h6 := s.N
  have h7 := s.sc
  subst h6 h7
  exact d_var h hv hd hcd
theorem XS.gl (s : XS K mg k N sc tb x a dd C Y) (h : glo sc y) : L2.Gl Y y := by
  have := s.sc
  subst this
  exact h
theorem XS.no (s : XS K mg k N sc tb x a dd C Y) (h : mg y = none) : Y.mg y = none := by rw [s.mg]; exact h
end
end Zed

namespace Zed
open PySem PySem.Spec PyProof.Rows L2 RZ

/-! ## try: body / except c as e: suite -/
section
variable [TC : TabC] [AM : AmbC] {K : PySem.W.Frag} {B m : List Addr} {H : Hp}
/-- nothing of a suite's exception in it -/
theorem Rep.ambOut (o' : Option Amb) (h0 : AM.amb = none) {d : D} {v : V} (h : Rep K B m H d v) : @Rep _ ⟨o'⟩ K B m H d v := by
  refine Rep.rec (motive_1 := fun d v _ => @Rep _ ⟨o'⟩ K B m H d v) (motive_2 := fun ds vs _ => @Reps _ ⟨o'⟩ K B m H ds vs) ?_ ?_ ?_ ?_ ?_ ?_ ?_ ?_ ?_ ?_ ?_ ?_ ?_ h
  · exact @Rep.non _ ⟨o'⟩ K B m H
  · exact @Rep.bl _ ⟨o'⟩ K B m H
  · exact @Rep.int _ ⟨o'⟩ K B m H
  · exact @Rep.str _ ⟨o'⟩ K B m H
  · exact @Rep.ty _ ⟨o'⟩ K B m H
  · intro a ds vs hs _ ih; exact @Rep.tup _ ⟨o'⟩ K B m H _ _ _ hs ih
  · intro a ds vs hs hm hb _ ih; exact @Rep.lst _ ⟨o'⟩ K B m H _ _ _ hs hm hb ih
  · intro n a e; exact @Rep.ref _ ⟨o'⟩ K B m H _ _ e
  · intro a ns e; exact @Rep.scr _ ⟨o'⟩ K B m H _ _ e
  · intro e fvs h1; rw [h0] at h1; cases h1
  · intro n a e; exact @Rep.fn _ ⟨o'⟩ K B m H _ _ e
  · exact @Reps.nil _ ⟨o'⟩ K B m H
  · intro d v ds vs _ _ h1 h2; exact @Reps.cons _ ⟨o'⟩ K B m H _ _ _ _ h1 h2
theorem Reps.by2 (o' : Option Amb) : ∀ {ds : List D} {vs : List V}, Reps K B m H ds vs → (∀ d ∈ ds, ∀ v, Rep K B m H d v → @Rep _ ⟨o'⟩ K B m H d v) → @Reps _ ⟨o'⟩ K B m H ds vs
  | [], _, h, _ => by cases h; exact @Reps.nil _ ⟨o'⟩ K B m H
  | d :: ds, _, h, f => by
    cases h with
    | cons r t => exact @Reps.cons _ ⟨o'⟩ K B m H _ _ _ _ (f d List.mem_cons_self _ r) (Reps.by2 o' t fun d hd => f d (List.mem_cons_of_mem _ hd))
theorem Rep.ambIn (o' : Option Amb) (n : Nat) : ∀ (k : Nat) {d : D} {v : V}, low n k d = true → Rep K B m H d v → @Rep _ ⟨o'⟩ K B m H d v
  | 0, d, v, h, _ => by cases h
  | k + 1, d, v, h, r => by
    cases d with
    | non => rw [r.non_inv]; exact @Rep.non _ ⟨o'⟩ K B m H
    | bl b => rw [r.bl_inv]; exact @Rep.bl _ ⟨o'⟩ K B m H b
    | int i => rw [r.int_inv]; exact @Rep.int _ ⟨o'⟩ K B m H i
    | str x => rw [r.str_inv]; exact @Rep.str _ ⟨o'⟩ K B m H x
    | ty n => rw [r.ty_inv]; exact @Rep.ty _ ⟨o'⟩ K B m H n
    | scr ns => obtain ⟨a, rfl, q⟩ := r.scr_inv; exact @Rep.scr _ ⟨o'⟩ K B m H _ _ q
    | exv => simp [low] at h
    | fn n => obtain ⟨a, rfl, q⟩ := r.fn_inv; exact @Rep.fn TC ⟨o'⟩ K B m H _ _ q
    | ref i => obtain ⟨a, rfl, q⟩ := r.ref_inv; exact @Rep.ref _ ⟨o'⟩ K B m H _ _ q
    | tup ds =>
      obtain ⟨a, vs, rfl, q, rr⟩ := r.tup_inv
      exact @Rep.tup _ ⟨o'⟩ K B m H _ _ _ q (rr.by2 o' fun d hd v r => Rep.ambIn o' n k (allL_mem h d hd) r)
    | lst ds =>
      obtain ⟨a, vs, rfl, q, hm, hb, rr⟩ := r.lst_inv
      exact @Rep.lst _ ⟨o'⟩ K B m H _ _ _ q hm hb (rr.by2 o' fun d hd v r => Rep.ambIn o' n k (allL_mem h d hd) r)
theorem RepSto.ambBy (o' : Option Amb) {S : Sto} (h : RepSto K B m H S) (f : ∀ c ∈ S, ∀ a, CellAt K B m H a c → @CellAt _ ⟨o'⟩ K B m H a c) : @RepSto _ ⟨o'⟩ K B m H S :=
  @RepSto.mk _ ⟨o'⟩ K B m H S h.len h.nd h.hid (fun n a c e1 e2 => f c (List.mem_of_getElem? e2) a (h.cell n a c e1 e2)) h.tab
theorem RepSto.ambOut (o' : Option Amb) (h0 : AM.amb = none) {S : Sto} (h : RepSto K B m H S) : @RepSto _ ⟨o'⟩ K B m H S := h.ambBy o' fun c _ a q => by
  cases c with
  | lst ds => obtain ⟨vs, e, r⟩ := q; exact ⟨vs, e, r.by2 o' fun d _ v r => r.ambOut o' h0⟩
  | dic kvs => obtain ⟨kws, e, r⟩ := q; exact ⟨kws, e, Paired.mapP r fun _ _ z => ⟨z.1, z.2.ambOut o' h0⟩⟩
  | tbl x => exact q
theorem RepSto.ambIn (o' : Option Amb) {n : Nat} {S : Sto} (hl : lowS n S = true) (h : RepSto K B m H S) : @RepSto _ ⟨o'⟩ K B m H S := h.ambBy o' fun c hc a q => by
  have hlc := lowS_get hl c hc
  cases c with
  | lst ds => obtain ⟨vs, e, r⟩ := q; exact ⟨vs, e, r.by2 o' fun d hd v r => r.ambIn o' n 60 (allL_mem hlc d hd)⟩
  | dic kvs =>
    obtain ⟨kws, e, r⟩ := q
    refine ⟨kws, e, ?_⟩
    have hl' : ∀ d ∈ kvs.map (·.2), low n 60 d = true := allL_mem hlc
    clear hlc e hc
    unfold RepKV at r ⊢
    induction r with
    | nil => exact .nil
    | cons h1 _ ih => exact .cons ⟨h1.1, h1.2.ambIn o' n 60 (hl' _ (by simp))⟩ (ih fun d hd => hl' d (by simp at hd ⊢; exact .inr hd))
  | tbl x => exact q
theorem RepEn.length {ρ : En} {σ : L2.St} (h : RepEn K B m H ρ σ) : ρ.length = σ.length := Paired.length h
theorem rep_none : ∀ {n : Nat} {σ : L2.St}, σ.length = n → RepEn K B m H (List.replicate n none) σ
  | 0, [], _ => .nil
  | n + 1, _ :: σ, h => .cons trivial (rep_none (by simpa using h))
theorem RepFs.names : ∀ {fs : List (Str × D)} {fvs : List (Str × V)}, RepFs K B m H fs fvs → fs.map (·.1) = fvs.map (·.1) ∧ Reps K B m H (fs.map (·.2)) (fvs.map (·.2))
  | [], _, h => by cases h; exact ⟨rfl, .nil⟩
  | _ :: _, _, h => by
    cases h with
    | cons r t =>
      obtain ⟨h1, h2⟩ := RepFs.names t
      exact ⟨by simp [r.1, h1], .cons r.2 h2⟩
end
section
variable [TC : TabC] {P : Program} {w : World} {K : PySem.W.Frag} {mg : Str → Option Value} {base : Heap} {gq : Bool} {E : XK} {k j : Nat} {N : List Str} {sc : Scope} {X : Cx} {p pos pos' : Pos} {body suite : List Stmt} {b₀ : Stmt} {fb : SD} {fs : Exn → SD} {tb : List Ent} {c0 n : Str}
end
end Zed

namespace Zed
open PySem PySem.Spec PyProof.Rows L2 RZ

/-! ## A lambda without parameters, made -/
/-- what has become of the heap: nothing, or the table at P has one entry more -/
def Tabled (P : Addr) (q : Str) (ps : Array Value) (H H1 : Hp) : Prop := H1 = H ∨ ∃ (c' : Addr) (more : Array Value), H c' = none ∧ H1 = upd (upd H P (.tbl (ps ++ more))) c' (LamX.CodeO c' q) ∧ TriplesOk (ps ++ more).toList ∧
  ∀ (at_ : Pos) (cv : Value), codeAmong at_ (ps ++ more).toList = some cv → codeAmong at_ ps.toList = some cv ∨ cv = .ref c'
section
variable {X : Cx} {pins : List (Addr × Obj)} {σ : L2.St} {H : Hp} {s : Shared}
theorem lam_mk {c P : Addr} {ps : Array Value} {ar : Arguments} {body : Expr} {scope : Scope} {at_ : Pos} {E : Value → Shared → Prop} {Q : Value → Shared → Prop} (I : Inv X pins σ H s) (TB : LamX.TabB X.base X.mg c P) (hc : X.env.code = .ref c)
    (hP : H P = some (.tbl ps)) (ht : TriplesOk ps.toList) (ha : ∀ (z : Pos) (cv : Value), codeAmong z ps.toList = some cv → ∃ c0, cv = .ref c0 ∧ H c0 = some (LamX.CodeO c0 (X.env.qual ++ "<lambda>"))) (hdef : defaultsOf ar X.env = ([], []))
    (hfree : ∀ y ∈ scope.names, y.2 = .free → ∃ c, X.env.cells.lookup y.1 = some c)
    (h : ∀ (f c' : Addr) (pm ctv : Value) (H1 : Hp) (s' : Shared), Inv X pins σ H1 s' → Tabled P (X.env.qual ++ "<lambda>") ps H H1 →
      s'.heap.get? f = some (PySem.W.kla_obj "<lambda>" (X.env.qual ++ "<lambda>") ar body scope (cloFrom X.env.cells scope.names []) pm c' ctv) → H1 f = none → f ∉ frs X.stack → H1 c' = some (LamX.CodeO c' (X.env.qual ++ "<lambda>")) → Q (.ref f) s') :
    wpAny (model X.prog X.w) X.A (eval (.Lambda ar body scope at_) X.env) Q E s := by
  refine PySem.W.kla_eval hdef ?_
  have bmP : s.heap.BuiltinsAt X.mg P := TB.bm.keeps I.bk
  have objP : s.heap.get? P = some { cls := .none, data := .fields ps } := I.hok P _ hP
  have off : ∀ f, s.heap.objs.size ≤ f → f ∉ frs X.stack := fun f hf z => by
    rcases List.mem_cons.mp (I.stkSub _ z) with e | e
    · have := I.lt
      rw [← e] at this
      exact Nat.not_le_of_lt this hf
    · exact I.nofs hf e
  cases hca : codeAmong at_ ps.toList with
  | some cv =>
    obtain ⟨c', rfl, hco⟩ := ha at_ cv hca
    refine PySem.W.kla_makeFunctionHit (mg := X.mg) (c := c) (P := P) (ps := ps) (closure_ok hfree) I.ok.glob (I.mod.glob.keeps I.bk) hc (TB.code.keeps I.bk) objP ht hca bmP fun ctv h' tk kx hsz => ?_
    exact h h'.objs.size c' ((X.mg "__name__").getD .none) ctv H _ (I.kept fun b o e => Heap.get?_push_of_some _ (kx b o e)) (.inl rfl) (Heap.get?_push_size _ rfl) (I.hok.fresh hsz) (off _ hsz) hco
  | none =>
    refine PySem.W.kla_makeFunction (mg := X.mg) (c := c) (P := P) (ps := ps) (closure_ok hfree) I.ok.glob (I.mod.glob.keeps I.bk) hc (TB.code.keeps I.bk) objP ht hca TB.gP bmP fun c' ctv h' tk kx hge hlt hrec htb => ?_
    obtain ⟨c2, oc, vs, t, e2, hoc, hd, hv⟩ := hrec
    cases e2
    have hsz : s.heap.objs.size ≤ h'.objs.size := Nat.le_trans hge (Nat.le_of_lt hlt)
    have nC : H c' = none := I.hok.fresh hge
    have J := LamX.inv_table (t' := tk) (more := #[rawInt at_.line, rawInt at_.col, .ref c']) (h' := h'.push (PySem.W.kla_obj "<lambda>" (X.env.qual ++ "<lambda>") ar body scope (cloFrom X.env.cells scope.names []) ((X.mg "__name__").getD .none) c' ctv)) I hP
      (fun b o hb e => Heap.get?_push_of_some _ (kx b o hb e)) (Heap.get?_push_of_some _ htb) hge ⟨oc, vs, t, Heap.get?_push_of_some _ hoc, hd, hv⟩
    have eL : (ps ++ #[rawInt at_.line, rawInt at_.col, .ref c']).toList = ps.toList ++ [rawInt at_.line, rawInt at_.col, .ref c'] := by simp
    refine h h'.objs.size c' ((X.mg "__name__").getD .none) ctv _ _ J (.inr ⟨c', _, nC, rfl, by rw [eL]; exact PySem.TriplesOk_snoc _ _ _ _ ht, fun z cv hz => ?_⟩) (Heap.get?_push_size _ rfl) ?_ (off _ hsz) upd_same
    · rw [eL] at hz
      exact LamX.among_app _ ht hz
    · rw [upd_ne (Nat.ne_of_gt hlt), upd_ne (Nat.ne_of_gt (Nat.lt_of_lt_of_le (Heap.lt_size objP) hsz))]
      exact I.hok.fresh hsz
end
section
variable [TC : TabC] [AM : AmbC] {K : PySem.W.Frag} {B m : List Addr} {H H1 : Hp} {S : Sto}
/-- the store stands when a table has grown -/
theorem RepSto.tabled {i : Nat} {P : Addr} {q : Str} {ps : Array Value} (h : RepSto K B m H S) (hi : TC.T[i]? = some (P, q)) (hP : H P = some (.tbl ps)) (ha : ∀ (z : Pos) (cv : Value), codeAmong z ps.toList = some cv → ∃ c, cv = .ref c ∧ H c = some (LamX.CodeO c q) ∧ c ∉ m ∧ c ∉ B)
    (g : Tabled P q ps H H1) : Ex m H m H1 ∧ RepSto K B m H1 S := by
  rcases g with rfl | ⟨c', more, n', rfl, tr, am⟩
  · exact ⟨Ex.refl h, h⟩
  · obtain ⟨t1, t2⟩ := h.tab i _ hi
    have hPm : P ∈ m := List.mem_of_getElem? t1
    have nPc : P ≠ c' := ne_of_none hP n'
    have hc'm : c' ∉ m := h.notin n'
    have hc'B : c' ∉ B := fun z => (h.hid c' z).2 n'
    have nm : TC.nm i = q := by unfold TabC.nm; rw [hi]; rfl
    have at_ : ∀ b, b ≠ P → b ≠ c' → upd (upd H P (.tbl (ps ++ more))) c' (LamX.CodeO c' q) b = H b := fun b h1 h2 => by rw [upd_ne h2, upd_ne h1]
    have x : Ex m H m (upd (upd H P (.tbl (ps ++ more))) c' (LamX.CodeO c' q)) := by
      refine ⟨⟨[], by simp, by simp⟩, fun a o e hn hm => ?_, fun a ha => ?_, fun a xs e => ?_, fun a o u e => ?_, fun a o e => ?_⟩
      · rw [at_ a (fun z => hm (z ▸ hPm)) (ne_of_none e n')]; exact e
      · by_cases z : a = P
        · rw [z, upd_ne nPc, upd_same]; simp
        · rw [at_ a z (fun z => hc'm (z ▸ ha))]; exact h.live a ha
      · rw [at_ a (fun z => by rw [z, hP] at e; cases e) (ne_of_none e n')]; exact e
      · rw [at_ a (fun z => by rw [z, hP] at e; cases e) (ne_of_none e n')]; exact e
      · by_cases z : a = P
        · rw [z, upd_ne nPc, upd_same]; simp
        · rw [at_ a z (ne_of_none e n'), e]; simp
    refine ⟨x, h.len, h.nd, fun b hb => ⟨(h.hid b hb).1, fun z => ?_⟩, fun k a c e1 e2 => ?_, h.tab⟩
    · have hbP : b ≠ P := fun y => (h.hid b hb).1 (y ▸ hPm)
      have hbc : b ≠ c' := fun y => hc'B (y ▸ hb)
      rw [at_ b hbP hbc] at z
      exact (h.hid b hb).2 z
    · by_cases hk : k = i
      · subst hk
        rw [t1] at e1
        cases e1
        rw [t2] at e2
        cases e2
        refine ⟨ps ++ more, by rw [upd_ne nPc, upd_same], tr, fun pos cv hz => ?_⟩
        rw [nm]
        rcases am pos cv hz with y | y
        · obtain ⟨c0, g1, g2, g3, g4⟩ := ha pos cv y
          exact ⟨c0, g1, by rw [at_ c0 (fun z => g3 (z ▸ hPm)) (ne_of_none g2 n')]; exact g2, g3, g4⟩
        · exact ⟨c', y, upd_same, hc'm, hc'B⟩
      · have haP : a ≠ P := fun z => by
          subst z
          obtain ⟨l1, g1⟩ := List.getElem?_eq_some_iff.mp e1
          obtain ⟨l2, g2⟩ := List.getElem?_eq_some_iff.mp t1
          exact hk ((List.getElem_inj h.nd).mp (g1.trans g2.symm))
        exact (h.cell k a c e1 e2).mono x (at_ a haP fun z => hc'm (z ▸ List.mem_of_getElem? e1))
end
/-! ## heard(lambda: e): ("told", e), or what the suite tells of an exception -/
def eHeard (tb : List Ent) (c0 : Str) (n i : Nat) (fs : Exn → SD) (fe : ED) : ED := fun ρ S => match fe ρ S with
  | .ok v S1 => .ok (.tup [.str "told", v]) S1
  | .exc x S1 => match subE tb x.cls c0 with
    | some true => match fs x ((List.replicate n none).set i (some .exv)) S1 with
      | .ok (.rt d) S2 => match low S2.length 60 d, lowS S2.length S2 with
        | true, true => closeD S.length d S2
        | _, _ => .bad
      | _ => .bad
    | _ => .bad
  | .bad => .bad
section
variable [TC : TabC] {P : Program} {w : World} {K : PySem.W.Frag} {mg : Str → Option Value} {base : Heap} {gq : Bool} {E : XK} {k kb i i0 j kk : Nat} {N NH : List Str} {sc scope : Scope} {X : Cx} {x a n c0 ql : Str} {g cc P0 : Addr} {fdH : FuncData} {stH : Stmt} {tb : List Ent} {fs : Exn → SD} {fe : ED} {b₀ : Stmt} {suite : List Stmt} {ar : Arguments} {body : Expr}
  {q1 q2 q3 q4 q5 q6 q7 q8 p pos lpos : Pos}
theorem XC.heard (c : XC P w K mg base gq E k N sc X) (F : L2.Fun K x x stH g fdH) (Sc : FnScope NH [a] (defScope stH)) (bH : Binds K fdH [a] []) (hg : glo sc x) (hm : mg x = some (.ref g))
    (hb : defBody stH = [.Try [.Return (some (.Tuple [.Constant (.str "told") j q1, .Call (.Name a q2) [] [] q3] kk q4)) q5] [.ExceptHandler (some (.Name c0 q6)) (some n) (b₀ :: suite) q7] [] [] q8])
    (hst : starEach [.Constant (.str "told") j q1, .Call (.Name a q2) [] [] q3] = fun env => (false, eval (.Constant (.str "told") j q1) env) :: starEach [.Call (.Name a q2) [] [] q3] env) (hst2 : starEach [.Call (.Name a q2) [] [] q3] = fun env => (false, eval (.Call (.Name a q2) [] [] q3) env) :: starEach [] env)
    (hN0 : NH[0]? = some a) (hva : Vis (defScope stH) a) (hi : NH[i]? = some n) (hln : (defScope stH).names.lookup n = some .local) (hgc : glo (defScope stH) c0) (hmc : ∃ A, mg c0 = some (.ref A)) (T : TbOk K mg tb)
    (hs : ∀ (AM : AmbC) (x : Exn) (a dd C : Addr) (Y : Cx), @XS _ AM K mg k NH (defScope stH) tb x a dd C Y → PSs Y (b₀ :: suite) (@tDS _ AM K mg noE (fs x)))
    (hq : X.env.qual = ql) (hcode : X.env.code = .ref cc) (hT : TC.T[i0]? = some (P0, ql ++ "<lambda>")) (TB : LamX.TabB base mg cc P0) (L : LamX.lamSB sc scope = true) (hdef : defaultsOf ar X.env = ([], []))
    (hbind : ∀ (q : Str) (cl : List (Str × Addr)) (pm cv ctv : Value), bindArgs (PySem.W.kla_fn "<lambda>" q ar body scope cl pm cv ctv) ⟨[], []⟩ = pure [])
    (hbody : ∀ (Y : Cx) (E' : XK), XC P w K mg base false E' kb N scope Y → PE Y body (tD K mg E' fe)) (hk : kb + 2 ≤ k := by decide)
    (hdx : (x == ("__debug__" : Str)) = false := by decide) (hda : (a == ("__debug__" : Str)) = false := by decide) (hca : (a == ("__classdict__" : Str)) = false := by decide) (hdc : (c0 == ("__debug__" : Str)) = false := by decide) :
    PE X (.Call (.Name x p) [.Lambda ar body scope lpos] [] pos) (tD K mg E (eHeard tb c0 NH.length i fs fe)) := by
  obtain ⟨A0, hA0⟩ := hmc
  have hgl := c.gl hg
  have kp := F.kp
  obtain ⟨oc, od, kV, doc, pv, an, cdv, ct, osl, rfl, lk, hcd⟩ := F.ex
  obtain ⟨k1, k2, k3, k4, k5, k6, k7, k8, k9, k10, k11, k12, k13⟩ := c
  subst k1 k2 k3 k4 k5 k6 k7
  refine ⟨fun pins s σ H Q I h => ?_⟩
  obtain ⟨B, m, ρ, S, re, rs, q⟩ := h
  have LS : LamX.LamS X.env.scope scope := LamX.lamS_by L
  obtain ⟨t1, t2⟩ := rs.tab i0 _ hT
  obtain ⟨ps, hP, htr, hco0⟩ := rs.cell i0 P0 _ t1 t2
  have nm : TC.nm i0 = ql ++ "<lambda>" := by unfold TabC.nm; rw [hT]; rfl
  rw [nm] at hco0
  subst hq
  refine wpAny_Call_Name_kw (ld_glob I hgl hm ?_ hdx)
  refine PySem.W.callWith_K (h₀ := X.base) I.ok.mod.kin kp ?_ (by rfl) (by rfl)
  show wpAny _ _ (spliced ((false, eval (.Lambda ar body scope lpos) X.env) :: backTo pos (starEach [] X.env))) _ _ s
  refine Calls.spliced_cons (lam_mk I TB hcode hP htr (fun z cv hz => by obtain ⟨c0, e1, e2, _⟩ := hco0 z cv hz; exact ⟨c0, e1, e2⟩) hdef (LS.has I.ok) fun f c' pm' ctv H1 s' I1 tabd hf hfn hfr hco => ?_)
  obtain ⟨x1, rs1⟩ := rs.tabled hT hP hco0 tabd
  have re1 := re.mono x1
  refine Calls.spliced_nil ⟨I1.kIn, ?_⟩
  have hroom : Room (kb + 2) X.A := k9.mono hk
  have rc : codeAny (model X.prog X.w) X.A (.call (.ref g) ⟨[.ref f], []⟩) (CR C8.CX0 X.stack X.prog X.w H1 s' Q C8.E0) s' := by
    refine LamX.run_ofS (N := NH) (ps := [a]) (us := [.ref f]) (vs := [.ref f]) lk hcd Sc hroom I1.env0 (bH s' [.ref f] I1.kIn rfl) (.cons rfl .nil) rfl fun hr' => ?_
    rw [hb]
    have hgl2 : Gl (cxOf C8.CX0 X.prog X.w X.K X.mg X.base NH x (defScope stH) g cdv X.A X.stack s' H1 C8.E0).nox c0 := hgc
    refine ⟨_, (pss_one (ps_try_as (X := (cxOf C8.CX0 X.prog X.w X.K X.mg X.base NH x (defScope stH) g cdv X.A X.stack s' H1 C8.E0).nox) (c := .ref A0) (Wout := fun _ _ _ _ => False) rfl rfl Sc.nd hi hln ⟨hgl2, hdc, .inl hA0⟩ LamX.takes0
      (tb := fun W D σZ HZ => σZ[0]? = some (some (.ref f)) ∧ HZ c' = some (LamX.CodeO c' (X.env.qual ++ "<lambda>")) ∧ tD X.K X.mg (fun cls d H' => ∀ σ' : L2.St, σ'.length = NH.length → W cls d σ' H') fe σ HZ fun v H2 => 2 ≤ sizeLine ∧ ∀ p, H2 p = none → D.rt (.ref p) (upd H2 p (.tup [.str "told", v])))
      (ts := fun a cls d D σ H => ∃ (x : Exn) (dd C : Addr), cls = .ref C ∧ d = some dd ∧ X.mg x.cls = some (.ref C) ∧ @tDS _ ⟨some ⟨a, dd, x⟩⟩ X.K X.mg noE (fs x) D σ H)
      (fun W pn xe tk po => ?_) (fun ae oe cls d pn hz hfl => ⟨fun pins s σ H D I h => ?_⟩))).nox, ?_⟩
    · -- the body
      refine ⟨fun pins2 s2 σ2 H2 D I2 h2 => ?_⟩
      obtain ⟨g1, g2, g3⟩ := h2
      have tk' : Takes ((cxOf C8.CX0 X.prog X.w X.K X.mg X.base NH x (defScope stH) g cdv X.A X.stack s' H1 C8.E0).tr pn xe) (fun cls d σ' H' => σ'.length = NH.length → W cls d σ' H') := fun u sz ⟨ae, B', sI, pn', σ', H', cls, d, e, I', nb, up, sky, na, os, ag, wz⟩ =>
        tk u sz ⟨ae, B', sI, pn', σ', H', cls, d, e, I', nb, up, sky, na, os, ag, wz I'.len⟩
      have hp := LamX.pe_act (i := 0) (p1 := q2) (p2 := q3) (E := fun cls d H' => ∀ σ' : L2.St, σ'.length = NH.length → W cls d σ' H') (tb := tD X.K X.mg (fun cls d H' => ∀ σ' : L2.St, σ'.length = NH.length → W cls d σ' H') fe) I1 LS hf hfn hfr (hbind _ _ _ _ _) tk' (fun cls d σ' H' z hl => z σ' hl) hr'
        (fun A outer sb Hb hr2 => hbody _ _ ⟨rfl, rfl, rfl, rfl, rfl, rfl, rfl, rfl, hr2, (fun z => nomatch z), k11, takes_of rfl rfl rfl rfl, passes_of rfl⟩) hN0 hva hda hca
      refine (pss_one (ps_ret (pos := q5) (pe_tup (x1 := kk) (pos := q4) (pa_cons (pe_str (j := j) (pos := q1)) (pa_cons hp pa_nil (congrFun hst2 _)) (congrFun hst _))))).run pins2 s2 σ2 H2 D I2 ?_
      exact ⟨g1, g2, g3⟩
    · -- the suite
      obtain ⟨xn, dd, C, rfl, rfl, hmx, h⟩ := h
      refine (hs ⟨some ⟨ae, dd, xn⟩⟩ xn ae dd C _ (@XS.mk _ ⟨some ⟨ae, dd, xn⟩⟩ X.K X.mg k NH (defScope stH) tb xn ae dd C _ rfl hmx T ⟨(cxOf C8.CX0 X.prog X.w X.K X.mg X.base NH x (defScope stH) g cdv X.A X.stack s' H1 C8.E0).nox, oe, pn, rfl, hz, hfl⟩ rfl Sc.nd ?_ (fun _ => rfl) rfl rfl rfl)).run pins s σ H D I h
      have := hr'.un
      show (X.A.deeper (envOfC x (defScope stH) s'.heap.objs.size g cdv)).units + 64 < cLine
      omega
    · refine ⟨rfl, hco, B, m, ρ, S, re1, rs1, ?_⟩
      unfold eHeard at q
      cases ef : fe ρ S with
      | ok v S1 =>
        rw [ef] at q
        intro m' H' b xx st rv
        refine ⟨by rw [sizeLine_eq]; omega, fun p hp => ?_⟩
        have xf := Ex.fresh (o := HO.tup [.str "told", b]) st hp
        exact q m' _ _ ((x1.trans xx).trans xf) (st.fresh hp) (.tup (SqT.of upd_same) (.cons (.str _) (.cons (rv.mono xf) .nil)))
      | bad => rw [ef] at q; exact q.elim
      | exc xn S1 =>
        rw [ef] at q
        simp only at q
        intro m1 H2 cls d x2 rs2 ea σ' hl
        obtain ⟨C, dd, fvs, g1, g2, g3, g4, g5, g5b, g6⟩ := ea
        split at q
        · rename_i hsub
          have hex : PySem.W.exmOne X.K cls (.ref A0) = some true := by
            unfold subE at hsub
            split at hsub
            · rename_i t et
              obtain ⟨tm, tn⟩ := entOf_mem et
              obtain ⟨C', c1, c2, c3, c4, c5⟩ := T.at_ t tm
              rw [tn, g1] at c1
              cases c1
              obtain ⟨cv, h1, h2, h3, h4⟩ := c5 _ (lookS_mem hsub)
              dsimp only at h1 h4
              have : cv = .ref A0 := by
                rcases h1 with h1 | ⟨h1, _, _⟩
                · rw [hA0] at h1; exact (Option.some.inj h1).symm
                · rw [hA0] at h1; cases h1
              rw [g2, ← this]
              exact h4
            · cases hsub
          refine ⟨true, hex, fun _ ae hae => ⟨xn, dd, C, g2, g3, g1, B, m1, (List.replicate NH.length none).set i (some .exv), S1, ?_, rs2.ambOut _ rfl, ?_⟩, fun z => nomatch z⟩
          · refine @RepEn.set _ ⟨some ⟨ae, dd, xn⟩⟩ _ _ _ _ _ _ _ _ _ (@rep_none _ ⟨some ⟨ae, dd, xn⟩⟩ _ _ _ _ _ _ hl) ?_
            obtain ⟨n1, n2⟩ := RepFs.names g6
            exact @Rep.exv _ ⟨some ⟨ae, dd, xn⟩⟩ X.K B m1 H2 ⟨ae, dd, xn⟩ fvs rfl g4 g5 g5b n1 (n2.by2 _ fun d _ v r => r.ambOut _ rfl)
          · split at q
            · rename_i d2 S2 es
              rw [es]
              split at q
              · rename_i l1 l2
                intro m2 H3 x3 rs3 v rv
                exact close_ok rs.len rs.tab ((x1.trans x2).trans x3) (@RepSto.ambIn _ ⟨some ⟨ae, dd, xn⟩⟩ _ _ _ _ none _ _ l2 rs3) (@Rep.ambIn _ ⟨some ⟨ae, dd, xn⟩⟩ _ _ _ _ none _ 60 _ _ l1 rv) q
              · exact q.elim
            · exact q.elim
        · exact q.elim
  refine wpAny_call (codeAny_mono rc fun r s2 hq => ?_)
  cases r with
  | error e => exact (show False from hq).elim
  | ok fl =>
    cases fl with
    | ret u => exact I1.after hq
    | next => exact False.elim hq
    | brk => exact False.elim hq
    | cont => exact False.elim hq
end
end Zed

namespace Zed
open PySem PySem.Spec PyProof.Rows L2 RZ

/-! ## sum of ints -/
def numsD : List D → Option (List Int)
  | [] => some []
  | .int i :: r => match numsD r with
    | some ns => some (i :: ns)
    | none => none
  | _ :: _ => none
def totD : List Int → Int
  | [] => 0
  | i :: r => i + totD r
def sumD : AD
  | [d], S => match itemsL S d with
    | some xs => match numsD xs with
      | some ns => .ok (.int (totD ns)) S
      | none => .bad
    | none => .bad
  | _, _ => .bad
/-! ## x in a list or a tuple of flat values -/
section
variable [TC : TabC] [AM : AmbC] {K : PySem.W.Frag} {mg : Str → Option Value} {E : XK} {B m : List Addr} {H : Hp} {S : Sto}
theorem numsD_reps : ∀ {ds : List D} {vs : List V} {ns : List Int}, numsD ds = some ns → Reps K B m H ds vs → vs = ns.map V.int
  | [], _, _, h, r => by cases h; cases r; rfl
  | d :: ds, _, _, h, r => by
    cases r with
    | cons r1 r2 =>
      cases d with
      | int i =>
        simp only [numsD] at h
        split at h
        · rename_i ns e
          cases h
          rw [r1.int_inv, numsD_reps e r2]
          rfl
        · cases h
      | _ => cases h
theorem totD_sum : ∀ ns : List Int, totD ns = ns.sum
  | [] => rfl
  | i :: r => by simp [totD, totD_sum r]
theorem b_sum : BiSp K mg E sumD (rSum K) := by
  intro B m H S ds vs Q rs r q
  unfold sumD at q
  split at q
  · obtain ⟨v, rfl, r1⟩ := r.one
    split at q
    · rename_i xs e1
      obtain ⟨a, ws, rfl, h1, r2⟩ := r1.items rs e1
      split at q
      · rename_i ns e2
        have ew := numsD_reps e2 r2
        subst ew
        rw [totD_sum] at q
        exact ⟨a, ns, rfl, h1, q.same rs (.int _)⟩
      · exact q.elim
    · exact q.elim
  · exact q.elim
end
section
variable [TC : TabC] {P : Program} {w : World} {K : PySem.W.Frag} {mg : Str → Option Value} {base : Heap} {gq : Bool} {E : XK} {k j n : Nat} {N : List Str} {sc : Scope} {X : Cx} {x : Str} {p p2 p3 pos tpos : Pos} {e a b o i : Expr} {es : List Expr} {la lb : LD} {fe ff fg fv : ED}
theorem XC.sum (c : XC P w K mg base gq E k N sc X) (hg : glo sc "sum") (hm : mg "sum" = none) (ha : PA X [e] (tDL K mg E la)) (he : starEach [e] X.env = (false, eval e X.env) :: starEach [] X.env := by rfl) : PE X (.Call (.Name "sum" p) [e] [] pos) (tD K mg E (eBi sumD la)) := by
  have h3 := c.K
  subst h3
  exact d_bi (cr_sum c.calm) b_sum (c.gl hg) (c.no hm) PyProof.Rows.boot_sum ha (by decide) (by decide) he rfl
end

/-! ## isinstance(e, (A, B, ..)) -/
section
variable [TC : TabC] [AM : AmbC] {K : PySem.W.Frag} {mg : Str → Option Value} {E : XK} {X : Cx} {B m : List Addr} {H : Hp} {S : Sto} {p pos tpos : Pos} {e : Expr} {f : ED}
/-- the classes of the display, from the left -/
structure ClsL (X : Cx) (es : List Expr) (Ts : List TyC) : Prop where
  ok : ∃ t : TA, PA X es t ∧ ∀ σ H Q, Q (Ts.map fun T => V.ty T.nm) H → t σ H Q
end
section
variable [TC : TabC] {P : Program} {w : World} {K : PySem.W.Frag} {mg : Str → Option Value} {base : Heap} {gq : Bool} {E : XK} {k : Nat} {N : List Str} {sc : Scope} {X : Cx} {p p2 pos tpos : Pos} {e : Expr} {es : List Expr} {fe : ED}
end
/-! ## Rules in a suite -/
section
variable [TC : TabC] [AM : AmbC] {K : PySem.W.Frag} {mg : Str → Option Value} {k : Nat} {N : List Str} {sc : Scope} {tb : List Ent} {x : Exn} {a dd C : Addr} {Y : Cx} {E : XK} {e e1 e2 : Expr} {fe ff fg : ED} {pos : Pos}
theorem XS.val (s : XS K mg k N sc tb x a dd C Y) (h : PE Y e (tD K mg E fe)) (he : ∀ whole, isTrue e Y.env whole = (do let v ← whole; standAt e.pos; holding [v] (truthy v)) := by intro _; rfl) : PT Y e (tDB K mg E (bT fe)) := by
  have h3 := s.K
  subst h3
  exact t_val h he
end
section
variable [TC : TabC] {P : Program} {w : World} {K : PySem.W.Frag} {mg : Str → Option Value} {base : Heap} {gq : Bool} {E : XK} {k : Nat} {N : List Str} {sc : Scope} {X : Cx} {x y z : Str} {px py pz pt pt2 pos : Pos} {kt k2 : Nat} {a b e : Expr} {la : LD}
end
/-- xs[a:b], a list's or a tuple's -/
def eSlA (f : ED) (a b : En → Sto → R (Option Int)) : ED := fun ρ S => match f ρ S with
  | .ok (.tup xs) S1 => eSlT f a b ρ S
  | _ => eFrz (lSl f a b) ρ S
section
variable [TC : TabC] {P : Program} {w : World} {K : PySem.W.Frag} {mg : Str → Option Value} {base : Heap} {gq : Bool} {E : XK} {k : Nat} {N : List Str} {sc : Scope} {X : Cx} {p2 pos : Pos} {e : Expr} {fe : ED}
theorem XC.slA {lo hi : Option Expr} {fl fh : En → Sto → R (Option Int)} (c : XC P w K mg base gq E k N sc X) (he : PE X e (tD K mg E fe)) (hl : PO X lo (tDO K mg E fl)) (hh : PO X hi (tDO K mg E fh)) : PE X (.Subscript e (.Slice lo hi none p2) pos) (tD K mg E (eSlA fe fl fh)) := by
  refine ⟨fun pins s σ H Q I h => ?_⟩
  obtain ⟨B, m, ρ, S, re, rs, q⟩ := h
  unfold eSlA at q
  split at q
  · exact (c.slT he hl hh).run pins s σ H Q I ⟨B, m, ρ, S, re, rs, q⟩
  · exact (d_frz (c.slL he hl hh)).run pins s σ H Q I ⟨B, m, ρ, S, re, rs, q⟩
end
/-! ## A walk over a list that is a cell: what stands in it when an item is asked for -/
section
variable [TC : TabC] {P : Program} {w : World} {K : PySem.W.Frag} {mg : Str → Option Value} {base : Heap} {gq : Bool} {E : XK} {k : Nat} {N : List Str} {sc : Scope} {X : Cx} {pos : Pos} {i tg : Expr} {body : List Stmt} {t : TG} {g : GT} {vs : List Nat} {fe : ED} {f : SD}
end
end Zed

namespace Zed
open PySem PySem.Spec PyProof.Rows L2 RZ

/-! ## The feed of a law behind one table, and a pick from it -/
theorem toPL_ints (S : Sto) (k : Nat) : ∀ cs : List Int, toPL (toP S (k + 1)) (cs.map .int) = some (cs.map PyData.int)
  | [] => rfl
  | c :: cs => by
    show (match toPL (toP S (k + 1)) (cs.map .int) with | some ps => some (PyData.int c :: ps) | none => none) = _
    rw [toPL_ints S k cs]
    rfl
theorem lay_ints : ∀ cs : List Int, PyData.canLayAll0 (cs.map PyData.int) = true
  | [] => by simp [PyData.canLayAll0]
  | c :: cs => by simp [PyData.canLayAll0, PyData.canLay0, lay_ints cs]
theorem depth_ints : ∀ cs : List Int, PyData.depthAll (cs.map PyData.int) = 0
  | [] => by simp [PyData.depthAll]
  | c :: cs => by simp [PyData.depthAll, PyData.depth, depth_ints cs]
def isCons : List Int → Bool
  | [] => false
  | _ :: _ => true
theorem ne_nil (S : Sto) (cs : List Int) : neOD (.lst (cs.map .int)) (.lst []) S = .ok (.bl (isCons cs)) S := by
  have e1 : toP S 60 (.lst (cs.map .int)) = some (.list (cs.map PyData.int)) := by
    show (match toPL (toP S 59) (cs.map .int) with | some ps => some (PyData.list ps) | none => none) = _
    rw [toPL_ints S 58]
  have s1 : SeqAt.shaped (.list (cs.map PyData.int)) = true := by
    unfold SeqAt.shaped
    simp [PyData.canLay0, lay_ints, PyData.depth, depth_ints]
  have e2 : toP S 60 (.lst []) = some (.list []) := rfl
  have s2 : SeqAt.shaped (.list []) = true := by
    unfold SeqAt.shaped
    simp [PyData.canLay0, PyData.canLayAll0, PyData.depth, PyData.depthAll]
  have e3 : scalEq (.lst (cs.map .int)) (.lst []) = none := rfl
  unfold neOD eqP
  rw [e3]
  simp only [e1, e2]
  rw [if_pos ⟨s1, s2⟩]
  cases cs with
  | nil => simp [PyData.eqv, PyData.eqvAll, isCons]
  | cons c cs => simp [PyData.eqv, PyData.eqvAll, isCons]
section
variable {f g : SD} {ρ ρ' : En} {S S' : Sto} {d : D}
theorem seq_nx (h : f ρ S = .ok (.nx ρ') S') : sSeq f g ρ S = g ρ' S' := by unfold sSeq; rw [h]
theorem seq_rt (h : f ρ S = .ok (.rt d) S') : sSeq f g ρ S = .ok (.rt d) S' := by unfold sSeq; rw [h]
end
section
variable {cs : List Int} {k l d v : Int} {f : ED} {r : En}
end
section
variable {ρ : En} {S S1 S2 : Sto} {f g : ED} {i j : Int}
theorem ev_add (h1 : f ρ S = .ok (.int i) S) (h2 : g ρ S = .ok (.int j) S) : eBin addD f g ρ S = .ok (.int (i + j)) S := by unfold eBin; rw [h1]; simp only [R.bind]; rw [h2]; rfl
theorem ev_mod (h1 : f ρ S = .ok (.int i) S) (h2 : g ρ S = .ok (.int j) S) (h : 0 < j) : eBin modD f g ρ S = .ok (.int (i % j)) S := by unfold eBin; rw [h1]; simp only [R.bind]; rw [h2]; simp only [modD]; rw [if_pos h]
theorem ev_fdiv (h1 : f ρ S = .ok (.int i) S) (h2 : g ρ S = .ok (.int j) S) (h : 0 < j ∧ j < 1073741824) : eBin fdivD f g ρ S = .ok (.int (i / j)) S := by unfold eBin; rw [h1]; simp only [R.bind]; rw [h2]; simp only [fdivD]; rw [if_pos h]
theorem ev_mul (h1 : f ρ S = .ok (.int i) S) (h2 : g ρ S = .ok (.int j) S) (h : i.natAbs.log2 + j.natAbs.log2 < 1000000) : eBin mulD' f g ρ S = .ok (.int (i * j)) S := by unfold eBin; rw [h1]; simp only [R.bind]; rw [h2]; simp only [mulD', mulD]; rw [if_pos h]
theorem ev_int (h1 : f ρ S = .ok (.int i) S) : eBi intD (lCons f lNil) ρ S = .ok (.int i) S := by unfold eBi lCons; rw [h1]; rfl
theorem ev_len {ds : List D} (h1 : f ρ S = .ok (.lst ds) S) : eBi lenD (lCons f lNil) ρ S = .ok (.int ds.length) S := by unfold eBi lCons; rw [h1]; rfl
theorem ev_item {ds : List D} {d : D} (h1 : f ρ S = .ok (.lst ds) S) (h2 : g ρ S = .ok (.int i) S) (h : atI ds i = some d) : eBin itemD f g ρ S = .ok d S := by
  unfold eBin; rw [h1]; simp only [R.bind]; rw [h2]
  show itemD (.lst ds) (.int i) S = _
  unfold itemD
  simp only [itemsL, atD, h]
theorem ev_lt {p : Int → Int → Bool} (h1 : f ρ S = .ok (.int i) S) (h2 : g ρ S = .ok (.int j) S) : bB (eBin (cmpI p) f g) ρ S = .ok (p i j) S := by unfold bB eBin; rw [h1]; simp only [R.bind]; rw [h2]; rfl
theorem ev_asg {n : Nat} {d : D} (h : f ρ S = .ok d S1) : sAsg f (gN n) ρ S = .ok (.nx (ρ.set n (some d))) S1 := by unfold sAsg; rw [h]; rfl
theorem ev_ret {d : D} (h : f ρ S = .ok d S1) : sRet f ρ S = .ok (.rt d) S1 := by unfold sRet; rw [h]; rfl
theorem ev_if {c : BD} {a b : SD} {t : Bool} (h : c ρ S = .ok t S1) : sIf c a b ρ S = if t = true then a ρ S1 else b ρ S1 := by unfold sIf; rw [h]; cases t <;> rfl
theorem ev_ifE {c : BD} {a b : ED} {t : Bool} (h : c ρ S = .ok t S1) : eIf c a b ρ S = if t = true then a ρ S1 else b ρ S1 := by unfold eIf; rw [h]; cases t <;> rfl
theorem ev_and {a b : BD} {s t : Bool} (h1 : a ρ S = .ok s S) (h2 : b ρ S = .ok t S) : bAnd a b ρ S = .ok (s && t) S := by unfold bAnd; rw [h1]; cases s <;> simp [R.bind, h2]
end
theorem log2_small {i : Int} {n : Nat} (h : i.natAbs < 2 ^ n) (hn : n ≤ 1000) : i.natAbs.log2 ≤ 1000 := by
  by_cases z : i.natAbs = 0
  · rw [z]; simp
  · have := (Nat.log2_lt z).mpr h
    omega
def okNum (x : Int) : Prop := 0 < x ∧ x < 1073741824000
theorem cut_63 (ns : List Int) (h : ns.length ≤ 63) : cutD (ns.map D.int) none (some 63) = ns.map D.int := by
  unfold cutD
  have e1 : HT.sIx (ns.map D.int).length 0 none = 0 := rfl
  have e2 : HT.sIx (ns.map D.int).length (ns.map D.int).length (some 63) = (ns.map D.int).length := by
    have := HT.sIx_nat (ns.map D.int).length (ns.map D.int).length 63
    rw [show ((63 : Nat) : Int) = 63 from rfl] at this
    rw [this, List.length_map]
    omega
  rw [e1, e2, List.drop_zero, Nat.sub_zero, List.take_length]
end Zed

namespace Zed
open PySem PySem.Spec PyProof.Rows L2 RZ

/-! ## Comprehensions with two sources -/
section
variable [TC : TabC] [AM : AmbC] {K : PySem.W.Frag} {mg : Str → Option Value} {E : XK} {X : Cx} {B m m1 m2 : List Addr} {H H1 H2 : Hp} {S : Sto}
/-- what is left to do once the list is whole -/
def Fin2 [TC : TabC] [AM : AmbC] (K : PySem.W.Frag) (D : Addr) (B m : List Addr) (H : Hp) (Q : VK) : R (List Zed.D) → Prop
  | .ok ys S2 => ∀ m' H' vs, Ex m H m' H' → D ∉ m' → H' D = some (.lst vs) → RepSto K (D :: B) m' H' S2 → Reps K (D :: B) m' H' ys vs → Q (.ref D) H'
  | .exc _ _ => True
  | .bad => False
theorem Ex.grow {acc ws : List V} {D : Addr} {m' : List Addr} {H' : Hp} (w : Ex m H m' H') (hD0 : H D = none) : Ex m H m' (upd H' D (.lst ws)) := by
  refine ⟨w.app, fun a o e ht hm => ?_, fun a ha => ?_, fun a xs e => ?_, fun a o u e => ?_, fun a o e => ?_⟩
  · rw [upd_ne (ne_of_none e hD0)]; exact w.keep a o e ht hm
  · by_cases c : a = D
    · rw [c, upd_same]; simp
    · rw [upd_ne c]; exact w.live a ha
  · rw [upd_ne (ne_of_none e hD0)]; exact w.tups a xs e
  · rw [upd_ne (ne_of_none e hD0)]; exact w.frzs a o u e
  · rw [upd_ne (ne_of_none e hD0)]; exact w.there a o e
theorem wipe_one {σ σ2 : L2.St} {vs : List Nat} (w2 : wipe σ2 vs = wipe (wipe σ vs) vs) : wipe σ2 vs = wipe σ vs := by
  rw [w2]
  exact List.ext_getElem? fun j => by
    rw [wipe_at, wipe_at, wipe_length]
    by_cases c : j ∈ vs ∧ j < σ.length
    · rw [if_pos c, if_pos c]
    · rw [if_neg c, if_neg c]
end
section
variable [TC : TabC] {P : Program} {w : World} {K : PySem.W.Frag} {mg : Str → Option Value} {base : Heap} {gq : Bool} {E : XK} {k : Nat} {N : List Str} {sc : Scope} {X : Cx} {p2 pos : Pos} {e i i1 : Expr} {fe : ED}
end
end Zed

namespace Zed
open PySem PySem.Spec PyProof.Rows L2 RZ
open PySem.Sem (wp)

/-! ## zip of two tuples whose pair is still out -/
section
variable {prog : Program} {w : World} {A : Around} {E : Value → Shared → Prop} {s : Shared}
/-- the two tuples under a zip, and how far it is -/
structure TwoT (h : Heap) (TI j1 j2 a1 a2 : Addr) (n1 n2 : Nat) (xs ys : Array Value) : Prop where
  ti : IsPair h TI (.ref j1) (.ref j2)
  i1 : h.IsTupleIter j1 a1 n1
  i2 : h.IsTupleIter j2 a2 n2
  t1 : h.IsTuple a1 xs
  t2 : h.IsTuple a2 ys
theorem TwoT.at {h h' : Heap} {TI j1 j2 a1 a2 : Addr} {n1 n2 : Nat} {xs ys : Array Value} (c : TwoT h TI j1 j2 a1 a2 n1 n2 xs ys) (k0 : ∀ o, h.get? TI = some o → h'.get? TI = some o) (k1 : ∀ o, h.get? j1 = some o → h'.get? j1 = some o) (k2 : ∀ o, h.get? j2 = some o → h'.get? j2 = some o) (k3 : ∀ o, h.get? a1 = some o → h'.get? a1 = some o) (k4 : ∀ o, h.get? a2 = some o → h'.get? a2 = some o) : TwoT h' TI j1 j2 a1 a2 n1 n2 xs ys :=
  ⟨k0 _ c.ti, c.i1.at k1, c.i2.at k2, c.t1.at k3, c.t2.at k4⟩
theorem zh_item {z TI O T j1 j2 a1 a2 : Addr} {f : Bool} {oT : Obj} {n1 n2 : Nat} {xs ys : Array Value} {x y : Value} {Q : Value → Shared → Prop} (D : ZipApart z TI O j1 j2 a1 a2)
    (qz : IsZipHeld s.heap z TI O T f) (qT : s.heap.get? T = some oT) (c : TwoT s.heap TI j1 j2 a1 a2 n1 n2 xs ys) (ex : xs[n1]? = some x) (ey : ys[n2]? = some y)
    (q : ∀ h', IsZipHeld h' z TI O T true → h'.IsTupleIter j1 a1 (n1 + 1) → h'.IsTupleIter j2 a2 (n2 + 1) → IsPair h' s.heap.objs.size x y → h'.objs.size = s.heap.objs.size + 1 →
      (∀ b o, b ≠ z → b ≠ j1 → b ≠ j2 → s.heap.get? b = some o → h'.get? b = some o) → Q (.ref s.heap.objs.size) { s with heap := h' }) :
    wpAny (model prog w) A (Builtin.«zip.__next__» ⟨[.ref z], []⟩) (fun r t => ∃ v, r = .done (.ret v) ∧ Q v t) E s := by
  obtain ⟨qTI, q1, q2, u1, u2⟩ := c
  show wpAny _ _ (field (.ref z) 2 >>= _) _ _ _
  apply wpAny_bind; apply wpAny_field qz rfl (x := .bool false) rfl
  show wpAny _ _ (field (.ref z) 3 >>= _) _ _ _
  apply wpAny_bind; apply wpAny_field qz rfl (x := .ref TI) rfl
  apply wpAny_bind; apply wpAny_seqItems qTI rfl
  show wpAny _ _ (Builtin.SmallTypes.ownedTupleIsFree (.ref z) >>= _) _ _ _
  apply wpAny_bind
  refine wpAny_tupleHeld_zip qz qT fun g1 y1 k1 => ?_
  simp only [Bool.false_eq_true, if_false]
  apply wpAny_bind
  rw [← Array.forIn_toList]
  simp only [List.forIn_cons, List.forIn_nil]
  apply wpAny_bind; apply wpAny_bind; apply wpAny_holding
  show wpAny _ _ (Builtin.SmallTypes.nextOf (.ref j1) >>= _) _ _ _
  apply wpAny_bind
  refine nextOf_tuple_item (s := { s with heap := g1 }) (q1.extBut k1.extBut D.i1z) (u1.extBut k1.extBut D.l1z) ex fun g2 y2 k2 => wpAny_pure (wpAny_pure ?_)
  apply wpAny_bind; apply wpAny_bind; apply wpAny_holding
  show wpAny _ _ (Builtin.SmallTypes.nextOf (.ref j2) >>= _) _ _ _
  apply wpAny_bind
  refine nextOf_tuple_item (s := { s with heap := g2 }) ((q2.extBut k1.extBut D.i2z).extBut k2.extBut D.i12.symm) ((u2.extBut k1.extBut D.l2z).extBut k2.extBut D.l2i1) ey fun g3 y3 k3 => wpAny_pure (wpAny_pure (wpAny_pure ?_))
  show wpAny _ _ (newTuple [x, y] >>= _) _ _ _
  refine wpAny_bind (wpAny_newTuple ?_) 
  have e0 : g3.objs.size = s.heap.objs.size := by rw [k3.1, k2.1, k1.1]
  have y3' : IsZipHeld g3 z TI O T true := k3.extBut _ _ D.i2z.symm (k2.extBut _ _ D.i1z.symm y1)
  have kk : ∀ b o, b ≠ z → b ≠ j1 → b ≠ j2 → s.heap.get? b = some o → g3.get? b = some o := fun b o b1 b2 b3 e => k3.extBut _ _ b3 (k2.extBut _ _ b2 (k1.extBut _ _ b1 e))
  have y2' : g3.IsTupleIter j1 a1 (n1 + 1) := y2.extBut k3.extBut D.i12
  apply wpAny_pure
  refine ⟨_, rfl, ?_⟩
  show Q (.ref g3.objs.size) _
  have hp : IsPair (g3.push { cls := .type "tuple", data := .seq #[x, y] }) g3.objs.size x y := Heap.get?_push_size _ rfl
  have e4 : (g3.push { cls := .type "tuple", data := .seq #[x, y] }).objs.size = g3.objs.size + 1 := Heap.size_push ..
  rw [e0] at hp e4 ⊢
  exact q _ (Heap.get?_push_of_some _ y3') (y2'.at fun _ e => Heap.get?_push_of_some _ e) (y3.at fun _ e => Heap.get?_push_of_some _ e) hp e4 fun b o b1 b2 b3 e => Heap.get?_push_of_some _ (kk b o b1 b2 b3 e)
theorem zh_end {z TI O T j1 j2 a1 a2 : Addr} {f : Bool} {oT : Obj} {n1 n2 : Nat} {xs ys : Array Value} {Q : Fin → Shared → Prop} (hh : A.handled = none) (D : ZipApart z TI O j1 j2 a1 a2)
    (qz : IsZipHeld s.heap z TI O T f) (qT : s.heap.get? T = some oT) (c : TwoT s.heap TI j1 j2 a1 a2 n1 n2 xs ys) (no : xs[n1]? = none ∨ ys[n2]? = none)
    (q : ∀ h' e, (∀ b o, b ≠ z → b ≠ j1 → b ≠ j2 → s.heap.get? b = some o → h'.get? b = some o) → (∃ o, h'.get? e = some o ∧ o.cls = .type "StopIteration") → E (.ref e) { s with heap := h' }) :
    wpAny (model prog w) A (Builtin.«zip.__next__» ⟨[.ref z], []⟩) Q E s := by
  obtain ⟨qTI, q1, q2, u1, u2⟩ := c
  show wpAny _ _ (field (.ref z) 2 >>= _) _ _ _
  apply wpAny_bind; apply wpAny_field qz rfl (x := .bool false) rfl
  show wpAny _ _ (field (.ref z) 3 >>= _) _ _ _
  apply wpAny_bind; apply wpAny_field qz rfl (x := .ref TI) rfl
  apply wpAny_bind; apply wpAny_seqItems qTI rfl
  show wpAny _ _ (Builtin.SmallTypes.ownedTupleIsFree (.ref z) >>= _) _ _ _
  apply wpAny_bind
  refine wpAny_tupleHeld_zip qz qT fun g1 y1 k1 => ?_
  simp only [Bool.false_eq_true, if_false]
  apply wpAny_bind
  rw [← Array.forIn_toList]
  simp only [List.forIn_cons, List.forIn_nil]
  apply wpAny_bind; apply wpAny_bind; apply wpAny_holding
  show wpAny _ _ (Builtin.SmallTypes.nextOf (.ref j1) >>= _) _ _ _
  apply wpAny_bind
  cases ex : xs[n1]? with
  | none => exact nextOf_tuple_end (s := { s with heap := g1 }) hh (q1.extBut k1.extBut D.i1z) (u1.extBut k1.extBut D.l1z) ex fun g2 e k2 he => q g2 e (fun b o b1 b2 _ z => k2 _ _ b2 (k1.extBut _ _ b1 z)) he
  | some x =>
    have ey : ys[n2]? = none := by
      rcases no with h | h
      · rw [ex] at h; cases h
      · exact h
    refine nextOf_tuple_item (s := { s with heap := g1 }) (q1.extBut k1.extBut D.i1z) (u1.extBut k1.extBut D.l1z) ex fun g2 y2 k2 => wpAny_pure (wpAny_pure ?_)
    apply wpAny_bind; apply wpAny_bind; apply wpAny_holding
    show wpAny _ _ (Builtin.SmallTypes.nextOf (.ref j2) >>= _) _ _ _
    apply wpAny_bind
    exact nextOf_tuple_end (s := { s with heap := g2 }) hh ((q2.extBut k1.extBut D.i2z).extBut k2.extBut D.i12.symm) ((u2.extBut k1.extBut D.l2z).extBut k2.extBut D.l2i1) ey fun g3 e k3 he => q g3 e (fun b o b1 b2 b3 z => k3 _ _ b3 (k2.extBut _ _ b2 (k1.extBut _ _ b1 z))) he
theorem zh_nextI {z TI O T j1 j2 a1 a2 : Addr} {f : Bool} {oT : Obj} {n1 n2 : Nat} {xs ys : Array Value} {x y : Value} {Q : Option Value → Shared → Prop} (D : ZipApart z TI O j1 j2 a1 a2)
    (qz : IsZipHeld s.heap z TI O T f) (qT : s.heap.get? T = some oT) (c : TwoT s.heap TI j1 j2 a1 a2 n1 n2 xs ys) (ex : xs[n1]? = some x) (ey : ys[n2]? = some y)
    (q : ∀ h', IsZipHeld h' z TI O T true → h'.IsTupleIter j1 a1 (n1 + 1) → h'.IsTupleIter j2 a2 (n2 + 1) → IsPair h' s.heap.objs.size x y → h'.objs.size = s.heap.objs.size + 1 →
      (∀ b o, b ≠ z → b ≠ j1 → b ≠ j2 → s.heap.get? b = some o → h'.get? b = some o) → Q (some (.ref s.heap.objs.size)) { s with heap := h' }) :
    wpAny (model prog w) A (pyNext (.ref z)) Q E s := by
  have ty : s.TypeIs (.ref z) "zip" := ⟨_, qz, rfl⟩
  unfold pyNext
  exact wpAny_bind (wpAny_attempt (wpAny_callSpecial?_slot (name := Str.ofString "__next__") ty F.slot_zip_next
    (wpAny_call_entry F.slot_zip_next ty F.entry_zip_next (zh_item D qz qT c ex ey fun h' r1 r2 r3 r4 r5 r6 => wpAny_pure (q h' r1 r2 r3 r4 r5 r6)) (F.args_zip_next_1 _))))
theorem zh_nextE {z TI O T j1 j2 a1 a2 : Addr} {f : Bool} {oT : Obj} {n1 n2 : Nat} {xs ys : Array Value} {Q : Option Value → Shared → Prop} (hh : A.handled = none) (D : ZipApart z TI O j1 j2 a1 a2)
    (qz : IsZipHeld s.heap z TI O T f) (qT : s.heap.get? T = some oT) (c : TwoT s.heap TI j1 j2 a1 a2 n1 n2 xs ys) (no : xs[n1]? = none ∨ ys[n2]? = none)
    (q : ∀ h', (∀ b o, b ≠ z → b ≠ j1 → b ≠ j2 → s.heap.get? b = some o → h'.get? b = some o) → Q none { s with heap := h' }) : wpAny (model prog w) A (pyNext (.ref z)) Q E s := by
  have ty : s.TypeIs (.ref z) "zip" := ⟨_, qz, rfl⟩
  unfold pyNext
  refine wpAny_bind (wpAny_attempt (wpAny_callSpecial?_slot (name := Str.ofString "__next__") ty F.slot_zip_next
    (wpAny_call_entry F.slot_zip_next ty F.entry_zip_next (zh_end hh D qz qT c no fun h' e kk he => ?_) (F.args_zip_next_1 _))))
  obtain ⟨o, ho, hc⟩ := he
  apply wpAny_bind
  exact wpAny_isInstance (T := "StopIteration") (b := true) ⟨o, ho, hc⟩ isSubtype_stop (wpAny_pure (q _ kk))
/-- the pairs that the zip has given out: none is, or one still is -/
def OutT (z TI O j1 j2 d : Addr) (h : Heap) : Prop := (IsZip h z TI O .none ∧ ∃ a b, IsPair h O a b) ∨ ∃ T f oT, IsZipHeld h z TI O T f ∧ h.get? T = some oT ∧ T ≠ z ∧ T ≠ j1 ∧ T ≠ j2 ∧ T ≠ d
theorem zt_arg (z TI O j1 j2 a1 a2 : Addr) (D : ZipApart z TI O j1 j2 a1 a2) (xs ys : Array Value) :
    PairArg prog w "zip" z [z, TI, O, j1, j2, a1, a2] [z, O, j1, j2] (min xs.size ys.size) (fun n k v => xs[n]? = some k ∧ ys[n]? = some v)
      (fun h => (IsZip h z TI O .none ∧ ∃ a b, IsPair h O a b) ∧ TwoT h TI j1 j2 a1 a2 0 0 xs ys) := by
  refine { type := fun t ok => ⟨_, ok.1.1, rfl⟩, notDict := by decide, keep := ?_, there := ?_, sub := ?_, noKeys := fun A' t Q' E' hA ok h => getAttrOr_miss_zip ok.1.1 rfl rfl rfl zip_no_keys (by decide +kernel) hA h, iter := ?_ }
  · rintro h h' ⟨⟨q0, a, b, qO⟩, c⟩ k
    exact ⟨⟨k _ _ q0, a, b, k _ _ qO⟩, c.at (k _) (k _) (k _) (k _) (k _)⟩
  · rintro h ⟨⟨q0, a, b, qO⟩, ⟨q1, ⟨p1, q2, _⟩, ⟨p2, q3, _⟩, ⟨p3, q4, _⟩, ⟨p4, q5, _⟩⟩⟩ x hx
    simp only [List.mem_cons, List.not_mem_nil, or_false] at hx
    rcases hx with e | e | e | e | e | e | e <;> subst e
    · exact ⟨_, q0⟩
    · exact ⟨_, q1⟩
    · exact ⟨_, qO⟩
    · exact ⟨_, q2⟩
    · exact ⟨_, q3⟩
    · exact ⟨_, q4⟩
    · exact ⟨_, q5⟩
  · intro x hx
    simp only [List.mem_cons, List.not_mem_nil, or_false] at hx ⊢
    rcases hx with e | e | e | e <;> simp [e]
  · rintro A' t d Q' E' hA ⟨⟨q0, a, b, qO⟩, c⟩ hd hn h
    simp only [List.mem_cons, List.not_mem_nil, or_false, not_or] at hn
    obtain ⟨d0, d1, d2, d3, d4, d5, d6⟩ := hn
    refine wpAny_pyIter_zip q0 (h z [z, O, j1, j2] (fun n g => TwoT g TI j1 j2 a1 a2 n n xs ys ∧ OutT z TI O j1 j2 d g) t.heap t.toks ?_ ⟨c, .inl ⟨q0, a, b, qO⟩⟩ (fun _ _ e => e) fun x hx => .inl hx)
    refine { off := ?_, frame := ?_, item := ?_, done := ?_ }
    · intro hm
      simp only [List.mem_cons, List.not_mem_nil, or_false] at hm
      rcases hm with e | e | e | e
      · exact d0 e
      · exact d2 e
      · exact d3 e
      · exact d4 e
    · rintro n g g' ⟨c, o⟩ k
      refine ⟨c.at (k _ · (Ne.symm d1)) (k _ · (Ne.symm d3)) (k _ · (Ne.symm d4)) (k _ · (Ne.symm d5)) (k _ · (Ne.symm d6)), ?_⟩
      rcases o with ⟨q0, a, b, qO⟩ | ⟨T, f, oT, q0, qT, r1, r2, r3, r4⟩
      · exact .inl ⟨k _ _ (Ne.symm d0) q0, a, b, k _ _ (Ne.symm d2) qO⟩
      · exact .inr ⟨T, f, oT, k _ _ (Ne.symm d0) q0, k _ _ r4 qT, r1, r2, r3, r4⟩
    · rintro n u Q1 E1 hn ⟨c, o⟩ hd q
      have e1 := Array.getElem?_eq_getElem (Nat.lt_of_lt_of_le hn (Nat.min_le_left xs.size ys.size))
      have e2 := Array.getElem?_eq_getElem (Nat.lt_of_lt_of_le hn (Nat.min_le_right xs.size ys.size))
      have lt : ∀ {b o}, u.heap.get? b = some o → u.heap.objs.size ≠ b := fun e => Nat.ne_of_gt (Heap.lt_size e)
      have m1 : u.heap.objs.size ≠ j1 := by obtain ⟨_, e, _⟩ := c.i1; exact lt e
      have m2 : u.heap.objs.size ≠ j2 := by obtain ⟨_, e, _⟩ := c.i2; exact lt e
      rcases o with ⟨q0, a, b, qO⟩ | ⟨T, f, oT, q0, qT, r1, r2, r3, r4⟩
      · refine pyNext_zipT_item D q0 c.ti qO c.i1 c.i2 c.t1 c.t2 e1 e2 fun g y1 y2 y3 y4 y5 y6 k => ?_
        refine q u.heap.objs.size _ _ g u.toks ⟨e1, e2⟩ (.inl ⟨_, y5, rfl, _, rfl⟩) ⟨⟨k _ _ D.TIz D.TITO D.TIi1 D.TIi2 c.ti, y3, y4, c.t1.at fun o e => k _ o D.l1z D.l1TO D.l1i1 D.l1i2 e, c.t2.at fun o e => k _ o D.l2z D.l2TO D.l2i1 D.l2i2 e⟩, .inr ⟨u.heap.objs.size, false, _, y1, y5, lt q0, m1, m2, Nat.ne_of_gt hd⟩⟩ fun b o hb e => ?_
        simp only [List.mem_cons, List.not_mem_nil, or_false, not_or] at hb
        exact k b o hb.1 hb.2.1 hb.2.2.1 hb.2.2.2 e
      · refine zh_nextI D q0 qT c e1 e2 fun g y1 y2 y3 y4 y5 k => ?_
        refine q u.heap.objs.size _ _ g u.toks ⟨e1, e2⟩ (.inl ⟨_, y4, rfl, _, rfl⟩) ⟨⟨k _ _ D.TIz D.TIi1 D.TIi2 c.ti, y2, y3, c.t1.at fun o e => k _ o D.l1z D.l1i1 D.l1i2 e, c.t2.at fun o e => k _ o D.l2z D.l2i1 D.l2i2 e⟩, .inr ⟨T, true, oT, y1, k _ _ r1 r2 r3 qT, r1, r2, r3, r4⟩⟩ fun b o hb e => ?_
        simp only [List.mem_cons, List.not_mem_nil, or_false, not_or] at hb
        exact k b o hb.1 hb.2.2.1 hb.2.2.2 e
    · rintro u Q1 E1 ⟨c, o⟩ q
      have no : xs[min xs.size ys.size]? = none ∨ ys[min xs.size ys.size]? = none := by
        rcases Nat.le_total xs.size ys.size with h | h
        · left; rw [Nat.min_eq_left h]; exact Array.getElem?_eq_none (Nat.le_refl _)
        · right; rw [Nat.min_eq_right h]; exact Array.getElem?_eq_none (Nat.le_refl _)
      rcases o with ⟨q0, a, b, qO⟩ | ⟨T, f, oT, q0, qT, r1, r2, r3, r4⟩
      · refine pyNext_zipT_end hA D q0 c.ti qO c.i1 c.i2 c.t1 c.t2 no fun g k => q g u.toks fun b o hb e => ?_
        simp only [List.mem_cons, List.not_mem_nil, or_false, not_or] at hb
        exact k b o hb.1 hb.2.1 hb.2.2.1 hb.2.2.2 e
      · refine zh_nextE hA D q0 qT c no fun g k => q g u.toks fun b o hb e => ?_
        simp only [List.mem_cons, List.not_mem_nil, or_false, not_or] at hb
        exact k b o hb.1 hb.2.2.1 hb.2.2.2 e
end
end Zed

namespace Zed
open PySem PySem.Spec PyProof.Rows L2 RZ

/-! ## dict(zip(a, b)) of two tuples -/
theorem kv_zip : ∀ {ks : List Key} {ys : List V} {vs : List Value}, Vals ys vs → KV (ks.zip ys) (ks.zip vs)
  | [], _, _, _ => by simp only [List.zip_nil_left]; exact .nil
  | _ :: _, _, _, .nil => by simp only [List.zip_nil_right]; exact .nil
  | k :: ks, _, _, .cons r t => by simp only [List.zip_cons_cons]; exact .cons ⟨rfl, r⟩ (kv_zip t)
def tDz (K : PySem.W.Frag) (ta : TA) : TE := fun σ H Q => ta σ H fun vs H1 => ∃ (a b : Addr) (ys : List V) (ks : List Key), vs = [.ref a, .ref b] ∧ SqT K H1 a (ks.map kV) ∧ SqT K H1 b ys ∧ ks.length ≤ sizeLine ∧
  ∀ q, H1 q = none → Q (.ref q) (upd H1 q (.dK (mergeK [] (ks.zip ys))))
theorem pe_dz {X : Cx} {e e2 : Expr} {ta : TA} {p p2 pos pos2 : Pos} (hc : X.calm = true) (hg : L2.Gl X "dict") (hm : X.mg "dict" = none) (hg2 : L2.Gl X "zip") (hm2 : X.mg "zip" = none) (ha : PA X [e, e2] ta)
    (hs : starEach [e, e2] X.env = (false, eval e X.env) :: starEach [e2] X.env := by rfl) (hpl : (backTo pos2 (starEach [e2] X.env)).any (·.1) = false := by rfl)
    (na : starEach [.Call (.Name "zip" p2) [e, e2] [] pos2] X.env = (false, eval (.Call (.Name "zip" p2) [e, e2] [] pos2) X.env) :: starEach [] X.env := by rfl) :
    PE X (.Call (.Name "dict" p) [.Call (.Name "zip" p2) [e, e2] [] pos2] [] pos) (tDz X.K ta) := by
  refine ⟨fun pins s σ H Q I h => ?_⟩
  refine Call_ (ld_blt I hg hm PyProof.Rows.boot_dict ?_)
  refine PyProof.Rows.callWith_type1 (PyProof.Rows.args_cons ?_ na) na rfl
  refine Call_ (ld_blt I hg2 hm2 PyProof.Rows.boot_zip (PyProof.Rows.callWith_type1 (thn (ha.run pos2 pins s σ H _ I h) fun us s1 ⟨vs, H1, I1, r1, q1⟩ => ?_) hs hpl))
  obtain ⟨a, b, ys, ks, rfl, ta', tb', hl, q⟩ := q1
  cases r1 with
  | cons r rr => cases r with
    | refl => cases rr with
      | cons r' rr => cases r' with
        | refl =>
          cases rr
          obtain ⟨its, rv, w1, _⟩ := I1.tuple ta'
          obtain ⟨its2, rv2, w2, _⟩ := I1.tuple tb'
          obtain ⟨o1, ho1, _⟩ := id w1
          obtain ⟨o2, ho2, _⟩ := id w2
          have u1 : s1.heap.IsTuple a its.toArray := w1
          have u2 : s1.heap.IsTuple b its2.toArray := w2
          refine call_zipT u1 u2 fun h' y0 yTI yO y1 y2 ysz k => ?_
          refine PyProof.Rows.args_nil ?_
          have len : its.length = ks.length := by rw [← rv.length, List.length_map]
          refine PySem.call_dict_pairs (s := { s1 with heap := h' }) (knd := mixKind X.prog X.w) (kvs := ks.zip its2) (zt_arg _ _ _ _ _ a b (PySem.W.ktu_apart s1.heap.objs.size a b (Heap.lt_size ho1) (Heap.lt_size ho2)) its.toArray its2.toArray) (I1.ok.hd hc)
            ⟨⟨y0, _, _, yO⟩, ⟨yTI, y1, y2, u1.at fun _ => k _ _, u2.at fun _ => k _ _⟩⟩ ⟨?_, ?_⟩ ?_ fun h'' tk hd k2 => ?_
          · rw [List.length_zip, List.size_toArray, List.size_toArray, len]
          · rintro j key v ⟨ej, ev⟩
            rw [List.getElem?_toArray] at ej ev
            obtain ⟨hj, _⟩ := List.getElem?_eq_some_iff.mp ej
            have hk : ks[j]? = some ks[j] := List.getElem?_eq_getElem (by rw [← len]; exact hj)
            obtain ⟨u, eu, ru⟩ := rv.get (i := j) (x := kV ks[j]) (by rw [List.getElem?_map, hk]; rfl)
            rw [ej] at eu
            cases eu
            exact ⟨ks[j], List.getElem?_zip_eq_some.mpr ⟨hk, ev⟩, kV_is ru⟩
          · rw [List.size_toArray, len]
            exact Nat.le_trans (Nat.min_le_left _ _) hl
          · have hm : (h'.objs.size == sysModules) = false := beq_eq_false_iff_ne.mpr (Nat.ne_of_gt (Nat.lt_of_lt_of_le I1.big (by rw [ysz]; exact Nat.le_add_right _ _)))
            have fr : ∀ c, c ∈ [s1.heap.objs.size + 4, s1.heap.objs.size + 3, s1.heap.objs.size, s1.heap.objs.size + 1] → FpOk X pins H1 c := fun c hcm => by
              have hle : s1.heap.objs.size ≤ c := by
                simp only [List.mem_cons, List.not_mem_nil, or_false] at hcm
                rcases hcm with z | z | z | z <;> omega
              exact I1.fpOk hle (I1.hok.fresh hle)
            have hlen : (mergeK [] (ks.zip ys)).length ≤ sizeLine := by
              refine Nat.le_trans (length_mergeK _ []) ?_
              rw [List.length_nil, Nat.zero_add, List.length_zip]
              exact Nat.le_trans (Nat.min_le_left _ _) hl
            have hle : s1.heap.objs.size ≤ h'.objs.size := by rw [ysz]; omega
            refine ⟨.ref h'.objs.size, upd H1 h'.objs.size (.dK (mergeK [] (ks.zip ys))), I1.turnedNew (t' := tk) (ch := [s1.heap.objs.size + 4, s1.heap.objs.size + 3, s1.heap.objs.size, s1.heap.objs.size + 1]) (fun c o hc e => k2 c o hc (k c o e)) fr hle ⟨hlen, hm, merged [] (ks.zip its2), KV.merge (kv_zip rv2) .nil, hd⟩, rfl, q _ (I1.hok.fresh hle)⟩
def keysD : List D → Option (List Key)
  | [] => some []
  | d :: ds => match keyD d with
    | some k => match keysD ds with
      | some ks => some (k :: ks)
      | none => none
    | none => none
def eDz (f : LD) : ED := fun ρ S => (f ρ S).bind fun ds S1 => match ds with
  | [.tup xs, .tup ys] => match keysD xs with
    | some ks => match Nat.ble ks.length sz with
      | true => .ok (.ref S1.length) (S1 ++ [.dic ((ks.zip ys).foldl (fun acc kv => addK acc kv.1 kv.2) [])])
      | false => .bad
    | none => .bad
  | _ => .bad
section
variable [TC : TabC] [AM : AmbC] {K : PySem.W.Frag} {mg : Str → Option Value} {E : XK} {X : Cx} {B m m1 m2 : List Addr} {H H1 H2 : Hp} {S : Sto}
theorem keys_of : ∀ {ds : List D} {vs : List V} {ks : List Key}, Reps K B m H ds vs → keysD ds = some ks → vs = ks.map kV
  | [], _, _, r, e => by cases r; cases e; rfl
  | d :: ds, _, _, .cons r t, e => by
    unfold keysD at e
    split at e
    · rename_i k e1
      split at e
      · rename_i ks e2
        cases e
        rw [Zed.key_of r e1, keys_of t e2, List.map_cons]
      · cases e
    · cases e
end
section
variable [TC : TabC] {P : Program} {w : World} {K : PySem.W.Frag} {mg : Str → Option Value} {base : Heap} {gq : Bool} {E : XK} {k : Nat} {N : List Str} {sc : Scope} {X : Cx} {p p2 pos pos' pos2 apos : Pos} {a b e e2 o : Expr} {la : LD} {ff fg fx : ED}
theorem XC.dz (c : XC P w K mg base gq E k N sc X) (hg : glo sc "dict") (hm : mg "dict" = none) (hg2 : glo sc "zip") (hm2 : mg "zip" = none) (ha : PA X [e, e2] (tDL K mg E la))
    (hs : starEach [e, e2] X.env = (false, eval e X.env) :: starEach [e2] X.env := by rfl) (hpl : (backTo pos2 (starEach [e2] X.env)).any (·.1) = false := by rfl)
    (na : starEach [.Call (.Name "zip" p2) [e, e2] [] pos2] X.env = (false, eval (.Call (.Name "zip" p2) [e, e2] [] pos2) X.env) :: starEach [] X.env := by rfl) :
    PE X (.Call (.Name "dict" p) [.Call (.Name "zip" p2) [e, e2] [] pos2] [] pos) (tD K mg E (eDz la)) := by
  have h3 := c.K
  subst h3
  refine PE.to (pe_dz c.calm (c.gl hg) (c.no hm) (c.gl hg2) (c.no hm2) ha hs hpl na) fun σ H Q h => ?_
  obtain ⟨B, m, ρ, S, re, rs, q⟩ := h
  refine (partL re rs q).imp ?_
  rintro vs H1 ⟨m1, ds, S1, x1, re1, rs1, r1, q1⟩
  split at q1
  · rename_i xs ys
    split at q1
    · rename_i ks ek
      split at q1
      · rename_i hl
        cases r1 with
        | cons ra r1 => cases r1 with
          | cons rb r1 =>
            cases r1
            obtain ⟨a, vs, rfl, ha, ra⟩ := ra.tup_inv
            obtain ⟨b, ws, rfl, hb, rb⟩ := rb.tup_inv
            have ev := keys_of ra ek
            subst ev
            refine ⟨a, b, ws, ks, rfl, ha, hb, by rw [← sz_eq]; exact Nat.le_of_ble_eq_true hl, fun p hp => ?_⟩
            have xp := Ex.cell (o := HO.dK (mergeK [] (ks.zip ws))) rs1 hp
            have hc : CellAt X.K B (m1 ++ [p]) (upd H1 p (.dK (mergeK [] (ks.zip ws)))) p (.dic ((ks.zip ys).foldl (fun acc kv => addK acc kv.1 kv.2) [])) := ⟨_, upd_same, RepKV.mono xp (foldl_addK (K := X.K) rb .nil)⟩
            exact q1 (m1 ++ [p]) _ _ xp (rs1.grow hp hc) (.ref (by rw [← rs1.len]; simp))
      · exact q1.elim
    · exact q1.elim
  · exact q1.elim
end
end Zed

namespace Zed
open PySem PySem.Spec PyProof.Rows L2 RZ

/-! ## A draw from a feed that is a list -/
section
variable {q : Int × Int × Int × Int × Int} {cs : List Int} {k l d v : Int} {f : ED} {r : En}
end
end Zed

namespace Zed
open PySem PySem.Spec PyProof.Rows L2 RZ

/-! ## A comprehension over a list that is a cell: what stands in it when an item is asked for -/
def compA (vs : List Nat) (g : GT) (t : BD) (f : ED) (n : Nat) (ρ : En) : Nat → Nat → List D → Sto → R (List D)
  | 0, _, _, _ => .bad
  | fuel + 1, i, acc, S => match S[n]? with
    | some (.lst xs) => match xs[i]? with
      | none => if xs.length = i then .ok acc S else .bad
      | some d => match g d (wipeE ρ vs) with
        | none => .bad
        | some ρ1 => match t ρ1 S with
          | .ok false S1 => compA vs g t f n ρ fuel (i + 1) acc S1
          | .ok true S1 => match f ρ1 S1 with
            | .ok y S2 => if acc.length < sz then compA vs g t f n ρ fuel (i + 1) (acc ++ [y]) S2 else .bad
            | _ => .bad
          | _ => .bad
    | _ => .bad
def lCompA (fe : ED) (vs : List Nat) (g : GT) (t : BD) (f : ED) : LD := fun ρ S => match fe ρ S with
  | .ok (.ref n) S1 => compA vs g t f n ρ 10000 0 [] S1
  | _ => lComp (iAny fe) vs g t f ρ S
section
variable [TC : TabC] {P : Program} {w : World} {K : PySem.W.Frag} {mg : Str → Option Value} {base : Heap} {gq : Bool} {E : XK} {k : Nat} {N : List Str} {sc : Scope} {X : Cx} {pos : Pos} {i e tg : Expr} {fi fe : ED}
theorem XC.compA {ifs : List Expr} {scope : Scope} {own : List (Str × Nat)} {t : BD} {gt : TG} {g : GT} (c : XC P w K mg base gq E k N sc X) (ok : blkC N sc scope own = true) (hi : PE X i (tD K mg E fi))
    (hg : ∀ Y : Cx, XC P w K mg base gq noE k N (rel scope sc) Y → (∀ y, scope.names.lookup y = some .cell → Y.fn y = true) → PG Y tg gt) (hs : GSp K gt g (own.map (·.2)))
    (ht : ∀ Y : Cx, XC P w K mg base gq noE k N (rel scope sc) Y → PTs Y ifs (tDB K mg noE t)) (he : ∀ Y : Cx, XC P w K mg base gq noE k N (rel scope sc) Y → PE Y e (tD K mg noE fe))
    (hset : ∀ x, foldedSetIterable i X.env x = pure x := by intro _; rfl) : PE X (.ListComp e [⟨tg, i, ifs, 0⟩] scope pos) (tDF K mg E (lCompA fi (own.map (·.2)) g t fe)) := by
  have h3 := c.K
  have h6 := c.N
  have h7 := c.sc
  have ok' : BlkOk X.N X.env.scope scope own := blkOk_by (by rw [h6, h7]; exact ok)
  refine ⟨fun pins s σ H Q I h => ?_⟩
  obtain ⟨B, m, ρ, S, re, rs, q⟩ := h
  have plain : (∀ n S1, fi ρ S ≠ .ok (.ref n) S1) → _ := fun hne => (c.comp (pos := pos) ok (c.anyI (tg := tg) hi) hg hs ht he hset).run pins s σ H Q I ⟨B, m, ρ, S, re, rs, by
    have e0 : lCompA fi (own.map (·.2)) g t fe ρ S = lComp (iAny fi) (own.map (·.2)) g t fe ρ S := by
      unfold lCompA
      split
      · rename_i n S1 ee
        exact absurd ee (hne n S1)
      · rfl
    rw [e0] at q
    exact q⟩
  by_cases hd : ∃ n S1, fi ρ S = .ok (.ref n) S1
  · obtain ⟨n, S1, ef⟩ := hd
    unfold lCompA at q
    rw [ef] at q
    dsimp only at q
    subst h3
    refine (pe_lc (pos := pos) c.calm c.nd (pi_list (tg := tg) hi) ok' (fun s H C cl fp => hg _ (c.blk s H scope C cl fp) fun y hy => by show (scope.names.lookup y == some NameKind.cell) = true; rw [hy]; rfl) (fun s H C cl fp => ht _ (c.blk s H scope C cl fp)) (fun s H C cl fp => he _ (c.blk s H scope C cl fp)) hset).run pins s σ H Q I ?_
    refine ⟨B, m, ρ, S, re, rs, ?_⟩
    rw [ef]
    intro m1 H1 v x1 rs1 rv
    obtain ⟨a, rfl, ha⟩ := rv.ref_inv
    have hcell : ∃ vs, H1 a = some (.lst vs) := by
      by_cases hx : ∃ xs, S1[n]? = some (.lst xs)
      · obtain ⟨xs, e1⟩ := hx
        obtain ⟨vs, e2, _⟩ := rs1.cell n a _ ha e1
        exact ⟨vs, e2⟩
      · have e0 : Zed.compA (own.map (·.2)) g t fe n ρ 10000 0 [] S1 = .bad := by
          unfold Zed.compA
          split
          · rename_i xs e1
            exact absurd ⟨xs, e1⟩ hx
          · rfl
        rw [e0] at q
        exact q.elim
    obtain ⟨vs0, hv0⟩ := hcell
    refine ⟨a, rfl, ⟨vs0, SqL.of hv0⟩, ?_⟩
    intro D hD
    have hD0 : H D = none := x1.none_of hD
    have xD := Ex.fresh (o := HO.lst []) rs1 hD
    have xm : Ex m H m1 (upd H1 D (.lst [])) := x1.trans xD
    have reD : RepEn X.K (D :: B) m1 (upd H1 D (.lst [])) ρ σ := ((re.mono x1).map fun _ _ r => Rep.hide hD r).mono xD
    generalize own.map (·.2) = vs at hs q ⊢
    have fin : Fin2 X.K D B m H Q (Zed.compA vs g t fe n ρ 10000 0 [] S1) := by
      cases ec : Zed.compA vs g t fe n ρ 10000 0 [] S1 with
      | ok ys S2 => rw [ec] at q; exact fun m' H' vs y hn hv r1 r2 => q m' H' D vs y hD0 hn hv r1 r2
      | exc x S2 => trivial
      | bad => rw [ec] at q; exact q
    let St (n2 kk : Nat) (Hk : Hp) : Prop := ∃ mk Sk da acc, mk[n]? = some a ∧ Ex m H mk Hk ∧ RepEn X.K (D :: B) mk Hk ρ σ ∧ RepSto X.K (D :: B) mk Hk Sk ∧ Hk D = some (.lst acc) ∧ Reps X.K (D :: B) mk Hk da acc ∧ Fin2 X.K D B m H Q (Zed.compA vs g t fe n ρ n2 kk da Sk)
    refine ⟨fun kk n2 Hk => St n2 kk Hk, ⟨10000, m1, S1, [], [], ha, xm, reD, rs1.hide (o := HO.lst []) hD, upd_same, .nil, fin⟩, ?_⟩
    rintro kk n2 Hk ⟨mk, Sk, da, acc, hm2, xk, rek, rsk, hacc, rda, fk⟩
    cases n2 with
    | zero => exact fk.elim
    | succ n2 =>
      unfold Zed.compA at fk
      split at fk
      · rename_i xs e1
        obtain ⟨ws, e2, rr⟩ := rsk.cell n a _ hm2 e1
        have hl := rr.length
        split at fk
        · rename_i e3
          split at fk
          · rename_i e4
            exact .inl ⟨⟨ws, SqL.of e2, by omega⟩, fk mk Hk acc xk (rsk.hid D List.mem_cons_self).1 hacc rsk rda⟩
          · exact fk.elim
        · rename_i d e3
          obtain ⟨v, ev, rv⟩ := rr.get e3
          refine .inr ⟨⟨ws, v, SqL.of e2, ev⟩, fun H' => St n2 (kk + 1) H', fun H' z => ⟨n2, Nat.lt_succ_self _, z⟩, fun x H' hy => ?_⟩
          obtain ⟨rfl, hy⟩ := hy
          have ex := hy ws (SqL.of e2)
          rw [ev] at ex
          cases ex
          split at fk
          · exact fk.elim
          · rename_i ρ1 eg
            refine hs.to (D :: B) mk _ (wipeE ρ vs) ρ1 _ d _ _ (RepEn.wipe rek) rv eg fun σ2 re2 w2 => ⟨wipe_one w2, ?_⟩
            refine ⟨D :: B, mk, ρ1, Sk, re2, rsk, ?_⟩
            cases et : t ρ1 Sk with
            | exc x S2 => simp only [et] at fk; exact fk.elim
            | bad => simp only [et] at fk; exact fk.elim
            | ok b S3 =>
              simp only [et] at fk
              intro m3 H3 b' x3 rs3 eb
              cases eb
              have hacc3 : H3 D = some (.lst acc) := x3.keep _ _ hacc (fun _ z => nomatch z) (rsk.hid D List.mem_cons_self).1
              cases b with
              | false =>
                rw [if_neg (by simp)]
                exact ⟨m3, S3, da, acc, x3.get hm2, xk.trans x3, rek.mono x3, rs3, hacc3, rda.mono x3, fk⟩
              | true =>
                rw [if_pos rfl]
                refine ⟨D :: B, m3, ρ1, S3, re2.mono x3, rs3, ?_⟩
                cases ee : fe ρ1 S3 with
                | exc x S2 => simp only [ee] at fk; exact fk.elim
                | bad => simp only [ee] at fk; exact fk.elim
                | ok y S4 =>
                  simp only [ee] at fk
                  intro m4 H4 v4 x4 rs4 rv4
                  have z := x3.trans x4
                  have hacc4 : H4 D = some (.lst acc) := z.keep _ _ hacc (fun _ z => nomatch z) (rsk.hid D List.mem_cons_self).1
                  by_cases hsz : da.length < sz
                  · simp only [if_pos hsz] at fk
                    refine ⟨acc, hacc4, by rw [← sz_eq, ← rda.length]; exact hsz, m4, S4, da ++ [y], acc ++ [v4], z.get hm2, (xk.trans z).grow (acc := []) hD0, (rek.mono z).monoW (ExW.poke rs4 List.mem_cons_self hacc4), rs4.poke List.mem_cons_self hacc4, upd_same, ((rda.mono z).append (.cons rv4 .nil)).monoW (ExW.poke rs4 List.mem_cons_self hacc4), fk⟩
                  · simp only [if_neg hsz] at fk
                    exact fk.elim
      · exact fk.elim
  · exact plain fun n S1 z => hd ⟨n, S1, z⟩
end
end Zed

namespace Zed
open PySem PySem.Spec PyProof.Rows L2 RZ

/-! ## A law's run: what an evaluation rests on -/
section
variable {ρ : En} {S S' S1 S2 T T1 : Sto} {f f' g g' : ED} {l l' : LD} {d : D} {i j : Int} {n : Nat} {G : GD} {o : OD} {gt : GT} {b : SD}
end
theorem close_t (n : Nat) (S : Sto) : ∃ S', closeD n (.bl true) S = .ok (.bl true) S' := by
  unfold closeD
  have e : frzD n S 60 (.bl true) = some (.bl true) := rfl
  rw [e]
  split
  · exact ⟨_, rfl⟩
  · split
    · rename_i h
      cases h
      split
      · exact ⟨_, rfl⟩
      · exact ⟨_, rfl⟩
    · exact ⟨_, rfl⟩
end Zed

namespace Zed
open PySem PySem.Spec PyProof.Rows L2 RZ
open PySem.Sem (wp)

/-! ## zip over any two sources whose pair is still out -/
section
variable {prog : Program} {w : World} {A : Around} {E : Value → Shared → Prop} {s : Shared} {z TI O T j1 j2 : Addr} {fp1 fp2 : List Addr} {n1 n2 i : Nat} {P1 P2 : Nat → Value → Prop} {St1 St2 : Nat → Heap → Prop} {f : Bool} {oT : Obj}
end
/-! ## Lists and tuples alike -/
def SqB (t : Bool) (h : Heap) (a : Addr) (xs : Array Value) : Prop := match t with
  | true => h.IsTuple a xs
  | false => h.IsList a xs
theorem SqB.lt {t : Bool} {h : Heap} {a : Addr} {xs : Array Value} (q : SqB t h a xs) : a < h.objs.size := by
  cases t
  · obtain ⟨o, e, _⟩ := q; exact Heap.lt_size e
  · obtain ⟨o, e, _⟩ := q; exact Heap.lt_size e
theorem SqB.up {t : Bool} {h h' : Heap} {a : Addr} {xs : Array Value} (q : SqB t h a xs) (k : ∀ o, h.get? a = some o → h'.get? a = some o) : SqB t h' a xs := by
  cases t
  · obtain ⟨o, e, r⟩ := q; exact ⟨o, k o e, r⟩
  · obtain ⟨o, e, r⟩ := q; exact ⟨o, k o e, r⟩
section
variable [TC : TabC] [AM : AmbC] {K : PySem.W.Frag} {B m : List Addr} {H : Hp} {S : Sto}
end
section
variable [TC : TabC] {P : Program} {w : World} {K : PySem.W.Frag} {mg : Str → Option Value} {base : Heap} {gq : Bool} {E : XK} {k : Nat} {N : List Str} {sc : Scope} {X : Cx} {p p2 pos pos2 : Pos} {e e2 : Expr} {la : LD}
end
end Zed

namespace Zed
open PySem PySem.Spec PyProof.Rows L2 RZ

/-! ## sorted of ints -/
def insI (i : Int) : List Int → List Int
  | [] => [i]
  | j :: js => if i ≤ j then i :: j :: js else j :: insI i js
def srtI : List Int → List Int
  | [] => []
  | i :: is => insI i (srtI is)
theorem insI_perm (i : Int) : ∀ js : List Int, (insI i js).Perm (i :: js)
  | [] => .refl _
  | j :: js => by
    unfold insI
    split
    · exact .refl _
    · exact ((insI_perm i js).cons j).trans (List.Perm.swap i j js)
theorem srtI_perm : ∀ is : List Int, (srtI is).Perm is
  | [] => .refl _
  | i :: is => (insI_perm i _).trans ((srtI_perm is).cons i)
theorem insI_sorted (i : Int) : ∀ {js : List Int}, js.Pairwise (· ≤ ·) → (insI i js).Pairwise (· ≤ ·)
  | [], _ => by simp [insI]
  | j :: js, h => by
    obtain ⟨h1, h2⟩ := List.pairwise_cons.mp h
    unfold insI
    split
    · rename_i c
      refine List.pairwise_cons.mpr ⟨fun x hx => ?_, h⟩
      rcases List.mem_cons.mp hx with rfl | hx
      · exact c
      · exact Int.le_trans c (h1 x hx)
    · rename_i c
      refine List.pairwise_cons.mpr ⟨fun x hx => ?_, insI_sorted i h2⟩
      rcases List.mem_cons.mp ((insI_perm i js).mem_iff.mp hx) with rfl | hx
      · omega
      · exact h1 x hx
theorem srtI_sorted : ∀ is : List Int, (srtI is).Pairwise (· ≤ ·)
  | [] => .nil
  | i :: is => insI_sorted i (srtI_sorted is)
theorem sorted_uniq : ∀ {a b : List Int}, a.Perm b → a.Pairwise (· ≤ ·) → b.Pairwise (· ≤ ·) → a = b
  | [], b, p, _, _ => (List.nil_perm.mp p).symm
  | x :: a, b, p, h1, h2 => by
    cases b with
    | nil => exact absurd p.length_eq (by simp)
    | cons y b =>
      obtain ⟨l1, s1⟩ := List.pairwise_cons.mp h1
      obtain ⟨l2, s2⟩ := List.pairwise_cons.mp h2
      have e : x = y := by
        have m1 : x ∈ y :: b := p.mem_iff.mp List.mem_cons_self
        have m2 : y ∈ x :: a := p.mem_iff.mpr List.mem_cons_self
        rcases List.mem_cons.mp m1 with z | z
        · exact z
        · rcases List.mem_cons.mp m2 with u | u
          · exact u.symm
          · exact Int.le_antisymm (l1 y u) (l2 x z)
      subst e
      rw [sorted_uniq ((List.perm_cons x).mp p) s1 s2]
def sortA : AD
  | [d], S => match itemsL S d with
    | some ds => match intsL ds with
      | some ns => .ok (.lst ((srtI ns).map .int)) S
      | none => sortD false [d] S
    | none => .bad
  | _, _ => .bad
section
variable [TC : TabC] {K : PySem.W.Frag} {mg : Str → Option Value} {E : XK} {X : Cx}
theorem b_srtA : BiSp K mg E sortA (fun vs H Q => rSrtL K false vs H Q ∨ rSortedI K vs H Q) := fun B m H S ds vs Q rs r q => by
  unfold sortA at q
  split at q
  · rename_i d
    split at q
    · rename_i ds' e1
      split at q
      · rename_i ns e2
        obtain ⟨v, rfl, r1⟩ := r.one
        obtain ⟨a, ws, rfl, ha, rr⟩ := r1.items rs e1
        have ew := intsL_reps e2 rr
        subst ew
        refine .inr ⟨a, ns, rfl, ha, fun ns' p hp hs hn => ?_⟩
        have : ns' = srtI ns := sorted_uniq (hp.trans (srtI_perm ns).symm) hs (srtI_sorted ns)
        subst this
        exact Aft.newLst rs (Reps.ints (srtI ns)) q p hn
      · exact .inl (srt_of rs r q)
    · exact q.elim
  · exact q.elim
end
section
variable [TC : TabC] {P : Program} {w : World} {K : PySem.W.Frag} {mg : Str → Option Value} {base : Heap} {gq : Bool} {E : XK} {k : Nat} {N : List Str} {sc : Scope} {X : Cx} {p pos : Pos} {e : Expr} {la : LD}
end
/-! ## any of a list of ints and bools -/
def rAnyL (K : PySem.W.Frag) : List V → Hp → VK → Prop := fun vs H Q => ∃ (a : Addr) (ws : List V), vs = [V.ref a] ∧ SqL K H a ws ∧ (∀ v ∈ ws, (∃ b, v = .bl b) ∨ ∃ i, v = .int i) ∧ Q (.bl ((ws.map truV).any id)) H
theorem cr_anyL [TC : TabC] {X : Cx} (hc : X.calm = true) : CallR X (.builtin "any") (rAnyL X.K) := by
  intro pins s σ H vs us Q I r h
  obtain ⟨a, ws, rfl, hs, hf, q⟩ := h
  obtain ⟨its, rv, pl, _⟩ := I.list hs
  rw [Vals.ref1 r]
  refine call_any_walk (iter_any pl.isList fun t et st ne => ?_)
  subst et
  refine ⟨_, _, _, _, _, _, _, rfl, Walks.list (A := X.A.in1) (I.ok.hd hc) _ a ne its.toArray, st, truth_flat rv hf, fun h' tk hk => ?_⟩
  refine ⟨.bl _, H, I.kept fun b o eo => hk b o (fun hm => ?_) (Heap.get?_push_of_some _ eo), ?_, q⟩
  · rcases List.mem_cons.mp hm with e1 | hm
    · exact absurd (e1 ▸ Heap.lt_size eo) (Nat.lt_irrefl _)
    · cases hm
  · show Value.bool _ = Value.bool _
    rw [← L2.any_range, List.length_map, List.size_toArray, rv.length]
def anyA : AD
  | [.tup ds], S => match flatT ds with
    | some bs => .ok (.bl (anyBs bs)) S
    | none => .bad
  | [d], S => match itemsL S d with
    | some ds => match flatT ds with
      | some bs => .ok (.bl (anyBs bs)) S
      | none => .bad
    | none => .bad
  | _, _ => .bad
section
variable [TC : TabC] {K : PySem.W.Frag} {mg : Str → Option Value} {E : XK} {X : Cx}
theorem b_anyA : BiSp K mg E anyA (fun xs H Q => rAnyT K xs H Q ∨ rAnyL K xs H Q) := by
  intro B m H S ds vs Q rs r q
  unfold anyA at q
  split at q
  · obtain ⟨v, rfl, r1⟩ := r.one
    obtain ⟨a, ws, rfl, h1, r2⟩ := r1.tup_inv
    split at q
    · rename_i bs e1
      obtain ⟨h2, h3⟩ := flatT_reps e1 r2
      exact .inl ⟨a, ws, rfl, h1, h2, by rw [h3, ← anyBs_eq]; exact q.same rs (.bl _)⟩
    · exact q.elim
  · obtain ⟨v, rfl, r1⟩ := r.one
    split at q
    · rename_i es e1
      obtain ⟨a, ws, rfl, h1, r2⟩ := r1.items rs e1
      split at q
      · rename_i bs e2
        obtain ⟨h2, h3⟩ := flatT_reps e2 r2
        exact .inr ⟨a, ws, rfl, h1, h2, by rw [h3, ← anyBs_eq]; exact q.same rs (.bl _)⟩
      · exact q.elim
    · exact q.elim
  · exact q.elim
end
section
variable [TC : TabC] {P : Program} {w : World} {K : PySem.W.Frag} {mg : Str → Option Value} {base : Heap} {gq : Bool} {E : XK} {k : Nat} {N : List Str} {sc : Scope} {X : Cx} {p pos : Pos} {e : Expr} {la : LD}
theorem XC.anyA (c : XC P w K mg base gq E k N sc X) (hg : glo sc "any") (hm : mg "any" = none) (ha : PA X [e] (tDL K mg E la)) (he : starEach [e] X.env = (false, eval e X.env) :: starEach [] X.env := by rfl) : PE X (.Call (.Name "any" p) [e] [] pos) (tD K mg E (eBi Zed.anyA la)) := by
  have h3 := c.K
  subst h3
  exact d_bi ((cr_anyT c.calm).or (cr_anyL c.calm)) b_anyA (c.gl hg) (c.no hm) PyProof.Rows.boot_any ha (by decide) (by decide) he rfl
end
end Zed

namespace Zed
open PySem PySem.Spec PyProof.Rows L2 RZ

/-! ## A loop's run in parts -/
section
variable {g : GT} {f : SD} {ρ ρ1 : En} {S S1 : Sto} {as bs ds : List D} {i : LD} {r : R Fl}
theorem forN_cons (d : D) : forN g f (d :: ds) ρ S = match g d ρ with
    | none => .bad
    | some ρ1 => match f ρ1 S with
      | .ok (.nx ρ') S2 => forN g f ds ρ' S2
      | .ok (.ct ρ') S2 => forN g f ds ρ' S2
      | .ok (.bk ρ') S2 => .ok (.nx ρ') S2
      | r => r := rfl
theorem for_of (h : i ρ S = .ok ds S1) : sFor i g f ρ S = forN g f ds ρ S1 := by unfold sFor; rw [h]; rfl
end
end Zed

namespace Zed
open PySem PySem.Spec PyProof.Rows L2 RZ PpSet

/-! ## Sets of ints: comprehensions -/
section
variable {X : Cx}
end
end Zed

namespace Zed
open PySem PySem.Spec PyProof.Rows L2 RZ

/-! ## sorted of a set comprehension of ints -/
section
variable [TC : TabC] [AM : AmbC] {K : PySem.W.Frag} {mg : Str → Option Value} {E : XK} {X : Cx} {B m m1 m2 : List Addr} {H H1 H2 : Hp} {S : Sto}
theorem ExW.pokeX (h : RepSto K B m H S) {p : Addr} {φ : Heap → Prop} {o : HO} (hp : p ∈ B) (e : H p = some (.ext φ)) : ExW B m H m (upd H p o) := by
  refine ⟨⟨[], by simp, by simp⟩, fun a u q _ _ hb => by rw [upd_ne (fun z => hb (by rw [z]; exact hp))]; exact q, fun a u q => ?_, fun a ha => ?_, fun a xs q => ?_, fun a u w q => ?_⟩
  · by_cases z : a = p
    · subst z; rw [upd_same]; simp
    · rw [upd_ne z, q]; simp
  · rw [upd_ne (fun z => (h.hid p hp).1 (by subst z; exact ha))]
    exact h.live a ha
  · rw [upd_ne (fun z => by subst z; rw [e] at q; cases q)]; exact q
  · rw [upd_ne (fun z => by subst z; rw [e] at q; cases q)]; exact q
theorem RepSto.pokeX (h : RepSto K B m H S) {p : Addr} {φ : Heap → Prop} {o : HO} (hp : p ∈ B) (e : H p = some (.ext φ)) : RepSto K B m (upd H p o) S := by
  refine ⟨h.len, h.nd, fun b hb => ⟨(h.hid b hb).1, ?_⟩, fun n a c e1 e2 => ?_, h.tab⟩
  · by_cases z : b = p
    · subst z; rw [upd_same]; simp
    · rw [upd_ne z]; exact (h.hid b hb).2
  · exact (h.cell n a c e1 e2).monoW (ExW.pokeX h hp e) (upd_ne fun z => (h.hid p hp).1 (by subst z; exact List.mem_of_getElem? e1))
end
section
variable [TC : TabC] {P : Program} {w : World} {K : PySem.W.Frag} {mg : Str → Option Value} {base : Heap} {gq : Bool} {E : XK} {k : Nat} {N : List Str} {sc : Scope} {X : Cx} {p pos p2 : Pos} {i e tg : Expr} {fe : ED}
end
end Zed

namespace Zed
open PySem PySem.Spec PyProof.Rows L2 RZ

/-! ## xs * k, a new list -/
section
variable [TC : TabC] {P : Program} {w : World} {K : PySem.W.Frag} {mg : Str → Option Value} {base : Heap} {gq : Bool} {E : XK} {k : Nat} {N : List Str} {sc : Scope} {X : Cx} {pos : Pos} {a b : Expr} {f g : ED}
end
end Zed

namespace Zed
open PySem PySem.Spec PyProof.Rows L2 RZ

/-! ## A pick from a feed behind which other cells stand -/
theorem closeD_same {n : Nat} {d : D} {S : Sto} (h : S.length = n) : closeD n d S = .ok d S := by
  unfold closeD
  rw [show Nat.beq S.length n = true by rw [h]; exact Nat.beq_refl n]
section
variable {gs : Sto} {cs : List Int} {k l d v : Int} {f : ED} {r : En}
end
/-- a loop whose state is told turn by turn -/
theorem for_ix {g : GT} {f : SD} {P : Nat → En → Sto → Prop} : ∀ (ds : List D) (i : Nat), (∀ j d, ds[j]? = some d → ∀ ρ S, P (i + j) ρ S → ∃ ρ1 ρ2 S2, g d ρ = some ρ1 ∧ f ρ1 S = .ok (.nx ρ2) S2 ∧ P (i + j + 1) ρ2 S2) → ∀ ρ S, P i ρ S → ∃ ρ' S', forN g f ds ρ S = .ok (.nx ρ') S' ∧ P (i + ds.length) ρ' S'
  | [], i, _, ρ, S, p => ⟨ρ, S, rfl, p⟩
  | d :: ds, i, h, ρ, S, p => by
    obtain ⟨ρ1, ρ2, S2, e1, e2, p2⟩ := h 0 d rfl ρ S p
    obtain ⟨ρ', S', e3, p3⟩ := for_ix ds (i + 1) (fun j d hj ρ S q => by
      have z := h (j + 1) d (by simpa using hj) ρ S (by rw [show i + (j + 1) = i + 1 + j by omega]; exact q)
      rw [show i + (j + 1) + 1 = i + 1 + j + 1 by omega] at z
      exact z) ρ2 S2 p2
    refine ⟨ρ', S', ?_, by rw [List.length_cons, show i + (ds.length + 1) = i + 1 + ds.length by omega]; exact p3⟩
    rw [forN_cons, e1]
    simp only [e2]
    exact e3
theorem ev_branch {c : BD} {a b k : SD} {ρ : En} {S S1 : Sto} {t : Bool} (h : c ρ S = .ok t S1) : sSeq (sIf c a b) k ρ S = sSeq (if t = true then a else b) k ρ S1 := by
  unfold sSeq
  rw [ev_if h]
  cases t <;> rfl
theorem ints_low (n k : Nat) : ∀ cs : List Int, allL (low n (k + 1)) (cs.map D.int) = true
  | [] => rfl
  | c :: cs => by
    show (match low n (k + 1) (.int c) with | true => allL (low n (k + 1)) (cs.map D.int) | false => false) = true
    rw [show low n (k + 1) (.int c) = true from rfl]
    exact ints_low n k cs
end Zed

namespace Zed
open PySem PySem.Spec PyProof.Rows L2 RZ

/-! ## xs.count(b) of truth values; xs.extend(ys); xs.pop(i) -/
def isBl (k : Bool) : Value → Bool
  | .bool b => b == k
  | _ => false
theorem bl_count {k : Bool} : ∀ {bs : List Bool} {us : List Value}, Vals (bs.map V.bl) us → us.countP (isBl k) = bs.count k
  | [], _, .nil => rfl
  | b :: bs, _, .cons r t => by
    cases r
    rw [List.countP_cons, List.count_cons, bl_count t]
    rfl
theorem bl_eq {A : Around} {s : Shared} {k : Bool} : ∀ {bs : List Bool} {us : List Value}, Vals (bs.map V.bl) us → ∀ y ∈ us, SeqAt.EqAt A s y (.bool k) (isBl k y)
  | [], _, .nil, y, hy => by cases hy
  | b :: bs, _, .cons r t, y, hy => by
    cases r
    rcases List.mem_cons.mp hy with rfl | hy
    · exact SeqAt.EqAt.bool_bool b k
    · exact bl_eq t y hy
def rCntB (K : PySem.W.Frag) : V → List V → Hp → VK → Prop := fun x xs H Q => ∃ (p : Addr) (bs : List Bool) (k : Bool), x = .ref p ∧ xs = [.bl k] ∧ SqL K H p (bs.map V.bl) ∧ Q (.int (bs.count k : Nat)) H
theorem mt_cntB {X : Cx} : MtR X "list.count" (rCntB X.K) := by
  intro pins s σ H x xs v us Q I rx rxs h
  obtain ⟨p, bs, k, rfl, rfl, hs, q⟩ := h
  cases rx
  obtain ⟨u, rfl, ru⟩ := rxs.one
  cases ru
  obtain ⟨its, rv, ⟨⟨cls, dd, data, sl⟩, n, ho, hc, hdn, hd⟩, hlen⟩ := I.list hs
  simp only at hc hd
  subst hc hd
  refine call_meets PySem.F.slot_list_count ⟨_, ho, rfl⟩ PySem.F.entry_list_count (PySem.F.args_list_count_2 _ _)
    (SeqAt.list_countAt p its.toArray n dd sl (.bool k) (isBl k)) ⟨ho, fun y hy => bl_eq rv y (by simpa using hy), ?_⟩
  refine ⟨.int (bs.count k : Nat), H, I.tok _, ⟨s.toks, ?_⟩, q⟩
  show Value.int ((its.toArray.toList.countP (isBl k) : Nat) : Int) s.toks = Value.int ((bs.count k : Nat) : Int) s.toks
  rw [show its.toArray.toList.countP (isBl k) = bs.count k from bl_count rv]
def cntB (k : Bool) : List Bool → Nat
  | [] => 0
  | b :: bs => match b, k with
    | true, true => cntB k bs + 1
    | false, false => cntB k bs + 1
    | _, _ => cntB k bs
theorem cntB_eq (k : Bool) : ∀ bs : List Bool, cntB k bs = bs.count k
  | [] => rfl
  | b :: bs => by
    rw [List.count_cons]
    unfold cntB
    rw [cntB_eq k bs]
    cases b <;> cases k <;> simp
def eCnt (f g : ED) : ED := fun ρ S => (f ρ S).bind fun d S1 => match itemsL S1 d with
  | some _ => (g ρ S1).bind fun e S2 => match itemsL S2 d, e with
    | some ds, .bl k => match boolsOf ds with
      | some bs => .ok (.int (cntB k bs)) S2
      | none => .bad
    | _, _ => .bad
  | none => .bad
section
variable [TC : TabC] [AM : AmbC] {K : PySem.W.Frag} {mg : Str → Option Value} {E : XK} {X : Cx} {B m m1 m2 : List Addr} {H H1 H2 : Hp} {S : Sto} {o e : Expr} {f g : ED} {apos cpos : Pos}
theorem d_cnt (ho : PE X o (tD X.K mg E f)) (he : PE X e (tD X.K mg E g)) (hbase : attributeBase o "count" X.env (eval o X.env) = eval o X.env := by rfl)
    (hst : starEach (e :: []) X.env = (false, eval e X.env) :: starEach [] X.env := by rfl)
    (h30 : ((((backTo cpos (starEach (e :: []) X.env)).all fun x => !x.1) && (backToKw cpos (keywordEach [] X.env)).all fun x => x.1.isSome) && decide (((e :: []).length + ([] : List Keyword).length + if ([] : List Keyword).isEmpty = true then 0 else 1) < 30)) = true := by rfl)
    (hl : (apos.endLine == cpos.line) = true := by rfl) (hpl : (backTo cpos (starEach [] X.env)).any (·.1) = false := by rfl) :
    PE X (.Call (.Attribute o "count" apos) [e] [] cpos) (tD X.K mg E (eCnt f g)) := by
  refine PE.to (pe_bm PySem.F.plainAttrs_list PySem.F.slot_list_count PySem.F.type_list_count mt_cntB ho (pa_cons he pa_nil hst) hbase h30 hl hst hpl) fun σ H Q h => ?_
  obtain ⟨B, m, ρ, S, re, rs, q⟩ := h
  refine (part re rs q).imp ?_
  rintro v H1 ⟨m1, d, S1, x1, re1, rs1, r1, q1⟩
  split at q1
  · rename_i xs e0
    obtain ⟨a, vs, rfl, h1, h2⟩ := r1.items rs1 e0
    refine ⟨.inl ⟨rfl, vs, h1⟩, ?_⟩
    obtain ⟨B', m', ρ', S', g1, g2, g3⟩ := part re1 rs1 q1
    refine ⟨B', m', ρ', S', g1, g2, g3.imp ?_⟩
    rintro w H2 ⟨m2, y, S2, x2, re2, rs2, r2, q2⟩
    refine AftL.nil rs2 ?_
    split at q2
    · rename_i ds k e1
      split at q2
      · rename_i bs e2
        obtain ⟨a', ws, ea, k1, k2⟩ := (r1.mono x2).items rs2 e1
        cases ea
        have ew := r2.bl_inv
        subst ew
        rw [boolsOf_reps e2 k2] at k1
        exact ⟨a, bs, k, rfl, rfl, k1, by rw [← cntB_eq]; exact q2.same rs2 (.int _)⟩
      · exact q2.elim
    · exact q2.elim
  · exact q1.elim
end
section
variable [TC : TabC] {P : Program} {w : World} {K : PySem.W.Frag} {mg : Str → Option Value} {base : Heap} {gq : Bool} {E : XK} {k : Nat} {N : List Str} {sc : Scope} {X : Cx} {p pos : Pos} {e o : Expr} {ff fg : ED}
theorem XC.cnt (c : XC P w K mg base gq E k N sc X) (ho : PE X o (tD K mg E ff)) (he : PE X e (tD K mg E fg)) (hbase : attributeBase o "count" X.env (eval o X.env) = eval o X.env := by rfl)
    (hst : starEach (e :: []) X.env = (false, eval e X.env) :: starEach [] X.env := by rfl)
    (h30 : ((((backTo pos (starEach (e :: []) X.env)).all fun x => !x.1) && (backToKw pos (keywordEach [] X.env)).all fun x => x.1.isSome) && decide (((e :: []).length + ([] : List Keyword).length + if ([] : List Keyword).isEmpty = true then 0 else 1) < 30)) = true := by rfl)
    (hl : (p.endLine == pos.line) = true := by rfl) (hpl : (backTo pos (starEach [] X.env)).any (·.1) = false := by rfl) :
    PE X (.Call (.Attribute o "count" p) [e] [] pos) (tD K mg E (eCnt ff fg)) := by
  have h3 := c.K
  subst h3
  exact d_cnt ho he hbase hst h30 hl hpl
end
/-! ## More rules in a suite -/
section
variable [TC : TabC] [AM : AmbC] {K : PySem.W.Frag} {mg : Str → Option Value} {k : Nat} {N : List Str} {sc : Scope} {tb : List Ent} {x : Exn} {a0 dd C : Addr} {Y : Cx} {E : XK} {y : Str} {e o a b : Expr} {ff fg fe : ED} {p pos pos' : Pos}
theorem XS.set' (s : XS K mg k N sc tb x a0 dd C Y) (i : Nat) (h : N[i]? = some y) (hv : Loc sc y) (hf : Y.fn y = true ∨ sc.names.lookup y = some .local) (he : PE Y e (tD K mg E fe)) (hs : ∀ env : Env, env.scope = sc → swapsWith e (some (.Name y pos')) pos.line env = pure false) : PS Y (.Assign [.Name y pos'] e pos) (tDS K mg E (sAsg fe (Zed.gN i))) := by
  have h6 := s.N
  have h7 := s.sc
  have hs' := hs _ h7
  subst h6 h7
  exact s_set s.nd h hv he hs' (hf := hf)
theorem XS.app (s : XS K mg k N sc tb x a0 dd C Y) (ho : PE Y o (tD K mg E ff)) (he : PE Y e (tD K mg E fg)) (hbase : attributeBase o "append" Y.env (eval o Y.env) = eval o Y.env := by rfl)
    (hst : starEach (e :: []) Y.env = (false, eval e Y.env) :: starEach [] Y.env := by rfl)
    (h30 : ((((backTo pos (starEach (e :: []) Y.env)).all fun x => !x.1) && (backToKw pos (keywordEach [] Y.env)).all fun x => x.1.isSome) && decide (((e :: []).length + ([] : List Keyword).length + if ([] : List Keyword).isEmpty = true then 0 else 1) < 30)) = true := by rfl)
    (hl : (p.endLine == pos.line) = true := by rfl) (hpl : (backTo pos (starEach [] Y.env)).any (·.1) = false := by rfl) :
    PE Y (.Call (.Attribute o "append" p) [e] [] pos) (tD K mg E (eApp ff fg)) := by
  have h3 := s.K
  subst h3
  exact d_app ho he hbase hst h30 hl hpl
theorem XS.cnt (s : XS K mg k N sc tb x a0 dd C Y) (ho : PE Y o (tD K mg E ff)) (he : PE Y e (tD K mg E fg)) (hbase : attributeBase o "count" Y.env (eval o Y.env) = eval o Y.env := by rfl)
    (hst : starEach (e :: []) Y.env = (false, eval e Y.env) :: starEach [] Y.env := by rfl)
    (h30 : ((((backTo pos (starEach (e :: []) Y.env)).all fun x => !x.1) && (backToKw pos (keywordEach [] Y.env)).all fun x => x.1.isSome) && decide (((e :: []).length + ([] : List Keyword).length + if ([] : List Keyword).isEmpty = true then 0 else 1) < 30)) = true := by rfl)
    (hl : (p.endLine == pos.line) = true := by rfl) (hpl : (backTo pos (starEach [] Y.env)).any (·.1) = false := by rfl) :
    PE Y (.Call (.Attribute o "count" p) [e] [] pos) (tD K mg E (eCnt ff fg)) := by
  have h3 := s.K
  subst h3
  exact d_cnt ho he hbase hst h30 hl hpl
theorem XS.addL (s : XS K mg k N sc tb x a0 dd C Y) (ha : PE Y a (tD K mg E ff)) (hb : PE Y b (tD K mg E fg)) : PE Y (.BinOp a .Add b pos) (tDF K mg E (lAdd ff fg)) := by
  have h3 := s.K
  subst h3
  exact f_addL ha hb
theorem XS.add (s : XS K mg k N sc tb x a0 dd C Y) (ha : PE Y a (tD K mg E ff)) (hb : PE Y b (tD K mg E fg)) : PE Y (.BinOp a .Add b pos) (tD K mg E (eBin addD ff fg)) := by
  have h3 := s.K
  subst h3
  exact d_bin o_add sp_add ha hb
theorem XS.item (s : XS K mg k N sc tb x a0 dd C Y) (ha : PE Y a (tD K mg E ff)) (hb : PE Y b (tD K mg E fg)) (hs : PlainIx b := by exact fun _ _ => rfl) : PE Y (.Subscript a b pos) (tD K mg E (eBin itemD ff fg)) := by
  have h3 := s.K
  subst h3
  exact d_item ha hb hs
theorem XS.eq (s : XS K mg k N sc tb x a0 dd C Y) (ha : PE Y a (tD K mg E ff)) (hb : PE Y b (tD K mg E fg)) (hm : behindInMarks .Eq b = false := by rfl) : PE Y (.Compare a [.Eq] [b] pos) (tD K mg E (eBin eqOD ff fg)) := by
  have h3 := s.K
  subst h3
  exact d_cmp (op_eq.or (op_eqD (by have := s.un; omega))) sp_eq ha hb hm
theorem XS.ne (s : XS K mg k N sc tb x a0 dd C Y) (ha : PE Y a (tD K mg E ff)) (hb : PE Y b (tD K mg E fg)) (hm : behindInMarks .NotEq b = false := by rfl) : PE Y (.Compare a [.NotEq] [b] pos) (tD K mg E (eBin neOD ff fg)) := by
  have h3 := s.K
  subst h3
  exact d_cmp (op_ne.or (op_neD (by have := s.un; omega))) sp_ne ha hb hm
theorem XS.teq (s : XS K mg k N sc tb x a0 dd C Y) (ha : PE Y a (tD K mg E ff)) (hb : PE Y b (tD K mg E fg)) (hm : behindInMarks .Eq b = false := by rfl) : PT Y (.Compare a [.Eq] [b] pos) (tDB K mg E (bB (eBin eqOD ff fg))) := by
  have h3 := s.K
  subst h3
  exact t_cmp (op_eq.or (op_eqD (by have := s.un; omega))) sp_eq ha hb hm
theorem XS.tne (s : XS K mg k N sc tb x a0 dd C Y) (ha : PE Y a (tD K mg E ff)) (hb : PE Y b (tD K mg E fg)) (hm : behindInMarks .NotEq b = false := by rfl) : PT Y (.Compare a [.NotEq] [b] pos) (tDB K mg E (bB (eBin neOD ff fg))) := by
  have h3 := s.K
  subst h3
  exact t_cmp (op_ne.or (op_neD (by have := s.un; omega))) sp_ne ha hb hm
end
end Zed

namespace Zed
open PySem PySem.Spec PyProof.Rows L2 RZ

/-! ## Defs whose last parameter is None if it is left out -/
/-- where a parameter's value is: the i-th positional one, the j-th by keyword, None -/
inductive Slt where
  | pos (i : Nat)
  | kw (j : Nat)
  | non
def planV : List Slt → List Value → List Value → List Value
  | [], _, _ => []
  | .pos i :: pl, us, ws => us.getD i .none :: planV pl us ws
  | .kw j :: pl, us, ws => ws.getD j .none :: planV pl us ws
  | .non :: pl, us, ws => .none :: planV pl us ws
structure FunN (K : PySem.W.Frag) (x qual : Str) (st : Stmt) (f : Addr) (fd : FuncData) : Prop where
  ex : ∃ (oc : Value) (od : Option Addr) (T : Addr) (kV doc pm : Value) (an : Option Addr) (cdv ct : Value) (osl : Array (Option Value)) (o : Obj) (n : Nat),
    fd = PySem.W.fnOf x qual (defArgs st) (defBody st) (defScope st) (.ref T) kV doc pm an cdv ct ∧ K.lookup f = some ⟨oc, od, .func fd, osl⟩ ∧ PySem.W.codeIn K cdv qual = true ∧ K.lookup T = some o ∧ o.data = .seq #[.none] n
  kp : PySem.W.keepIn K (.ref f) = true
theorem FunN.binds {K : PySem.W.Frag} {x qual : Str} {st : Stmt} {f : Addr} {fd : FuncData} {ps : List Str} (F : FunN K x qual st f fd) (n : Nat) (ks : List Str) (pl : List Slt)
    (h : ∀ (T : Addr) (kV doc pm : Value) (an : Option Addr) (cdv ct : Value) (us ws : List Value), us.length = n → ws.length = ks.length → ∃ k, bindArgs (PySem.W.fnOf x qual (defArgs st) (defBody st) (defScope st) (.ref T) kV doc pm an cdv ct) ⟨us, ks.zip ws⟩ = seqItems? (.ref T) >>= k ∧ k (some #[.none]) = pure (ps.zip (planV pl us ws))) :
    ∀ (s : Shared) (us ws : List Value), K.In s.heap → us.length = n → ws.length = ks.length → BindsTo s fd ⟨us, ks.zip ws⟩ (ps.zip (planV pl us ws)) := by
  obtain ⟨oc, od, T, kV, doc, pm, an, cdv, ct, osl, o, m, rfl, lk, hcd, lT, oT⟩ := F.ex
  intro s us ws X l1 l2
  obtain ⟨k, e1, e2⟩ := h T kV doc pm an cdv ct us ws l1 l2
  refine BindsTo.of_looks fun M => ?_
  rw [e1]
  exact looks_items X lT oT (.of_pure e2)
section
variable [TC : TabC] {P : Program} {w : World} {K : PySem.W.Frag} {mg : Str → Option Value} {base : Heap} {gq : Bool} {E : XK} {k j n : Nat} {N : List Str} {sc : Scope} {X : Cx} {f : Addr} {fd : FuncData} {ps ks : List Str} {g : GD} {x : Str} {p pos : Pos} {e : Expr} {es : List Expr} {kws : List Keyword} {la lb : LD} {pl : List Slt} {B m : List Addr} {H : Hp}
end
end Zed

namespace Zed
open PySem PySem.Spec PyProof.Rows L2 RZ

/-! ## The feed behind two tables -/
section
variable {gs : Sto} {cs : List Int} {k l d v : Int} {f : ED} {r : En}
end
end Zed

namespace SrtO
open PySem PyProof.Rows Srt
theorem sorted_tupZ {prog : Program} {w : World} {A : Around} {s : Shared} {E : Value → Shared → Prop} {l : Addr} {o : Obj} {n : Nat} {vs : List Value} {ltv : Value → Value → Bool} {Q : Value → Shared → Prop} (O : Swo ltv) (ho : s.heap.get? l = some o) (hc : o.cls = .type "tuple") (hd : o.data = .seq vs.toArray n) (hz : vs.length ≤ sizeLine)
    (hS : 2 ≤ vs.length → ∀ (s1 : Shared) (a : Addr), SortableO prog w A.in1.in1 s1 a vs ltv)
    (h : ∀ (h' : Heap) (out : List Value), (∀ b o', s.heap.get? b = some o' → h'.get? b = some o') → Srtd ltv out → Stb ltv out vs → Q (.ref h'.objs.size) { s with heap := sortedHeap (h'.push (seqObj "list" vs.toArray 0)) h'.objs.size vs out.toArray }) :
    wpAny (model prog w) A (call (.builtin "sorted") [.ref l]) Q E s := by
  refine Calls.call_function_entry kind_sorted plain_sorted entry_sorted (args_sorted1 _) ?_
  unfold Builtin.«sorted»
  refine wpAny_bind (m := checkCount "sorted" 1 1 _) (wpAny_pure ?_)
  refine wpAny_bind (wpAny_collect_seq l (.inr rfl) ho hc hd (fun h' hk => ?_) (by rw [List.size_toArray]; exact hz))
  refine wpAny_bind (wpAny_newList ?_ hz)
  have hoL : (h'.push (seqObj "list" vs.toArray 0)).get? h'.objs.size = some (seqObj "list" vs.toArray 0) := Heap.get?_push_size _ rfl
  refine wpAny_bind (wpAny_holding (wpAny_call_entry slot_list_sort ⟨_, hoL, rfl⟩ entry_list_sort (list_sort_ord O hoL hz (fun h2 => hS h2 _ _) fun out hs hb => ⟨_, rfl, ?_⟩) (args_list_sort _)))
  exact wpAny_pure ⟨_, rfl, h h' out hk hs hb⟩
end SrtO
namespace Zed
open PySem PySem.Spec PyProof.Rows L2 RZ

/-! ## sorted of a tuple of ints -/
def rSortedTI (K : PySem.W.Frag) : List V → Hp → VK → Prop := fun vs H Q => ∃ (a : Addr) (ns : List Int), vs = [V.ref a] ∧ SqT K H a (ns.map V.int) ∧
  ∀ (ns' : List Int) (p : Addr), ns'.Perm ns → ns'.Pairwise (· ≤ ·) → H p = none → Q (.ref p) (upd H p (.lst (ns'.map V.int)))
theorem cr_sortedTI {X : Cx} : CallR X (.builtin "sorted") (rSortedTI X.K) := by
  intro pins s σ H vs us Q I r h
  obtain ⟨a, ns, rfl, hs, q⟩ := h
  obtain ⟨its, rv, ⟨o, ho, hc, n, hd⟩, hz⟩ := I.tuple hs
  rw [Vals.ref1 r]
  have hi := rv.ints
  refine SrtO.sorted_tupZ SrtO.swo_int ho hc hd (by rw [← rv.length]; exact hz) (fun h2 s1 a' => SrtO.ints_sortable hi h2) fun h' out hk h1 h2 => ?_
  obtain ⟨k1, k2, k3⟩ := SrtO.ints_out hi h1 h2
  obtain ⟨ep, he'⟩ := PyProof.Rows.sortedHeap_at (h := h'.push (seqObj "list" its.toArray 0)) (a := h'.objs.size) (vs := its) (n := 0) (out := out.toArray) (Heap.get?_push_size _ rfl)
  have hlen : ((out.map SrtO.iv).map V.int).length ≤ sizeLine := by
    rw [List.length_map, k2.length_eq]
    rw [List.length_map] at hz
    exact hz
  have I1 : Inv X pins σ H { s with heap := h' } := I.kept (t' := s.toks) hk
  refine ⟨.ref _, upd H h'.objs.size (.lst ((out.map SrtO.iv).map V.int)), I1.laid (t' := s.toks) (fun b u e => ?_) (Nat.le_refl _) ⟨hlen, out, ep, vals_of_ints k1, he'⟩, rfl, q _ _ k2 k3 (I1.hok.fresh (Nat.le_refl _))⟩
  have hlt : b < h'.objs.size := Heap.lt_size e
  rw [PyProof.Rows.sortedHeap_old (Nat.ne_of_lt hlt) (by rw [size_push']; exact Nat.lt_succ_of_lt hlt)]
  exact Heap.get?_push_of_some _ e
def sortB : AD
  | [.tup ds], S => match intsL ds with
    | some ns => .ok (.lst ((srtI ns).map .int)) S
    | none => .bad
  | ds, S => sortA ds S
section
variable [TC : TabC] {K : PySem.W.Frag} {mg : Str → Option Value} {E : XK} {X : Cx}
theorem b_srtB : BiSp K mg E sortB (fun vs H Q => (rSrtL K false vs H Q ∨ rSortedI K vs H Q) ∨ rSortedTI K vs H Q) := fun B m H S ds vs Q rs r q => by
  unfold sortB at q
  split at q
  · split at q
    · rename_i ds' ns e2
      obtain ⟨v, rfl, r1⟩ := r.one
      obtain ⟨a, ws, rfl, ha, rr⟩ := r1.tup_inv
      have ew := intsL_reps e2 rr
      subst ew
      refine .inr ⟨a, ns, rfl, ha, fun ns' p hp hs hn => ?_⟩
      have : ns' = srtI ns := sorted_uniq (hp.trans (srtI_perm ns).symm) hs (srtI_sorted ns)
      subst this
      exact Aft.newLst rs (Reps.ints (srtI ns)) q p hn
    · exact q.elim
  · exact .inl (b_srtA B m H S _ vs Q rs r q)
end
/-! ## list(range(n)) -/
section
variable [TC : TabC] {P : Program} {w : World} {K : PySem.W.Frag} {mg : Str → Option Value} {base : Heap} {gq : Bool} {E : XK} {k : Nat} {N : List Str} {sc : Scope} {X : Cx} {p p2 pos pos2 : Pos} {e a : Expr} {la : LD} {ff : ED}
theorem XC.srtB (c : XC P w K mg base gq E k N sc X) (hg : glo sc "sorted") (hm : mg "sorted" = none) (ha : PA X [e] (tDL K mg E la)) (he : starEach [e] X.env = (false, eval e X.env) :: starEach [] X.env := by rfl) : PE X (.Call (.Name "sorted" p) [e] [] pos) (tD K mg E (eBi sortB la)) := by
  have h3 := c.K
  subst h3
  exact d_bi ((cr_srt.or cr_sortedI).or cr_sortedTI) b_srtB (c.gl hg) (c.no hm) PyProof.Rows.boot_sorted ha (by decide) (by decide) he rfl
/-! ## A def that hands back a cell of its own -/
end
end Zed

namespace Zed
open PySem PySem.Spec PyProof.Rows L2 RZ

/-! ## A draw from a feed that stands anywhere in the store -/
/-- the draw of these laws, its numbers open -/
def fbDraw (a0 a1 a2 a3 a4 a5 a6 a7 a8 a9 a10 : Int) : SD := (sSeq (sDPutD (eV 0) (eC (.str "drawn")) (eBin addD (eBin dGetD (eV 0) (eC (.str "drawn"))) (eC (.int 1)))) (sSeq (sIf (bB (eBin (cmpI fun i j => decide (j < i)) (eBin dGetD (eV 0) (eC (.str "left"))) (eC (.int 0)))) (sSeq (sAsg (eBin modD (eBi intD (lCons (eBin dGetD (eV 0) (eC (.str "left"))) lNil)) (eV 1)) (gN 4)) (sSeq (sDPutD (eV 0) (eC (.str "left")) (eBin fdivD (eBin dGetD (eV 0) (eC (.str "left"))) (eV 1))) (sRet (eV 4)))) sNext) (sSeq (sPar 5 6 (lCons (eBin dGetD (eV 0) (eC (.str "next"))) (lCons (eBin dGetD (eV 0) (eC (.str "cells"))) lNil))) (sSeq (sDPutD (eV 0) (eC (.str "next")) (eBin addD (eV 5) (eC (.int 1)))) (sSeq (sAsg (eIf (bB (eBin neOD (eV 6) (eFrz (lSz lNil)))) (eBin itemD (eV 6) (eBin modD (eBi intD (lCons (eV 5) lNil)) (eBi lenD (lCons (eV 6) lNil)))) (eC (.int a0))) (gN 2)) (sSeq (sIf (bAnd (bB (eBin (cmpI fun i j => decide (j ≤ i)) (eV 2) (eBin powD (eC (.int 10)) (eC (.int 18))))) (bB (eBin (cmpI fun i j => decide (i < j)) (eV 5) (eBi lenD (lCons (eV 6) lNil))))) (sSeq (sDPutD (eV 0) (eC (.str "left")) (eBin fdivD (eV 2) (eV 1))) (sRet (eBin modD (eBi intD (lCons (eV 2) lNil)) (eV 1)))) sNext) (sSeq (sAsg (eBin modD (eBi intD (lCons (eBin addD (eBin addD (eBin modD (eBi intD (lCons (eV 2) lNil)) (eC (.int a1))) (eBin mulD' (eC (.int a2)) (eBin dGetD (eV 0) (eC (.str "drawn"))))) (eC (.int a3))) lNil)) (eC (.int a4))) (gN 3)) (sSeq (sAsg (eBin modD (eBi intD (lCons (eBin addD (eBin addD (eBin mulD' (eV 3) (eV 3)) (eBin mulD' (eC (.int a5)) (eBin dGetD (eV 0) (eC (.str "drawn"))))) (eC (.int a6))) lNil)) (eC (.int a7))) (gN 3)) (sRet (eBin modD (eBi intD (lCons (eBin fdivD (eBin modD (eBi intD (lCons (eBin addD (eBin mulD' (eV 3) (eV 3)) (eBin mulD' (eC (.int a8)) (eV 3))) lNil)) (eC (.int a9))) (eC (.int a10))) lNil)) (eV 1)))))))))))
structure FeedAt (i : Nat) (cs : List Int) (F : Int → Int → Int → Sto) : Prop where
  pd : ∀ {k l d v : Int} {f : ED} {r : En}, f (some (.ref i) :: r) (F k l d) = .ok (.int v) (F k l d) → sDPutD (eV 0) (eC (.str "drawn")) f (some (.ref i) :: r) (F k l d) = .ok (.nx (some (.ref i) :: r)) (F k l v)
  pl : ∀ {k l d v : Int} {f : ED} {r : En}, f (some (.ref i) :: r) (F k l d) = .ok (.int v) (F k l d) → sDPutD (eV 0) (eC (.str "left")) f (some (.ref i) :: r) (F k l d) = .ok (.nx (some (.ref i) :: r)) (F k v d)
  pn : ∀ {k l d v : Int} {f : ED} {r : En}, f (some (.ref i) :: r) (F k l d) = .ok (.int v) (F k l d) → sDPutD (eV 0) (eC (.str "next")) f (some (.ref i) :: r) (F k l d) = .ok (.nx (some (.ref i) :: r)) (F v l d)
  gd : ∀ {k l d : Int} {r : En}, eBin dGetD (eV 0) (eC (.str "drawn")) (some (.ref i) :: r) (F k l d) = .ok (.int d) (F k l d)
  gl : ∀ {k l d : Int} {r : En}, eBin dGetD (eV 0) (eC (.str "left")) (some (.ref i) :: r) (F k l d) = .ok (.int l) (F k l d)
  gn : ∀ {k l d : Int} {r : En}, eBin dGetD (eV 0) (eC (.str "next")) (some (.ref i) :: r) (F k l d) = .ok (.int k) (F k l d)
  gc : ∀ {k l d : Int} {r : En}, eBin dGetD (eV 0) (eC (.str "cells")) (some (.ref i) :: r) (F k l d) = .ok (.lst (cs.map .int)) (F k l d)
  len : ∀ k l d, (F k l d).length = (F 0 0 0).length
  frm : ∀ (g : GD) (ds : List D) (k l d : Int), Zed.frm g (.ref i :: ds) (F k l d) = g (.ref i :: ds) (F k l d)
theorem ev_par {a b : Nat} {f g : ED} {ρ ρ' : En} {S : Sto} {x y : D} (h1 : f ρ S = .ok x S) (h2 : g ρ S = .ok y S) (e : ρ' = (ρ.set a (some x)).set b (some y)) (t : True = True := rfl) : sPar a b (lCons f (lCons g lNil)) ρ S = .ok (.nx ρ') S := by
  subst e
  unfold sPar lCons
  rw [h1]
  simp only [R.bind]
  rw [h2]
  rfl
theorem draw_at {i : Nat} {cs : List Int} {F : Int → Int → Int → Sto} (A : FeedAt i cs F) {a0 a1 a2 a3 a4 a5 a6 a7 a8 a9 a10 : Int} (h2 : okNum a2) (h4 : okNum a4) (h1 : 0 < a1) (h5 : okNum a5) (h7 : okNum a7) (h8 : okNum a8) (h9 : 0 < a9) (h10 : 0 < a10 ∧ a10 < 1073741824) (k l d many : Int) (hm : 0 < many ∧ many < 1073741824) (hd : 0 ≤ d ∧ d < 1000000) :
    ∃ v k' l', fnD 7 (fbDraw a0 a1 a2 a3 a4 a5 a6 a7 a8 a9 a10) [.ref i, .int many] (F k l d) = .ok (.int v) (F k' l' (d + 1)) ∧ 0 ≤ v ∧ v < many := by
  have key : ∃ v k' l', fbDraw a0 a1 a2 a3 a4 a5 a6 a7 a8 a9 a10 [some (.ref i), some (.int many), none, none, none, none, none] (F k l d) = .ok (.rt (.int v)) (F k' l' (d + 1)) ∧ 0 ≤ v ∧ v < many := by
    unfold fbDraw
    rw [seq_nx (A.pd (ev_add A.gd rfl))]
    by_cases hl : 0 < l
    · refine ⟨l % many, k, l / many, ?_, Int.emod_nonneg _ (by omega), Int.emod_lt_of_pos _ hm.1⟩
      refine seq_rt ?_
      rw [ev_if (ev_lt A.gl rfl), decide_eq_true hl, if_pos rfl]
      rw [seq_nx (ev_asg (ev_mod (ev_int A.gl) rfl hm.1))]
      show sSeq _ _ [some (.ref i), some (.int many), none, none, some (.int (l % many)), none, none] _ = _
      rw [seq_nx (A.pl (ev_fdiv A.gl rfl hm))]
      exact ev_ret rfl
    · have step1 : sIf (bB (eBin (cmpI fun i j => decide (j < i)) (eBin dGetD (eV 0) (eC (.str "left"))) (eC (.int 0)))) (sSeq (sAsg (eBin modD (eBi intD (lCons (eBin dGetD (eV 0) (eC (.str "left"))) lNil)) (eV 1)) (gN 4)) (sSeq (sDPutD (eV 0) (eC (.str "left")) (eBin fdivD (eBin dGetD (eV 0) (eC (.str "left"))) (eV 1))) (sRet (eV 4)))) sNext [some (.ref i), some (.int many), none, none, none, none, none] (F k l (d + 1)) = .ok (.nx [some (.ref i), some (.int many), none, none, none, none, none]) (F k l (d + 1)) := by
        rw [ev_if (ev_lt A.gl rfl), decide_eq_false hl, if_neg (by simp)]
        rfl
      rw [seq_nx step1]
      have step2 : sPar 5 6 (lCons (eBin dGetD (eV 0) (eC (.str "next"))) (lCons (eBin dGetD (eV 0) (eC (.str "cells"))) lNil)) [some (.ref i), some (.int many), none, none, none, none, none] (F k l (d + 1)) = .ok (.nx [some (.ref i), some (.int many), none, none, none, some (.int k), some (.lst (cs.map .int))]) (F k l (d + 1)) := ev_par A.gn A.gc rfl rfl
      rw [seq_nx step2, seq_nx (A.pn (ev_add rfl rfl))]
      have step3 : ∃ c : Int, eIf (bB (eBin neOD (eV 6) (eFrz (lSz lNil)))) (eBin itemD (eV 6) (eBin modD (eBi intD (lCons (eV 5) lNil)) (eBi lenD (lCons (eV 6) lNil)))) (eC (.int a0)) [some (.ref i), some (.int many), none, none, none, some (.int k), some (.lst (cs.map .int))] (F (k + 1) l (d + 1)) = .ok (.int c) (F (k + 1) l (d + 1)) := by
        have t : bB (eBin neOD (eV 6) (eFrz (lSz lNil))) [some (.ref i), some (.int many), none, none, none, some (.int k), some (.lst (cs.map .int))] (F (k + 1) l (d + 1)) = .ok (isCons cs) (F (k + 1) l (d + 1)) := by
          show R.bind (neOD (.lst (cs.map .int)) (.lst []) (F (k + 1) l (d + 1))) _ = _
          rw [ne_nil]
          rfl
        rw [ev_ifE t]
        cases cs with
        | nil => exact ⟨a0, rfl⟩
        | cons c cs =>
          rw [show isCons (c :: cs) = true from rfl, if_pos rfl]
          have hpos : (0 : Int) < ((c :: cs).map D.int).length := by simp
          have hb : k % (((c :: cs).map D.int).length : Int) < (((c :: cs).map D.int).length : Int) := Int.emod_lt_of_pos _ hpos
          have hn : 0 ≤ k % (((c :: cs).map D.int).length : Int) := Int.emod_nonneg _ (by omega)
          have hlt : (k % (((c :: cs).map D.int).length : Int)).toNat < (c :: cs).length := by
            rw [List.length_map] at hb hn ⊢
            omega
          refine ⟨(c :: cs)[(k % (((c :: cs).map D.int).length : Int)).toNat], ev_item rfl (ev_mod (ev_int rfl) (ev_len rfl) hpos) ?_⟩
          unfold atI ixN
          rw [if_pos hn, if_pos hb]
          show ((c :: cs).map D.int)[(k % (((c :: cs).map D.int).length : Int)).toNat]? = _
          rw [List.getElem?_map, List.getElem?_eq_getElem hlt]
          rfl
      obtain ⟨c, hc⟩ := step3
      rw [seq_nx (ev_asg hc)]
      show ∃ v k' l', sSeq _ _ [some (.ref i), some (.int many), some (.int c), none, none, some (.int k), some (.lst (cs.map .int))] _ = _ ∧ _
      have test : bAnd (bB (eBin (cmpI fun i j => decide (j ≤ i)) (eV 2) (eBin powD (eC (.int 10)) (eC (.int 18))))) (bB (eBin (cmpI fun i j => decide (i < j)) (eV 5) (eBi lenD (lCons (eV 6) lNil)))) [some (.ref i), some (.int many), some (.int c), none, none, some (.int k), some (.lst (cs.map .int))] (F (k + 1) l (d + 1)) = .ok (decide (10 ^ 18 ≤ c) && decide (k < ((cs.map D.int).length : Int))) (F (k + 1) l (d + 1)) := by
        refine ev_and (ev_lt (j := 10 ^ 18) rfl ?_) (ev_lt rfl (ev_len rfl))
        show powD (.int 10) (.int 18) (F (k + 1) l (d + 1)) = _
        simp only [powD]
        rw [if_pos (by decide)]
        rfl
      by_cases ht : (decide (10 ^ 18 ≤ c) && decide (k < ((cs.map D.int).length : Int))) = true
      · refine ⟨c % many, k + 1, c / many, ?_, Int.emod_nonneg _ (by omega), Int.emod_lt_of_pos _ hm.1⟩
        refine seq_rt ?_
        rw [ev_if test, if_pos ht, seq_nx (A.pl (ev_fdiv rfl rfl hm))]
        exact ev_ret (ev_mod (ev_int rfl) rfl hm.1)
      · have step4 : sIf (bAnd (bB (eBin (cmpI fun i j => decide (j ≤ i)) (eV 2) (eBin powD (eC (.int 10)) (eC (.int 18))))) (bB (eBin (cmpI fun i j => decide (i < j)) (eV 5) (eBi lenD (lCons (eV 6) lNil))))) (sSeq (sDPutD (eV 0) (eC (.str "left")) (eBin fdivD (eV 2) (eV 1))) (sRet (eBin modD (eBi intD (lCons (eV 2) lNil)) (eV 1)))) sNext [some (.ref i), some (.int many), some (.int c), none, none, some (.int k), some (.lst (cs.map .int))] (F (k + 1) l (d + 1)) = .ok (.nx [some (.ref i), some (.int many), some (.int c), none, none, some (.int k), some (.lst (cs.map .int))]) (F (k + 1) l (d + 1)) := by
          rw [ev_if test, if_neg ht]
          rfl
        rw [seq_nx step4]
        have sm : ∀ x : Int, 0 ≤ x → x < 1073741824000 → x.natAbs.log2 ≤ 1000 := fun x h1 h2 => log2_small (n := 40) (by omega) (by decide)
        have ld : (d + 1).natAbs.log2 ≤ 1000 := sm _ (by omega) (by omega)
        have l2 := sm a2 (by have := h2.1; omega) h2.2
        have l5 := sm a5 (by have := h5.1; omega) h5.2
        have l8 := sm a8 (by have := h8.1; omega) h8.2
        rw [seq_nx (ev_asg (ev_mod (ev_int (ev_add (ev_add (ev_mod (ev_int rfl) rfl h1) (ev_mul rfl A.gd (by omega))) rfl)) rfl h4.1))]
        generalize hx : (c % a1 + a2 * (d + 1) + a3) % a4 = x
        have x0 : 0 ≤ x := by rw [← hx]; exact Int.emod_nonneg _ (by have := h4.1; omega)
        have x1 : x < 1073741824000 := by rw [← hx]; exact Int.lt_trans (Int.emod_lt_of_pos _ h4.1) h4.2
        have lx := sm x x0 x1
        show ∃ v k' l', sSeq _ _ [some (.ref i), some (.int many), some (.int c), some (.int x), none, some (.int k), some (.lst (cs.map .int))] _ = _ ∧ _
        rw [seq_nx (ev_asg (ev_mod (ev_int (ev_add (ev_add (ev_mul rfl rfl (by omega)) (ev_mul rfl A.gd (by omega))) rfl)) rfl h7.1))]
        generalize hy : (x * x + a5 * (d + 1) + a6) % a7 = y
        have y0 : 0 ≤ y := by rw [← hy]; exact Int.emod_nonneg _ (by have := h7.1; omega)
        have y1 : y < 1073741824000 := by rw [← hy]; exact Int.lt_trans (Int.emod_lt_of_pos _ h7.1) h7.2
        have ly := sm y y0 y1
        show ∃ v k' l', sRet _ [some (.ref i), some (.int many), some (.int c), some (.int y), none, some (.int k), some (.lst (cs.map .int))] _ = _ ∧ _
        exact ⟨_, _, _, ev_ret (ev_mod (ev_int (ev_fdiv (ev_mod (ev_int (ev_add (ev_mul rfl rfl (by omega)) (ev_mul rfl rfl (by omega)))) rfl h9) rfl h10)) rfl hm.1), Int.emod_nonneg _ (by omega), Int.emod_lt_of_pos _ hm.1⟩
  obtain ⟨v, k', l', e, h1, h2⟩ := key
  refine ⟨v, k', l', ?_, h1, h2⟩
  unfold fnD
  show (match fbDraw a0 a1 a2 a3 a4 a5 a6 a7 a8 a9 a10 [some (.ref i), some (.int many), none, none, none, none, none] (F k l d) with
    | .ok (.rt d') S' => closeD (F k l d).length d' S'
    | .ok (.nx _) S' => closeD (F k l d).length .non S'
    | .exc x S' => closeX (F k l d).length x S'
    | _ => .bad) = _
  rw [e]
  exact closeD_same (by rw [A.len, A.len k l d])
/-- the cell of such a feed -/
def fdQ (cs : List Int) (k l d : Int) : Cell := .dic [(.inr "cells", .lst (cs.map .int)), (.inr "next", .int k), (.inr "left", .int l), (.inr "drawn", .int d)]
end Zed

namespace Zed
open PySem PySem.Spec PyProof.Rows L2 RZ

/-! ## Things taken out of a list in a drawn order, each one judged -/
section
variable {right draw : GD} {ρ : En} {S S' : Sto} {i j : Nat} {ds : List D} {v : Int} {y : D}
end
theorem noT_app : ∀ {a b : Sto}, noT a = true → noT b = true → noT (a ++ b) = true
  | [], _, _, h => h
  | .tbl _ :: _, _, h, _ => by cases h
  | .lst x :: a, b, h, h2 => noT_app (a := a) h h2
  | .dic x :: a, b, h, h2 => noT_app (a := a) h h2
/-! ## The feed, behind tables -/
def fbFeedQ : SD := (sRet (eDict [.inr "cells", .inr "next", .inr "left", .inr "drawn"] (lCons (eFrz (lComp (iAny (eSlA (eV 0) oN (oB (eC (.int 63))))) [1] (gN 1) bYes (eBi intD (lCons (eV 1) lNil)))) (lCons (eC (.int 0)) (lCons (eC (.int 0)) (lCons (eC (.int 0)) lNil))))))
theorem comp_intsQ {x : D} {S : Sto} : ∀ (cs : List Int) (k : Nat), k + cs.length ≤ 63 → compN [1] (gN 1) bYes (eBi intD (lCons (eV 1) lNil)) [some x, none] k (cs.map .int) S = .ok (cs.map .int) S
  | [], k, _ => rfl
  | c :: cs, k, h => by
    have h' : k < sz := by simp [sz] at h ⊢; omega
    have ih := comp_intsQ (x := x) (S := S) cs (k + 1) (by simp at h ⊢; omega)
    show (if k < sz then (compN [1] (gN 1) bYes (eBi intD (lCons (eV 1) lNil)) [some x, none] (k + 1) (cs.map .int) S).bind (fun ys S3 => .ok (.int c :: ys) S3) else .bad) = _
    rw [if_pos h', ih]
    rfl
theorem feedQ_body (ns : List Int) (h : ns.length ≤ 63) (S : Sto) : fbFeedQ [some (.scr ns), none] S = .ok (.rt (.ref S.length)) (S ++ [fdQ ns 0 0 0]) := by
  have hc := cut_63 ns h
  have hs : eSlA (eV 0) oN (oB (eC (.int 63))) [some (.scr ns), none] S = .ok (.lst (cutD (ns.map D.int) none (some 63))) S := rfl
  have hl : eFrz (lComp (iAny (eSlA (eV 0) oN (oB (eC (.int 63))))) [1] (gN 1) bYes (eBi intD (lCons (eV 1) lNil))) [some (.scr ns), none] S = .ok (.lst (ns.map .int)) S := by
    unfold eFrz lComp iAny
    rw [hs, hc]
    show R.bind (compN [1] (gN 1) bYes (eBi intD (lCons (eV 1) lNil)) [some (.scr ns), none] 0 (ns.map .int) S) _ = _
    rw [comp_intsQ ns 0 (by omega)]
    rfl
  unfold fbFeedQ
  generalize eFrz (lComp (iAny (eSlA (eV 0) oN (oB (eC (.int 63))))) [1] (gN 1) bYes (eBi intD (lCons (eV 1) lNil))) = f at hl ⊢
  unfold sRet eDict lCons
  rw [hl]
  rfl
/-- the law's end, behind tables -/
theorem frm_tn {n : Nat} {g : GD} {ds : List D} {S1 : Sto} (e : g ds (tabS 0 n) = .ok (.bl true) S1) (ht : tblN (tabS 0 n) = n) (h : allL (low n 60) ds = true) : ∃ S', frm g ds (tabS 0 n) = .ok (.bl true) S' := by
  unfold frm
  have h1 : List.take n (tabS 0 n) = tabS 0 n := List.take_of_length_le (by rw [tabS_len]; exact Nat.le_refl _)
  have h2 : List.drop n (tabS 0 n) = [] := List.drop_of_length_le (by rw [tabS_len]; exact Nat.le_refl _)
  rw [ht, h, h1, h2]
  have hn : noT ([] : Sto) = true := rfl
  rw [hn, e]
  cases hs : sameT S1 (tabS 0 n)
  · exact ⟨S1, by simp only [hs]⟩
  · exact ⟨tabS 0 n, by simp only [hs]⟩
def clsN (n : Nat) (r : R Fl) : R D := match r with
  | .ok (.rt d) S' => closeD n d S'
  | .ok (.nx _) S' => closeD n .non S'
  | .exc x S' => closeX n x S'
  | _ => .bad
theorem fnD_cls (n : Nat) (f : SD) (ds : List D) (S : Sto) : fnD n f ds S = clsN S.length (f (ds.map some ++ List.replicate (n - ds.length) none) S) := rfl
theorem run_endN {t n : Nat} {f : SD} {m : GD} {ns : List Int} {ρ : En} {S1 : Sto} (em : m = frm (fnD n f)) (er : List.map some [D.scr ns] ++ List.replicate (n - 1) none = ρ) (ht : tblN (tabS 0 t) = t) (hl : allL (low t 60) [.scr ns] = true) (run : f ρ (tabS 0 t) = .ok (.rt (.bl true)) S1) : ∃ S', m [.scr ns] (tabS 0 t) = .ok (.bl true) S' := by
  obtain ⟨S2, e4⟩ := close_t t S1
  have hf : fnD n f [.scr ns] (tabS 0 t) = .ok (.bl true) S2 := by
    subst er
    rw [fnD_cls, tabS_len]
    show clsN t (f (List.map some [D.scr ns] ++ List.replicate (n - 1) none) (tabS 0 t)) = _
    rw [run]
    exact e4
  rw [em]
  exact frm_tn hf ht hl
end Zed

namespace Zed
open PySem PySem.Spec PyProof.Rows L2 RZ

/-! ## (a, b, ..) = a tuple or a list -/
section
variable [TC : TabC] [AM : AmbC] {K : PySem.W.Frag} {X : Cx}
end
section
variable [TC : TabC] {P : Program} {w : World} {K : PySem.W.Frag} {mg : Str → Option Value} {base : Heap} {gq : Bool} {E : XK} {k : Nat} {N : List Str} {sc : Scope} {X : Cx} {pos : Pos} {es : List Expr}
end
end Zed

namespace Zed
open PySem PySem.Spec PyProof.Rows L2 RZ

/-! ## Two values and their texts, one of them in a cell -/
def unref (S : Sto) : D → D
  | .ref n => match S[n]? with
    | some (.lst ds) => .lst ds
    | _ => .ref n
  | d => d
theorem toP_ref {S : Sto} {n k : Nat} {ds : List D} (e : S[n]? = some (.lst ds)) : toP S (k + 1) (.ref n) = toP S (k + 1) (.lst ds) := by
  show (match S[n]? with
    | some (.lst xs) => (match toPL (toP S k) xs with
      | some ps => some (PyData.list ps)
      | none => none)
    | _ => none) = _
  rw [e]
  rfl
theorem unref_repr (S : Sto) (d : D) : reprD [d] S = reprD [unref S d] S := by
  cases d with
  | ref n =>
    show reprD [.ref n] S = reprD [match S[n]? with | some (.lst ds) => .lst ds | _ => .ref n] S
    cases e : S[n]? with
    | none => rfl
    | some c =>
      cases c with
      | lst ds =>
        have h : toP S 60 (.ref n) = toP S 60 (.lst ds) := toP_ref (k := 59) e
        show reprD [.ref n] S = reprD [.lst ds] S
        simp only [reprD, h]
      | _ => rfl
  | _ => rfl
def sameR : GD
  | [a, b], S => match allL (low (tblN S) 60) [a, b], deq 60 (unref S a) (unref S b), fine S (unref S a) with
    | false, true, true => .ok (.bl true) S
    | _, _, _ => .bad
  | _, _ => .bad
theorem sameR_by : ∀ ds S, sameR ds S ≠ .bad → frm (fnD 2 fbS) ds S = sameR ds S := by
  intro ds S h
  unfold sameR at h ⊢
  split at h
  · rename_i a b
    split at h
    · rename_i e1 e4 e5
      have e := deq_eq _ _ _ e4
      obtain ⟨s, hs⟩ := fine_repr e5
      have ha : reprD [a] S = .ok (.str s) S := (unref_repr S a).trans hs
      have hb : reprD [b] S = .ok (.str s) S := by rw [unref_repr S b, ← e]; exact hs
      have h1 : eBi reprD (lCons (eV 0) lNil) [some a, some b] S = .ok (.str s) S := ha
      have h2 : eBi reprD (lCons (eV 1) lNil) [some a, some b] S = .ok (.str s) S := hb
      have h3 : eqOD (.str s) (.str s) S = .ok (.bl true) S := by
        have : strEq s s = true := by rw [strEq_iff]; exact decide_eq_true rfl
        simp [eqOD, eqP, scalEq, this]
      have h4 : fbS [some a, some b] S = .ok (.rt (.bl true)) S := by
        show R.bind (R.bind (eBi reprD (lCons (eV 0) lNil) [some a, some b] S) _) _ = _
        rw [h1]
        show R.bind (R.bind (eBi reprD (lCons (eV 1) lNil) [some a, some b] S) _) _ = _
        rw [h2]
        show R.bind (eqOD (.str s) (.str s) S) _ = _
        rw [h3]
        rfl
      have hf : fnD 2 fbS [a, b] S = .ok (.bl true) S := by
        show (match fbS [some a, some b] S with
          | .ok (.rt d) S' => closeD S.length d S'
          | .ok (.nx _) S' => closeD S.length .non S'
          | .exc x S' => closeX S.length x S'
          | _ => .bad) = _
        rw [h4]
        unfold closeD
        have : Nat.beq S.length S.length = true := by simp
        simp only [this]
      unfold frm
      rw [e1]
      exact hf
    · exact absurd rfl h
  · exact absurd rfl h
/-- told at once where it can be, or by evaluation -/
def same3 : GD := fun ds S => match sameF ds S with
  | .bad => match sameR ds S with
    | .bad => frm (fnD 2 fbS) ds S
    | r => r
  | r => r
theorem same3_by : ∀ ds S, same3 ds S ≠ .bad → frm (fnD 2 fbS) ds S = same3 ds S := by
  intro ds S h
  unfold same3 at h ⊢
  cases e : sameF ds S with
  | bad =>
    cases e2 : sameR ds S with
    | bad => rfl
    | ok d S' => exact (sameR_by ds S (by rw [e2]; simp)).trans e2
    | exc x S' => exact (sameR_by ds S (by rw [e2]; simp)).trans e2
  | ok d S' => exact (sameF_by ds S (by rw [e]; simp)).trans e
  | exc x S' => exact (sameF_by ds S (by rw [e]; simp)).trans e
end Zed

namespace Zed
open PySem PySem.Spec PyProof.Rows L2 RZ

/-! ## Feeds behind one, two, three tables -/
theorem feedAt1 (cs : List Int) (gs : Sto) : FeedAt 1 cs fun k l d => .tbl 0 :: fdQ cs k l d :: gs where
  pd h := by unfold sDPutD; rw [h]; rfl
  pl h := by unfold sDPutD; rw [h]; rfl
  pn h := by unfold sDPutD; rw [h]; rfl
  gd := rfl
  gl := rfl
  gn := rfl
  gc := rfl
  len _ _ _ := rfl
  frm g ds k l d := by
    unfold Zed.frm
    have : allL (low (tblN (.tbl 0 :: fdQ cs k l d :: gs)) 60) (.ref 1 :: ds) = false := rfl
    rw [this]
/-! ## Steps of a run -/
/-- it has a text: longer numbers too -/
def fineW (T : Sto) (a : D) : Bool := match toP T 60 a with
  | some p => p.showable && (!p.hasDict) && decide (p.depth ≤ 60) && p.leavesShort 100 && decide (102 * p.bulk + 100 ≤ sz)
  | none => false
theorem ev_not {a : BD} {ρ : En} {S S1 : Sto} {s : Bool} (h1 : a ρ S = .ok s S1) : bNot a ρ S = .ok (!s) S1 := by unfold bNot; rw [h1]; rfl
theorem ev_bT {f : ED} {ρ : En} {S S1 : Sto} {s : Bool} (h1 : f ρ S = .ok (.bl s) S1) : bT f ρ S = .ok s S1 := by unfold bT; rw [h1]; rfl
theorem ev_bB {f : ED} {ρ : En} {S S1 : Sto} {s : Bool} (h1 : f ρ S = .ok (.bl s) S1) : bB f ρ S = .ok s S1 := by unfold bB; rw [h1]; rfl
theorem callV {g : GD} {ρ : En} {S : Sto} {i : Nat} {x : D} (h : ρ[i]? = some (some x)) : eCall 1 g (lCons (eV i) lNil) ρ S = g [x] S := by
  have v : eV i ρ S = .ok x S := by unfold eV; rw [h]
  unfold eCall lCons
  rw [v]
  rfl
/-! ## Division by trial -/
def loopB : Nat → Int → Int → Option Bool
  | 0, _, _ => none
  | k + 1, d, n => if d * d ≤ n then (if n % d = 0 then some false else loopB k (d + 1) n) else some true
def primeB (n : Int) : Bool := if 2 ≤ n ∧ n < 1000000 then (match loopB 1000 2 n with | some b => b | none => false) else false
end Zed

namespace Zed
open PySem PySem.Spec PyProof.Rows L2 RZ

/-! ## More steps of a run -/
section
variable {f f' h h' : ED} {g : GT} {ρ : En} {S : Sto} {i : Nat} {x y : D}
end
end Zed

namespace Zed
open PySem PySem.Spec PyProof.Rows L2 RZ

/-! ## Values that are no cells, of bounded size -/
/-- signs of ASCII alone -/
def asc (s : Str) : Prop := ∀ c ∈ s.cps.toList, c < 128
theorem asc_app {a b : Str} (h1 : asc a) (h2 : asc b) : asc (a ++ b) := by
  intro c hc
  have e : (a ++ b).cps.toList = a.cps.toList ++ b.cps.toList := by
    show (a.cps ++ b.cps).toList = _
    simp
  rw [e] at hc
  rcases List.mem_append.mp hc with h | h
  · exact h1 c h
  · exact h2 c h
theorem asc_by {s : Str} (h : (s.cps.toList.all fun c => decide (c < 128)) = true) : asc s := fun c hc => of_decide_eq_true (List.all_eq_true.mp h c hc)
theorem asc_int (i : Int) : asc (PyData.shown (.int i)) := fun c hc => by
  rcases Nat.lt_or_ge c 128 with h | h
  · exact h
  · exact absurd hc (PyProof.Rows.shown_int_free' ⟨by omega, .inr (by omega)⟩ i)
theorem asc_from : ∀ (ts : List Str) (k : Nat) (acc : Str), asc acc → (∀ t ∈ ts, asc t) → asc (textFrom k acc ts)
  | [], _, _, h, _ => h
  | t :: r, k, acc, h, ht => by
    show asc (textFrom (k + 1) (acc ++ (if k > 0 then ", " else "" : String) ++ t) r)
    refine asc_from r (k + 1) _ (asc_app (asc_app h ?_) (ht t List.mem_cons_self)) fun y hy => ht y (List.mem_cons_of_mem _ hy)
    split
    · exact asc_by (by decide +kernel)
    · exact asc_by (by decide +kernel)
theorem asc_join : ∀ (ts : List Str), (∀ t ∈ ts, asc t) → asc (Str.join ", " ts)
  | [], _ => asc_by (by decide +kernel)
  | [x], h => h x List.mem_cons_self
  | x :: y :: r, h => by
    show asc (x ++ ", " ++ Str.join ", " (y :: r))
    exact asc_app (asc_app (h x List.mem_cons_self) (asc_by (by decide +kernel))) (asc_join (y :: r) fun z hz => h z (List.mem_cons_of_mem _ hz))
theorem asc_list {ts : List Str} (h : ∀ t ∈ ts, asc t) : asc (listText ts) := asc_app (asc_from ts 0 _ (asc_by (by decide +kernel)) h) (asc_by (by decide +kernel))
theorem asc_tuple {ts : List Str} (h : ∀ t ∈ ts, asc t) : asc (tupleText ts) := by
  unfold tupleText
  refine asc_app (asc_app (asc_by (by decide +kernel)) (asc_join ts h)) ?_
  split
  · exact asc_by (by decide +kernel)
  · exact asc_by (by decide +kernel)
def scB : D → Bool
  | .non => true
  | .bl _ => true
  | .int n => decide (n.natAbs < 10 ^ 60)
  | .str s => decide (s.cps.size ≤ 1) && PyData.strOk s && (s.cps.toList.all fun c => decide (c < 16 ^ 8)) && (reprText s).cps.toList.all fun c => decide (c < 128)
  | _ => false
def Nz : List Nat → D → Prop
  | [], d => scB d = true
  | m :: ms, d => scB d = true ∨ ∃ xs, (d = .tup xs ∨ d = .lst xs) ∧ xs.length ≤ m ∧ ∀ x ∈ xs, Nz ms x
def nB : List Nat → Nat
  | [] => 1
  | m :: ms => m * (nB ms + 1) + 1
structure Good (L : List Nat) (d : D) (p : PyData) : Prop where
  tp : ∀ S k, L.length < k → toP S k d = some p
  lw : ∀ n k, L.length < k → low n k d = true
  sh : p.showable = true
  hd : p.hasDict = false
  dp : p.depth ≤ L.length
  lv : p.leavesShort 100 = true
  cl : p.canLay0 = true
  bk : p.bulk ≤ nB L
  ch : asc p.shown
theorem nB_pos : ∀ L, 1 ≤ nB L
  | [] => by simp [nB]
  | m :: ms => by simp [nB]
theorem sc_good {d : D} (h : scB d = true) (L : List Nat) : ∃ p, Good L d p := by
  have hB := nB_pos L
  cases d with
  | non => exact ⟨.none, ⟨fun S k hk => by cases k with | zero => omega | succ k => rfl, fun n k hk => by cases k with | zero => omega | succ k => rfl, rfl, rfl, Nat.zero_le _, rfl, rfl, Nat.zero_le _, asc_by (by decide +kernel)⟩⟩
  | bl b => exact ⟨.bool b, ⟨fun S k hk => by cases k with | zero => omega | succ k => rfl, fun n k hk => by cases k with | zero => omega | succ k => rfl, rfl, rfl, Nat.zero_le _, rfl, rfl, Nat.zero_le _, by cases b <;> exact asc_by (by decide +kernel)⟩⟩
  | int n =>
    have hn : n.natAbs < 10 ^ 60 := of_decide_eq_true h
    have lg : n.natAbs.log2 ≤ 1000 := log2_small (n := 200) (Nat.lt_of_lt_of_le hn (by decide)) (by decide)
    have hl : (PyData.shown (.int n)).length ≤ 100 := by
      have e := int_text_length_le10 (k := 60) (by decide) hn
      rw [PyData.shown_int, PySem.ofString_length]
      omega
    refine ⟨.int n, ⟨fun S k hk => by cases k with | zero => omega | succ k => rfl, fun n k hk => by cases k with | zero => omega | succ k => rfl, ?_, rfl, Nat.zero_le _, ?_, rfl, Nat.zero_le _, asc_int n⟩⟩
    · simp only [PyData.showable, decide_eq_true_eq]
      omega
    · simp only [PyData.leavesShort, decide_eq_true_eq]
      exact hl
  | str s =>
    simp only [scB, Bool.and_eq_true, decide_eq_true_eq] at h
    obtain ⟨⟨⟨h1, h2⟩, h3⟩, h4⟩ := h
    refine ⟨.str s, ⟨fun S k hk => by cases k with | zero => omega | succ k => rfl, fun n k hk => by cases k with | zero => omega | succ k => rfl, rfl, rfl, Nat.zero_le _, ?_, ?_, ?_, asc_by h4⟩⟩
    · simp only [PyData.leavesShort]
      exact h3
    · simp only [PyData.canLay0]
      exact h2
    · simp only [PyData.bulk]
      omega
  | _ => cases h
theorem nzL {ms : List Nat} : ∀ (xs : List D), (∀ x ∈ xs, ∃ p, Good ms x p) → ∃ ps : List PyData, (∀ S k, ms.length < k → toPL (toP S k) xs = some ps) ∧ (∀ n k, ms.length < k → allL (low n k) xs = true) ∧ PyData.showableAll ps = true ∧ PyData.hasDictAll ps = false ∧ PyData.depthAll ps ≤ ms.length ∧ PyData.leavesShortAll 100 ps = true ∧ PyData.canLayAll0 ps = true ∧ PyData.bulkAll ps ≤ xs.length * (nB ms + 1) ∧ ps.length = xs.length ∧ ∀ t ∈ PyData.shownAll ps, asc t
  | [], _ => ⟨[], fun _ _ _ => rfl, fun _ _ _ => rfl, rfl, rfl, Nat.zero_le _, rfl, rfl, Nat.zero_le _, rfl, fun t ht => by cases ht⟩
  | x :: xs, h => by
    obtain ⟨p, g⟩ := h x List.mem_cons_self
    obtain ⟨ps, a1, a2, a3, a4, a5, a6, a7, a8, a9, a10⟩ := nzL xs fun y hy => h y (List.mem_cons_of_mem _ hy)
    refine ⟨p :: ps, fun S k hk => ?_, fun n k hk => ?_, ?_, ?_, ?_, ?_, ?_, ?_, ?_, ?_⟩
    · unfold toPL
      rw [g.tp S k hk, a1 S k hk]
    · unfold allL
      rw [g.lw n k hk]
      exact a2 n k hk
    · simp only [PyData.showableAll, g.sh, a3, Bool.and_self]
    · simp only [PyData.hasDictAll, g.hd, a4, Bool.or_self]
    · have := g.dp
      simp only [PyData.depthAll]
      omega
    · simp only [PyData.leavesShortAll, g.lv, a6, Bool.and_self]
    · simp only [PyData.canLayAll0, g.cl, a7, Bool.and_self]
    · have := g.bk
      simp only [PyData.bulkAll, List.length_cons, Nat.succ_mul]
      omega
    · simp only [List.length_cons, a9]
    · intro t ht
      rw [PyData.shownAll_cons, List.mem_cons] at ht
      rcases ht with rfl | ht
      · exact g.ch
      · exact a10 t ht
theorem nz_good : ∀ (L : List Nat) (d : D), Nz L d → ∃ p, Good L d p
  | [], d, h => sc_good h []
  | m :: ms, d, h => by
    rcases h with h | ⟨xs, e, hl, hx⟩
    · exact sc_good h _
    · obtain ⟨ps, a1, a2, a3, a4, a5, a6, a7, a8, a9, a10⟩ := nzL xs fun x hxm => nz_good ms x (hx x hxm)
      have hb : PyData.bulkAll ps ≤ nB (m :: ms) := by
        have := Nat.mul_le_mul_right (nB ms + 1) hl
        simp only [nB]
        omega
      rcases e with rfl | rfl
      · refine ⟨.tuple ps, ⟨fun S k hk => ?_, fun n k hk => ?_, ?_, ?_, ?_, ?_, ?_, ?_, by show asc (tupleText (PyData.shownAll ps)); exact asc_tuple a10⟩⟩
        · cases k with
          | zero => simp at hk
          | succ k =>
            simp only [List.length_cons] at hk
            unfold toP
            simp only [a1 S k (by omega)]
        · cases k with
          | zero => simp at hk
          | succ k =>
            simp only [List.length_cons] at hk
            unfold low
            exact a2 n k (by omega)
        · simp only [PyData.showable, a3]
        · simp only [PyData.hasDict, a4]
        · simp only [PyData.depth, List.length_cons]
          omega
        · simp only [PyData.leavesShort, a6]
        · simp only [PyData.canLay0, a7]
        · simp only [PyData.bulk]
          exact hb
      · refine ⟨.list ps, ⟨fun S k hk => ?_, fun n k hk => ?_, ?_, ?_, ?_, ?_, ?_, ?_, by show asc (listText (PyData.shownAll ps)); exact asc_list a10⟩⟩
        · cases k with
          | zero => simp at hk
          | succ k =>
            simp only [List.length_cons] at hk
            unfold toP
            simp only [a1 S k (by omega)]
        · cases k with
          | zero => simp at hk
          | succ k =>
            simp only [List.length_cons] at hk
            unfold low
            exact a2 n k (by omega)
        · simp only [PyData.showable, a3]
        · simp only [PyData.hasDict, a4]
        · simp only [PyData.depth, List.length_cons]
          omega
        · simp only [PyData.leavesShort, a6]
        · simp only [PyData.canLay0, a7]
        · simp only [PyData.bulk]
          exact hb
theorem Good.fine {L : List Nat} {d : D} {p : PyData} (g : Good L d p) (T : Sto) (hL : L.length ≤ 50) (hB : 102 * nB L + 100 ≤ sz) : fineW T d = true := by
  have h1 := g.tp T 60 (by omega)
  have h2 := g.dp
  have h3 := g.bk
  have h4 : p.depth ≤ 60 := by omega
  have h5 : 102 * p.bulk + 100 ≤ sz := by omega
  unfold fineW
  rw [h1]
  simp only [g.sh, g.hd, g.lv, h4, h5, decide_true, Bool.not_false, Bool.and_self]
def nle : List Nat → List Nat → Bool
  | [], _ => true
  | _ :: _, [] => false
  | m :: ms, n :: ns => decide (m ≤ n) && nle ms ns
theorem Nz.sc {d : D} (h : scB d = true) : ∀ L, Nz L d
  | [] => h
  | _ :: _ => .inl h
theorem Nz.mono : ∀ {L M : List Nat} {d : D}, nle L M = true → Nz L d → Nz M d
  | [], M, d, _, h => Nz.sc h M
  | _ :: _, [], _, e, _ => by cases e
  | m :: ms, n :: ns, d, e, h => by
    simp only [nle, Bool.and_eq_true, decide_eq_true_eq] at e
    rcases h with h | ⟨xs, e1, hl, hx⟩
    · exact .inl h
    · exact .inr ⟨xs, e1, Nat.le_trans hl e.1, fun x hxm => Nz.mono e.2 (hx x hxm)⟩
theorem Nz.tup {m : Nat} {ms : List Nat} {xs : List D} (hl : xs.length ≤ m) (h : ∀ x ∈ xs, Nz ms x) : Nz (m :: ms) (.tup xs) := .inr ⟨xs, .inl rfl, hl, h⟩
theorem Nz.lst {m : Nat} {ms : List Nat} {xs : List D} (hl : xs.length ≤ m) (h : ∀ x ∈ xs, Nz ms x) : Nz (m :: ms) (.lst xs) := .inr ⟨xs, .inr rfl, hl, h⟩
theorem Nz.tup_inv {L : List Nat} {xs : List D} (h : Nz L (.tup xs)) : ∃ m ms, L = m :: ms ∧ xs.length ≤ m ∧ ∀ x ∈ xs, Nz ms x := by
  cases L with
  | nil => cases h
  | cons m ms =>
    rcases h with h | ⟨ys, e, hl, hx⟩
    · cases h
    · rcases e with e | e <;> cases e
      exact ⟨m, ms, rfl, hl, hx⟩
/-- what it may be -/
inductive Kd : D → Prop
  | non : Kd .non
  | bl (b : Bool) : Kd (.bl b)
  | int (n : Int) : Kd (.int n)
  | str (s : Str) : Kd (.str s)
  | tup (xs : List D) : Kd (.tup xs)
  | lst (xs : List D) : Kd (.lst xs)
theorem Nz.kd {L : List Nat} {d : D} (h : Nz L d) : Kd d := by
  have key : scB d = true → Kd d := by
    intro h
    cases d <;> first | constructor | cases h
  cases L with
  | nil => exact key h
  | cons m ms =>
    rcases h with h | ⟨xs, e, _⟩
    · exact key h
    · rcases e with rfl | rfl <;> constructor
/-! ## Comprehensions -/
section
variable {vs : List Nat} {g : GT} {t : BD} {f : ED} {ρ : En} {S : Sto}
theorem ev_andS {f g : ED} {s t : Bool} (h1 : f ρ S = .ok (.bl s) S) (h2 : s = true → g ρ S = .ok (.bl t) S) : eAnd f g ρ S = .ok (.bl (s && t)) S := by
  unfold eAnd
  rw [h1]
  cases s with
  | true => simp [R.bind, h2 rfl]
  | false => simp [R.bind]
end
end Zed

namespace Zed
open PySem PySem.Spec PyProof.Rows L2 RZ

/-! ## Runs that draw: what they give, whatever is drawn -/
def stQ (cs : List Int) (gs : Sto) (k l d : Int) : Sto := .tbl 0 :: fdQ cs k l d :: gs
theorem stQ_len (cs : List Int) (gs : Sto) (k l d : Int) : (stQ cs gs k l d).length = gs.length + 2 := rfl
theorem fnD_to {n : Nat} {f : SD} {ds : List D} {d d' : D} {ρ : En} {T S S' : Sto} (er : ds.map some ++ List.replicate (n - ds.length) none = ρ) (r : f ρ T = .ok (.rt d) S) (c : closeD T.length d S = .ok d' S') : fnD n f ds T = .ok d' S' := by
  subst er
  rw [fnD_cls, r]
  exact c
section
variable {cs : List Int} {gs : Sto}
/-- an expression | a test | expressions | a suite that returns | a def -/
def Dr (cs : List Int) (gs : Sto) (c : Nat) (f : ED) (ρ : En) (Q : D → Prop) : Prop := ∀ k l d : Int, 0 ≤ d → d + c ≤ 900000 → ∃ (y : D) (k' l' d' : Int), f ρ (stQ cs gs k l d) = .ok y (stQ cs gs k' l' d') ∧ d ≤ d' ∧ d' ≤ d + c ∧ Q y
def DrB (cs : List Int) (gs : Sto) (c : Nat) (f : BD) (ρ : En) (Q : Bool → Prop) : Prop := ∀ k l d : Int, 0 ≤ d → d + c ≤ 900000 → ∃ (y : Bool) (k' l' d' : Int), f ρ (stQ cs gs k l d) = .ok y (stQ cs gs k' l' d') ∧ d ≤ d' ∧ d' ≤ d + c ∧ Q y
def DrL (cs : List Int) (gs : Sto) (c : Nat) (f : LD) (ρ : En) (Q : List D → Prop) : Prop := ∀ k l d : Int, 0 ≤ d → d + c ≤ 900000 → ∃ (y : List D) (k' l' d' : Int), f ρ (stQ cs gs k l d) = .ok y (stQ cs gs k' l' d') ∧ d ≤ d' ∧ d' ≤ d + c ∧ Q y
def RunS (cs : List Int) (gs : Sto) (c : Nat) (f : SD) (ρ : En) (Q : D → Prop) : Prop := ∀ k l d : Int, 0 ≤ d → d + c ≤ 900000 → ∃ (y : D) (k' l' d' : Int), f ρ (stQ cs gs k l d) = .ok (.rt y) (stQ cs gs k' l' d') ∧ d ≤ d' ∧ d' ≤ d + c ∧ Q y
def DrG (cs : List Int) (gs : Sto) (c : Nat) (g : GD) (ds : List D) (Q : D → Prop) : Prop := ∀ k l d : Int, 0 ≤ d → d + c ≤ 900000 → ∃ (y : D) (k' l' d' : Int), g ds (stQ cs gs k l d) = .ok y (stQ cs gs k' l' d') ∧ d ≤ d' ∧ d' ≤ d + c ∧ Q y
variable {c c1 c2 : Nat} {f g : ED} {ρ : En} {Q Q1 Q2 : D → Prop} {y x : D} {n : Nat} {rest a : SD} {t : BD} {G : GD} {ds : List D} {la : LD}
theorem Dr.pure (e : ∀ k l d, f ρ (stQ cs gs k l d) = .ok y (stQ cs gs k l d)) (q : Q y) : Dr cs gs 0 f ρ Q := fun k l d _ _ => ⟨y, k, l, d, e k l d, by omega, by omega, q⟩
theorem Dr.imp (h : Dr cs gs c f ρ Q1) (i : ∀ y, Q1 y → Q y) : Dr cs gs c f ρ Q := fun k l d h0 h1 => by
  obtain ⟨y, k', l', d', e, a, b, q⟩ := h k l d h0 h1
  exact ⟨y, k', l', d', e, a, b, i y q⟩
theorem Dr.le (h : Dr cs gs c1 f ρ Q) (i : c1 ≤ c) : Dr cs gs c f ρ Q := fun k l d h0 h1 => by
  obtain ⟨y, k', l', d', e, a, b, q⟩ := h k l d h0 (by omega)
  exact ⟨y, k', l', d', e, a, by omega, q⟩
theorem RunS.le (h : RunS cs gs c1 rest ρ Q) (i : c1 ≤ c) : RunS cs gs c rest ρ Q := fun k l d h0 h1 => by
  obtain ⟨y, k', l', d', e, a, b, q⟩ := h k l d h0 (by omega)
  exact ⟨y, k', l', d', e, a, by omega, q⟩
theorem Dr.bin {o : OD} (hf : Dr cs gs c1 f ρ Q1) (hg : Dr cs gs c2 g ρ Q2) (ho : ∀ y z, Q1 y → Q2 z → ∃ w, (∀ k l d, o y z (stQ cs gs k l d) = .ok w (stQ cs gs k l d)) ∧ Q w) : Dr cs gs (c1 + c2) (eBin o f g) ρ Q := fun k l d h0 h1 => by
  obtain ⟨y, k1, l1, d1, e1, a1, b1, q1⟩ := hf k l d h0 (by omega)
  obtain ⟨z, k2, l2, d2, e2, a2, b2, q2⟩ := hg k1 l1 d1 (by omega) (by omega)
  obtain ⟨w, e3, q3⟩ := ho y z q1 q2
  refine ⟨w, k2, l2, d2, ?_, by omega, by omega, q3⟩
  unfold eBin
  rw [e1]
  simp only [R.bind]
  rw [e2]
  exact e3 k2 l2 d2
theorem DrB.of {Q : Bool → Prop} {b : Bool} (e : ∀ k l d, t ρ (stQ cs gs k l d) = .ok b (stQ cs gs k l d)) (q : Q b) : DrB cs gs 0 t ρ Q := fun k l d _ _ => ⟨b, k, l, d, e k l d, by omega, by omega, q⟩
theorem DrB.any {Q : Bool → Prop} (h : DrB cs gs c t ρ Q) : DrB cs gs c t ρ fun _ => True := fun k l d h0 h1 => by
  obtain ⟨y, k', l', d', e, a, b, q⟩ := h k l d h0 h1
  exact ⟨y, k', l', d', e, a, b, trivial⟩
/-- x == a number -/
theorem DrB.eq {j : Int} (h : Dr cs gs c f ρ fun y => ∃ v, y = .int v) (hg : ∀ S, g ρ S = .ok (.int j) S) : DrB cs gs c (bB (eBin eqOD f g)) ρ fun _ => True := fun k l d h0 h1 => by
  obtain ⟨y, k', l', d', e, a, b, v, rfl⟩ := h k l d h0 h1
  refine ⟨decide (v = j), k', l', d', ?_, a, b, trivial⟩
  refine ev_bB ?_
  unfold eBin
  rw [e]
  simp only [R.bind]
  rw [hg]
  rfl
theorem DrB.or {u : BD} {P1 P2 Q : Bool → Prop} (h1 : DrB cs gs c1 t ρ P1) (h2 : P1 false → DrB cs gs c2 u ρ P2) (q1 : P1 true → Q true) (q2 : ∀ b, P1 false → P2 b → Q b) : DrB cs gs (c1 + c2) (bOr t u) ρ Q := fun k l d h0 hd => by
  obtain ⟨b, k1, l1, d1, e1, a1, b1, p1⟩ := h1 k l d h0 (by omega)
  cases b with
  | true =>
    refine ⟨true, k1, l1, d1, ?_, a1, by omega, q1 p1⟩
    unfold bOr
    rw [e1]
    rfl
  | false =>
    obtain ⟨b2, k2, l2, d2, e2, a2, bb2, p2⟩ := h2 p1 k1 l1 d1 (by omega) (by omega)
    refine ⟨b2, k2, l2, d2, ?_, by omega, by omega, q2 b2 p1 p2⟩
    unfold bOr
    rw [e1]
    exact e2
theorem DrL.nil : DrL cs gs 0 lNil ρ fun ys => ys = [] := fun k l d _ _ => ⟨[], k, l, d, rfl, by omega, by omega, rfl⟩
theorem DrL.cons {P : List D → Prop} (hf : Dr cs gs c1 f ρ Q1) (hl : DrL cs gs c2 la ρ P) : DrL cs gs (c1 + c2) (lCons f la) ρ fun ys => ∃ y r, ys = y :: r ∧ Q1 y ∧ P r := fun k l d h0 h1 => by
  obtain ⟨y, k1, l1, d1, e1, a1, b1, q1⟩ := hf k l d h0 (by omega)
  obtain ⟨r, k2, l2, d2, e2, a2, b2, q2⟩ := hl k1 l1 d1 (by omega) (by omega)
  refine ⟨y :: r, k2, l2, d2, ?_, by omega, by omega, y, r, rfl, q1, q2⟩
  unfold lCons
  rw [e1]
  simp only [R.bind]
  rw [e2]
theorem DrL.pure {ys : List D} (e : ∀ k l d, la ρ (stQ cs gs k l d) = .ok ys (stQ cs gs k l d)) : DrL cs gs 0 la ρ fun zs => zs = ys := fun k l d _ _ => ⟨ys, k, l, d, e k l d, by omega, by omega, rfl⟩
theorem Dr.tup {P : List D → Prop} (h : DrL cs gs c la ρ P) (hn : ∀ ys, P ys → ys.length ≤ 1000 ∧ Q (.tup ys)) : Dr cs gs c (eTup la) ρ Q := fun k l d h0 h1 => by
  obtain ⟨ys, k', l', d', e, a, b, p⟩ := h k l d h0 h1
  obtain ⟨n1, n2⟩ := hn ys p
  have : (1000 : Nat) ≤ sz := by decide
  refine ⟨.tup ys, k', l', d', ?_, a, b, n2⟩
  unfold eTup
  rw [e]
  simp only [R.bind]
  rw [if_pos (by omega)]
theorem Dr.call {k0 : Nat} {P : List D → Prop} (h : DrL cs gs c1 la ρ P) (hG : ∀ ys, P ys → ys.length = k0 ∧ DrG cs gs c2 G ys Q) : Dr cs gs (c1 + c2) (eCall k0 G la) ρ Q := fun k l d h0 h1 => by
  obtain ⟨ys, k1, l1, d1, e1, a1, b1, p⟩ := h k l d h0 (by omega)
  obtain ⟨n1, n2⟩ := hG ys p
  obtain ⟨y, k2, l2, d2, e2, a2, b2, q⟩ := n2 k1 l1 d1 (by omega) (by omega)
  refine ⟨y, k2, l2, d2, ?_, by omega, by omega, q⟩
  unfold eCall
  rw [e1]
  simp only [R.bind]
  have : Nat.beq ys.length k0 = true := by rw [n1]; simp
  rw [this]
  exact e2
theorem RunS.ret (h : Dr cs gs c f ρ Q) : RunS cs gs c (sRet f) ρ Q := fun k l d h0 h1 => by
  obtain ⟨y, k', l', d', e, a, b, q⟩ := h k l d h0 h1
  exact ⟨y, k', l', d', ev_ret e, a, b, q⟩
theorem RunS.retThen (h : Dr cs gs c f ρ Q) : RunS cs gs c (sSeq (sRet f) rest) ρ Q := fun k l d h0 h1 => by
  obtain ⟨y, k', l', d', e, a, b, q⟩ := h k l d h0 h1
  exact ⟨y, k', l', d', seq_rt (ev_ret e), a, b, q⟩
theorem RunS.asg (h : Dr cs gs c1 f ρ Q1) (hr : ∀ y, Q1 y → RunS cs gs c2 rest (ρ.set n (some y)) Q) : RunS cs gs (c1 + c2) (sSeq (sAsg f (gN n)) rest) ρ Q := fun k l d h0 h1 => by
  obtain ⟨y, k1, l1, d1, e1, a1, b1, q1⟩ := h k l d h0 (by omega)
  obtain ⟨z, k2, l2, d2, e2, a2, b2, q2⟩ := hr y q1 k1 l1 d1 (by omega) (by omega)
  refine ⟨z, k2, l2, d2, ?_, by omega, by omega, q2⟩
  rw [seq_nx (ev_asg e1)]
  exact e2
theorem RunS.par {i j : Nat} (hf : Dr cs gs c1 f ρ Q1) (hg : Dr cs gs c2 g ρ Q2) {c3 : Nat} (hr : ∀ y z, Q1 y → Q2 z → RunS cs gs c3 rest ((ρ.set i (some y)).set j (some z)) Q) : RunS cs gs (c1 + c2 + c3) (sSeq (sPar i j (lCons f (lCons g lNil))) rest) ρ Q := fun k l d h0 h1 => by
  obtain ⟨y, k1, l1, d1, e1, a1, b1, q1⟩ := hf k l d h0 (by omega)
  obtain ⟨z, k2, l2, d2, e2, a2, b2, q2⟩ := hg k1 l1 d1 (by omega) (by omega)
  obtain ⟨w, k3, l3, d3, e3, a3, b3, q3⟩ := hr y z q1 q2 k2 l2 d2 (by omega) (by omega)
  have ep : sPar i j (lCons f (lCons g lNil)) ρ (stQ cs gs k l d) = .ok (.nx ((ρ.set i (some y)).set j (some z))) (stQ cs gs k2 l2 d2) := by
    unfold sPar lCons
    rw [e1]
    simp only [R.bind]
    rw [e2]
    rfl
  refine ⟨w, k3, l3, d3, ?_, by omega, by omega, q3⟩
  rw [seq_nx ep]
  exact e3
theorem RunS.iff {P : Bool → Prop} (ht : DrB cs gs c1 t ρ P) (h1 : P true → RunS cs gs c2 a ρ Q) (h2 : P false → RunS cs gs c2 rest ρ Q) : RunS cs gs (c1 + c2) (sSeq (sIf t a sNext) rest) ρ Q := fun k l d h0 hd => by
  obtain ⟨b, k1, l1, d1, e1, a1, b1, p⟩ := ht k l d h0 (by omega)
  rw [ev_branch e1]
  cases b with
  | true =>
    obtain ⟨z, k2, l2, d2, e2, a2, b2, q2⟩ := h1 p k1 l1 d1 (by omega) (by omega)
    refine ⟨z, k2, l2, d2, ?_, by omega, by omega, q2⟩
    rw [if_pos rfl]
    exact seq_rt e2
  | false =>
    obtain ⟨z, k2, l2, d2, e2, a2, b2, q2⟩ := h2 p k1 l1 d1 (by omega) (by omega)
    refine ⟨z, k2, l2, d2, ?_, by omega, by omega, q2⟩
    have hz : sNext ρ (stQ cs gs k1 l1 d1) = .ok (.nx ρ) (stQ cs gs k1 l1 d1) := rfl
    rw [if_neg (by decide), seq_nx hz]
    exact e2
theorem frmQ (g : GD) (ds : List D) (k l d : Int) : frm g (.ref 1 :: ds) (stQ cs gs k l d) = g (.ref 1 :: ds) (stQ cs gs k l d) := (feedAt1 cs gs).frm g ds k l d
/-- a def that makes no cells of its own -/
theorem RunS.def {m : Nat} {fb : SD} (eG : G = frm (fnD m fb)) (er : (D.ref 1 :: ds).map some ++ List.replicate (m - (D.ref 1 :: ds).length) none = ρ) (h : RunS cs gs c fb ρ Q) : DrG cs gs c G (.ref 1 :: ds) Q := fun k l d h0 h1 => by
  obtain ⟨y, k', l', d', e, a, b, q⟩ := h k l d h0 h1
  refine ⟨y, k', l', d', ?_, a, b, q⟩
  rw [eG, frmQ]
  exact fnD_to er e (closeD_same rfl)
end
/-- the draws themselves -/
theorem drawQ {cs : List Int} {gs : Sto} {a0 a1 a2 a3 a4 a5 a6 a7 a8 a9 a10 : Int} {G : GD} (eG : G = frm (fnD 7 (fbDraw a0 a1 a2 a3 a4 a5 a6 a7 a8 a9 a10))) (h2 : okNum a2) (h4 : okNum a4) (h1 : 0 < a1) (h5 : okNum a5) (h7 : okNum a7) (h8 : okNum a8) (h9 : 0 < a9) (h10 : 0 < a10 ∧ a10 < 1073741824) {many : Int} (hm : 0 < many ∧ many < 1073741824) : DrG cs gs 1 G [.ref 1, .int many] fun y => ∃ v, y = .int v ∧ 0 ≤ v ∧ v < many := fun k l d h0 hd => by
  obtain ⟨v, k', l', e, hv⟩ := draw_at (feedAt1 cs gs) h2 h4 h1 h5 h7 h8 h9 h10 k l d many hm ⟨h0, by omega⟩
  refine ⟨.int v, k', l', d + 1, ?_, by omega, by omega, v, rfl, hv⟩
  rw [eG, frmQ]
  exact e
/-- one item of some -/
theorem anyQ {cs : List Int} {gs : Sto} {draw G : GD} {x : D} {ds : List D} (hdr : ∀ many : Int, 0 < many ∧ many < 1073741824 → DrG cs gs 1 draw [.ref 1, .int many] fun y => ∃ v, y = .int v ∧ 0 ≤ v ∧ v < many)
    (eG : G = frm (fnD 2 (sRet (eBin itemD (eV 1) (eCall 2 draw (lCons (eV 0) (lCons (eBi lenD (lCons (eV 1) lNil)) lNil))))))) (hn : 0 < ds.length ∧ ds.length ≤ 1000) (hl : ∀ k l d, lenD [x] (stQ cs gs k l d) = .ok (.int ds.length) (stQ cs gs k l d)) (hi : ∀ (v : Int) (y : D) k l d, atI ds v = some y → itemD x (.int v) (stQ cs gs k l d) = .ok y (stQ cs gs k l d)) : DrG cs gs 1 G [.ref 1, x] fun y => y ∈ ds := by
  refine RunS.def eG rfl ?_
  refine RunS.ret (c := 0 + (0 + 1)) (Dr.bin (Q1 := fun y => y = x) (Q2 := fun y => ∃ v, y = .int v ∧ 0 ≤ v ∧ v < ds.length) (Dr.pure (fun _ _ _ => rfl) rfl) (Dr.call (P := fun ys => ys = [.ref 1, .int ds.length]) (DrL.pure fun k l d => ?_) fun ys e => ⟨by rw [e]; rfl, by rw [e]; exact hdr ds.length ⟨by omega, by omega⟩⟩) ?_)
  · show (R.bind (R.bind (lenD [x] (stQ cs gs k l d)) _) _ : R (List D)) = _
    rw [hl]
    rfl
  · rintro y z rfl ⟨v, rfl, h0, h1⟩
    have hv : v.toNat < ds.length := by omega
    refine ⟨ds[v.toNat], fun k l d => hi v _ k l d ?_, List.getElem_mem hv⟩
    unfold atI ixN
    rw [if_pos h0, if_pos h1]
    exact List.getElem?_eq_getElem hv
end Zed

namespace Zed
open PySem PySem.Spec PyProof.Rows L2 RZ

/-! ## Parts of tuples -/
section
variable {f g : ED} {ρ : En} {S : Sto} {xs ys : List D} {k : Nat}
theorem cut_to (hk : k ≤ xs.length) : cutD xs none (some (k : Int)) = xs.take k := by
  unfold cutD
  rw [HT.sIx_nat, HT.sIx_none, Nat.min_eq_left hk]
  simp
end
end Zed

namespace Zed
open PySem PySem.Spec PyProof.Rows L2 RZ

/-! ## Calls that make cells of their own, behind a feed -/
theorem frzL_all {f : D → Option D} : ∀ {xs : List D}, (∀ x ∈ xs, f x = some x) → frzL f xs = some xs
  | [], _ => rfl
  | x :: xs, h => by
    unfold frzL
    rw [h x List.mem_cons_self, frzL_all fun y hy => h y (List.mem_cons_of_mem _ hy)]
theorem Nz.frz : ∀ {L : List Nat} {d : D}, Nz L d → ∀ (n : Nat) (S : Sto) (k : Nat), L.length < k → frzD n S k d = some d := by
  have key : ∀ {d : D}, scB d = true → ∀ (n : Nat) (S : Sto) (k : Nat), 0 < k → frzD n S k d = some d := by
    intro d h n S k hk
    cases k with
    | zero => omega
    | succ k => cases d <;> first | rfl | cases h
  intro L
  induction L with
  | nil => intro d h n S k hk; exact key h n S k (by omega)
  | cons m ms ih =>
    intro d h n S k hk
    rcases h with h | ⟨xs, e, hl, hx⟩
    · exact key h n S k (by omega)
    · cases k with
      | zero => omega
      | succ k =>
        simp only [List.length_cons] at hk
        have h1 : frzL (frzD n S k) xs = some xs := frzL_all fun x hxm => ih (hx x hxm) n S k (by omega)
        rcases e with rfl | rfl
        · unfold frzD
          rw [h1]
        · unfold frzD
          rw [h1]
theorem Nz.low {L : List Nat} {d : D} (h : Nz L d) (n k : Nat) (hk : L.length < k) : low n k d = true := by
  obtain ⟨p, g⟩ := nz_good _ _ h
  exact g.lw n k hk
theorem allL_of {f : D → Bool} : ∀ {xs : List D}, (∀ x ∈ xs, f x = true) → allL f xs = true
  | [], _ => rfl
  | x :: xs, h => by
    unfold allL
    rw [h x List.mem_cons_self]
    exact allL_of fun y hy => h y (List.mem_cons_of_mem _ hy)
theorem feed_low (n : Nat) (cs : List Int) (k l d : Int) : lowC n (fdQ cs k l d) = true := by
  show allL (low n 60) [.lst (cs.map .int), .int k, .int l, .int d] = true
  have h : low n 60 (.lst (cs.map .int)) = true := ints_low n 58 cs
  unfold allL
  rw [h]
  rfl
/-- handed out, what was made within forgotten -/
theorem close_cut {n : Nat} {d : D} {S T : Sto} (h0 : S.length ≠ n) (hf : frzD n S 60 d = some d) (ht : S.take n = T) (hl : lowS n T = true) : closeD n d S = .ok d T := by
  unfold closeD
  have : Nat.beq S.length n = false := by
    cases h : Nat.beq S.length n with
    | false => rfl
    | true => exact absurd (Nat.eq_of_beq_eq_true h) h0
  rw [this]
  simp only [hf, ht, hl]
section
variable {cs : List Int} {gs : Sto} {c c1 c2 : Nat} {f g a b : ED} {ρ : En} {Q : D → Prop} {t : BD}
theorem Dr.ite (ht : DrB cs gs c1 t ρ fun _ => True) (h1 : Dr cs gs c2 a ρ Q) (h2 : Dr cs gs c2 b ρ Q) : Dr cs gs (c1 + c2) (eIf t a b) ρ Q := fun k l d h0 hd => by
  obtain ⟨v, k1, l1, d1, e1, a1, b1, _⟩ := ht k l d h0 (by omega)
  cases v with
  | true =>
    obtain ⟨y, k2, l2, d2, e2, a2, b2, q⟩ := h1 k1 l1 d1 (by omega) (by omega)
    exact ⟨y, k2, l2, d2, (ev_ifE e1).trans ((if_pos rfl).trans e2), by omega, by omega, q⟩
  | false =>
    obtain ⟨y, k2, l2, d2, e2, a2, b2, q⟩ := h2 k1 l1 d1 (by omega) (by omega)
    exact ⟨y, k2, l2, d2, (ev_ifE e1).trans ((if_neg (by decide)).trans e2), by omega, by omega, q⟩
theorem DrB.cmp {p : Int → Int → Bool} {j : Int} (h : Dr cs gs c f ρ fun y => ∃ v, y = .int v) (hg : ∀ S, g ρ S = .ok (.int j) S) : DrB cs gs c (bB (eBin (cmpI p) f g)) ρ fun _ => True := fun k l d h0 h1 => by
  obtain ⟨y, k', l', d', e, a, b, v, rfl⟩ := h k l d h0 h1
  refine ⟨p v j, k', l', d', ?_, a, b, trivial⟩
  refine ev_bB ?_
  unfold eBin
  rw [e]
  simp only [R.bind]
  rw [hg]
  rfl
theorem compN_dr {vs : List Nat} {gt : GT} : ∀ (ds : List D) (i : Nat) (k l d : Int), (∀ x ∈ ds, ∃ ρ1, gt x (wipeE ρ vs) = some ρ1 ∧ Dr cs gs c f ρ1 Q) → i + ds.length ≤ sz → 0 ≤ d → d + (c * ds.length : Nat) ≤ 900000 → ∃ (ys : List D) (k' l' d' : Int), compN vs gt bYes f ρ i ds (stQ cs gs k l d) = .ok ys (stQ cs gs k' l' d') ∧ d ≤ d' ∧ d' ≤ d + (c * ds.length : Nat) ∧ ys.length = ds.length ∧ ∀ y ∈ ys, Q y
  | [], i, k, l, d, _, _, _, _ => ⟨[], k, l, d, rfl, by omega, by omega, rfl, by simp⟩
  | x :: ds, i, k, l, d, h, hi, h0, hd => by
    simp only [List.length_cons, Nat.mul_succ] at hi hd ⊢
    obtain ⟨ρ1, e1, hf⟩ := h x List.mem_cons_self
    obtain ⟨y, k1, l1, d1, e2, a1, b1, q⟩ := hf k l d h0 (by omega)
    obtain ⟨ys, k2, l2, d2, e3, a2, b2, n2, q2⟩ := compN_dr ds (i + 1) k1 l1 d1 (fun z hz => h z (List.mem_cons_of_mem _ hz)) (by omega) (by omega) (by omega)
    refine ⟨y :: ys, k2, l2, d2, ?_, by omega, by omega, by simp only [List.length_cons, n2], ?_⟩
    · unfold compN
      rw [e1]
      simp only [bYes]
      rw [e2]
      simp only []
      rw [if_pos (by omega), e3]
      rfl
    · intro z hz
      rcases List.mem_cons.mp hz with rfl | hz
      · exact q
      · exact q2 z hz
end
theorem compA_filter {vs : List Nat} {g : GT} {t : BD} {f : ED} {n : Nat} {ρ : En} {S : Sto} {xs : List D} {q : D → Bool} (hS : S[n]? = some (.lst xs)) (h : ∀ x ∈ xs, ∃ ρ1, g x (wipeE ρ vs) = some ρ1 ∧ t ρ1 S = .ok (q x) S ∧ f ρ1 S = .ok x S) : ∀ (rest : List D) (i fuel : Nat) (acc : List D), xs.drop i = rest → i ≤ xs.length → rest.length < fuel → acc.length + rest.length < sz → compA vs g t f n ρ fuel i acc S = .ok (acc ++ rest.filter q) S
  | _, _, 0, _, _, _, hf, _ => by omega
  | [], i, fuel + 1, acc, hd, hi, _, _ => by
    have hn : xs.length = i := by
      have := congrArg List.length hd
      rw [List.length_drop] at this
      simp only [List.length_nil] at this
      omega
    unfold compA
    rw [hS]
    simp only []
    have : xs[i]? = none := List.getElem?_eq_none (by omega)
    rw [this]
    simp only []
    rw [if_pos hn]
    simp
  | x :: rest, i, fuel + 1, acc, hd, hi, hf, ha => by
    have e : xs[i]? = some x := by
      have := congrArg (·[0]?) hd
      simpa using this
    obtain ⟨hlt, hx⟩ := List.getElem?_eq_some_iff.mp e
    have hd' : xs.drop (i + 1) = rest := by
      have := congrArg (List.drop 1) hd
      simpa using this
    simp only [List.length_cons] at hf ha
    obtain ⟨ρ1, e1, e2, e3⟩ := h x (hx ▸ List.getElem_mem hlt)
    unfold compA
    rw [hS]
    simp only []
    rw [e]
    simp only []
    rw [e1]
    simp only []
    rw [e2]
    cases hq : q x with
    | false =>
      simp only []
      rw [compA_filter hS h rest (i + 1) fuel acc hd' (by omega) (by omega) (by omega), List.filter_cons_of_neg (by rw [hq]; decide)]
    | true =>
      simp only []
      rw [e3]
      simp only []
      rw [if_pos (by omega), compA_filter hS h rest (i + 1) fuel (acc ++ [x]) hd' (by omega) (by omega) (by rw [List.length_append]; simp only [List.length_cons, List.length_nil]; omega), List.filter_cons_of_pos hq]
      simp
end Zed

namespace Zed
open PySem PySem.Spec PyProof.Rows L2 RZ

/-! ## sorted(set(t)), a tuple of ints -/
section
variable [TC : TabC] {P : Program} {w : World} {K : PySem.W.Frag} {mg : Str → Option Value} {base : Heap} {gq : Bool} {E : XK} {k : Nat} {N : List Str} {sc : Scope} {X : Cx} {p pos p2 q : Pos} {e : Expr} {fe : ED}
end
/-! ## str of a tuple, a list, an int -/
def strD : AD
  | [.tup xs], S => reprD [.tup xs] S
  | [.lst xs], S => reprD [.lst xs] S
  | [.int i], S => reprD [.int i] S
  | _, _ => .bad
def isDat : PyData → Bool
  | .int _ => true
  | .list _ => true
  | .tuple _ => true
  | _ => false
def rStrT (K : PySem.W.Frag) : List V → Hp → VK → Prop := fun xs H Q => ∃ x d, xs = [x] ∧ Dp K H x d ∧ isDat d = true ∧ d.showable = true ∧ d.hasDict = false ∧ d.depth ≤ 60 ∧ d.shown.length ≤ sizeLine ∧ Q (.str d.shown) H
section
variable [TC : TabC] [AM : AmbC] {K : PySem.W.Frag} {mg : Str → Option Value} {E : XK} {X : Cx} {B m m1 m2 : List Addr} {H H1 H2 : Hp} {S : Sto}
theorem cr_strT (hu : X.A.units + 64 < cLine) (hg : X.A.guards = some []) : CallR X (.type "str") (rStrT X.K) := by
  intro pins s σ H vs us Q I r h
  obtain ⟨x, d, rfl, hd, h0, h1, h2, h3, h4, q⟩ := h
  obtain ⟨u, rfl, ru⟩ := r.one
  cases hd with
  | non => cases h0
  | bl b => cases h0
  | str y => cases h0
  | int i =>
    obtain ⟨t, rfl⟩ := ru
    rw [PyData.shown_int] at q
    exact PySem.P.str_of_int (of_decide_eq_true h1) ⟨.str _, H, I.tok _, ⟨_, rfl⟩, q⟩
  | lst g1 g2 =>
    cases ru
    obtain ⟨as, rr⟩ := Dp.reads I _ _ _ (.lst g1 g2) rfl
    exact str_of_reads rr h1 (PyData.noDict_hsm h2) hg (by omega) (fun _ _ e => e) (fun h' u tk hk => ⟨.str _, H, I.kept hk, ⟨u, rfl⟩, q⟩) h4
  | tup g1 g2 =>
    cases ru
    obtain ⟨as, rr⟩ := Dp.reads I _ _ _ (.tup g1 g2) rfl
    exact str_of_reads rr h1 (PyData.noDict_hsm h2) hg (by omega) (fun _ _ e => e) (fun h' u tk hk => ⟨.str _, H, I.kept hk, ⟨u, rfl⟩, q⟩) h4
theorem b_strT : BiSp K mg E strD (rStrT K) := by
  intro B m H S ds vs Q rs r q
  have key : ∀ d : D, ds = [d] → (∀ p, toP S 60 d = some p → isDat p = true) → Aft K mg E B (Rep K B) m H (reprD [d] S) Q → rStrT K vs H Q := by
    intro d e hp q2
    subst e
    obtain ⟨v, rfl, r1⟩ := r.one
    unfold reprD at q2
    simp only [] at q2
    cases e1 : toP S 60 d with
    | none => rw [e1] at q2; exact q2.elim
    | some p =>
      rw [e1] at q2
      simp only [] at q2
      split at q2
      · rename_i hh
        exact ⟨v, p, rfl, dp_of rs 60 e1 r1, hp p e1, hh.1, hh.2.1, hh.2.2.1, by rw [← sz_eq]; exact hh.2.2.2, q2.same rs (.str _)⟩
      · exact q2.elim
  unfold strD at q
  split at q
  · rename_i xs
    refine key _ rfl (fun p e => ?_) q
    unfold toP at e
    simp only [] at e
    split at e
    · cases e; rfl
    · cases e
  · rename_i xs
    refine key _ rfl (fun p e => ?_) q
    unfold toP at e
    simp only [] at e
    split at e
    · cases e; rfl
    · cases e
  · exact key _ rfl (fun p e => by cases e; rfl) q
  · exact q.elim
end
section
variable [TC : TabC] {P : Program} {w : World} {K : PySem.W.Frag} {mg : Str → Option Value} {base : Heap} {gq : Bool} {E : XK} {k : Nat} {N : List Str} {sc : Scope} {X : Cx} {p pos : Pos} {e : Expr} {la : LD}
theorem XC.str (c : XC P w K mg base true E k N sc X) (hg : glo sc "str") (hm : mg "str" = none) (ha : PA X [e] (tDL K mg E la)) (he : starEach [e] X.env = (false, eval e X.env) :: starEach [] X.env := by rfl) : PE X (.Call (.Name "str" p) [e] [] pos) (tD K mg E (eBi strD la)) := by
  have h3 := c.K
  subst h3
  exact d_ty (cr_strT c.un (c.gds rfl)) b_strT (c.gl hg) (c.no hm) PyProof.Rows.boot_str ha (by decide) (by decide) he rfl
end
end Zed

namespace Zed
open PySem PySem.Spec PyProof.Rows L2 RZ
open PySem.Sem (wp)

/-! ## zip of a list and a tuple: two sources of any kind -/
/-- an iterator at j over what lies at l: it gives these, one after another -/
structure Src (prog : Program) (w : World) (j l : Addr) (vs : Array Value) (P : Heap → Nat → Prop) : Prop where
  mv : ∀ {h h' : Heap} {n : Nat}, P h n → (∀ o, h.get? j = some o → h'.get? j = some o) → (∀ o, h.get? l = some o → h'.get? l = some o) → P h' n
  ob : ∀ {h : Heap} {n : Nat}, P h n → ∃ o, h.get? j = some o ∧ ∀ v, o.data ≠ .cell v
  nx : ∀ {A : Around} {E : Value → Shared → Prop} {s : Shared} {n : Nat} {x : Value} {Q : Value → Shared → Prop}, P s.heap n → vs[n]? = some x → (∀ h', P h' (n + 1) → Heap.SameBut j s.heap h' → Q x { s with heap := h' }) → wpAny (model prog w) A (Builtin.SmallTypes.nextOf (.ref j)) Q E s
  en : ∀ {A : Around} {E : Value → Shared → Prop} {s : Shared} {n : Nat} {Q : Value → Shared → Prop}, A.handled = none → P s.heap n → vs[n]? = none → (∀ h' e, Heap.ExtBut j s.heap h' → (∃ o, h'.get? e = some o ∧ o.cls = .type "StopIteration") → E (.ref e) { s with heap := h' }) → wpAny (model prog w) A (Builtin.SmallTypes.nextOf (.ref j)) Q E s
section
variable {prog : Program} {w : World} {A : Around} {E : Value → Shared → Prop} {s : Shared}
variable {z TI O j1 j2 a1 a2 : Addr} {n1 n2 : Nat} {xs ys : Array Value} {u v : Value} {P1 P2 : Heap → Nat → Prop}
end
end Zed

namespace Zed
open PySem PySem.Spec PyProof.Rows L2 RZ

/-! ## zip(a list, a tuple): made, walked -/
section
variable {prog : Program} {w : World} {A : Around} {E : Value → Shared → Prop} {s : Shared}
end
section
variable [TC : TabC] [AM : AmbC] {mg : Str → Option Value} {E : XK} {X : Cx}
end
section
variable [TC : TabC] {P : Program} {w : World} {K : PySem.W.Frag} {mg : Str → Option Value} {base : Heap} {gq : Bool} {E : XK} {k : Nat} {N : List Str} {sc : Scope} {X : Cx} {p p2 pos : Pos} {a b : Expr} {la : LD}
end
end Zed

namespace Zed
open PySem PySem.Spec PyProof.Rows L2 RZ

/-! ## A draw from a feed whose next cell is its spot -/
structure SpotAt (i : Nat) (cs : List Int) (F : Int → Int → Int → Sto) : Prop where
  pd : ∀ {k l d v : Int} {f : ED} {r : En}, f (some (.ref i) :: r) (F k l d) = .ok (.int v) (F k l d) → sDPutD (eV 0) (eC (.str "drawn")) f (some (.ref i) :: r) (F k l d) = .ok (.nx (some (.ref i) :: r)) (F k l v)
  pl : ∀ {k l d v : Int} {f : ED} {r : En}, f (some (.ref i) :: r) (F k l d) = .ok (.int v) (F k l d) → sDPutD (eV 0) (eC (.str "left")) f (some (.ref i) :: r) (F k l d) = .ok (.nx (some (.ref i) :: r)) (F k v d)
  pn : ∀ {k l d v : Int} {f : ED} {r : En}, f (some (.ref i) :: r) (F k l d) = .ok (.int v) (F k l d) → sDPutD (eV 0) (eC (.str "spot")) f (some (.ref i) :: r) (F k l d) = .ok (.nx (some (.ref i) :: r)) (F v l d)
  gd : ∀ {k l d : Int} {r : En}, eBin dGetD (eV 0) (eC (.str "drawn")) (some (.ref i) :: r) (F k l d) = .ok (.int d) (F k l d)
  gl : ∀ {k l d : Int} {r : En}, eBin dGetD (eV 0) (eC (.str "left")) (some (.ref i) :: r) (F k l d) = .ok (.int l) (F k l d)
  gn : ∀ {k l d : Int} {r : En}, eBin dGetD (eV 0) (eC (.str "spot")) (some (.ref i) :: r) (F k l d) = .ok (.int k) (F k l d)
  gc : ∀ {k l d : Int} {r : En}, eBin dGetD (eV 0) (eC (.str "cells")) (some (.ref i) :: r) (F k l d) = .ok (.lst (cs.map .int)) (F k l d)
  len : ∀ k l d, (F k l d).length = (F 0 0 0).length
  frm : ∀ (g : GD) (ds : List D) (k l d : Int), Zed.frm g (.ref i :: ds) (F k l d) = g (.ref i :: ds) (F k l d)
end Zed

namespace Zed
open PySem PySem.Spec PyProof.Rows L2 RZ

/-! ## gcd, max, min -/
def gcdD : AD
  | [.int a, .int b], S => .ok (.int ((Nat.gcd a.natAbs b.natAbs : Nat) : Int)) S
  | _, _ => .bad
section
variable [TC : TabC] [AM : AmbC] {K : PySem.W.Frag} {mg : Str → Option Value} {E : XK} {X : Cx} {B m m1 m2 : List Addr} {H H1 H2 : Hp} {S : Sto}
theorem Reps.two {a b : D} {vs : List V} (h : Reps K B m H [a, b] vs) : ∃ v u, vs = [v, u] ∧ Rep K B m H a v ∧ Rep K B m H b u := by
  cases h with
  | cons r t =>
    obtain ⟨u, rfl, r2⟩ := t.one
    exact ⟨_, u, rfl, r, r2⟩
theorem b_gcd : BiSp K mg E gcdD rGcd := by
  intro B m H S ds vs Q rs r q
  unfold gcdD at q
  split at q
  · obtain ⟨v, u, rfl, r1, r2⟩ := r.two
    rw [r1.int_inv, r2.int_inv]
    exact ⟨_, _, rfl, q.same rs (.int _)⟩
  · exact q.elim
end
section
variable [TC : TabC] {P : Program} {w : World} {K : PySem.W.Frag} {mg : Str → Option Value} {base : Heap} {gq : Bool} {E : XK} {k : Nat} {N : List Str} {sc : Scope} {X : Cx} {p pos : Pos} {e e2 : Expr} {la : LD}
theorem XC.gcd (c : XC P w K mg base gq E k N sc X) (hg : glo sc "gcd") (hm : mg "gcd" = some (.builtin "math.gcd")) (ha : PA X [e, e2] (tDL K mg E la)) (he : starEach [e, e2] X.env = (false, eval e X.env) :: starEach [e2] X.env := by rfl) (hpl : (backTo pos (starEach [e2] X.env)).any (·.1) = false := by rfl) : PE X (.Call (.Name "gcd" p) [e, e2] [] pos) (tD K mg E (eBi gcdD la)) := by
  have h3 := c.K
  subst h3
  exact PE.to (pe_callBfun cr_gcd (c.gl hg) (by rw [c.mg]; exact hm) ha (by decide) he hpl) fun _ _ _ h => bi_to b_gcd h
end
end Zed

namespace Zed
open PySem PySem.Spec PyProof.Rows L2 RZ

/-! ## What a suite no longer looks at is forgotten -/
def lowE (n : Nat) : En → Bool
  | [] => true
  | none :: r => lowE n r
  | some d :: r => match low n 60 d with
    | true => lowE n r
    | false => false
section
variable [TC : TabC] {K : PySem.W.Frag} {mg : Str → Option Value} {E : XK} {B m m1 : List Addr} {H H1 : Hp} {S : Sto} {X : Cx}
theorem RepEn.veil {n : Nat} (hn : n ≤ m.length) : ∀ {ρ : En} {σ : L2.St}, lowE n ρ = true → RepEn K B m H ρ σ → RepEn K (B ++ m.drop n) (m.take n) H ρ σ
  | _, _, _, .nil => .nil
  | none :: _, _, hl, .cons _ t => .cons (by trivial) (RepEn.veil hn hl t)
  | some d :: _, b :: _, hl, .cons r t => by
    unfold lowE at hl
    split at hl
    · rename_i e
      refine .cons ?_ (RepEn.veil hn hl t)
      cases b with
      | none => exact r
      | some v => exact Rep.veil n hn 60 e r
    · cases hl
end
end Zed

namespace Zed
open PySem PySem.Spec PyProof.Rows L2 RZ PpSet

/-! ## Sets of ints: comprehensions with two sources -/
section
variable {prog : Program} {w : World} {A : Around} {R : Result → Shared → Prop} {s : Shared} {el ta sa tb sb : Expr} {qa qb : List Expr} {sc : Scope} {ps : Pos} {it acc : Value} {env : Env}
end
section
variable {X : Cx}
end
end Zed

namespace Zed
open PySem PySem.Spec PyProof.Rows L2 RZ

/-! ## sorted of a set comprehension of ints with two sources -/
section
variable [TC : TabC] {P : Program} {w : World} {K : PySem.W.Frag} {mg : Str → Option Value} {base : Heap} {gq : Bool} {E : XK} {k : Nat} {N : List Str} {sc : Scope} {X : Cx} {p pos p2 : Pos} {i e tg : Expr} {fe : ED}
end
end Zed

namespace Zed
open PySem PySem.Spec PyProof.Rows L2 RZ

/-! ## The cells that a turn leaves behind are forgotten -/
section
variable [TC : TabC] {K : PySem.W.Frag} {mg : Str → Option Value} {E : XK} {B m m1 : List Addr} {H H1 : Hp} {S : Sto} {X : Cx}
end
end Zed

namespace Zed
open PySem PySem.Spec PyProof.Rows L2 RZ

/-! ## Behind a turn all slots but some are forgotten, and the cells that it left -/
def isIn (i : Nat) : List Nat → Bool
  | [] => false
  | k :: ks => match Nat.beq i k with | true => true | false => isIn i ks
def keepE (ks : List Nat) (i : Nat) : En → En
  | [] => []
  | d :: ρ => (match isIn i ks with | true => d | false => none) :: keepE ks (i + 1) ρ
section
variable [TC : TabC] {K : PySem.W.Frag} {mg : Str → Option Value} {E : XK} {B m m1 : List Addr} {H H1 : Hp} {S : Sto} {X : Cx}
theorem RepEn.keepE (ks : List Nat) : ∀ {ρ : En} {σ : L2.St} (i : Nat), RepEn K B m H ρ σ → RepEn K B m H (Zed.keepE ks i ρ) σ
  | _, _, _, .nil => .nil
  | d :: _, _, i, .cons r t => by
    unfold Zed.keepE
    refine .cons ?_ (RepEn.keepE ks (i + 1) t)
    split
    · exact r
    · trivial
end
/-! ## A loop over written items, each of which leaves all as it was -/
end Zed

namespace Zed
open PySem PySem.Spec PyProof.Rows L2 RZ

/-! ## Defs held as values, and called -/
def FvAt [TC : TabC] (P : Program) (w : World) (K : PySem.W.Frag) (mg : Str → Option Value) (base : Heap) (gq : Bool) (k n i : Nat) (g : GD) : Prop :=
  ∃ (a : Addr) (fd : FuncData) (ps : List Str) (j : Nat), TC.F[i]? = some a ∧ j ≤ k ∧ FnG P w K mg base gq j a fd ps (spG K mg n g) ∧ PySem.W.keepIn K (.ref a) = true ∧ Binds K fd ps []
def FvOk [TC : TabC] (P : Program) (w : World) (K : PySem.W.Frag) (mg : Str → Option Value) (base : Heap) (gq : Bool) (k n o : Nat) (gs : List (Option GD)) : Prop :=
  ∀ (i : Nat) (g : GD), gs[i]? = some (some g) → FvAt P w K mg base gq k n (o + i) g
def eCallV (n : Nat) (gs : List (Option GD)) (i : Nat) (la : LD) : ED := fun ρ S => match ρ[i]? with
  | some (some (.fn q)) => match gs[q]? with
    | some (some g) => eCall n g la ρ S
    | _ => .bad
  | _ => .bad
section
variable [TC : TabC] {P : Program} {w : World} {K : PySem.W.Frag} {mg : Str → Option Value} {base : Heap} {gq : Bool} {E : XK} {k j n o : Nat} {N : List Str} {sc : Scope} {X : Cx} {f : Addr} {fd : FuncData} {ps ks : List Str} {g : GD} {gs : List (Option GD)} {x : Str} {p pos : Pos} {e : Expr} {es : List Expr} {la : LD}
/-- x(e, ..), x a name of one's own -/
theorem XC.callV (c : XC P w K mg base gq E k N sc X) (i : Nat) (h : N[i]? = some x) (hv : Vis sc x) (F : FvOk P w K mg base gq k n 0 gs) (ha : PA X (e :: es) (tDL K mg E la)) (hdb : (x == ("__debug__" : Str)) = false := by decide) (hcd : (x == ("__classdict__" : Str)) = false := by decide)
    (he : starEach (e :: es) X.env = (false, eval e X.env) :: starEach es X.env := by rfl) (hpl : (backTo pos (starEach es X.env)).any (·.1) = false := by rfl) :
    PE X (.Call (.Name x p) (e :: es) [] pos) (tD K mg E (eCallV n gs i la)) := by
  have h6 := c.N
  have h7 := c.sc
  subst h6 h7
  refine ⟨fun pins s σ H Q I hh => ?_⟩
  obtain ⟨B, m, ρ, S, re, rs, q⟩ := hh
  unfold eCallV at q
  split at q
  · rename_i qi er
    split at q
    · rename_i g eg
      obtain ⟨v, hs, r⟩ := re.get er
      obtain ⟨a, rfl, hra⟩ := r.fn_inv
      obtain ⟨a', fd, ps, j, ha', hj, FF, hk, hb⟩ := F qi g eg
      rw [Nat.zero_add, hra] at ha'
      cases ha'
      have hk' : PySem.W.keepIn X.K (.ref a) = true := by rw [c.K]; exact hk
      refine wpAny_Call_Name_kw (thn ((pe_var (pos := p) h hv hdb hcd).run pins s σ H (fun v H1 => v = .ref a ∧ H1 = H) I ⟨.ref a, hs, rfl, rfl⟩) fun u s1 ⟨v, H1, I1, r1, q1⟩ => ?_)
      obtain ⟨rfl, rfl⟩ := q1
      cases r1
      refine PySem.W.callWith_K (h₀ := X.base) I1.ok.mod.kin hk' (thn (ha.run pos pins s1 σ _ _ I1 (partL re rs q)) ?_) he hpl
      rintro us s2 ⟨vs, H2, I2, r, m1, ds, S1, x1, re1, rs1, r1, q1⟩
      refine ⟨I2.kIn, ?_⟩
      split at q1
      · rename_i hl
        have hsp : spG K mg n g vs H2 Q E := ⟨B, m1, ds, S1, Nat.eq_of_beq_eq_true hl, r1, rs1, q1⟩
        have hlen : us.length = ps.length := by rw [← r.length]; exact FF.len _ _ _ _ hsp
        have kin : K.In s2.heap := by have := I2.kIn; rw [c.K] at this; exact this
        refine wpAny_call (codeAny_mono (c.run FF hj (us := us) (by have z := hb s2 us kin (by rw [List.append_nil]; exact hlen); rw [List.append_nil] at z; exact z) I2 r hsp) fun r s' z => ?_)
        cases r with
        | error er => exact z
        | ok fl => cases fl with
          | ret u => exact z
          | next => exact z.elim
          | brk => exact z.elim
          | cont => exact z.elim
      · exact q1.elim
    · exact q.elim
  · exact q.elim
end
end Zed

namespace Zed
open PySem PySem.Spec PyProof.Rows L2 RZ

/-! ## tuple(range(a, b, c)) -/
section
variable [TC : TabC] [AM : AmbC] {K : PySem.W.Frag} {B m : List Addr} {H : Hp}
end
section
variable {X : Cx}
end
section
variable [TC : TabC] {P : Program} {w : World} {K : PySem.W.Frag} {mg : Str → Option Value} {base : Heap} {gq : Bool} {E : XK} {k : Nat} {N : List Str} {sc : Scope} {X : Cx} {p p2 pos pos2 : Pos} {a b d : Expr} {la : LD}
end
end Zed

namespace Zed
open PySem PySem.Spec PyProof.Rows L2 RZ

/-! ## Texts walked sign by sign; a sign in a text -/
def signsD : List Nat → List D
  | [] => []
  | c :: cs => .str ⟨#[c]⟩ :: signsD cs
section
variable [TC : TabC] [AM : AmbC] {K : PySem.W.Frag} {mg : Str → Option Value} {E : XK} {B m : List Addr} {H : Hp} {S : Sto}
theorem signsD_len : ∀ {cs : List Nat}, (signsD cs).length = cs.length
  | [] => rfl
  | c :: cs => by simp [signsD, signsD_len]
theorem signsD_get : ∀ {cs : List Nat} {i : Nat}, (signsD cs)[i]? = (cs[i]?).map fun c => D.str ⟨#[c]⟩
  | [], _ => by simp [signsD]
  | c :: cs, 0 => by simp [signsD]
  | c :: cs, i + 1 => by simp [signsD, signsD_get]
theorem JAt.signs {x : Str} : JAt K B m H (signsD x.cps.toList) (Its x) := fun m' H' y => by
  rw [signsD_len, Array.length_toList]
  refine ⟨fun i hi => hi, Nat.le_refl _, fun i v H'' hi hy => ?_⟩
  obtain ⟨rfl, c, hc, rfl⟩ := hy
  refine .inl ⟨rfl, .str ⟨#[c]⟩, ?_, .str _⟩
  rw [signsD_get, Array.getElem?_toList, hc]
  rfl
end
section
variable [TC : TabC] {P : Program} {w : World} {K : PySem.W.Frag} {mg : Str → Option Value} {base : Heap} {gq : Bool} {E : XK} {k j n : Nat} {N : List Str} {sc : Scope} {X : Cx} {x : Str} {p pos : Pos} {e a b tg : Expr} {fe ff fg : ED}
end

/-! ## A draw from a feed of other names -/
structure SprAt (i : Nat) (cs : List Int) (F : Int → Int → Int → Sto) : Prop where
  pd : ∀ {k l d v : Int} {f : ED} {r : En}, f (some (.ref i) :: r) (F k l d) = .ok (.int v) (F k l d) → sDPutD (eV 0) (eC (.str "count")) f (some (.ref i) :: r) (F k l d) = .ok (.nx (some (.ref i) :: r)) (F k l v)
  pl : ∀ {k l d v : Int} {f : ED} {r : En}, f (some (.ref i) :: r) (F k l d) = .ok (.int v) (F k l d) → sDPutD (eV 0) (eC (.str "rest")) f (some (.ref i) :: r) (F k l d) = .ok (.nx (some (.ref i) :: r)) (F k v d)
  pn : ∀ {k l d v : Int} {f : ED} {r : En}, f (some (.ref i) :: r) (F k l d) = .ok (.int v) (F k l d) → sDPutD (eV 0) (eC (.str "next")) f (some (.ref i) :: r) (F k l d) = .ok (.nx (some (.ref i) :: r)) (F v l d)
  gd : ∀ {k l d : Int} {r : En}, eBin dGetD (eV 0) (eC (.str "count")) (some (.ref i) :: r) (F k l d) = .ok (.int d) (F k l d)
  gl : ∀ {k l d : Int} {r : En}, eBin dGetD (eV 0) (eC (.str "rest")) (some (.ref i) :: r) (F k l d) = .ok (.int l) (F k l d)
  gn : ∀ {k l d : Int} {r : En}, eBin dGetD (eV 0) (eC (.str "next")) (some (.ref i) :: r) (F k l d) = .ok (.int k) (F k l d)
  gc : ∀ {k l d : Int} {r : En}, eBin dGetD (eV 0) (eC (.str "cells")) (some (.ref i) :: r) (F k l d) = .ok (.lst (cs.map .int)) (F k l d)
  len : ∀ k l d, (F k l d).length = (F 0 0 0).length
  frm : ∀ (g : GD) (ds : List D) (k l d : Int), Zed.frm g (.ref i :: ds) (F k l d) = g (.ref i :: ds) (F k l d)
end Zed

namespace Zed
open PySem PySem.Spec PyProof.Rows L2 RZ

/-! ## Division by trial, told at once -/
section
variable (n : Int) (S : Sto)
end
end Zed

namespace Zed
open PySem PySem.Spec PyProof.Rows L2 RZ
/-! ## sorted(set(l)) of a list of rows that stand in order already -/
section
variable [TC : TabC] {K : PySem.W.Frag} {B m : List Addr} {H : Hp}
end
section
variable [TC : TabC] {P : Program} {w : World} {K : PySem.W.Frag} {mg : Str → Option Value} {base : Heap} {gq : Bool} {E : XK} {k : Nat} {N : List Str} {sc : Scope} {X : Cx} {p pos p2 q : Pos} {e : Expr} {fe : ED}
end
/-! ## x is True -/
section
variable [TC : TabC] [AM : AmbC] {K : PySem.W.Frag} {mg : Str → Option Value} {E : XK} {X : Cx}
end
end Zed

namespace Zed
open PySem PySem.Spec PyProof.Rows L2 RZ
/-! ## xs.extend(ys), ys a list -/
section
variable [TC : TabC] [AM : AmbC] {K : PySem.W.Frag} {mg : Str → Option Value} {E : XK} {X : Cx} {B m m1 m2 : List Addr} {H H1 H2 : Hp} {S : Sto} {o e : Expr} {f g : ED} {apos cpos : Pos}
theorem d_ext (ho : PE X o (tD X.K mg E f)) (he : PE X e (tD X.K mg E g)) (hbase : attributeBase o "extend" X.env (eval o X.env) = eval o X.env := by rfl)
    (hst : starEach (e :: []) X.env = (false, eval e X.env) :: starEach [] X.env := by rfl)
    (h30 : ((((backTo cpos (starEach (e :: []) X.env)).all fun x => !x.1) && (backToKw cpos (keywordEach [] X.env)).all fun x => x.1.isSome) && decide (((e :: []).length + ([] : List Keyword).length + if ([] : List Keyword).isEmpty = true then 0 else 1) < 30)) = true := by rfl)
    (hl : (apos.endLine == cpos.line) = true := by rfl) (hpl : (backTo cpos (starEach [] X.env)).any (·.1) = false := by rfl) :
    PE X (.Call (.Attribute o "extend" apos) [e] [] cpos) (tD X.K mg E (eExt f g)) := by
  refine PE.to (pe_bm PySem.F.plainAttrs_list PySem.F.slot_list_extend PySem.F.type_list_extend mt_extend ho (pa_cons he pa_nil hst) hbase h30 hl hst hpl) fun σ H Q h => ?_
  obtain ⟨B, m, ρ, S, re, rs, q⟩ := h
  refine (part re rs q).imp ?_
  rintro v H1 ⟨m1, d, S1, x1, re1, rs1, r1, q1⟩
  split at q1
  · rename_i nx e0
    obtain ⟨n0, xs0⟩ := nx
    obtain ⟨a, vs, rfl, h1, h2, h3⟩ := lst_of r1 rs1 e0
    refine ⟨.inl ⟨rfl, vs, SqL.of h2⟩, ?_⟩
    have z := part re1 rs1 q1
    obtain ⟨B', m', ρ', S', g1, g2, g3⟩ := z
    refine ⟨B', m', ρ', S', g1, g2, g3.imp ?_⟩
    rintro w H2 ⟨m2, y, S2, x2, re2, rs2, r2, q2⟩
    refine AftL.nil rs2 ?_
    split at q2
    · rename_i n xs ys e1 e2
      obtain ⟨a', ws, ea, k1, k2, k3⟩ := lst_of (r1.mono x2) rs2 e1
      cases ea
      obtain ⟨b, zs, rfl, hb, rz⟩ := r2.itemsW rs2 e2
      split at q2
      · rename_i hl
        have ha := List.mem_of_getElem? k1
        have xw := Ex.write (o := HO.lst (ws ++ zs)) rs2 ha
        exact ⟨a, b, ws, zs, rfl, rfl, k2, hb, by rw [← sz_eq, ← k3.length, ← rz.length]; exact hl, q2 m2 _ .non xw (rs2.write k1 (fun ps z => by rw [k2] at z; cases z) ⟨_, upd_same, (k3.append rz).mono xw⟩) .non⟩
      · exact q2.elim
    · exact q2.elim
  · exact q1.elim
end
section
variable [TC : TabC] {P : Program} {w : World} {K : PySem.W.Frag} {mg : Str → Option Value} {base : Heap} {gq : Bool} {E : XK} {k j n : Nat} {N : List Str} {sc : Scope} {X : Cx} {f : Addr} {fd : FuncData} {ps ks : List Str} {x : Str} {p p2 p3 pos pos' : Pos} {e a b o i : Expr} {es : List Expr} {la lb : LD} {fe ff fg fv : ED}
theorem XC.ext (c : XC P w K mg base gq E k N sc X) (ho : PE X o (tD K mg E ff)) (he : PE X e (tD K mg E fg)) (hbase : attributeBase o "extend" X.env (eval o X.env) = eval o X.env := by rfl)
    (hst : starEach (e :: []) X.env = (false, eval e X.env) :: starEach [] X.env := by rfl)
    (h30 : ((((backTo pos (starEach (e :: []) X.env)).all fun x => !x.1) && (backToKw pos (keywordEach [] X.env)).all fun x => x.1.isSome) && decide (((e :: []).length + ([] : List Keyword).length + if ([] : List Keyword).isEmpty = true then 0 else 1) < 30)) = true := by rfl)
    (hl : (p.endLine == pos.line) = true := by rfl) (hpl : (backTo pos (starEach [] X.env)).any (·.1) = false := by rfl) :
    PE X (.Call (.Attribute o "extend" p) [e] [] pos) (tD K mg E (eExt ff fg)) := by
  have h3 := c.K
  subst h3
  exact d_ext ho he hbase hst h30 hl hpl
end
end Zed

namespace Zed
open PySem PySem.Spec PyProof.Rows L2 RZ
/-! ## try: body / except c: suite -/
section
variable [TC : TabC] {P : Program} {w : World} {K : PySem.W.Frag} {mg : Str → Option Value} {base : Heap} {gq : Bool} {E : XK} {k j : Nat} {N : List Str} {sc : Scope} {X : Cx} {p pos pos' : Pos} {body suite : List Stmt} {b₀ : Stmt} {fb : SD} {fs : Exn → SD} {tb : List Ent} {c0 : Str}
end
end Zed

namespace Zed
open PySem PySem.Spec PyProof.Rows L2 RZ
/-! ## for x in range(a, b, c) -/
section
variable [TC : TabC] [AM : AmbC] {K : PySem.W.Frag} {mg : Str → Option Value} {E : XK} {X : Cx} {B m : List Addr} {H : Hp} {S : Sto} {tg : Expr}
end
section
variable [TC : TabC] {P : Program} {w : World} {K : PySem.W.Frag} {mg : Str → Option Value} {base : Heap} {gq : Bool} {E : XK} {k : Nat} {N : List Str} {sc : Scope} {X : Cx} {p pos : Pos} {a b d : Expr} {la : LD}
end
end Zed

namespace Zed
/-! ## Rows of numbers, modulo a prime -/
def dz : List Int → List Int → Int
  | a :: u, b :: w => a * b + dz u w
  | _, _ => 0
theorem dz_nil2 (w : List Int) : dz w [] = 0 := by cases w <;> rfl
theorem emod_dvd (y p : Int) : p ∣ y % p - y := ⟨-(y / p), by rw [Int.emod_def]; grind⟩
/-! ## One place cleared -/
/-- what the numbers of a row are -/
def RowI (p : Int) (n : Nat) (r : List Int) : Prop := r.length = n ∧ ∀ v ∈ r, 0 ≤ v ∧ v < p
theorem RowI.at {p : Int} {n : Nat} {r : List Int} (h : RowI p n r) (hp : 0 < p) (k : Nat) : 0 ≤ r.getD k 0 ∧ r.getD k 0 < p := by
  rw [List.getD_eq_getElem?_getD]
  cases e : r[k]? with
  | none => exact ⟨by simp, by simpa using hp⟩
  | some v =>
    have := h.2 v (List.mem_of_getElem? e)
    exact this
/-! ## Rows in reduced form, up to a place -/
structure RF (p : Int) (n s : Nat) (L F : List (List Int)) (hs : List Nat) : Prop where
  lr : ∀ r ∈ L, RowI p n r
  lz : ∀ r ∈ L, ∀ c, c < s → r.getD c 0 = 0
  fl : F.length = hs.length
  fr : ∀ r ∈ F, RowI p n r
  one : ∀ i, i < hs.length → (F.getD i []).getD (hs.getD i 0) 0 = 1
  off : ∀ i j, i < hs.length → j < hs.length → i ≠ j → (F.getD i []).getD (hs.getD j 0) 0 = 0
  bef : ∀ i, i < hs.length → ∀ c, c < hs.getD i 0 → (F.getD i []).getD c 0 = 0
  lt : ∀ h ∈ hs, h < s
section
variable {ov : Int → Int} {p : Int} {n s : Nat} {L F : List (List Int)} {hs : List Nat}
end
end Zed

namespace Zed
/-! ## All places cleared -/
section
variable {ov : Int → Int} {p : Int} {n : Nat}
end
/-! ## What keeps rows in reduced form -/
def lateG (p : Int) (spot : Nat) : List (Nat × List Int) → List Int → List Int
  | [], v => v
  | (h, r) :: t, v => lateG p spot t (v.set h ((-(r.getD spot 0)) % p))
theorem getD_set (v : List Int) (h c : Nat) (x : Int) : (v.set h x).getD c 0 = if h = c ∧ c < v.length then x else v.getD c 0 := by
  rw [List.getD_eq_getElem?_getD, List.getD_eq_getElem?_getD, List.getElem?_set]
  by_cases e : h = c
  · subst e
    by_cases l : h < v.length
    · simp [l]
    · simp [l]
  · simp [e]
theorem dz_set : ∀ (u v : List Int) (k : Nat) (x : Int), u.length = v.length → k < v.length → dz u (v.set k x) = dz u v + u.getD k 0 * (x - v.getD k 0)
  | [], [], k, x, _, h => absurd h (Nat.not_lt_zero k)
  | [], _ :: _, _, _, h, _ => by cases h
  | _ :: _, [], _, _, h, _ => by cases h
  | a :: u, b :: v, 0, x, _, _ => by
    show a * x + dz u v = a * b + dz u v + a * (x - b)
    grind
  | a :: u, b :: v, k + 1, x, h1, h2 => by
    have ih := dz_set u v k x (by simpa using h1) (by simpa using h2)
    show a * b + dz u (v.set k x) = a * b + dz u v + u.getD k 0 * (x - v.getD k 0)
    rw [ih]
    grind
theorem lateG_len (p : Int) (spot : Nat) : ∀ (z : List (Nat × List Int)) (v : List Int), (lateG p spot z v).length = v.length
  | [], _ => rfl
  | (h, r) :: t, v => by
    show (lateG p spot t (v.set h _)).length = _
    rw [lateG_len p spot t, List.length_set]
theorem lateG_keep (p : Int) (spot c : Nat) : ∀ (z : List (Nat × List Int)) (v : List Int), (∀ e ∈ z, e.1 ≠ c) → (lateG p spot z v).getD c 0 = v.getD c 0
  | [], _, _ => rfl
  | (h, r) :: t, v, hz => by
    show (lateG p spot t (v.set h _)).getD c 0 = _
    rw [lateG_keep p spot c t _ fun e he => hz e (List.mem_cons_of_mem _ he), getD_set, if_neg fun z => hz (h, r) List.mem_cons_self z.1]
theorem lateG_flat (p : Int) (spot : Nat) (u : List Int) : ∀ (z : List (Nat × List Int)) (v : List Int), u.length = v.length → (∀ e ∈ z, e.1 < v.length ∧ u.getD e.1 0 = 0) → dz u (lateG p spot z v) = dz u v
  | [], _, _, _ => rfl
  | (h, r) :: t, v, hl, hz => by
    obtain ⟨h1, h2⟩ := hz (h, r) List.mem_cons_self
    show dz u (lateG p spot t (v.set h _)) = _
    rw [lateG_flat p spot u t _ (by rw [List.length_set]; exact hl) fun e he => by rw [List.length_set]; exact hz e (List.mem_cons_of_mem _ he), dz_set u v h _ hl h1]
    have h2' : u.getD h 0 = 0 := h2
    rw [h2']
    grind
theorem lateG_app (p : Int) (spot : Nat) : ∀ (a b : List (Nat × List Int)) (v : List Int), lateG p spot (a ++ b) v = lateG p spot b (lateG p spot a v)
  | [], _, _ => rfl
  | (h, r) :: t, b, v => lateG_app p spot t b _
def unitV (n spot : Nat) : List Int := (List.range n).map fun k => if k = spot then 1 else 0
theorem unitV_at (n spot c : Nat) : (unitV n spot).getD c 0 = if c = spot ∧ c < n then 1 else 0 := by
  unfold unitV
  rw [List.getD_eq_getElem?_getD, List.getElem?_map]
  by_cases h : c < n
  · rw [List.getElem?_range h]
    by_cases e : c = spot
    · simp [e, h]
      omega
    · simp [e]
  · rw [List.getElem?_eq_none (by rw [List.length_range]; omega)]
    simp [h]
theorem dz_unit (u : List Int) (n spot : Nat) (hl : u.length = n) (hs : spot < n) : dz u (unitV n spot) = u.getD spot 0 := by
  have e : unitV n spot = (List.replicate n (0 : Int)).set spot 1 := by
    refine List.ext_getElem? fun c => ?_
    have h1 := unitV_at n spot c
    have h2 := getD_set (List.replicate n (0 : Int)) spot c 1
    have l1 : (unitV n spot).length = n := by unfold unitV; simp
    have l2 : ((List.replicate n (0 : Int)).set spot 1).length = n := by simp
    rcases Nat.lt_or_ge c n with hc | hc
    · rw [List.getElem?_eq_getElem (by omega), List.getElem?_eq_getElem (by omega)]
      rw [List.getD_eq_getElem?_getD, List.getElem?_eq_getElem (by omega)] at h1
      rw [List.getD_eq_getElem?_getD, List.getElem?_eq_getElem (by omega)] at h2
      simp only [Option.getD_some] at h1 h2
      rw [h1, h2]
      congr 1
      by_cases z : c = spot
      · subst z
        simp [hc]
      · have z' : ¬ spot = c := fun q => z q.symm
        simp [z, z', List.getD_eq_getElem?_getD, hc]
    · rw [List.getElem?_eq_none (by omega), List.getElem?_eq_none (by omega)]
  have z : ∀ (m : Nat) (w : List Int), dz w (List.replicate m 0) = 0 := by
    intro m
    induction m with
    | zero => intro w; exact dz_nil2 w
    | succ m ih =>
      intro w
      cases w with
      | nil => rfl
      | cons a w =>
        show a * 0 + dz w (List.replicate m 0) = 0
        rw [ih]
        grind
  rw [e, dz_set u _ spot 1 (by rw [List.length_replicate]; exact hl) (by rw [List.length_replicate]; exact hs), z]
  have : (List.replicate n (0 : Int)).getD spot 0 = 0 := by
    rw [List.getD_eq_getElem?_getD]
    simp [hs]
  rw [this]
  grind
def lateF (p : Int) (n spot : Nat) (hs : List Nat) (B : List (List Int)) : List Int := lateG p spot (hs.zip B) (unitV n spot)
theorem unitV_row {p : Int} (hp : 1 < p) (n spot : Nat) : RowI p n (unitV n spot) := by
  refine ⟨by unfold unitV; simp, fun v hv => ?_⟩
  unfold unitV at hv
  obtain ⟨k, _, rfl⟩ := List.mem_map.mp hv
  split <;> omega
/-! ## Words made of them -/
end Zed

namespace Zed
/-! ## Only one reduced form -/
section
variable {ov : Int → Int} {p : Int} {n : Nat}
end
section
variable {p : Int} {n : Nat} {B : List (List Int)} {hs : List Nat} {spot : Nat}
theorem gd {α : Type} (l : List α) (a : α) {i : Nat} (h : i < l.length) : l.getD i a = l[i] := by
  rw [List.getD_eq_getElem?_getD, List.getElem?_eq_getElem h]
  rfl
theorem RF.ne (h : RF p n n [] B hs) {i j : Nat} (hi : i < hs.length) (hj : j < hs.length) (hij : j ≠ i) : hs[j] ≠ hs[i] := fun z => by
  have h1 := h.one i hi
  have h2 := h.off i j hi hj (fun z => hij z.symm)
  rw [gd hs 0 hi] at h1
  rw [gd hs 0 hj, z, h1] at h2
  cases h2
theorem zip_cut (hl : B.length = hs.length) {i : Nat} (hi : i < hs.length) : hs.zip B = (hs.zip B).take i ++ (hs[i], B[i]'(by omega)) :: (hs.zip B).drop (i + 1) := by
  have hzi : i < (hs.zip B).length := by rw [List.length_zip]; omega
  have e1 : (hs.zip B)[i] = (hs[i], B[i]'(by omega)) := List.getElem_zip
  rw [← e1, ← List.drop_eq_getElem_cons hzi, List.take_append_drop]
theorem zip_t (hl : B.length = hs.length) (i : Nat) : ∀ e ∈ (hs.zip B).take i, ∃ j, ∃ hj : j < hs.length, j ≠ i ∧ e.1 = hs[j] := fun e he => by
  obtain ⟨j, hj, rfl⟩ := List.getElem_of_mem he
  rw [List.length_take, List.length_zip] at hj
  rw [List.getElem_take, List.getElem_zip]
  exact ⟨j, by omega, by omega, rfl⟩
theorem zip_d (hl : B.length = hs.length) (i : Nat) : ∀ e ∈ (hs.zip B).drop (i + 1), ∃ j, ∃ hj : j < hs.length, j ≠ i ∧ e.1 = hs[j] := fun e he => by
  obtain ⟨j, hj, rfl⟩ := List.getElem_of_mem he
  rw [List.length_drop, List.length_zip] at hj
  rw [List.getElem_drop, List.getElem_zip]
  exact ⟨i + 1 + j, by omega, by omega, rfl⟩
theorem late_no (h : RF p n n [] B hs) {c : Nat} (hc : c ∉ hs) : (lateF p n spot hs B).getD c 0 = if c = spot ∧ c < n then 1 else 0 := by
  unfold lateF
  rw [lateG_keep p spot c _ _ fun e he z => ?_, unitV_at]
  obtain ⟨j, hj, rfl⟩ := List.getElem_of_mem he
  rw [List.getElem_zip] at z
  exact hc (z ▸ List.getElem_mem _)
theorem late_hd (hp : 1 < p) (h : RF p n n [] B hs) {i : Nat} (hi : i < hs.length) : (lateF p n spot hs B).getD hs[i] 0 = (-((B.getD i []).getD spot 0)) % p := by
  have hl := h.fl
  have hlt : hs[i] < n := h.lt _ (List.getElem_mem hi)
  unfold lateF
  rw [zip_cut hl hi, lateG_app]
  have l1 : (lateG p spot ((hs.zip B).take i) (unitV n spot)).length = n := by rw [lateG_len]; exact (unitV_row hp n spot).1
  generalize lateG p spot ((hs.zip B).take i) (unitV n spot) = v at l1
  show (lateG p spot ((hs.zip B).drop (i + 1)) (v.set hs[i] _)).getD hs[i] 0 = _
  rw [lateG_keep p spot hs[i] _ _ fun e he => ?_, getD_set, if_pos ⟨rfl, by omega⟩, gd B [] (by omega)]
  obtain ⟨j, hj, hji, e1⟩ := zip_d hl i e he
  rw [e1]
  exact h.ne hi hj hji
/-- what a word made of one set of rows comes to on a row of another set with the same heads -/
theorem late_any (hp : 1 < p) (h : RF p n n [] B hs) (h1 : spot < n) (h2 : spot ∉ hs) {u : List Int} (hu : u.length = n) {i : Nat} (hi : i < hs.length) (one : u.getD hs[i] 0 = 1) (off : ∀ j (hj : j < hs.length), j ≠ i → u.getD hs[j] 0 = 0) : p ∣ dz u (lateF p n spot hs B) - (u.getD spot 0 - (B.getD i []).getD spot 0) := by
  have hl := h.fl
  have hlt : ∀ j (hj : j < hs.length), hs[j] < n := fun j hj => h.lt _ (List.getElem_mem hj)
  unfold lateF
  rw [zip_cut hl hi, lateG_app]
  have hv := unitV_row hp n spot
  have l1 : (lateG p spot ((hs.zip B).take i) (unitV n spot)).length = n := by rw [lateG_len]; exact hv.1
  have k1 : (lateG p spot ((hs.zip B).take i) (unitV n spot)).getD hs[i] 0 = 0 := by
    rw [lateG_keep p spot hs[i] _ _ fun e he => ?_, unitV_at, if_neg (fun z : hs[i] = spot ∧ hs[i] < n => h2 (z.1 ▸ List.getElem_mem hi))]
    obtain ⟨j, hj, hji, e1⟩ := zip_t hl i e he
    rw [e1]
    exact h.ne hi hj hji
  have d1 : dz u (lateG p spot ((hs.zip B).take i) (unitV n spot)) = u.getD spot 0 := by
    rw [lateG_flat p spot u _ _ (by rw [hu, hv.1]) fun e he => ?_, dz_unit _ n spot hu h1]
    obtain ⟨j, hj, hji, e1⟩ := zip_t hl i e he
    rw [e1, hv.1]
    exact ⟨hlt j hj, off j hj hji⟩
  generalize lateG p spot ((hs.zip B).take i) (unitV n spot) = v at l1 k1 d1
  show p ∣ dz u (lateG p spot ((hs.zip B).drop (i + 1)) (v.set hs[i] ((-((B[i]'(by omega)).getD spot 0)) % p))) - _
  rw [lateG_flat p spot u _ _ (by rw [List.length_set, hu, l1]) fun e he => ?_, dz_set _ _ _ _ (by rw [hu, l1]) (by rw [l1]; exact hlt i hi), d1, k1, one, gd B [] (by omega)]
  · obtain ⟨k, hk⟩ := emod_dvd (-((B[i]'(by omega)).getD spot 0)) p
    exact ⟨k, by grind⟩
  · obtain ⟨j, hj, hji, e1⟩ := zip_d hl i e he
    rw [List.length_set, e1, l1]
    exact ⟨hlt j hj, off j hj hji⟩
end
end Zed

namespace Zed
/-! ## Two reduced forms that the same words keep are one -/
section
variable {p : Int} {n : Nat} {F G : List (List Int)} {hs gs : List Nat}
end
section
variable {p : Int} {n : Nat} {ov ov' : Int → Int}
end
end Zed

namespace Zed
/-! ## Rows reduced one by one -/
def firstP (r : List Int) : Nat := r.findIdx fun a => a != 0
theorem firstP_at {r : List Int} {h : Nat} (h1 : r.getD h 0 ≠ 0) (h0 : ∀ c, c < h → r.getD c 0 = 0) : firstP r = h := by
  have hl : h < r.length := by
    rcases Nat.lt_or_ge h r.length with z | z
    · exact z
    · rw [List.getD_eq_getElem?_getD, List.getElem?_eq_none z] at h1
      exact absurd rfl h1
  refine (List.findIdx_eq hl).mpr ⟨?_, fun j hj => ?_⟩
  · rw [gd r 0 hl] at h1
    exact bne_iff_ne.mpr h1
  · have := h0 j hj
    rw [gd r 0 (by omega)] at this
    rw [this]
    rfl
section
variable {p : Int} {n : Nat}
/-- rows with their heads -/
def HdR (p : Int) (n : Nat) (hs : List Nat) (o : List Int) (h : Nat) : Prop := RowI p n o ∧ h < n ∧ o.getD h 0 = 1 ∧ (∀ c, c < h → o.getD c 0 = 0) ∧ ∀ k ∈ hs, k ≠ h → o.getD k 0 = 0
theorem HdR.first (hp : 1 < p) {hs : List Nat} {o : List Int} {h : Nat} (H : HdR p n hs o h) : firstP o = h := firstP_at (by rw [H.2.2.1]; decide) H.2.2.2.1
inductive HdL (p : Int) (n : Nat) (hs : List Nat) : List (List Int) → List Nat → Prop
  | nil : HdL p n hs [] []
  | cons {o : List Int} {h : Nat} {os : List (List Int)} {ks : List Nat} : HdR p n hs o h → HdL p n hs os ks → HdL p n hs (o :: os) (h :: ks)
theorem HdL.mono {hs hs' : List Nat} (hh : ∀ k ∈ hs', k ∈ hs) : ∀ {os : List (List Int)} {ks : List Nat}, HdL p n hs os ks → HdL p n hs' os ks
  | _, _, .nil => .nil
  | _, _, .cons H T => .cons ⟨H.1, H.2.1, H.2.2.1, H.2.2.2.1, fun k hk => H.2.2.2.2 k (hh k hk)⟩ (T.mono hh)
theorem HdL.mem : ∀ {hs : List Nat} {os : List (List Int)} {ks : List Nat}, HdL p n hs os ks → ∀ h ∈ ks, h < n
  | _, _, _, .cons H T, h, hm => by
    rcases List.mem_cons.mp hm with rfl | hm
    · exact H.2.1
    · exact T.mem h hm
theorem HdL.rows : ∀ {hs : List Nat} {os : List (List Int)} {ks : List Nat}, HdL p n hs os ks → ∀ o ∈ os, RowI p n o
  | _, _, _, .cons H T, o, hm => by
    rcases List.mem_cons.mp hm with rfl | hm
    · exact H.1
    · exact T.rows o hm
end
end Zed

namespace Zed
/-! ## All rows reduced one by one -/
section
variable {ov : Int → Int} {p : Int} {n : Nat}
theorem HdL.len : ∀ {hs : List Nat} {os : List (List Int)} {ks : List Nat}, HdL p n hs os ks → os.length = ks.length
  | _, _, _, .nil => rfl
  | _, _, _, .cons _ T => by rw [List.length_cons, List.length_cons, T.len]
theorem HdL.get : ∀ {hs : List Nat} {os : List (List Int)} {ks : List Nat}, HdL p n hs os ks → ∀ i, i < ks.length → HdR p n hs (os.getD i []) (ks.getD i 0)
  | _, _, _, .cons H _, 0, _ => H
  | _, _, _, .cons _ T, i + 1, h => T.get i (Nat.lt_of_succ_lt_succ h)
end
end Zed

namespace Zed
/-! ## All that keeps some rows, whatever their pivots -/
structure PV (p : Int) (n : Nat) (B : List (List Int)) (hs : List Nat) : Prop where
  fl : B.length = hs.length
  fr : ∀ r ∈ B, RowI p n r
  lt : ∀ h ∈ hs, h < n
  one : ∀ i, i < hs.length → (B.getD i []).getD (hs.getD i 0) 0 = 1
  off : ∀ i j, i < hs.length → j < hs.length → i ≠ j → (B.getD i []).getD (hs.getD j 0) 0 = 0
theorem RF.pv {p : Int} {n : Nat} {B : List (List Int)} {hs : List Nat} (h : RF p n n [] B hs) : PV p n B hs := ⟨h.fl, h.fr, h.lt, h.one, h.off⟩
section
variable {p : Int} {n : Nat} {B : List (List Int)} {hs : List Nat} {spot : Nat}
theorem PV.ne (h : PV p n B hs) {i j : Nat} (hi : i < hs.length) (hj : j < hs.length) (hij : j ≠ i) : hs[j] ≠ hs[i] := fun z => by
  have h1 := h.one i hi
  have h2 := h.off i j hi hj (fun z => hij z.symm)
  rw [gd hs 0 hi] at h1
  rw [gd hs 0 hj, z, h1] at h2
  cases h2
theorem PV.late_no (h : PV p n B hs) {c : Nat} (hc : c ∉ hs) : (lateF p n spot hs B).getD c 0 = if c = spot ∧ c < n then 1 else 0 := by
  unfold lateF
  rw [lateG_keep p spot c _ _ fun e he z => ?_, unitV_at]
  obtain ⟨j, hj, rfl⟩ := List.getElem_of_mem he
  rw [List.getElem_zip] at z
  exact hc (z ▸ List.getElem_mem _)
theorem PV.late_hd (hp : 1 < p) (h : PV p n B hs) {i : Nat} (hi : i < hs.length) : (lateF p n spot hs B).getD hs[i] 0 = (-((B.getD i []).getD spot 0)) % p := by
  have hl := h.fl
  have hlt : hs[i] < n := h.lt _ (List.getElem_mem hi)
  unfold lateF
  rw [zip_cut hl hi, lateG_app]
  have l1 : (lateG p spot ((hs.zip B).take i) (unitV n spot)).length = n := by rw [lateG_len]; exact (unitV_row hp n spot).1
  generalize lateG p spot ((hs.zip B).take i) (unitV n spot) = v at l1
  show (lateG p spot ((hs.zip B).drop (i + 1)) (v.set hs[i] _)).getD hs[i] 0 = _
  rw [lateG_keep p spot hs[i] _ _ fun e he => ?_, getD_set, if_pos ⟨rfl, by omega⟩, gd B [] (by omega)]
  obtain ⟨j, hj, hji, e1⟩ := zip_d hl i e he
  rw [e1]
  exact h.ne hi hj hji
theorem PV.late_any (hp : 1 < p) (h : PV p n B hs) (h1 : spot < n) (h2 : spot ∉ hs) {u : List Int} (hu : u.length = n) {i : Nat} (hi : i < hs.length) (one : u.getD hs[i] 0 = 1) (off : ∀ j (hj : j < hs.length), j ≠ i → u.getD hs[j] 0 = 0) : p ∣ dz u (lateF p n spot hs B) - (u.getD spot 0 - (B.getD i []).getD spot 0) := by
  have hl := h.fl
  have hlt : ∀ j (hj : j < hs.length), hs[j] < n := fun j hj => h.lt _ (List.getElem_mem hj)
  unfold lateF
  rw [zip_cut hl hi, lateG_app]
  have hv := unitV_row hp n spot
  have l1 : (lateG p spot ((hs.zip B).take i) (unitV n spot)).length = n := by rw [lateG_len]; exact hv.1
  have k1 : (lateG p spot ((hs.zip B).take i) (unitV n spot)).getD hs[i] 0 = 0 := by
    rw [lateG_keep p spot hs[i] _ _ fun e he => ?_, unitV_at, if_neg (fun z : hs[i] = spot ∧ hs[i] < n => h2 (z.1 ▸ List.getElem_mem hi))]
    obtain ⟨j, hj, hji, e1⟩ := zip_t hl i e he
    rw [e1]
    exact h.ne hi hj hji
  have d1 : dz u (lateG p spot ((hs.zip B).take i) (unitV n spot)) = u.getD spot 0 := by
    rw [lateG_flat p spot u _ _ (by rw [hu, hv.1]) fun e he => ?_, dz_unit _ n spot hu h1]
    obtain ⟨j, hj, hji, e1⟩ := zip_t hl i e he
    rw [e1, hv.1]
    exact ⟨hlt j hj, off j hj hji⟩
  generalize lateG p spot ((hs.zip B).take i) (unitV n spot) = v at l1 k1 d1
  show p ∣ dz u (lateG p spot ((hs.zip B).drop (i + 1)) (v.set hs[i] ((-((B[i]'(by omega)).getD spot 0)) % p))) - _
  rw [lateG_flat p spot u _ _ (by rw [List.length_set, hu, l1]) fun e he => ?_, dz_set _ _ _ _ (by rw [hu, l1]) (by rw [l1]; exact hlt i hi), d1, k1, one, gd B [] (by omega)]
  · obtain ⟨k, hk⟩ := emod_dvd (-((B[i]'(by omega)).getD spot 0)) p
    exact ⟨k, by grind⟩
  · obtain ⟨j, hj, hji, e1⟩ := zip_d hl i e he
    rw [List.length_set, e1, l1]
    exact ⟨hlt j hj, off j hj hji⟩
end
section
variable {p : Int} {n : Nat} {B B' : List (List Int)} {hs hs' : List Nat}
end
end Zed

namespace Zed
/-! ## How many rows there are in reduced form -/
section
variable {p : Int} {n : Nat} {F G : List (List Int)} {hs : List Nat}
end
section
variable {p : Int} {n : Nat} {ov : Int → Int} {R : List (List Int)} {row : List Int}
end
section
variable {p : Int} {n : Nat} {F : List (List Int)} {hs : List Nat}
end
end Zed

namespace Zed
/-! ## As many pivots, however they are chosen -/
section
variable {p : Int} {n : Nat}
variable {ov : Int → Int} {B B' : List (List Int)} {hs hs' : List Nat}
end
end Zed

namespace Zed
/-! ## How many places are free -/
section
variable {p : Int} {n : Nat} {ov : Int → Int} {B B' : List (List Int)} {hs hs' : List Nat}
end
end Zed

namespace Zed
open PySem PySem.Spec PyProof.Rows L2 RZ
/-! ## Rows of numbers as values -/
def lI (r : List Int) : D := .lst (r.map .int)
def tI (r : List Int) : D := .tup (r.map .int)
theorem len_sz {n m : Nat} (h : n ≤ m) (hm : m ≤ 1000) : 0 + n ≤ sz := by
  have : (1000 : Nat) ≤ sz := by decide
  omega
theorem lc {f : ED} {la : LD} {ρ : En} {S : Sto} {x : D} {ys : List D} (h1 : f ρ S = .ok x S) (h2 : la ρ S = .ok ys S) : lCons f la ρ S = .ok (x :: ys) S := by
  unfold lCons
  rw [h1]
  simp only [R.bind]
  rw [h2]
theorem callN {n : Nat} {g : GD} {la : LD} {ρ : En} {S : Sto} {ds : List D} {d : D} (h1 : la ρ S = .ok ds S) (hn : ds.length = n) (h2 : g ds S = .ok d S) : eCall n g la ρ S = .ok d S := by
  unfold eCall
  rw [h1]
  simp only [R.bind]
  rw [show Nat.beq ds.length n = true by rw [hn]; exact Nat.beq_refl n]
  exact h2
theorem atI_nat {ds : List D} {k : Nat} {d : D} (e : ds[k]? = some d) : atI ds (k : Int) = some d := by
  obtain ⟨hk, _⟩ := List.getElem?_eq_some_iff.mp e
  unfold atI ixN
  rw [if_pos (by omega), if_pos (by omega)]
  show ds[(k : Int).toNat]? = some d
  rw [Int.toNat_natCast]
  exact e
/-! ## The rows of the program -/
section
variable {p : Int} {n : Nat} {S : Sto}
/-! ### first_place, places_of, cut_to -/
end
end Zed

namespace Zed
open PySem PySem.Spec PyProof.Rows L2 RZ
/-! ## Primes have no parts -/
theorem loopB_true : ∀ (k : Nat) (d n : Int), 0 ≤ d → loopB k d n = some true → ∀ e, d ≤ e → e * e ≤ n → n % e ≠ 0
  | 0, d, n, _, h => by cases h
  | k + 1, d, n, hn, h => by
    intro e hd he
    unfold loopB at h
    by_cases c : d * d ≤ n
    · rw [if_pos c] at h
      by_cases z : n % d = 0
      · rw [if_pos z] at h
        cases h
      · rw [if_neg z] at h
        rcases Int.lt_or_eq_of_le hd with hd | rfl
        · exact loopB_true k (d + 1) n (by omega) h e (by omega) he
        · exact z
    · exact absurd (Int.le_trans (Int.mul_le_mul hd hd hn (by omega)) he) c
theorem prime_parts {p : Int} (h : primeB p = true) {d : Int} (h0 : 0 < d) (hd : d ∣ p) : d = 1 ∨ d = p := by
  unfold primeB at h
  split at h
  · rename_i hp
    have hl : loopB 1000 2 p = some true := by
      cases e : loopB 1000 2 p with
      | none => rw [e] at h; cases h
      | some b => rw [e] at h; rw [show b = true from h]
    have key := loopB_true 1000 2 p (by decide) hl
    obtain ⟨q, hq⟩ := hd
    have hq0 : 0 < q := by
      rcases Int.lt_or_le 0 q with z | z
      · exact z
      · exfalso
        have : d * q ≤ 0 := Int.mul_nonpos_of_nonneg_of_nonpos (by omega) z
        omega
    rcases Int.lt_or_le d 2 with h2 | h2
    · exact .inl (by omega)
    · rcases Int.lt_or_le q 2 with hq2 | hq2
      · have : q = 1 := by omega
        subst this
        exact .inr (by rw [hq, Int.mul_one])
      · exfalso
        rcases Int.lt_or_le q d with z | z
        · have h1 : q * q ≤ p := by rw [hq]; exact Int.mul_le_mul_of_nonneg_right (by omega) (by omega)
          exact key q hq2 h1 (by rw [hq]; exact Int.mul_emod_left d q)
        · have h1 : d * d ≤ p := by rw [hq]; exact Int.mul_le_mul_of_nonneg_left z (by omega)
          exact key d h2 h1 (by rw [hq]; exact Int.mul_emod_right d q)
  · cases h
theorem log2_lt {i : Int} {B : Nat} (h : i.natAbs < 2 ^ B) : i.natAbs.log2 ≤ B := by
  by_cases z : i.natAbs = 0
  · rw [z]; simp
  · exact Nat.le_of_lt ((Nat.log2_lt z).mpr h)
section
variable {p x : Int} {S : Sto}
/-- what holds of the four numbers -/
structure OI (p x b a l r : Int) : Prop where
  a0 : 0 ≤ a ∧ a ≤ 1000000
  b0 : 0 ≤ b ∧ b ≤ 1000000
  kl : p ∣ l * x - b
  kr : p ∣ r * x - a
  cd : ∀ d : Int, d ∣ b → d ∣ a → d ∣ p ∧ d ∣ x
theorem OI.next {b a l r : Int} (h : OI p x b a l r) (ha : 0 < a) : OI p x a (b - b / a * a) r (l - b / a * r) ∧ b - b / a * a = b % a := by
  have e : b - b / a * a = b % a := by rw [Int.emod_def, Int.mul_comm]
  have m0 := Int.emod_nonneg b (show a ≠ 0 by omega)
  have m1 := Int.emod_lt_of_pos b ha
  refine ⟨⟨by rw [e]; have := h.a0; omega, h.a0, h.kr, ?_, ?_⟩, e⟩
  · obtain ⟨k, hk⟩ := h.kl
    obtain ⟨m, hm⟩ := h.kr
    exact ⟨k - b / a * m, by grind⟩
  · intro d h1 h2
    refine h.cd d ?_ h1
    obtain ⟨u, hu⟩ := h1
    obtain ⟨v, hv⟩ := h2
    exact ⟨v + b / a * u, by grind⟩
/-! ## inverse_of -/
def fbInv : SD := (sSeq (sPar 2 3 (lCons (eV 0) (lCons (eC (.int 1)) lNil))) (sSeq (sPar 4 5 (lCons (eV 1) (lCons (eC (.int 0)) lNil))) (sSeq (sWhile 64 (bB (eBin neOD (eV 2) (eC (.int 1)))) (sSeq (sAsg (eBin fdivD (eV 4) (eV 2)) (gN 6)) (sSeq (sPar 2 4 (lCons (eBin subD (eV 4) (eBin mulD' (eV 6) (eV 2))) (lCons (eV 2) lNil))) (sPar 3 5 (lCons (eBin subD (eV 5) (eBin mulD' (eV 6) (eV 3))) (lCons (eV 3) lNil)))))) (sRet (eBin modD (eV 3) (eV 1))))))
def mInv : GD := frm (fnD 7 fbInv)
/-- a: rest, r: worth, b: other, l: late -/
abbrev rI (p x b a l r : Int) (x6 : Option D) : En := [some (.int x), some (.int p), some (.int a), some (.int r), some (.int b), some (.int l), x6]
def iC : BD := (bB (eBin neOD (eV 2) (eC (.int 1))))
theorem OI.pos (hpr : primeB p = true) (hx : 0 < x ∧ x < p) {b a l r : Int} (h : OI p x b a l r) (ha : 0 < a) (h1 : a ≠ 1) : 0 < b - b / a * a := by
  obtain ⟨n1, e1⟩ := h.next ha
  have m0 := Int.emod_nonneg b (show a ≠ 0 by omega)
  rcases Int.lt_or_eq_of_le m0 with z | z
  · omega
  · exfalso
    have hab : a ∣ b := Int.dvd_of_emod_eq_zero z.symm
    obtain ⟨d1, d2⟩ := h.cd a hab (Int.dvd_refl a)
    rcases prime_parts hpr ha d1 with y | y
    · exact h1 y
    · rw [y] at d2
      have := Int.le_of_dvd hx.1 d2
      omega
end
/-- what makes 1 with each number, by the program's own def -/
def InvP (p : Int) (ov : Int → Int) : Prop := ∀ u, 0 < u → u < p → (∀ T, mInv [.int u, .int p] T = .ok (.int (ov u)) T) ∧ p ∣ u * ov u - 1 ∧ 0 ≤ ov u ∧ ov u < p
end Zed

namespace Zed
open PySem PySem.Spec PyProof.Rows L2 RZ
/-! ## cleared -/
section
variable {p : Int} {n : Nat} {S : Sto}
end
/-! ## joined -/
section
variable {p : Int} {n : Nat} {S : Sto} {ov : Int → Int}
end
end Zed

namespace Zed
open PySem PySem.Spec PyProof.Rows L2 RZ
/-! ## any of a row -/
/-! ## Order by signs -/
section
variable {p : Int} {n : Nat}
theorem HdL.each : ∀ {hs : List Nat} {os : List (List Int)} {ks : List Nat}, HdL p n hs os ks → ∀ o ∈ os, ∃ h ∈ ks, HdR p n hs o h
  | _, _, _, .nil, o, ho => nomatch ho
  | _, _, _, .cons H T, o, ho => by
    rcases List.mem_cons.mp ho with rfl | ho
    · exact ⟨_, List.mem_cons_self, H⟩
    · obtain ⟨h, hm, hr⟩ := T.each o ho
      exact ⟨h, List.mem_cons_of_mem _ hm, hr⟩
theorem HdL.mk : ∀ {hs : List Nat} (os : List (List Int)), (∀ o ∈ os, HdR p n hs o (firstP o)) → HdL p n hs os (os.map firstP)
  | _, [], _ => .nil
  | _, o :: os, h => .cons (h o List.mem_cons_self) (HdL.mk os fun q hq => h q (List.mem_cons_of_mem _ hq))
end
/-! ## reduced_rows -/
section
variable {p : Int} {n : Nat} {S : Sto} {ov : Int → Int}
theorem InvP.dv (hov : InvP p ov) : ∀ u, 0 < u → u < p → p ∣ u * ov u - 1 := fun u h1 h2 => (hov u h1 h2).2.1
end
end Zed

namespace Zed
open PySem PySem.Spec PyProof.Rows L2 RZ
/-! ## A store that begins with tables and has none behind -/
def Ft (S : Sto) : Prop := noT (S.drop (tblN S)) = true
theorem sameT_take : ∀ S : Sto, sameT (S.take (tblN S)) (S.take (tblN S)) = true
  | [] => rfl
  | .tbl q :: S => by
    have ih := sameT_take S
    show sameT (.tbl q :: S.take (tblN S)) (.tbl q :: S.take (tblN S)) = true
    unfold sameT
    rw [Nat.beq_refl q]
    exact ih
  | .lst _ :: _ => rfl
  | .dic _ :: _ => rfl
theorem lowS_tabs (n : Nat) : ∀ S : Sto, lowS n (S.take (tblN S)) = true
  | [] => rfl
  | .tbl q :: S => by
    have ih := lowS_tabs n S
    show lowS n (.tbl q :: S.take (tblN S)) = true
    unfold lowS
    exact ih
  | .lst _ :: _ => rfl
  | .dic _ :: _ => rfl
theorem frm_ft {g : GD} {ds : List D} {d : D} {S : Sto} (hS : Ft S) (hl : allL (low (tblN S) 60) ds = true) (e : g ds (S.take (tblN S)) = .ok d (S.take (tblN S))) : frm g ds S = .ok d S := by
  unfold Ft at hS
  unfold frm
  rw [hl, hS]
  simp only [e, sameT_take]
theorem frm_not {g : GD} {ds : List D} {S : Sto} (hl : allL (low (tblN S) 60) ds = false) : frm g ds S = g ds S := by
  unfold frm
  rw [hl]
/-! ## places_of -/
section
variable {S : Sto}
end
end Zed

namespace Zed
open PySem PySem.Spec PyProof.Rows L2 RZ
/-! ## A dict whose keys are places -/
/-! ## bound_row -/
section
variable {p : Int} {n : Nat} {ks : List Nat} {B : List (List Int)}
/-! ## bound_rows -/
variable {ov ov' : Int → Int} {rows : List (List Int)}
end
end Zed

namespace Zed
open PySem PySem.Spec PyProof.Rows L2 RZ
section
variable {p : Int} {n : Nat} {ks : List Nat} {B : List (List Int)} {ov ov' : Int → Int} {Rs : List (List Int)}
/-! ## What any word is, as far as the rows see it -/
end
end Zed

/-! ## Runs that draw, where no tables stand ahead of the feed -/
namespace Zed.N0
open PySem PySem.Spec PyProof.Rows L2 RZ
theorem feedAt0 (cs : List Int) (gs : Sto) : FeedAt 0 cs fun k l d => fdQ cs k l d :: gs where
  pd h := by unfold sDPutD; rw [h]; rfl
  pl h := by unfold sDPutD; rw [h]; rfl
  pn h := by unfold sDPutD; rw [h]; rfl
  gd := rfl
  gl := rfl
  gn := rfl
  gc := rfl
  len _ _ _ := rfl
  frm g ds k l d := by
    unfold Zed.frm
    have : allL (low (tblN (fdQ cs k l d :: gs)) 60) (.ref 0 :: ds) = false := rfl
    rw [this]
theorem feedQ0 (ns : List Int) (h : ns.length ≤ 63) : frm (fnD 2 fbFeedQ) [.scr ns] (tabS 0 0) = .ok (.ref 0) (tabS 0 0 ++ [fdQ ns 0 0 0]) := by
  have hb := feedQ_body ns h (tabS 0 0)
  have hf : fnD 2 fbFeedQ [.scr ns] (tabS 0 0) = .ok (.ref 0) (tabS 0 0 ++ [fdQ ns 0 0 0]) := by
    have hh : fnD 2 fbFeedQ [.scr ns] (tabS 0 0) = (match fbFeedQ [some (.scr ns), none] (tabS 0 0) with
      | .ok (.rt d') S' => closeD 0 d' S'
      | .ok (.nx _) S' => closeD 0 .non S'
      | .exc x S' => closeX 0 x S'
      | _ => .bad) := by
      generalize fbFeedQ = f
      rfl
    rw [hh, hb]
    rfl
  unfold frm
  have hlw : allL (low (tblN (tabS 0 0)) 60) [.scr ns] = true := rfl
  rw [hlw]
  have ht : List.take (tblN (tabS 0 0)) (tabS 0 0) = tabS 0 0 := rfl
  have hn : noT (List.drop (tblN (tabS 0 0)) (tabS 0 0)) = true := rfl
  rw [hn, ht, hf]
  rfl
def stQ (cs : List Int) (gs : Sto) (k l d : Int) : Sto := fdQ cs k l d :: gs
theorem stQ_len (cs : List Int) (gs : Sto) (k l d : Int) : (stQ cs gs k l d).length = gs.length + 1 := rfl
section
variable {cs : List Int} {gs : Sto}
/-- an expression | a test | expressions | a suite that returns | a def -/
def Dr (cs : List Int) (gs : Sto) (c : Nat) (f : ED) (ρ : En) (Q : D → Prop) : Prop := ∀ k l d : Int, 0 ≤ d → d + c ≤ 900000 → ∃ (y : D) (k' l' d' : Int), f ρ (stQ cs gs k l d) = .ok y (stQ cs gs k' l' d') ∧ d ≤ d' ∧ d' ≤ d + c ∧ Q y
def DrB (cs : List Int) (gs : Sto) (c : Nat) (f : BD) (ρ : En) (Q : Bool → Prop) : Prop := ∀ k l d : Int, 0 ≤ d → d + c ≤ 900000 → ∃ (y : Bool) (k' l' d' : Int), f ρ (stQ cs gs k l d) = .ok y (stQ cs gs k' l' d') ∧ d ≤ d' ∧ d' ≤ d + c ∧ Q y
def DrL (cs : List Int) (gs : Sto) (c : Nat) (f : LD) (ρ : En) (Q : List D → Prop) : Prop := ∀ k l d : Int, 0 ≤ d → d + c ≤ 900000 → ∃ (y : List D) (k' l' d' : Int), f ρ (stQ cs gs k l d) = .ok y (stQ cs gs k' l' d') ∧ d ≤ d' ∧ d' ≤ d + c ∧ Q y
def RunS (cs : List Int) (gs : Sto) (c : Nat) (f : SD) (ρ : En) (Q : D → Prop) : Prop := ∀ k l d : Int, 0 ≤ d → d + c ≤ 900000 → ∃ (y : D) (k' l' d' : Int), f ρ (stQ cs gs k l d) = .ok (.rt y) (stQ cs gs k' l' d') ∧ d ≤ d' ∧ d' ≤ d + c ∧ Q y
def DrG (cs : List Int) (gs : Sto) (c : Nat) (g : GD) (ds : List D) (Q : D → Prop) : Prop := ∀ k l d : Int, 0 ≤ d → d + c ≤ 900000 → ∃ (y : D) (k' l' d' : Int), g ds (stQ cs gs k l d) = .ok y (stQ cs gs k' l' d') ∧ d ≤ d' ∧ d' ≤ d + c ∧ Q y
variable {c c1 c2 : Nat} {f g : ED} {ρ : En} {Q Q1 Q2 : D → Prop} {y x : D} {n : Nat} {rest a : SD} {t : BD} {G : GD} {ds : List D} {la : LD}
theorem Dr.pure (e : ∀ k l d, f ρ (stQ cs gs k l d) = .ok y (stQ cs gs k l d)) (q : Q y) : Dr cs gs 0 f ρ Q := fun k l d _ _ => ⟨y, k, l, d, e k l d, by omega, by omega, q⟩
theorem Dr.imp (h : Dr cs gs c f ρ Q1) (i : ∀ y, Q1 y → Q y) : Dr cs gs c f ρ Q := fun k l d h0 h1 => by
  obtain ⟨y, k', l', d', e, a, b, q⟩ := h k l d h0 h1
  exact ⟨y, k', l', d', e, a, b, i y q⟩
theorem Dr.le (h : Dr cs gs c1 f ρ Q) (i : c1 ≤ c) : Dr cs gs c f ρ Q := fun k l d h0 h1 => by
  obtain ⟨y, k', l', d', e, a, b, q⟩ := h k l d h0 (by omega)
  exact ⟨y, k', l', d', e, a, by omega, q⟩
theorem RunS.le (h : RunS cs gs c1 rest ρ Q) (i : c1 ≤ c) : RunS cs gs c rest ρ Q := fun k l d h0 h1 => by
  obtain ⟨y, k', l', d', e, a, b, q⟩ := h k l d h0 (by omega)
  exact ⟨y, k', l', d', e, a, by omega, q⟩
theorem Dr.bin {o : OD} (hf : Dr cs gs c1 f ρ Q1) (hg : Dr cs gs c2 g ρ Q2) (ho : ∀ y z, Q1 y → Q2 z → ∃ w, (∀ k l d, o y z (stQ cs gs k l d) = .ok w (stQ cs gs k l d)) ∧ Q w) : Dr cs gs (c1 + c2) (eBin o f g) ρ Q := fun k l d h0 h1 => by
  obtain ⟨y, k1, l1, d1, e1, a1, b1, q1⟩ := hf k l d h0 (by omega)
  obtain ⟨z, k2, l2, d2, e2, a2, b2, q2⟩ := hg k1 l1 d1 (by omega) (by omega)
  obtain ⟨w, e3, q3⟩ := ho y z q1 q2
  refine ⟨w, k2, l2, d2, ?_, by omega, by omega, q3⟩
  unfold eBin
  rw [e1]
  simp only [R.bind]
  rw [e2]
  exact e3 k2 l2 d2
theorem DrB.of {Q : Bool → Prop} {b : Bool} (e : ∀ k l d, t ρ (stQ cs gs k l d) = .ok b (stQ cs gs k l d)) (q : Q b) : DrB cs gs 0 t ρ Q := fun k l d _ _ => ⟨b, k, l, d, e k l d, by omega, by omega, q⟩
theorem DrB.any {Q : Bool → Prop} (h : DrB cs gs c t ρ Q) : DrB cs gs c t ρ fun _ => True := fun k l d h0 h1 => by
  obtain ⟨y, k', l', d', e, a, b, q⟩ := h k l d h0 h1
  exact ⟨y, k', l', d', e, a, b, trivial⟩
/-- x == a number -/
theorem DrB.eq {j : Int} (h : Dr cs gs c f ρ fun y => ∃ v, y = .int v) (hg : ∀ S, g ρ S = .ok (.int j) S) : DrB cs gs c (bB (eBin eqOD f g)) ρ fun _ => True := fun k l d h0 h1 => by
  obtain ⟨y, k', l', d', e, a, b, v, rfl⟩ := h k l d h0 h1
  refine ⟨decide (v = j), k', l', d', ?_, a, b, trivial⟩
  refine ev_bB ?_
  unfold eBin
  rw [e]
  simp only [R.bind]
  rw [hg]
  rfl
theorem DrB.or {u : BD} {P1 P2 Q : Bool → Prop} (h1 : DrB cs gs c1 t ρ P1) (h2 : P1 false → DrB cs gs c2 u ρ P2) (q1 : P1 true → Q true) (q2 : ∀ b, P1 false → P2 b → Q b) : DrB cs gs (c1 + c2) (bOr t u) ρ Q := fun k l d h0 hd => by
  obtain ⟨b, k1, l1, d1, e1, a1, b1, p1⟩ := h1 k l d h0 (by omega)
  cases b with
  | true =>
    refine ⟨true, k1, l1, d1, ?_, a1, by omega, q1 p1⟩
    unfold bOr
    rw [e1]
    rfl
  | false =>
    obtain ⟨b2, k2, l2, d2, e2, a2, bb2, p2⟩ := h2 p1 k1 l1 d1 (by omega) (by omega)
    refine ⟨b2, k2, l2, d2, ?_, by omega, by omega, q2 b2 p1 p2⟩
    unfold bOr
    rw [e1]
    exact e2
theorem DrL.nil : DrL cs gs 0 lNil ρ fun ys => ys = [] := fun k l d _ _ => ⟨[], k, l, d, rfl, by omega, by omega, rfl⟩
theorem DrL.cons {P : List D → Prop} (hf : Dr cs gs c1 f ρ Q1) (hl : DrL cs gs c2 la ρ P) : DrL cs gs (c1 + c2) (lCons f la) ρ fun ys => ∃ y r, ys = y :: r ∧ Q1 y ∧ P r := fun k l d h0 h1 => by
  obtain ⟨y, k1, l1, d1, e1, a1, b1, q1⟩ := hf k l d h0 (by omega)
  obtain ⟨r, k2, l2, d2, e2, a2, b2, q2⟩ := hl k1 l1 d1 (by omega) (by omega)
  refine ⟨y :: r, k2, l2, d2, ?_, by omega, by omega, y, r, rfl, q1, q2⟩
  unfold lCons
  rw [e1]
  simp only [R.bind]
  rw [e2]
theorem DrL.pure {ys : List D} (e : ∀ k l d, la ρ (stQ cs gs k l d) = .ok ys (stQ cs gs k l d)) : DrL cs gs 0 la ρ fun zs => zs = ys := fun k l d _ _ => ⟨ys, k, l, d, e k l d, by omega, by omega, rfl⟩
theorem Dr.tup {P : List D → Prop} (h : DrL cs gs c la ρ P) (hn : ∀ ys, P ys → ys.length ≤ 1000 ∧ Q (.tup ys)) : Dr cs gs c (eTup la) ρ Q := fun k l d h0 h1 => by
  obtain ⟨ys, k', l', d', e, a, b, p⟩ := h k l d h0 h1
  obtain ⟨n1, n2⟩ := hn ys p
  have : (1000 : Nat) ≤ sz := by decide
  refine ⟨.tup ys, k', l', d', ?_, a, b, n2⟩
  unfold eTup
  rw [e]
  simp only [R.bind]
  rw [if_pos (by omega)]
theorem Dr.call {k0 : Nat} {P : List D → Prop} (h : DrL cs gs c1 la ρ P) (hG : ∀ ys, P ys → ys.length = k0 ∧ DrG cs gs c2 G ys Q) : Dr cs gs (c1 + c2) (eCall k0 G la) ρ Q := fun k l d h0 h1 => by
  obtain ⟨ys, k1, l1, d1, e1, a1, b1, p⟩ := h k l d h0 (by omega)
  obtain ⟨n1, n2⟩ := hG ys p
  obtain ⟨y, k2, l2, d2, e2, a2, b2, q⟩ := n2 k1 l1 d1 (by omega) (by omega)
  refine ⟨y, k2, l2, d2, ?_, by omega, by omega, q⟩
  unfold eCall
  rw [e1]
  simp only [R.bind]
  have : Nat.beq ys.length k0 = true := by rw [n1]; simp
  rw [this]
  exact e2
theorem RunS.ret (h : Dr cs gs c f ρ Q) : RunS cs gs c (sRet f) ρ Q := fun k l d h0 h1 => by
  obtain ⟨y, k', l', d', e, a, b, q⟩ := h k l d h0 h1
  exact ⟨y, k', l', d', ev_ret e, a, b, q⟩
theorem RunS.retThen (h : Dr cs gs c f ρ Q) : RunS cs gs c (sSeq (sRet f) rest) ρ Q := fun k l d h0 h1 => by
  obtain ⟨y, k', l', d', e, a, b, q⟩ := h k l d h0 h1
  exact ⟨y, k', l', d', seq_rt (ev_ret e), a, b, q⟩
theorem RunS.asg (h : Dr cs gs c1 f ρ Q1) (hr : ∀ y, Q1 y → RunS cs gs c2 rest (ρ.set n (some y)) Q) : RunS cs gs (c1 + c2) (sSeq (sAsg f (gN n)) rest) ρ Q := fun k l d h0 h1 => by
  obtain ⟨y, k1, l1, d1, e1, a1, b1, q1⟩ := h k l d h0 (by omega)
  obtain ⟨z, k2, l2, d2, e2, a2, b2, q2⟩ := hr y q1 k1 l1 d1 (by omega) (by omega)
  refine ⟨z, k2, l2, d2, ?_, by omega, by omega, q2⟩
  rw [seq_nx (ev_asg e1)]
  exact e2
theorem RunS.par {i j : Nat} (hf : Dr cs gs c1 f ρ Q1) (hg : Dr cs gs c2 g ρ Q2) {c3 : Nat} (hr : ∀ y z, Q1 y → Q2 z → RunS cs gs c3 rest ((ρ.set i (some y)).set j (some z)) Q) : RunS cs gs (c1 + c2 + c3) (sSeq (sPar i j (lCons f (lCons g lNil))) rest) ρ Q := fun k l d h0 h1 => by
  obtain ⟨y, k1, l1, d1, e1, a1, b1, q1⟩ := hf k l d h0 (by omega)
  obtain ⟨z, k2, l2, d2, e2, a2, b2, q2⟩ := hg k1 l1 d1 (by omega) (by omega)
  obtain ⟨w, k3, l3, d3, e3, a3, b3, q3⟩ := hr y z q1 q2 k2 l2 d2 (by omega) (by omega)
  have ep : sPar i j (lCons f (lCons g lNil)) ρ (stQ cs gs k l d) = .ok (.nx ((ρ.set i (some y)).set j (some z))) (stQ cs gs k2 l2 d2) := by
    unfold sPar lCons
    rw [e1]
    simp only [R.bind]
    rw [e2]
    rfl
  refine ⟨w, k3, l3, d3, ?_, by omega, by omega, q3⟩
  rw [seq_nx ep]
  exact e3
theorem RunS.iff {P : Bool → Prop} (ht : DrB cs gs c1 t ρ P) (h1 : P true → RunS cs gs c2 a ρ Q) (h2 : P false → RunS cs gs c2 rest ρ Q) : RunS cs gs (c1 + c2) (sSeq (sIf t a sNext) rest) ρ Q := fun k l d h0 hd => by
  obtain ⟨b, k1, l1, d1, e1, a1, b1, p⟩ := ht k l d h0 (by omega)
  rw [ev_branch e1]
  cases b with
  | true =>
    obtain ⟨z, k2, l2, d2, e2, a2, b2, q2⟩ := h1 p k1 l1 d1 (by omega) (by omega)
    refine ⟨z, k2, l2, d2, ?_, by omega, by omega, q2⟩
    rw [if_pos rfl]
    exact seq_rt e2
  | false =>
    obtain ⟨z, k2, l2, d2, e2, a2, b2, q2⟩ := h2 p k1 l1 d1 (by omega) (by omega)
    refine ⟨z, k2, l2, d2, ?_, by omega, by omega, q2⟩
    have hz : sNext ρ (stQ cs gs k1 l1 d1) = .ok (.nx ρ) (stQ cs gs k1 l1 d1) := rfl
    rw [if_neg (by decide), seq_nx hz]
    exact e2
theorem frmQ (g : GD) (ds : List D) (k l d : Int) : frm g (.ref 0 :: ds) (stQ cs gs k l d) = g (.ref 0 :: ds) (stQ cs gs k l d) := (feedAt0 cs gs).frm g ds k l d
/-- a def that makes no cells of its own -/
theorem RunS.def {m : Nat} {fb : SD} (eG : G = frm (fnD m fb)) (er : (D.ref 0 :: ds).map some ++ List.replicate (m - (D.ref 0 :: ds).length) none = ρ) (h : RunS cs gs c fb ρ Q) : DrG cs gs c G (.ref 0 :: ds) Q := fun k l d h0 h1 => by
  obtain ⟨y, k', l', d', e, a, b, q⟩ := h k l d h0 h1
  refine ⟨y, k', l', d', ?_, a, b, q⟩
  rw [eG, frmQ]
  exact fnD_to er e (closeD_same rfl)
end
/-- the draws themselves -/
theorem drawQ {cs : List Int} {gs : Sto} {a0 a1 a2 a3 a4 a5 a6 a7 a8 a9 a10 : Int} {G : GD} (eG : G = frm (fnD 7 (fbDraw a0 a1 a2 a3 a4 a5 a6 a7 a8 a9 a10))) (h2 : okNum a2) (h4 : okNum a4) (h1 : 0 < a1) (h5 : okNum a5) (h7 : okNum a7) (h8 : okNum a8) (h9 : 0 < a9) (h10 : 0 < a10 ∧ a10 < 1073741824) {many : Int} (hm : 0 < many ∧ many < 1073741824) : DrG cs gs 1 G [.ref 0, .int many] fun y => ∃ v, y = .int v ∧ 0 ≤ v ∧ v < many := fun k l d h0 hd => by
  obtain ⟨v, k', l', e, hv⟩ := draw_at (feedAt0 cs gs) h2 h4 h1 h5 h7 h8 h9 h10 k l d many hm ⟨h0, by omega⟩
  refine ⟨.int v, k', l', d + 1, ?_, by omega, by omega, v, rfl, hv⟩
  rw [eG, frmQ]
  exact e
/-- one item of some -/
theorem anyQ {cs : List Int} {gs : Sto} {draw G : GD} {x : D} {ds : List D} (hdr : ∀ many : Int, 0 < many ∧ many < 1073741824 → DrG cs gs 1 draw [.ref 0, .int many] fun y => ∃ v, y = .int v ∧ 0 ≤ v ∧ v < many)
    (eG : G = frm (fnD 2 (sRet (eBin itemD (eV 1) (eCall 2 draw (lCons (eV 0) (lCons (eBi lenD (lCons (eV 1) lNil)) lNil))))))) (hn : 0 < ds.length ∧ ds.length ≤ 1000) (hl : ∀ k l d, lenD [x] (stQ cs gs k l d) = .ok (.int ds.length) (stQ cs gs k l d)) (hi : ∀ (v : Int) (y : D) k l d, atI ds v = some y → itemD x (.int v) (stQ cs gs k l d) = .ok y (stQ cs gs k l d)) : DrG cs gs 1 G [.ref 0, x] fun y => y ∈ ds := by
  refine RunS.def eG rfl ?_
  refine RunS.ret (c := 0 + (0 + 1)) (Dr.bin (Q1 := fun y => y = x) (Q2 := fun y => ∃ v, y = .int v ∧ 0 ≤ v ∧ v < ds.length) (Dr.pure (fun _ _ _ => rfl) rfl) (Dr.call (P := fun ys => ys = [.ref 0, .int ds.length]) (DrL.pure fun k l d => ?_) fun ys e => ⟨by rw [e]; rfl, by rw [e]; exact hdr ds.length ⟨by omega, by omega⟩⟩) ?_)
  · show (R.bind (R.bind (lenD [x] (stQ cs gs k l d)) _) _ : R (List D)) = _
    rw [hl]
    rfl
  · rintro y z rfl ⟨v, rfl, h0, h1⟩
    have hv : v.toNat < ds.length := by omega
    refine ⟨ds[v.toNat], fun k l d => hi v _ k l d ?_, List.getElem_mem hv⟩
    unfold atI ixN
    rw [if_pos h0, if_pos h1]
    exact List.getElem?_eq_getElem hv
section
variable {cs : List Int} {gs : Sto} {c c1 c2 : Nat} {f g a b : ED} {ρ : En} {Q : D → Prop} {t : BD}
theorem Dr.ite (ht : DrB cs gs c1 t ρ fun _ => True) (h1 : Dr cs gs c2 a ρ Q) (h2 : Dr cs gs c2 b ρ Q) : Dr cs gs (c1 + c2) (eIf t a b) ρ Q := fun k l d h0 hd => by
  obtain ⟨v, k1, l1, d1, e1, a1, b1, _⟩ := ht k l d h0 (by omega)
  cases v with
  | true =>
    obtain ⟨y, k2, l2, d2, e2, a2, b2, q⟩ := h1 k1 l1 d1 (by omega) (by omega)
    exact ⟨y, k2, l2, d2, (ev_ifE e1).trans ((if_pos rfl).trans e2), by omega, by omega, q⟩
  | false =>
    obtain ⟨y, k2, l2, d2, e2, a2, b2, q⟩ := h2 k1 l1 d1 (by omega) (by omega)
    exact ⟨y, k2, l2, d2, (ev_ifE e1).trans ((if_neg (by decide)).trans e2), by omega, by omega, q⟩
theorem DrB.cmp {p : Int → Int → Bool} {j : Int} (h : Dr cs gs c f ρ fun y => ∃ v, y = .int v) (hg : ∀ S, g ρ S = .ok (.int j) S) : DrB cs gs c (bB (eBin (cmpI p) f g)) ρ fun _ => True := fun k l d h0 h1 => by
  obtain ⟨y, k', l', d', e, a, b, v, rfl⟩ := h k l d h0 h1
  refine ⟨p v j, k', l', d', ?_, a, b, trivial⟩
  refine ev_bB ?_
  unfold eBin
  rw [e]
  simp only [R.bind]
  rw [hg]
  rfl
theorem compN_dr {vs : List Nat} {gt : GT} : ∀ (ds : List D) (i : Nat) (k l d : Int), (∀ x ∈ ds, ∃ ρ1, gt x (wipeE ρ vs) = some ρ1 ∧ Dr cs gs c f ρ1 Q) → i + ds.length ≤ sz → 0 ≤ d → d + (c * ds.length : Nat) ≤ 900000 → ∃ (ys : List D) (k' l' d' : Int), compN vs gt bYes f ρ i ds (stQ cs gs k l d) = .ok ys (stQ cs gs k' l' d') ∧ d ≤ d' ∧ d' ≤ d + (c * ds.length : Nat) ∧ ys.length = ds.length ∧ ∀ y ∈ ys, Q y
  | [], i, k, l, d, _, _, _, _ => ⟨[], k, l, d, rfl, by omega, by omega, rfl, by simp⟩
  | x :: ds, i, k, l, d, h, hi, h0, hd => by
    simp only [List.length_cons, Nat.mul_succ] at hi hd ⊢
    obtain ⟨ρ1, e1, hf⟩ := h x List.mem_cons_self
    obtain ⟨y, k1, l1, d1, e2, a1, b1, q⟩ := hf k l d h0 (by omega)
    obtain ⟨ys, k2, l2, d2, e3, a2, b2, n2, q2⟩ := compN_dr ds (i + 1) k1 l1 d1 (fun z hz => h z (List.mem_cons_of_mem _ hz)) (by omega) (by omega) (by omega)
    refine ⟨y :: ys, k2, l2, d2, ?_, by omega, by omega, by simp only [List.length_cons, n2], ?_⟩
    · unfold compN
      rw [e1]
      simp only [bYes]
      rw [e2]
      simp only []
      rw [if_pos (by omega), e3]
      rfl
    · intro z hz
      rcases List.mem_cons.mp hz with rfl | hz
      · exact q
      · exact q2 z hz
end
end Zed.N0

namespace Zed.Wp
open PySem PySem.Spec PyProof.Rows L2 RZ
/-! ## Ground values: no cells in them -/
def Gr (k : Nat) (d : D) : Prop := low 0 k d = true
theorem allL_at {f : D → Bool} : ∀ {ds : List D}, allL f ds = true → ∀ d ∈ ds, f d = true
  | [], _, d, hd => by cases hd
  | x :: ds, h, d, hd => by
    unfold allL at h
    split at h
    · rename_i e
      rcases List.mem_cons.mp hd with z | z
      · rw [z]; exact e
      · exact allL_at h d z
    · cases h
theorem low_up : ∀ (k : Nat) {n m : Nat} (_ : n ≤ m) {d : D}, low n k d = true → low m k d = true
  | 0, _, _, _, _, h => by cases h
  | k + 1, n, m, hnm, d, h => by
    cases d with
    | ref i =>
      have h' : Nat.blt i n = true := h
      show Nat.blt i m = true
      rw [Nat.blt_eq] at h' ⊢
      omega
    | tup xs => exact allL_of fun x hx => low_up k hnm (allL_at (show allL (low n k) xs = true from h) x hx)
    | lst xs => exact allL_of fun x hx => low_up k hnm (allL_at (show allL (low n k) xs = true from h) x hx)
    | exv => cases h
    | _ => rfl
theorem low_more : ∀ (k : Nat) {j n : Nat} (_ : k ≤ j) {d : D}, low n k d = true → low n j d = true
  | 0, _, _, _, _, h => by cases h
  | k + 1, 0, _, h0, _, _ => by omega
  | k + 1, j + 1, n, hkj, d, h => by
    cases d with
    | tup xs => exact allL_of fun x hx => low_more k (by omega) (allL_at (show allL (low n k) xs = true from h) x hx)
    | lst xs => exact allL_of fun x hx => low_more k (by omega) (allL_at (show allL (low n k) xs = true from h) x hx)
    | exv => cases h
    | _ => exact h
theorem lowC_up {n m : Nat} (hnm : n ≤ m) {c : Cell} (h : lowC n c = true) : lowC m c = true := by
  cases c with
  | lst xs => exact allL_of fun x hx => low_up 60 hnm (allL_at (show allL (low n 60) xs = true from h) x hx)
  | dic kvs => exact allL_of fun x hx => low_up 60 hnm (allL_at (show allL (low n 60) (kvs.map (·.2)) = true from h) x hx)
  | tbl q => rfl
theorem lowS_iff {n : Nat} : ∀ {S : Sto}, lowS n S = true ↔ ∀ c ∈ S, lowC n c = true
  | [] => by simp [lowS]
  | c :: S => by
    have ih := lowS_iff (n := n) (S := S)
    unfold lowS
    cases h : lowC n c with
    | true => simp only [ih, List.forall_mem_cons, h, true_and]
    | false => simp only [List.forall_mem_cons, h]; simp
theorem lowS_up {n m : Nat} (hnm : n ≤ m) {S : Sto} (h : lowS n S = true) : lowS m S = true := lowS_iff.mpr fun c hc => lowC_up hnm (lowS_iff.mp h c hc)
theorem frzL_same {f : D → Option D} : ∀ {xs : List D}, (∀ x ∈ xs, f x = some x) → frzL f xs = some xs
  | [], _ => rfl
  | x :: xs, h => by
    have ih := frzL_same (f := f) (xs := xs) fun y hy => h y (List.mem_cons_of_mem _ hy)
    unfold frzL
    rw [h x List.mem_cons_self, ih]
theorem Gr.frz : ∀ {k : Nat} {d : D}, Gr k d → ∀ (n : Nat) (S : Sto), frzD n S k d = some d
  | 0, _, h, _, _ => by cases h
  | k + 1, d, h, n, S => by
    cases d with
    | ref i => simp [Gr, low] at h
    | exv => cases h
    | tup xs =>
      have := frzL_same (f := frzD n S k) (xs := xs) fun x hx => Gr.frz (allL_at (show allL (low 0 k) xs = true from h) x hx) n S
      unfold frzD
      rw [this]
    | lst xs =>
      have := frzL_same (f := frzD n S k) (xs := xs) fun x hx => Gr.frz (allL_at (show allL (low 0 k) xs = true from h) x hx) n S
      unfold frzD
      rw [this]
    | _ => rfl
theorem Gr.tup {k : Nat} {xs : List D} (h : ∀ x ∈ xs, Gr k x) : Gr (k + 1) (.tup xs) := allL_of h
theorem Gr.lst {k : Nat} {xs : List D} (h : ∀ x ∈ xs, Gr k x) : Gr (k + 1) (.lst xs) := allL_of h
theorem Gr.up {k j : Nat} {d : D} (h : Gr k d) (hk : k ≤ j) : Gr j d := low_more k hk h
theorem Gr.int (k : Nat) (i : Int) : Gr (k + 1) (.int i) := rfl
theorem Gr.tI (k : Nat) (r : List Int) : Gr (k + 2) (tI r) := Gr.tup fun x hx => by
  obtain ⟨v, _, rfl⟩ := List.mem_map.mp hx
  exact Gr.int k v
theorem Gr.lI (k : Nat) (r : List Int) : Gr (k + 2) (lI r) := Gr.lst fun x hx => by
  obtain ⟨v, _, rfl⟩ := List.mem_map.mp hx
  exact Gr.int k v
theorem Gr.rowsT (k : Nat) (R : List (List Int)) : Gr (k + 3) (.tup (R.map Zed.tI)) := Gr.tup fun x hx => by
  obtain ⟨v, _, rfl⟩ := List.mem_map.mp hx
  exact Gr.tI k v
theorem allL_cons {f : D → Bool} {d : D} {ds : List D} (h1 : f d = true) (h2 : allL f ds = true) : allL f (d :: ds) = true := by
  unfold allL
  rw [h1]
  exact h2
/-! ## What stands ahead of a def's own cells -/
structure Fm where
  P : Nat → Sto → Prop
  n : Nat
  T : Nat
  len : ∀ {c B}, P c B → B.length = n
  lw : ∀ {c B}, P c B → lowS 0 B = true
  tb : ∀ {c B gs}, P c B → noT gs = true → tblN (B ++ gs) = T ∧ noT ((B ++ gs).drop T) = true
  le : ∀ {c c' B}, c ≤ c' → P c' B → P c B
def Fd (A : Fm) (gs : Sto) (c : Nat) (S : Sto) : Prop := ∃ B, A.P c B ∧ S = B ++ gs ∧ lowS 0 gs = true ∧ noT gs = true
section
variable {A : Fm} {gs : Sto} {c c' : Nat} {S : Sto}
theorem Fd.le (h : Fd A gs c' S) (i : c ≤ c') : Fd A gs c S := by
  obtain ⟨B, p, e, l, t⟩ := h
  exact ⟨B, A.le i p, e, l, t⟩
theorem Fd.tbl (h : Fd A gs c S) : tblN S = A.T := by
  obtain ⟨B, p, rfl, l, t⟩ := h
  exact (A.tb p t).1
theorem Fd.ft (h : Fd A gs c S) : Ft S := by
  have e := h.tbl
  obtain ⟨B, p, rfl, l, t⟩ := h
  unfold Ft
  rw [e]
  exact (A.tb p t).2
theorem Fd.len (h : Fd A gs c S) : S.length = A.n + gs.length := by
  obtain ⟨B, p, rfl, l, t⟩ := h
  rw [List.length_append, A.len p]
theorem Fd.at (h : Fd A gs c S) (i : Nat) : S[A.n + i]? = gs[i]? := by
  obtain ⟨B, p, rfl, l, t⟩ := h
  rw [List.getElem?_append_right (by rw [A.len p]; omega), A.len p]
  congr 1
  omega
theorem Fd.push (h : Fd A gs c S) {xs : List D} (hx : ∀ x ∈ xs, Gr 60 x) : Fd A (gs ++ [.lst xs]) c (S ++ [.lst xs]) := by
  obtain ⟨B, p, rfl, l, t⟩ := h
  refine ⟨B, p, by rw [List.append_assoc], ?_, noT_app t rfl⟩
  rw [lowS_iff] at l ⊢
  intro c hc
  rcases List.mem_append.mp hc with hc | hc
  · exact l c hc
  · rw [List.mem_singleton.mp hc]
    exact allL_of hx
theorem noT_set : ∀ {gs : Sto} (i : Nat) (xs : List D), noT gs = true → noT (gs.set i (.lst xs)) = true
  | [], _, _, _ => rfl
  | .tbl _ :: _, _, _, h => by cases h
  | .lst _ :: gs, 0, _, h => h
  | .dic _ :: gs, 0, _, h => h
  | .lst _ :: gs, i + 1, xs, h => noT_set (gs := gs) i xs h
  | .dic _ :: gs, i + 1, xs, h => noT_set (gs := gs) i xs h
theorem Fd.set (h : Fd A gs c S) {i : Nat} {xs : List D} (hx : ∀ x ∈ xs, Gr 60 x) : Fd A (gs.set i (.lst xs)) c (S.set (A.n + i) (.lst xs)) := by
  obtain ⟨B, p, rfl, l, t⟩ := h
  refine ⟨B, p, ?_, ?_, noT_set i xs t⟩
  · rw [List.set_append_right _ _ (by rw [A.len p]; omega), A.len p]
    congr 2
    omega
  · rw [lowS_iff] at l ⊢
    intro c hc
    rcases List.mem_or_eq_of_mem_set hc with hc | rfl
    · exact l c hc
    · exact allL_of hx
end
/-- tables alone: a def that draws nothing -/
def pureF (B0 : Sto) (h0 : tblN B0 = B0.length) : Fm where
  P _ B := B = B0
  n := B0.length
  T := B0.length
  len h := by rw [h]
  lw h := by
    rw [h]
    have := lowS_tabs 0 B0
    rw [h0, List.take_length] at this
    exact this
  tb {c B gs} h t := by
    subst h
    refine ⟨?_, by rw [List.drop_left]; exact t⟩
    clear c
    induction B with
    | nil =>
      show tblN gs = 0
      cases gs with
      | nil => rfl
      | cons c gs => cases c <;> first | rfl | cases t
    | cons c B ih =>
      cases c with
      | tbl q =>
        have h1 : tblN B = B.length := by simpa [tblN] using h0
        have := ih h1
        simpa [tblN] using this
      | lst xs => simp [tblN] at h0
      | dic xs => simp [tblN] at h0
  le _ h := h
theorem tabS_noT : ∀ (T i : Nat) (gs : Sto) , noT gs = true → tblN (tabS i T ++ gs) = T
  | 0, _, gs, t => by
    show tblN gs = 0
    cases gs with
    | nil => rfl
    | cons c gs => cases c <;> first | rfl | cases t
  | T + 1, i, gs, t => by
    have := tabS_noT T (i + 1) gs t
    simpa [tabS, tblN] using this
theorem lowS_tabS : ∀ (T i : Nat), lowS 0 (tabS i T) = true
  | 0, _ => rfl
  | T + 1, i => by
    show lowS 0 (.tbl i :: tabS (i + 1) T) = true
    unfold lowS
    exact lowS_tabS T (i + 1)
/-- a feed behind T tables, of which so many draws may be taken -/
def feedF (T : Nat) (F : Int → Int → Int → Cell) (hl : ∀ k l d, lowC 0 (F k l d) = true) (ht : ∀ k l d, noT [F k l d] = true) : Fm where
  P c B := ∃ k l d : Int, B = tabS 0 T ++ [F k l d] ∧ 0 ≤ d ∧ d + c ≤ 900000
  n := T + 1
  T := T
  len h := by
    obtain ⟨k, l, d, rfl, _⟩ := h
    rw [List.length_append, tabS_len]
    rfl
  lw h := by
    obtain ⟨k, l, d, rfl, _⟩ := h
    rw [lowS_iff]
    intro c hc
    rcases List.mem_append.mp hc with hc | hc
    · exact lowS_iff.mp (lowS_tabS T 0) c hc
    · rw [List.mem_singleton.mp hc]
      exact hl k l d
  tb {_ _ gs} h t := by
    obtain ⟨k, l, d, rfl, _⟩ := h
    have hn := noT_app (ht k l d) t
    rw [List.append_assoc]
    refine ⟨tabS_noT T 0 _ hn, ?_⟩
    have e := List.drop_left (l₁ := tabS 0 T) (l₂ := [F k l d] ++ gs)
    rw [tabS_len] at e
    rw [e]
    exact hn
  le hc h := by
    obtain ⟨k, l, d, e, h0, h1⟩ := h
    exact ⟨k, l, d, e, h0, by omega⟩
/-! ## Runs, by what is behind them -/
def WE (f : ED) (ρ : En) (S : Sto) (Q : D → Sto → Prop) : Prop := ∃ d S', f ρ S = .ok d S' ∧ Q d S'
def WB (t : BD) (ρ : En) (S : Sto) (Q : Bool → Sto → Prop) : Prop := ∃ d S', t ρ S = .ok d S' ∧ Q d S'
def WL (la : LD) (ρ : En) (S : Sto) (Q : List D → Sto → Prop) : Prop := ∃ d S', la ρ S = .ok d S' ∧ Q d S'
def WG (g : GD) (ds : List D) (S : Sto) (Q : D → Sto → Prop) : Prop := ∃ d S', g ds S = .ok d S' ∧ Q d S'
def WN (a : SD) (ρ : En) (S : Sto) (Q : En → Sto → Prop) : Prop := ∃ ρ' S', a ρ S = .ok (.nx ρ') S' ∧ Q ρ' S'
def WR (a : SD) (ρ : En) (S : Sto) (Q : D → Sto → Prop) : Prop := ∃ d S', a ρ S = .ok (.rt d) S' ∧ Q d S'
section
variable {f g h : ED} {a b : SD} {t u : BD} {la : LD} {G : GD} {ρ : En} {S : Sto} {n i j : Nat} {d x y : D} {ds : List D}
variable {Q Q1 : D → Sto → Prop} {QB : Bool → Sto → Prop} {QL : List D → Sto → Prop} {QN : En → Sto → Prop}
theorem WE.imp (w : WE f ρ S Q1) (q : ∀ d S', Q1 d S' → Q d S') : WE f ρ S Q := by
  obtain ⟨d, S', e, z⟩ := w
  exact ⟨d, S', e, q _ _ z⟩
theorem WE.of (e : f ρ S = .ok d S) (q : Q d S) : WE f ρ S Q := ⟨d, S, e, q⟩
theorem WE.var (e : ρ[i]? = some (some d)) (q : Q d S) : WE (eV i) ρ S Q := ⟨d, S, by unfold eV; rw [e], q⟩
theorem WE.cst (q : Q d S) : WE (eC d) ρ S Q := ⟨d, S, rfl, q⟩
theorem WE.bin {o : OD} (w : WE f ρ S fun x S1 => WE g ρ S1 fun y S2 => ∃ z, o x y S2 = .ok z S2 ∧ Q z S2) : WE (eBin o f g) ρ S Q := by
  obtain ⟨x, S1, e1, y, S2, e2, z, e3, q⟩ := w
  refine ⟨z, S2, ?_, q⟩
  unfold eBin
  rw [e1]
  simp only [R.bind]
  rw [e2]
  exact e3
theorem WL.nil (q : QL [] S) : WL lNil ρ S QL := ⟨[], S, rfl, q⟩
theorem WL.cons (w : WE f ρ S fun x S1 => WL la ρ S1 fun xs S2 => QL (x :: xs) S2) : WL (lCons f la) ρ S QL := by
  obtain ⟨x, S1, e1, xs, S2, e2, q⟩ := w
  refine ⟨_, S2, ?_, q⟩
  unfold lCons
  rw [e1]
  simp only [R.bind]
  rw [e2]
theorem WL.of (e : la ρ S = .ok ds S) (q : QL ds S) : WL la ρ S QL := ⟨ds, S, e, q⟩
theorem WE.tup (w : WL la ρ S fun xs S1 => xs.length ≤ 1000 ∧ Q (.tup xs) S1) : WE (eTup la) ρ S Q := by
  obtain ⟨xs, S1, e1, hl, q⟩ := w
  have : (1000 : Nat) ≤ sz := by decide
  refine ⟨_, S1, ?_, q⟩
  unfold eTup
  rw [e1]
  simp only [R.bind]
  rw [if_pos (by omega)]
theorem WE.frz (w : WL la ρ S fun xs S1 => Q (.lst xs) S1) : WE (eFrz la) ρ S Q := by
  obtain ⟨xs, S1, e1, q⟩ := w
  refine ⟨_, S1, ?_, q⟩
  unfold eFrz
  rw [e1]
  rfl
theorem WE.call (w : WL la ρ S fun xs S1 => xs.length = n ∧ WG G xs S1 Q) : WE (eCall n G la) ρ S Q := by
  obtain ⟨xs, S1, e1, hn, z, S2, e2, q⟩ := w
  refine ⟨z, S2, ?_, q⟩
  unfold eCall
  rw [e1]
  simp only [R.bind]
  rw [show Nat.beq xs.length n = true by rw [hn]; exact Nat.beq_refl n]
  exact e2
theorem WE.iff (w : WB t ρ S fun v S1 => (v = true → WE f ρ S1 Q) ∧ (v = false → WE g ρ S1 Q)) : WE (eIf t f g) ρ S Q := by
  obtain ⟨v, S1, e1, h1, h2⟩ := w
  cases v with
  | true =>
    obtain ⟨z, S2, e2, q⟩ := h1 rfl
    refine ⟨z, S2, ?_, q⟩
    unfold eIf
    rw [e1]
    exact e2
  | false =>
    obtain ⟨z, S2, e2, q⟩ := h2 rfl
    refine ⟨z, S2, ?_, q⟩
    unfold eIf
    rw [e1]
    exact e2
theorem WB.of {v : Bool} (e : t ρ S = .ok v S) (q : QB v S) : WB t ρ S QB := ⟨v, S, e, q⟩
theorem WB.imp {QB1 : Bool → Sto → Prop} (w : WB t ρ S QB1) (q : ∀ d S', QB1 d S' → QB d S') : WB t ρ S QB := by
  obtain ⟨d, S', e, z⟩ := w
  exact ⟨d, S', e, q _ _ z⟩
theorem WB.bB (w : WE f ρ S fun d S1 => ∃ v, d = .bl v ∧ QB v S1) : WB (bB f) ρ S QB := by
  obtain ⟨d, S1, e1, v, rfl, q⟩ := w
  exact ⟨v, S1, ev_bB e1, q⟩
theorem WB.bT (w : WE f ρ S fun d S1 => ∃ v, d = .bl v ∧ QB v S1) : WB (bT f) ρ S QB := by
  obtain ⟨d, S1, e1, v, rfl, q⟩ := w
  exact ⟨v, S1, ev_bT e1, q⟩
theorem WB.not (w : WB t ρ S fun v S1 => QB (!v) S1) : WB (bNot t) ρ S QB := by
  obtain ⟨v, S1, e1, q⟩ := w
  exact ⟨!v, S1, ev_not e1, q⟩
theorem WB.or (w : WB t ρ S fun v S1 => (v = true → QB true S1) ∧ (v = false → WB u ρ S1 QB)) : WB (bOr t u) ρ S QB := by
  obtain ⟨v, S1, e1, h1, h2⟩ := w
  cases v with
  | true =>
    refine ⟨true, S1, ?_, h1 rfl⟩
    unfold bOr
    rw [e1]
    rfl
  | false =>
    obtain ⟨z, S2, e2, q⟩ := h2 rfl
    refine ⟨z, S2, ?_, q⟩
    unfold bOr
    rw [e1]
    exact e2
theorem WB.and (w : WB t ρ S fun v S1 => (v = false → QB false S1) ∧ (v = true → WB u ρ S1 QB)) : WB (bAnd t u) ρ S QB := by
  obtain ⟨v, S1, e1, h1, h2⟩ := w
  cases v with
  | false =>
    refine ⟨false, S1, ?_, h1 rfl⟩
    unfold bAnd
    rw [e1]
    rfl
  | true =>
    obtain ⟨z, S2, e2, q⟩ := h2 rfl
    refine ⟨z, S2, ?_, q⟩
    unfold bAnd
    rw [e1]
    exact e2
/-! statements -/
theorem WN.seq (w : WN a ρ S fun ρ' S' => WN b ρ' S' QN) : WN (sSeq a b) ρ S QN := by
  obtain ⟨ρ1, S1, e1, ρ2, S2, e2, q⟩ := w
  exact ⟨ρ2, S2, (seq_nx e1).trans e2, q⟩
theorem WR.seq (w : WN a ρ S fun ρ' S' => WR b ρ' S' Q) : WR (sSeq a b) ρ S Q := by
  obtain ⟨ρ1, S1, e1, z, S2, e2, q⟩ := w
  exact ⟨z, S2, (seq_nx e1).trans e2, q⟩
theorem WR.ret (w : WE f ρ S Q) : WR (sRet f) ρ S Q := by
  obtain ⟨z, S2, e2, q⟩ := w
  exact ⟨z, S2, ev_ret e2, q⟩
theorem WN.asgG {gt : GT} (w : WE f ρ S fun d S1 => ∃ ρ', gt d ρ = some ρ' ∧ QN ρ' S1) : WN (sAsg f gt) ρ S QN := by
  obtain ⟨d, S1, e1, ρ', e2, q⟩ := w
  refine ⟨ρ', S1, ?_, q⟩
  unfold sAsg
  rw [e1]
  simp only [R.bind]
  rw [e2]
theorem WN.asg (w : WE f ρ S fun d S1 => QN (ρ.set n (some d)) S1) : WN (sAsg f (gN n)) ρ S QN := WN.asgG (w.imp fun d S1 q => ⟨_, rfl, q⟩)
theorem WN.nx (q : QN ρ S) : WN sNext ρ S QN := ⟨ρ, S, rfl, q⟩
theorem WN.par (w : WL la ρ S fun ds S1 => ∃ x y, ds = [x, y] ∧ QN ((ρ.set i (some x)).set j (some y)) S1) : WN (sPar i j la) ρ S QN := by
  obtain ⟨ds, S1, e1, x, y, rfl, q⟩ := w
  refine ⟨_, S1, ?_, q⟩
  unfold sPar
  rw [e1]
  rfl
theorem WN.iff (w : WB t ρ S fun v S1 => (v = true → WN a ρ S1 QN) ∧ (v = false → WN b ρ S1 QN)) : WN (sIf t a b) ρ S QN := by
  obtain ⟨v, S1, e1, h1, h2⟩ := w
  cases v with
  | true =>
    obtain ⟨ρ', S2, e2, q⟩ := h1 rfl
    refine ⟨ρ', S2, ?_, q⟩
    rw [ev_if e1]
    exact e2
  | false =>
    obtain ⟨ρ', S2, e2, q⟩ := h2 rfl
    refine ⟨ρ', S2, ?_, q⟩
    rw [ev_if e1]
    exact e2
/-- if t: return ..; rest -/
theorem WR.iff (w : WB t ρ S fun v S1 => (v = true → WR a ρ S1 Q) ∧ (v = false → WR b ρ S1 Q)) : WR (sSeq (sIf t a sNext) b) ρ S Q := by
  obtain ⟨v, S1, e1, h1, h2⟩ := w
  cases v with
  | true =>
    obtain ⟨ρ', S2, e2, q⟩ := h1 rfl
    refine ⟨ρ', S2, ?_, q⟩
    rw [ev_branch e1, if_pos rfl]
    exact seq_rt e2
  | false =>
    obtain ⟨ρ', S2, e2, q⟩ := h2 rfl
    refine ⟨ρ', S2, ?_, q⟩
    have hz : sNext ρ S1 = .ok (.nx ρ) S1 := rfl
    rw [ev_branch e1, if_neg (by decide), seq_nx hz]
    exact e2
/-- if t: return ..; and no return is reached -/
theorem WN.skip (w : WB t ρ S fun v S1 => v = false ∧ QN ρ S1) : WN (sIf t a sNext) ρ S QN := by
  obtain ⟨v, S1, e1, rfl, q⟩ := w
  refine ⟨ρ, S1, ?_, q⟩
  rw [ev_if e1, if_neg (by decide)]
  rfl
/-- a loop, by what holds behind so many turns -/
theorem WN.for {it : LD} {gt : GT} (I : Nat → En → Sto → Prop) (hi : it ρ S = .ok ds S) (h0 : I 0 ρ S) (hs : ∀ j d, ds[j]? = some d → ∀ ρ S, I j ρ S → ∃ ρ1, gt d ρ = some ρ1 ∧ WN a ρ1 S (I (j + 1))) (hq : ∀ ρ' S', I ds.length ρ' S' → QN ρ' S') : WN (sFor it gt a) ρ S QN := by
  obtain ⟨ρ', S', e, p⟩ := for_ix (P := I) (g := gt) (f := a) ds 0 (fun j d e ρ S p => by
    rw [Nat.zero_add] at p
    obtain ⟨ρ1, e1, ρ2, S2, e2, p2⟩ := hs j d e ρ S p
    exact ⟨ρ1, ρ2, S2, e1, e2, by rw [Nat.zero_add]; exact p2⟩) ρ S h0
  rw [Nat.zero_add] at p
  exact ⟨ρ', S', (for_of hi).trans e, hq _ _ p⟩
end
/-! ## Cells -/
section
variable {A : Fm} {gs : Sto} {c : Nat} {f g h : ED} {la : LD} {ρ : En} {S : Sto} {i : Nat} {xs : List D}
variable {Q : D → Sto → Prop} {QL : List D → Sto → Prop} {QN : En → Sto → Prop}
theorem Fd.lstOf (F : Fd A gs c S) (e : gs[i]? = some (.lst xs)) : Zed.lstOf S (.ref (A.n + i)) = some (A.n + i, xs) := by
  unfold Zed.lstOf
  simp only [F.at, e]
theorem Fd.itemsL (F : Fd A gs c S) (e : gs[i]? = some (.lst xs)) : Zed.itemsL S (.ref (A.n + i)) = some xs := by
  unfold Zed.itemsL
  simp only [F.at, e]
/-- xs.append(e) -/
theorem WE.app (hf : f ρ S = .ok (.ref (A.n + i)) S) (F0 : Fd A gs c S) (e0 : gs[i]? = some (.lst xs)) (w : WE g ρ S fun y S1 => ∃ (gs1 : Sto) (c1 : Nat) (xs1 : List D), Fd A gs1 c1 S1 ∧ gs1[i]? = some (.lst xs1) ∧ xs1.length < 10000 ∧ (∀ x ∈ xs1, Gr 60 x) ∧ Gr 60 y ∧ ∀ S2, Fd A (gs1.set i (.lst (xs1 ++ [y]))) c1 S2 → Q .non S2) : WE (eApp f g) ρ S Q := by
  obtain ⟨y, S1, e1, gs1, c1, xs1, F1, e2, hl, hx, hy, q⟩ := w
  have : (10000 : Nat) ≤ sz := by decide
  refine ⟨_, _, ?_, q _ (F1.set (i := i) (xs := xs1 ++ [y]) fun x hm => ?_)⟩
  · unfold eApp
    rw [hf]
    simp only [R.bind]
    rw [F0.lstOf e0]
    simp only []
    rw [e1]
    simp only []
    rw [F1.lstOf e2]
    simp only []
    rw [if_pos (by omega)]
  · rcases List.mem_append.mp hm with hm | hm
    · exact hx x hm
    · rw [List.mem_singleton.mp hm]
      exact hy
end
/-! ## Comprehensions that draw -/
inductive All2 (P : D → D → Prop) : List D → List D → Prop
  | nil : All2 P [] []
  | cons {x y : D} {xs ys : List D} : P x y → All2 P xs ys → All2 P (x :: xs) (y :: ys)
theorem All2.len {P : D → D → Prop} {xs ys : List D} (h : All2 P xs ys) : ys.length = xs.length := by
  induction h with
  | nil => rfl
  | cons _ _ ih => simp [ih]
theorem All2.mem {P : D → D → Prop} {xs ys : List D} (h : All2 P xs ys) : ∀ y ∈ ys, ∃ x ∈ xs, P x y := by
  induction h with
  | nil => intro y hy; cases hy
  | cons p _ ih =>
    intro y hy
    rcases List.mem_cons.mp hy with rfl | hy
    · exact ⟨_, List.mem_cons_self, p⟩
    · obtain ⟨x, hx, q⟩ := ih y hy
      exact ⟨x, List.mem_cons_of_mem _ hx, q⟩
section
variable {A : Fm} {gs : Sto} {c cost : Nat} {vs : List Nat} {gt : GT} {f : ED} {t : BD} {ρ : En} {P : D → D → Prop}
theorem compW : ∀ (ds : List D) (k : Nat) (S : Sto), Fd A gs (c + cost * ds.length) S → (∀ x ∈ ds, ∃ ρ1, gt x (wipeE ρ vs) = some ρ1 ∧ ∀ c' S1, Fd A gs (c' + cost) S1 → WE f ρ1 S1 fun y S2 => Fd A gs c' S2 ∧ P x y) → k + ds.length ≤ sz → ∃ ys S', compN vs gt bYes f ρ k ds S = .ok ys S' ∧ Fd A gs c S' ∧ All2 P ds ys
  | [], _, S, F, _, _ => ⟨[], S, rfl, by simpa using F, .nil⟩
  | x :: ds, k, S, F, h, hl => by
    simp only [List.length_cons] at hl
    obtain ⟨ρ1, e1, w⟩ := h x List.mem_cons_self
    have F' : Fd A gs ((c + cost * ds.length) + cost) S := by
      rw [List.length_cons, Nat.mul_succ] at F
      exact F.le (by omega)
    obtain ⟨y, S1, e2, F1, p⟩ := w _ S F'
    obtain ⟨ys, S2, e3, F2, p2⟩ := compW ds (k + 1) S1 F1 (fun z hz => h z (List.mem_cons_of_mem _ hz)) (by omega)
    refine ⟨y :: ys, S2, ?_, F2, .cons p p2⟩
    unfold compN
    rw [e1]
    simp only [bYes]
    rw [e2]
    simp only []
    rw [if_pos (by omega), e3]
    rfl
theorem WL.comp {it : LD} {ds : List D} {S : Sto} {QL : List D → Sto → Prop} (hi : it ρ S = .ok ds S) (F : Fd A gs (c + cost * ds.length) S) (hl : ds.length ≤ 1000) (h : ∀ x ∈ ds, ∃ ρ1, gt x (wipeE ρ vs) = some ρ1 ∧ ∀ c' S1, Fd A gs (c' + cost) S1 → WE f ρ1 S1 fun y S2 => Fd A gs c' S2 ∧ P x y) (q : ∀ ys S', Fd A gs c S' → All2 P ds ys → QL ys S') : WL (lComp it vs gt bYes f) ρ S QL := by
  obtain ⟨ys, S', e, F', p⟩ := compW (vs := vs) (gt := gt) (f := f) (ρ := ρ) ds 0 S F h (len_sz hl (Nat.le_refl _))
  refine ⟨ys, S', ?_, q ys S' F' p⟩
  unfold lComp
  rw [hi]
  exact e
/-- what is walked itself, where a test that draws lets it -/
theorem subW : ∀ (ds : List D) (k : Nat) (S : Sto), Fd A gs (c + cost * ds.length) S → (∀ x ∈ ds, ∃ ρ1, gt x (wipeE ρ vs) = some ρ1 ∧ (∀ c' S1, Fd A gs (c' + cost) S1 → WB t ρ1 S1 fun _ S2 => Fd A gs c' S2) ∧ ∀ S, f ρ1 S = .ok x S) → k + ds.length ≤ sz → ∃ ys S', compN vs gt t f ρ k ds S = .ok ys S' ∧ Fd A gs c S' ∧ ys.Sublist ds
  | [], _, S, F, _, _ => ⟨[], S, rfl, by simpa using F, List.Sublist.refl _⟩
  | x :: ds, k, S, F, h, hl => by
    simp only [List.length_cons] at hl
    obtain ⟨ρ1, e1, w, ef⟩ := h x List.mem_cons_self
    have F' : Fd A gs ((c + cost * ds.length) + cost) S := by
      rw [List.length_cons, Nat.mul_succ] at F
      exact F.le (by omega)
    obtain ⟨v, S1, e2, F1⟩ := w _ S F'
    have ih := fun k' hk => subW ds k' S1 F1 (fun z hz => h z (List.mem_cons_of_mem _ hz)) hk
    cases v with
    | false =>
      obtain ⟨ys, S2, e3, F2, p2⟩ := ih k (by omega)
      refine ⟨ys, S2, ?_, F2, p2.cons x⟩
      unfold compN
      rw [e1]
      simp only []
      rw [e2]
      exact e3
    | true =>
      obtain ⟨ys, S2, e3, F2, p2⟩ := ih (k + 1) (by omega)
      refine ⟨x :: ys, S2, ?_, F2, p2.cons_cons x⟩
      unfold compN
      rw [e1]
      simp only []
      rw [e2]
      simp only []
      rw [ef]
      simp only []
      rw [if_pos (by omega), e3]
      rfl
theorem WL.sub {it : LD} {ds : List D} {S : Sto} {QL : List D → Sto → Prop} (hi : it ρ S = .ok ds S) (F : Fd A gs (c + cost * ds.length) S) (hl : ds.length ≤ 1000) (h : ∀ x ∈ ds, ∃ ρ1, gt x (wipeE ρ vs) = some ρ1 ∧ (∀ c' S1, Fd A gs (c' + cost) S1 → WB t ρ1 S1 fun _ S2 => Fd A gs c' S2) ∧ ∀ S, f ρ1 S = .ok x S) (q : ∀ ys S', Fd A gs c S' → ys.Sublist ds → QL ys S') : WL (lComp it vs gt t f) ρ S QL := by
  obtain ⟨ys, S', e, F', p⟩ := subW (vs := vs) (gt := gt) (f := f) (t := t) (ρ := ρ) ds 0 S F h (len_sz hl (Nat.le_refl _))
  refine ⟨ys, S', ?_, q ys S' F' p⟩
  unfold lComp
  rw [hi]
  exact e
end
/-! ## Defs -/
/-- a def that draws -/
def DSp (A : Fm) (g : GD) (ds : List D) (cost : Nat) (Q : D → Prop) : Prop := ∀ gs c S, Fd A gs (c + cost) S → WG g ds S fun y S' => Fd A gs c S' ∧ Q y
theorem closeW {A : Fm} {gs ext : Sto} {c c' : Nat} {S S' : Sto} {y : D} (F : Fd A gs c S) (F' : Fd A (gs ++ ext) c' S') (hy : ext ≠ [] → Gr 60 y) : ∃ S2, closeD S.length y S' = .ok y S2 ∧ Fd A gs c' S2 := by
  have l1 := F.len
  have l2 := F'.len
  rw [List.length_append] at l2
  by_cases h : ext = []
  · subst h
    rw [List.append_nil] at F'
    exact ⟨S', closeD_same (by rw [l1, l2, List.length_nil]; omega), F'⟩
  · have hpos : 0 < ext.length := List.length_pos_iff.mpr h
    obtain ⟨B, p, e, lo, t⟩ := F
    obtain ⟨B', p', e', lo', t'⟩ := F'
    have hg : noT gs = true ∧ lowS 0 gs = true := ⟨t, lo⟩
    have ht : S'.take S.length = B' ++ gs := by
      rw [e', l1, ← List.append_assoc]
      have : (B' ++ gs).length = A.n + gs.length := by rw [List.length_append, A.len p']
      rw [← this, List.take_left]
    refine ⟨B' ++ gs, close_cut (by omega) ((hy h).frz _ _) ht ?_, B', p', rfl, lo, t⟩
    refine lowS_up (Nat.zero_le _) (lowS_iff.mpr fun c hc => ?_)
    rcases List.mem_append.mp hc with hc | hc
    · exact lowS_iff.mp (A.lw p') c hc
    · exact lowS_iff.mp lo c hc
theorem DSp.def {A : Fm} {g : GD} {m : Nat} {fb : SD} {ds : List D} {ρ : En} {cost : Nat} {Q : D → Prop} (eG : g = frm (fnD m fb)) (hl : allL (low A.T 60) ds = false) (er : ds.map some ++ List.replicate (m - ds.length) none = ρ) (run : ∀ gs c S, Fd A gs (c + cost) S → WR fb ρ S fun y S' => ∃ ext, Fd A (gs ++ ext) c S' ∧ (ext ≠ [] → Gr 60 y) ∧ Q y) : DSp A g ds cost Q := fun gs c S F => by
  obtain ⟨y, S', e, ext, F', hy, q⟩ := run gs c S F
  obtain ⟨S2, ec, F2⟩ := closeW F F' hy
  refine ⟨y, S2, ?_, F2, q⟩
  rw [eG, frm_not (by rw [F.tbl]; exact hl)]
  exact fnD_to er e ec
/-- a def that draws nothing: what it gives, wherever tables stand ahead -/
def Pu (g : GD) (ds : List D) (y : D) : Prop := ∀ S, Ft S → g ds S = .ok y S
theorem take_tbl : ∀ S : Sto, tblN (S.take (tblN S)) = (S.take (tblN S)).length
  | [] => rfl
  | .tbl q :: S => by
    have ih := take_tbl S
    show tblN (.tbl q :: S.take (tblN S)) = (.tbl q :: S.take (tblN S)).length
    simpa [tblN] using ih
  | .lst _ :: _ => rfl
  | .dic _ :: _ => rfl
theorem pure_Fd (B0 : Sto) (h0 : tblN B0 = B0.length) : Fd (pureF B0 h0) [] 0 B0 := ⟨B0, rfl, (List.append_nil _).symm, rfl, rfl⟩
theorem Pu.def {g : GD} {m : Nat} {fb : SD} {ds : List D} {ρ : En} {y : D} (eG : g = frm (fnD m fb)) (hl : allL (low 0 60) ds = true) (er : ds.map some ++ List.replicate (m - ds.length) none = ρ) (run : ∀ A S, Fd A [] 0 S → WR fb ρ S fun z S' => z = y ∧ ∃ ext, Fd A ext 0 S' ∧ (ext ≠ [] → Gr 60 y)) : Pu g ds y := fun S hS => by
  have F := pure_Fd _ (take_tbl S)
  obtain ⟨z, S', e, rfl, ext, F', hy⟩ := run _ _ F
  obtain ⟨S2, ec, B, hB, e2, _⟩ := closeW (gs := []) (ext := ext) F (by simpa using F') hy
  have hB' : B = S.take (tblN S) := hB
  rw [List.append_nil] at e2
  have e3 : S2 = S.take (tblN S) := by rw [e2, hB']
  subst e3
  rw [eG]
  refine frm_ft hS (allL_of fun x hx => low_up 60 (Nat.zero_le _) (allL_at hl x hx)) ?_
  exact fnD_to er e ec
theorem WE.pu {A : Fm} {gs : Sto} {c n : Nat} {G : GD} {la : LD} {ρ : En} {S : Sto} {ds : List D} {y : D} {Q : D → Sto → Prop} (F : Fd A gs c S) (e : la ρ S = .ok ds S) (hn : ds.length = n) (p : Pu G ds y) (q : Q y S) : WE (eCall n G la) ρ S Q := WE.of (callN e hn (p S F.ft)) q
theorem Pu.call {n : Nat} {G : GD} {la : LD} {ρ : En} {S : Sto} {ds : List D} {y : D} (p : Pu G ds y) (hS : Ft S) (e : la ρ S = .ok ds S) (hn : ds.length = n) : eCall n G la ρ S = .ok y S := callN e hn (p S hS)
theorem callN' {n : Nat} {g : GD} {la : LD} {ρ : En} {S S' : Sto} {ds : List D} {d : D} (h1 : la ρ S = .ok ds S) (hn : ds.length = n) (h2 : g ds S = .ok d S') : eCall n g la ρ S = .ok d S' := by
  unfold eCall
  rw [h1]
  simp only [R.bind]
  rw [show Nat.beq ds.length n = true by rw [hn]; exact Nat.beq_refl n]
  exact h2
theorem WE.dsp {A : Fm} {gs : Sto} {c : Nat} {S : Sto} {ρ : En} {Q : D → Sto → Prop} {n cost : Nat} {G : GD} {la : LD} {ds : List D} {P : D → Prop} (F : Fd A gs (c + cost) S) (e : la ρ S = .ok ds S) (hn : ds.length = n) (p : DSp A G ds cost P) (q : ∀ y S', Fd A gs c S' → P y → Q y S') : WE (eCall n G la) ρ S Q := by
  obtain ⟨y, S', e1, F1, py⟩ := p gs c S F
  exact ⟨y, S', callN' e hn e1, q y S' F1 py⟩
end Zed.Wp

namespace Zed.Wp
open PySem PySem.Spec PyProof.Rows L2 RZ
/-! ## Ranges, walks that draw how many -/
theorem rng_a (n : Nat) : -(2 ^ 62 : Int) ≤ (n : Int) := by
  have : (0:Int) ≤ n := Int.natCast_nonneg n
  exact Int.le_trans (by decide) this
theorem two62 : (2 ^ 62 : Int) = 4611686018427387904 := by rfl
theorem rng_b1 (n : Nat) (h : n ≤ 1000) : (n : Int) < 4611686018427387904 := by omega
theorem rng_b (n : Nat) (h : n ≤ 1000) : (n : Int) < 2 ^ 62 := by rw [two62]; exact rng_b1 n h
theorem rng_len {f : ED} {ρ : En} {S S1 : Sto} {n : Nat} (e : f ρ S = .ok (.int n) S1) (h : n ≤ 1000) : iRng1 (lCons f lNil) ρ S = .ok (rangeD 0 n) S1 := by
  have e2 : lCons f lNil ρ S = .ok [.int n] S1 := by
    unfold lCons
    rw [e]
    rfl
  have e3 : ∀ j : Int, -(2 ^ 62) ≤ j ∧ j < 2 ^ 62 → lCons f lNil ρ S = .ok [.int j] S1 → iRng1 (lCons f lNil) ρ S = .ok (rangeD 0 j.toNat) S1 := fun j hj e => by
    unfold iRng1
    rw [e]
    simp only [R.bind]
    rw [if_pos hj]
  have e4 := e3 n ⟨rng_a n, rng_b n h⟩ e2
  rw [Int.toNat_natCast] at e4
  exact e4
section
variable {A : Fm} {gs : Sto} {c cost : Nat} {vs : List Nat} {gt : GT} {f fe : ED} {t : BD} {ρ : En} {S : Sto} {P : D → D → Prop} {it : LD} {a : SD}
variable {Q : D → Sto → Prop} {QL : List D → Sto → Prop} {QN : En → Sto → Prop} {xs : List D} {i : Nat}
theorem WL.rng1 (w : WE f ρ S fun d S1 => ∃ n : Nat, d = .int n ∧ n ≤ 1000 ∧ QL (rangeD 0 n) S1) : WL (iRng1 (lCons f lNil)) ρ S QL := by
  obtain ⟨d, S1, e, n, rfl, hn, q⟩ := w
  exact ⟨_, S1, rng_len e hn, q⟩
/-- [x for x in xs if t], xs a cell -/
theorem WL.compA {q : D → Bool} (hf : fe ρ S = .ok (.ref (A.n + i)) S) (F : Fd A gs c S) (e : gs[i]? = some (.lst xs)) (hl : xs.length ≤ 1000) (h : ∀ x ∈ xs, ∃ ρ1, gt x (wipeE ρ vs) = some ρ1 ∧ t ρ1 S = .ok (q x) S ∧ f ρ1 S = .ok x S) (w : QL (xs.filter q) S) : WL (lCompA fe vs gt t f) ρ S QL := by
  refine ⟨_, S, ?_, w⟩
  unfold lCompA
  rw [hf]
  simp only []
  have : (1001 : Nat) ≤ sz := by decide
  have k := compA_filter (vs := vs) (g := gt) (t := t) (f := f) (n := A.n + i) (ρ := ρ) (S := S) (xs := xs) (q := q) (by rw [F.at]; exact e) h xs 0 10000 [] (by simp) (by omega) (by omega) (by simp only [List.length_nil]; omega)
  rw [List.nil_append] at k
  exact k
end
/-! ## Numbers below a prime -/
theorem Gr.ints {vs : List Int} {k : Nat} : ∀ x ∈ vs.map D.int, Gr (k + 1) x := fun x hx => by
  obtain ⟨v, _, rfl⟩ := List.mem_map.mp hx
  exact Gr.int k v
theorem WG.pu {A : Fm} {gs : Sto} {c : Nat} {G : GD} {ds : List D} {S : Sto} {y : D} {Q : D → Sto → Prop} (p : Pu G ds y) (F : Fd A gs c S) (q : Q y S) : WG G ds S Q := ⟨y, S, p S F.ft, q⟩
theorem Pu.all {g : GD} {ds : List D} {y : D} (h : ∀ S, g ds S = .ok y S) : Pu g ds y := fun S _ => h S
end Zed.Wp

namespace Zed.Wp
open PySem PySem.Spec PyProof.Rows L2 RZ
/-! ## Equality of values made of numbers, texts, None -/
end Zed.Wp

namespace Zed
open PySem PySem.Spec PyProof.Rows L2 RZ
def topS (i : Nat) : Stmt := PySem.Challenge.pw_mendfew_k04_parts_told.main.body.getD i (.Pass ⟨0, 0, 0, 0⟩)
abbrev s_is_integer : Stmt := topS 2
abbrev s_is_number : Stmt := topS 3
abbrev s_is_prime : Stmt := topS 4
abbrev s_inverse_of : Stmt := topS 6
abbrev s_scaled : Stmt := topS 7
abbrev s_plus_scaled : Stmt := topS 8
abbrev s_places_of : Stmt := topS 9
abbrev s_first_place : Stmt := topS 10
abbrev s_cut_to : Stmt := topS 11
abbrev s_cleared : Stmt := topS 12
abbrev s_joined : Stmt := topS 13
abbrev s_reduced_rows : Stmt := topS 14
abbrev s_rank_on : Stmt := topS 15
abbrev s_bound_rows : Stmt := topS 16
abbrev s_bound_row : Stmt := topS 17
abbrev s_is_numbers : Stmt := topS 20
abbrev s_is_size : Stmt := topS 21
abbrev s_book_fault : Stmt := topS 22
abbrev s_is_place_of : Stmt := topS 23
abbrev s_is_lot_of : Stmt := topS 24
abbrev s_is_sum_like : Stmt := topS 25
abbrev s_is_kept : Stmt := topS 26
abbrev s_want : Stmt := topS 32
abbrev s_want_book : Stmt := topS 33
abbrev s_want_lot : Stmt := topS 34
abbrev s_want_sum : Stmt := topS 35
abbrev s_told_signs : Stmt := topS 37
abbrev s_told_on : Stmt := topS 38
abbrev s_keeps : Stmt := topS 39
abbrev s_base_words : Stmt := topS 40
abbrev s_base_sums : Stmt := topS 41
abbrev s_all_words : Stmt := topS 42
abbrev s__law_feed : Stmt := topS 44
abbrev s__law_draw : Stmt := topS 45
abbrev s__law_same : Stmt := topS 46
abbrev s__law_books : Stmt := topS 47
abbrev s__law_all : Stmt := topS 48
abbrev s__law_is_right : Stmt := topS 49
abbrev s__law_keeps_right : Stmt := topS 50
abbrev s_law : Stmt := topS 51
def n_is_integer : List Str := ["thing"]
theorem sc_is_integer : FnScope n_is_integer ["thing"] (defScope s_is_integer) := ⟨rfl, rfl, rfl, by decide +kernel, rfl, by decide +kernel, by decide +kernel⟩
def n_is_number : List Str := ["thing"]
theorem sc_is_number : FnScope n_is_number ["thing"] (defScope s_is_number) := ⟨rfl, rfl, rfl, by decide +kernel, rfl, by decide +kernel, by decide +kernel⟩
def n_is_prime : List Str := ["thing", "divisor"]
theorem sc_is_prime : FnScope n_is_prime ["thing"] (defScope s_is_prime) := ⟨rfl, rfl, rfl, by decide +kernel, rfl, by decide +kernel, by decide +kernel⟩
def n_inverse_of : List Str := ["number", "prime", "rest", "worth", "other", "late", "times"]
theorem sc_inverse_of : FnScope n_inverse_of ["number", "prime"] (defScope s_inverse_of) := ⟨rfl, rfl, rfl, by decide +kernel, rfl, by decide +kernel, by decide +kernel⟩
def n_scaled : List Str := ["prime", "times", "row", "number"]
theorem sc_scaled : FnScope n_scaled ["prime", "times", "row"] (defScope s_scaled) := ⟨rfl, rfl, rfl, by decide +kernel, rfl, by decide +kernel, by decide +kernel⟩
def n_plus_scaled : List Str := ["prime", "row", "times", "other", "number", "more"]
theorem sc_plus_scaled : FnScope n_plus_scaled ["prime", "row", "times", "other"] (defScope s_plus_scaled) := ⟨rfl, rfl, rfl, by decide +kernel, rfl, by decide +kernel, by decide +kernel⟩
def n_places_of : List Str := ["row", "place", "number"]
theorem sc_places_of : FnScope n_places_of ["row"] (defScope s_places_of) := ⟨rfl, rfl, rfl, by decide +kernel, rfl, by decide +kernel, by decide +kernel⟩
def n_first_place : List Str := ["row", "place", "number"]
theorem sc_first_place : FnScope n_first_place ["row"] (defScope s_first_place) := ⟨rfl, rfl, rfl, by decide +kernel, rfl, by decide +kernel, by decide +kernel⟩
def n_cut_to : List Str := ["row", "lot", "place"]
theorem sc_cut_to : FnScope n_cut_to ["row", "lot"] (defScope s_cut_to) := ⟨rfl, rfl, rfl, by decide +kernel, rfl, by decide +kernel, by decide +kernel⟩
def n_cleared : List Str := ["prime", "row", "done", "rest", "other", "number"]
theorem sc_cleared : FnScope n_cleared ["prime", "row", "done"] (defScope s_cleared) := ⟨rfl, rfl, rfl, by decide +kernel, rfl, by decide +kernel, by decide +kernel⟩
def n_joined : List Str := ["prime", "done", "rest", "place", "row", "other"]
theorem sc_joined : FnScope n_joined ["prime", "done", "rest"] (defScope s_joined) := ⟨rfl, rfl, rfl, by decide +kernel, rfl, by decide +kernel, by decide +kernel⟩
def n_reduced_rows : List Str := ["prime", "rows", "done", "row", "rest"]
theorem sc_reduced_rows : FnScope n_reduced_rows ["prime", "rows"] (defScope s_reduced_rows) := ⟨rfl, rfl, rfl, by decide +kernel, rfl, by decide +kernel, by decide +kernel⟩
def n_rank_on : List Str := ["prime", "rows", "lot", "row"]
theorem sc_rank_on : FnScope n_rank_on ["prime", "rows", "lot"] (defScope s_rank_on) := ⟨rfl, rfl, rfl, by decide +kernel, rfl, by decide +kernel, by decide +kernel⟩
def n_bound_rows : List Str := ["prime", "size", "rows", "behind", "ties", "row", "free"]
theorem sc_bound_rows : FnScope n_bound_rows ["prime", "size", "rows"] (defScope s_bound_rows) := ⟨rfl, rfl, rfl, by decide +kernel, rfl, by decide +kernel, by decide +kernel⟩
def n_bound_row : List Str := ["prime", "size", "ties", "free", "place"]
theorem sc_bound_row : FnScope n_bound_row ["prime", "size", "ties", "free"] (defScope s_bound_row) := ⟨rfl, rfl, rfl, by decide +kernel, rfl, by decide +kernel, by decide +kernel⟩
def n_is_numbers : List Str := ["thing", "many", "below", "number"]
theorem sc_is_numbers : FnScope n_is_numbers ["thing", "many", "below"] (defScope s_is_numbers) := ⟨rfl, rfl, rfl, by decide +kernel, rfl, by decide +kernel, by decide +kernel⟩
def n_is_size : List Str := ["thing"]
theorem sc_is_size : FnScope n_is_size ["thing"] (defScope s_is_size) := ⟨rfl, rfl, rfl, by decide +kernel, rfl, by decide +kernel, by decide +kernel⟩
def n_book_fault : List Str := ["thing", "prime", "size", "sums", "at", "numbers"]
theorem sc_book_fault : FnScope n_book_fault ["thing"] (defScope s_book_fault) := ⟨rfl, rfl, rfl, by decide +kernel, rfl, by decide +kernel, by decide +kernel⟩
def n_is_place_of : List Str := ["book", "thing"]
theorem sc_is_place_of : FnScope n_is_place_of ["book", "thing"] (defScope s_is_place_of) := ⟨rfl, rfl, rfl, by decide +kernel, rfl, by decide +kernel, by decide +kernel⟩
def n_is_lot_of : List Str := ["book", "thing", "at", "place"]
theorem sc_is_lot_of : FnScope n_is_lot_of ["book", "thing"] (defScope s_is_lot_of) := ⟨rfl, rfl, rfl, by decide +kernel, rfl, by decide +kernel, by decide +kernel⟩
def n_is_sum_like : List Str := ["book", "thing", "prime", "size", "_"]
theorem sc_is_sum_like : FnScope n_is_sum_like ["book", "thing"] (defScope s_is_sum_like) := ⟨rfl, rfl, rfl, by decide +kernel, rfl, by decide +kernel, by decide +kernel⟩
def n_is_kept : List Str := ["book", "numbers", "prime", "_", "sums"]
theorem sc_is_kept : FnScope n_is_kept ["book", "numbers"] (defScope s_is_kept) := ⟨rfl, rfl, rfl, by decide +kernel, rfl, by decide +kernel, by decide +kernel⟩
def n_want : List Str := ["fits", "name"]
theorem sc_want : FnScope n_want ["fits", "name"] (defScope s_want) := ⟨rfl, rfl, rfl, by decide +kernel, rfl, by decide +kernel, by decide +kernel⟩
def n_want_book : List Str := ["thing", "name"]
theorem sc_want_book : FnScope n_want_book ["thing", "name"] (defScope s_want_book) := ⟨rfl, rfl, rfl, by decide +kernel, rfl, by decide +kernel, by decide +kernel⟩
def n_want_lot : List Str := ["book", "thing"]
theorem sc_want_lot : FnScope n_want_lot ["book", "thing"] (defScope s_want_lot) := ⟨rfl, rfl, rfl, by decide +kernel, rfl, by decide +kernel, by decide +kernel⟩
def n_want_sum : List Str := ["book", "thing"]
theorem sc_want_sum : FnScope n_want_sum ["book", "thing"] (defScope s_want_sum) := ⟨rfl, rfl, rfl, by decide +kernel, rfl, by decide +kernel, by decide +kernel⟩
def n_told_signs : List Str := ["book", "prime", "size", "sums"]
theorem sc_told_signs : FnScope n_told_signs ["book"] (defScope s_told_signs) := ⟨rfl, rfl, rfl, by decide +kernel, rfl, by decide +kernel, by decide +kernel⟩
def n_told_on : List Str := ["book", "lot", "prime", "size", "sums"]
theorem sc_told_on : FnScope n_told_on ["book", "lot"] (defScope s_told_on) := ⟨rfl, rfl, rfl, by decide +kernel, rfl, by decide +kernel, by decide +kernel⟩
def n_keeps : List Str := ["book", "numbers"]
theorem sc_keeps : FnScope n_keeps ["book", "numbers"] (defScope s_keeps) := ⟨rfl, rfl, rfl, by decide +kernel, rfl, by decide +kernel, by decide +kernel⟩
def n_base_words : List Str := ["book", "prime", "size", "sums"]
theorem sc_base_words : FnScope n_base_words ["book"] (defScope s_base_words) := ⟨rfl, rfl, rfl, by decide +kernel, rfl, by decide +kernel, by decide +kernel⟩
def n_base_sums : List Str := ["book", "prime", "_", "sums"]
theorem sc_base_sums : FnScope n_base_sums ["book"] (defScope s_base_sums) := ⟨rfl, rfl, rfl, by decide +kernel, rfl, by decide +kernel, by decide +kernel⟩
def n_all_words : List Str := ["book", "base", "signs", "word", "prime", "size", "sums", "at", "_"]
theorem sc_all_words : GScope n_all_words ["book"] (defScope s_all_words) := ⟨rfl, rfl, rfl, by decide +kernel, rfl, by decide +kernel, by decide +kernel⟩
def n__law_feed : List Str := ["_law_script", "_law_cell"]
theorem sc__law_feed : FnScope n__law_feed ["_law_script"] (defScope s__law_feed) := ⟨rfl, rfl, rfl, by decide +kernel, rfl, by decide +kernel, by decide +kernel⟩
def n__law_draw : List Str := ["_law_feed_here", "_law_many", "_law_cell", "_law_mixed", "_law_digit", "_law_k", "_law_cells"]
theorem sc__law_draw : FnScope n__law_draw ["_law_feed_here", "_law_many"] (defScope s__law_draw) := ⟨rfl, rfl, rfl, by decide +kernel, rfl, by decide +kernel, by decide +kernel⟩
def n__law_same : List Str := ["_law_told", "_law_due"]
theorem sc__law_same : FnScope n__law_same ["_law_told", "_law_due"] (defScope s__law_same) := ⟨rfl, rfl, rfl, by decide +kernel, rfl, by decide +kernel, by decide +kernel⟩
def n__law_books : List Str := ["_law_found"]
theorem sc__law_books : FnScope n__law_books [] (defScope s__law_books) := ⟨rfl, rfl, rfl, by decide +kernel, rfl, by decide +kernel, by decide +kernel⟩
def n__law_all : List Str := ["_law_prime", "_law_size", "_law_words", "_law_found", "_law_code", "_law_late", "_law_turn", "_law_base", "_law_a", "_law_b"]
theorem sc__law_all : FnScope n__law_all ["_law_prime", "_law_size", "_law_words"] (defScope s__law_all) := ⟨rfl, rfl, rfl, by decide +kernel, rfl, by decide +kernel, by decide +kernel⟩
def n__law_is_right : List Str := ["_law_tome", "_law_words", "_law_sums", "_law_cuts", "_law_told", "_law_named", "_law_row", "_law_held", "_law_k", "_law_every", "_law_cut", "_law_due"]
theorem sc__law_is_right : FnScope n__law_is_right ["_law_tome", "_law_words", "_law_sums", "_law_cuts"] (defScope s__law_is_right) := ⟨rfl, rfl, rfl, by decide +kernel, rfl, by decide +kernel, by decide +kernel⟩
def n__law_keeps_right : List Str := ["_law_rows", "_law_even", "_law_pairs", "_law_row"]
theorem sc__law_keeps_right : FnScope n__law_keeps_right [] (defScope s__law_keeps_right) := ⟨rfl, rfl, rfl, by decide +kernel, rfl, by decide +kernel, by decide +kernel⟩
def n_law : List Str := ["_law_script", "_law_feed_here", "_law_some", "_law_turn", "_law_late", "_law_tome", "_law_words", "_law_sums", "_law_cuts", "_law_row", "_law_a"]
theorem sc_law : FnScope n_law ["_law_script"] (defScope s_law) := ⟨rfl, rfl, rfl, by decide +kernel, rfl, by decide +kernel, by decide +kernel⟩
def exTb : List Ent := [⟨"NotUsable", ["word", "at"], []⟩]
abbrev sI_NotUsable : Stmt := inClass (topS 30) 0
theorem scI_NotUsable : FnScope ["self", "word", "at"] ["self", "word", "at"] (defScope sI_NotUsable) := ⟨rfl, rfl, rfl, by decide +kernel, rfl, by decide +kernel, by decide +kernel⟩
structure Tops [TC : TabC] (K : PySem.W.Frag) (mg : Str → Option Value) where
  xC_NotUsable : Addr
  xf_NotUsable : Addr
  xd_NotUsable : FuncData
  a_is_integer : Addr
  d_is_integer : FuncData
  a_is_number : Addr
  d_is_number : FuncData
  a_is_prime : Addr
  d_is_prime : FuncData
  a_inverse_of : Addr
  d_inverse_of : FuncData
  a_scaled : Addr
  d_scaled : FuncData
  a_plus_scaled : Addr
  d_plus_scaled : FuncData
  a_places_of : Addr
  d_places_of : FuncData
  a_first_place : Addr
  d_first_place : FuncData
  a_cut_to : Addr
  d_cut_to : FuncData
  a_cleared : Addr
  d_cleared : FuncData
  a_joined : Addr
  d_joined : FuncData
  a_reduced_rows : Addr
  d_reduced_rows : FuncData
  a_rank_on : Addr
  d_rank_on : FuncData
  a_bound_rows : Addr
  d_bound_rows : FuncData
  a_bound_row : Addr
  d_bound_row : FuncData
  a_is_numbers : Addr
  d_is_numbers : FuncData
  a_is_size : Addr
  d_is_size : FuncData
  a_book_fault : Addr
  d_book_fault : FuncData
  a_is_place_of : Addr
  d_is_place_of : FuncData
  a_is_lot_of : Addr
  d_is_lot_of : FuncData
  a_is_sum_like : Addr
  d_is_sum_like : FuncData
  a_is_kept : Addr
  d_is_kept : FuncData
  a_want : Addr
  d_want : FuncData
  a_want_book : Addr
  d_want_book : FuncData
  a_want_lot : Addr
  d_want_lot : FuncData
  a_want_sum : Addr
  d_want_sum : FuncData
  a_told_signs : Addr
  d_told_signs : FuncData
  a_told_on : Addr
  d_told_on : FuncData
  a_keeps : Addr
  d_keeps : FuncData
  a_base_words : Addr
  d_base_words : FuncData
  a_base_sums : Addr
  d_base_sums : FuncData
  a_all_words : Addr
  d_all_words : FuncData
  a__law_feed : Addr
  d__law_feed : FuncData
  a__law_draw : Addr
  d__law_draw : FuncData
  a__law_same : Addr
  d__law_same : FuncData
  a__law_books : Addr
  d__law_books : FuncData
  a__law_all : Addr
  d__law_all : FuncData
  a__law_is_right : Addr
  d__law_is_right : FuncData
  a__law_keeps_right : Addr
  d__law_keeps_right : FuncData
  a_law : Addr
  d_law : FuncData
  ok : True
  xc_NotUsable : Ecl K mg "NotUsable" "word" "at" xC_NotUsable xf_NotUsable
  xI_NotUsable : ∀ {P : Program} {w : World} {base : Heap}, FnOk P w K mg base CX0 1 xf_NotUsable xd_NotUsable ["self", "word", "at"] (spI K "word" "at")
  xB_NotUsable : Binds K xd_NotUsable ["self", "word", "at"] []
  tb : TbOk K mg exTb
  F_is_integer : L2.Fun K "is_integer" "is_integer" s_is_integer a_is_integer d_is_integer
  m_is_integer : mg "is_integer" = some (.ref a_is_integer)
  b_is_integer : Binds K d_is_integer ["thing"] []
  F_is_number : L2.Fun K "is_number" "is_number" s_is_number a_is_number d_is_number
  m_is_number : mg "is_number" = some (.ref a_is_number)
  b_is_number : Binds K d_is_number ["thing"] []
  F_is_prime : L2.Fun K "is_prime" "is_prime" s_is_prime a_is_prime d_is_prime
  m_is_prime : mg "is_prime" = some (.ref a_is_prime)
  b_is_prime : Binds K d_is_prime ["thing"] []
  F_inverse_of : L2.Fun K "inverse_of" "inverse_of" s_inverse_of a_inverse_of d_inverse_of
  m_inverse_of : mg "inverse_of" = some (.ref a_inverse_of)
  b_inverse_of : Binds K d_inverse_of ["number", "prime"] []
  F_scaled : L2.Fun K "scaled" "scaled" s_scaled a_scaled d_scaled
  m_scaled : mg "scaled" = some (.ref a_scaled)
  b_scaled : Binds K d_scaled ["prime", "times", "row"] []
  F_plus_scaled : L2.Fun K "plus_scaled" "plus_scaled" s_plus_scaled a_plus_scaled d_plus_scaled
  m_plus_scaled : mg "plus_scaled" = some (.ref a_plus_scaled)
  b_plus_scaled : Binds K d_plus_scaled ["prime", "row", "times", "other"] []
  F_places_of : L2.Fun K "places_of" "places_of" s_places_of a_places_of d_places_of
  m_places_of : mg "places_of" = some (.ref a_places_of)
  b_places_of : Binds K d_places_of ["row"] []
  F_first_place : L2.Fun K "first_place" "first_place" s_first_place a_first_place d_first_place
  m_first_place : mg "first_place" = some (.ref a_first_place)
  b_first_place : Binds K d_first_place ["row"] []
  F_cut_to : L2.Fun K "cut_to" "cut_to" s_cut_to a_cut_to d_cut_to
  m_cut_to : mg "cut_to" = some (.ref a_cut_to)
  b_cut_to : Binds K d_cut_to ["row", "lot"] []
  F_cleared : L2.Fun K "cleared" "cleared" s_cleared a_cleared d_cleared
  m_cleared : mg "cleared" = some (.ref a_cleared)
  b_cleared : Binds K d_cleared ["prime", "row", "done"] []
  F_joined : L2.Fun K "joined" "joined" s_joined a_joined d_joined
  m_joined : mg "joined" = some (.ref a_joined)
  b_joined : Binds K d_joined ["prime", "done", "rest"] []
  F_reduced_rows : L2.Fun K "reduced_rows" "reduced_rows" s_reduced_rows a_reduced_rows d_reduced_rows
  m_reduced_rows : mg "reduced_rows" = some (.ref a_reduced_rows)
  b_reduced_rows : Binds K d_reduced_rows ["prime", "rows"] []
  F_rank_on : L2.Fun K "rank_on" "rank_on" s_rank_on a_rank_on d_rank_on
  m_rank_on : mg "rank_on" = some (.ref a_rank_on)
  b_rank_on : Binds K d_rank_on ["prime", "rows", "lot"] []
  F_bound_rows : L2.Fun K "bound_rows" "bound_rows" s_bound_rows a_bound_rows d_bound_rows
  m_bound_rows : mg "bound_rows" = some (.ref a_bound_rows)
  b_bound_rows : Binds K d_bound_rows ["prime", "size", "rows"] []
  F_bound_row : L2.Fun K "bound_row" "bound_row" s_bound_row a_bound_row d_bound_row
  m_bound_row : mg "bound_row" = some (.ref a_bound_row)
  b_bound_row : Binds K d_bound_row ["prime", "size", "ties", "free"] []
  F_is_numbers : L2.Fun K "is_numbers" "is_numbers" s_is_numbers a_is_numbers d_is_numbers
  m_is_numbers : mg "is_numbers" = some (.ref a_is_numbers)
  b_is_numbers : Binds K d_is_numbers ["thing", "many", "below"] []
  F_is_size : L2.Fun K "is_size" "is_size" s_is_size a_is_size d_is_size
  m_is_size : mg "is_size" = some (.ref a_is_size)
  b_is_size : Binds K d_is_size ["thing"] []
  F_book_fault : L2.Fun K "book_fault" "book_fault" s_book_fault a_book_fault d_book_fault
  m_book_fault : mg "book_fault" = some (.ref a_book_fault)
  b_book_fault : Binds K d_book_fault ["thing"] []
  F_is_place_of : L2.Fun K "is_place_of" "is_place_of" s_is_place_of a_is_place_of d_is_place_of
  m_is_place_of : mg "is_place_of" = some (.ref a_is_place_of)
  b_is_place_of : Binds K d_is_place_of ["book", "thing"] []
  F_is_lot_of : L2.Fun K "is_lot_of" "is_lot_of" s_is_lot_of a_is_lot_of d_is_lot_of
  m_is_lot_of : mg "is_lot_of" = some (.ref a_is_lot_of)
  b_is_lot_of : Binds K d_is_lot_of ["book", "thing"] []
  F_is_sum_like : L2.Fun K "is_sum_like" "is_sum_like" s_is_sum_like a_is_sum_like d_is_sum_like
  m_is_sum_like : mg "is_sum_like" = some (.ref a_is_sum_like)
  b_is_sum_like : Binds K d_is_sum_like ["book", "thing"] []
  F_is_kept : L2.Fun K "is_kept" "is_kept" s_is_kept a_is_kept d_is_kept
  m_is_kept : mg "is_kept" = some (.ref a_is_kept)
  b_is_kept : Binds K d_is_kept ["book", "numbers"] []
  F_want : L2.Fun K "want" "want" s_want a_want d_want
  m_want : mg "want" = some (.ref a_want)
  b_want : Binds K d_want ["fits", "name"] []
  F_want_book : L2.Fun K "want_book" "want_book" s_want_book a_want_book d_want_book
  m_want_book : mg "want_book" = some (.ref a_want_book)
  b_want_book : Binds K d_want_book ["thing", "name"] []
  F_want_lot : L2.Fun K "want_lot" "want_lot" s_want_lot a_want_lot d_want_lot
  m_want_lot : mg "want_lot" = some (.ref a_want_lot)
  b_want_lot : Binds K d_want_lot ["book", "thing"] []
  F_want_sum : L2.Fun K "want_sum" "want_sum" s_want_sum a_want_sum d_want_sum
  m_want_sum : mg "want_sum" = some (.ref a_want_sum)
  b_want_sum : Binds K d_want_sum ["book", "thing"] []
  F_told_signs : L2.Fun K "told_signs" "told_signs" s_told_signs a_told_signs d_told_signs
  m_told_signs : mg "told_signs" = some (.ref a_told_signs)
  b_told_signs : Binds K d_told_signs ["book"] []
  F_told_on : L2.Fun K "told_on" "told_on" s_told_on a_told_on d_told_on
  m_told_on : mg "told_on" = some (.ref a_told_on)
  b_told_on : Binds K d_told_on ["book", "lot"] []
  F_keeps : L2.Fun K "keeps" "keeps" s_keeps a_keeps d_keeps
  m_keeps : mg "keeps" = some (.ref a_keeps)
  b_keeps : Binds K d_keeps ["book", "numbers"] []
  F_base_words : L2.Fun K "base_words" "base_words" s_base_words a_base_words d_base_words
  m_base_words : mg "base_words" = some (.ref a_base_words)
  b_base_words : Binds K d_base_words ["book"] []
  F_base_sums : L2.Fun K "base_sums" "base_sums" s_base_sums a_base_sums d_base_sums
  m_base_sums : mg "base_sums" = some (.ref a_base_sums)
  b_base_sums : Binds K d_base_sums ["book"] []
  F_all_words : L2.Fun K "all_words" "all_words" s_all_words a_all_words d_all_words
  m_all_words : mg "all_words" = some (.ref a_all_words)
  b_all_words : Binds K d_all_words ["book"] []
  F__law_feed : L2.Fun K "_law_feed" "_law_feed" s__law_feed a__law_feed d__law_feed
  m__law_feed : mg "_law_feed" = some (.ref a__law_feed)
  b__law_feed : Binds K d__law_feed ["_law_script"] []
  F__law_draw : L2.Fun K "_law_draw" "_law_draw" s__law_draw a__law_draw d__law_draw
  m__law_draw : mg "_law_draw" = some (.ref a__law_draw)
  b__law_draw : Binds K d__law_draw ["_law_feed_here", "_law_many"] []
  F__law_same : L2.Fun K "_law_same" "_law_same" s__law_same a__law_same d__law_same
  m__law_same : mg "_law_same" = some (.ref a__law_same)
  b__law_same : Binds K d__law_same ["_law_told", "_law_due"] []
  F__law_books : L2.Fun K "_law_books" "_law_books" s__law_books a__law_books d__law_books
  m__law_books : mg "_law_books" = some (.ref a__law_books)
  b__law_books : Binds K d__law_books [] []
  F__law_all : L2.Fun K "_law_all" "_law_all" s__law_all a__law_all d__law_all
  m__law_all : mg "_law_all" = some (.ref a__law_all)
  b__law_all : Binds K d__law_all ["_law_prime", "_law_size", "_law_words"] []
  F__law_is_right : L2.Fun K "_law_is_right" "_law_is_right" s__law_is_right a__law_is_right d__law_is_right
  m__law_is_right : mg "_law_is_right" = some (.ref a__law_is_right)
  b__law_is_right : Binds K d__law_is_right ["_law_tome", "_law_words", "_law_sums", "_law_cuts"] []
  F__law_keeps_right : L2.Fun K "_law_keeps_right" "_law_keeps_right" s__law_keeps_right a__law_keeps_right d__law_keeps_right
  m__law_keeps_right : mg "_law_keeps_right" = some (.ref a__law_keeps_right)
  b__law_keeps_right : Binds K d__law_keeps_right [] []
  F_law : L2.Fun K "law" "law" s_law a_law d_law
  m_law : mg "law" = some (.ref a_law)
  b_law : Binds K d_law ["_law_script"] []
  z_all : mg "all" = none
  z_any : mg "any" = none
  z_bool : mg "bool" = none
  z_enumerate : mg "enumerate" = none
  z_int : mg "int" = none
  z_isinstance : mg "isinstance" = none
  z_len : mg "len" = none
  z_list : mg "list" = none
  z_range : mg "range" = none
  z_repr : mg "repr" = none
  z_sorted : mg "sorted" = none
  z_tuple : mg "tuple" = none
  z_zip : mg "zip" = none
  t_MOST_PLACES : Tok
  m_MOST_PLACES : mg "MOST_PLACES" = some (.int 100 t_MOST_PLACES)
  t_PRIMES_END : Tok
  m_PRIMES_END : mg "PRIMES_END" = some (.int 1000000 t_PRIMES_END)
def fb__law_books : SD := (sSeq (sAsg (eThaw (lSz (lCons (eTup (lCons (eTup (lCons (eC (.int 3)) (lCons (eC (.int 3)) (lCons (eTup (lCons (eTup (lCons (eC (.int 1)) (lCons (eC (.int 1)) (lCons (eC (.int 1)) lNil)))) lNil)) lNil)))) (lCons (eTup (lCons (eTup (lCons (eC (.int 1)) (lCons (eC (.int 0)) (lCons (eC (.int 2)) lNil)))) (lCons (eTup (lCons (eC (.int 0)) (lCons (eC (.int 1)) (lCons (eC (.int 2)) lNil)))) lNil))) (lCons (eTup (lCons (eTup (lCons (eC (.int 1)) (lCons (eC (.int 1)) (lCons (eC (.int 1)) lNil)))) lNil)) (lCons (eFrz (lSz (lCons (eTup (lCons (eTup (lCons (eC (.int 0)) (lCons (eC (.int 1)) lNil))) (lCons (eC (.int 2)) lNil))) (lCons (eTup (lCons (eTup (lCons (eC (.int 2)) lNil)) (lCons (eC (.int 1)) lNil))) (lCons (eTup (lCons (eTup (lCons (eC (.int 0)) (lCons (eC (.int 1)) (lCons (eC (.int 2)) lNil)))) (lCons (eC (.int 2)) lNil))) lNil))))) lNil))))) lNil))) (gN 0)) (sSeq (sExpr (eApp (eV 0) (eTup (lCons (eTup (lCons (eC (.int 2)) (lCons (eC (.int 4)) (lCons (eTup (lCons (eTup (lCons (eC (.int 1)) (lCons (eC (.int 1)) (lCons (eC (.int 0)) (lCons (eC (.int 0)) lNil))))) (lCons (eTup (lCons (eC (.int 0)) (lCons (eC (.int 0)) (lCons (eC (.int 1)) (lCons (eC (.int 1)) lNil))))) lNil))) lNil)))) (lCons (eTup (lCons (eTup (lCons (eC (.int 1)) (lCons (eC (.int 1)) (lCons (eC (.int 0)) (lCons (eC (.int 0)) lNil))))) (lCons (eTup (lCons (eC (.int 0)) (lCons (eC (.int 0)) (lCons (eC (.int 1)) (lCons (eC (.int 1)) lNil))))) lNil))) (lCons (eTup (lCons (eTup (lCons (eC (.int 1)) (lCons (eC (.int 1)) (lCons (eC (.int 0)) (lCons (eC (.int 0)) lNil))))) (lCons (eTup (lCons (eC (.int 0)) (lCons (eC (.int 0)) (lCons (eC (.int 1)) (lCons (eC (.int 1)) lNil))))) lNil))) (lCons (eFrz (lSz (lCons (eTup (lCons (eTup (lCons (eC (.int 0)) (lCons (eC (.int 1)) lNil))) (lCons (eC (.int 1)) lNil))) (lCons (eTup (lCons (eTup (lCons (eC (.int 0)) (lCons (eC (.int 2)) lNil))) (lCons (eC (.int 2)) lNil))) (lCons (eTup (lCons (eTup (lCons (eC (.int 2)) (lCons (eC (.int 3)) lNil))) (lCons (eC (.int 1)) lNil))) (lCons (eTup (lCons (eTup (lCons (eC (.int 0)) (lCons (eC (.int 1)) (lCons (eC (.int 2)) (lCons (eC (.int 3)) lNil))))) (lCons (eC (.int 2)) lNil))) (lCons (eTup (lCons (eTup (lCons (eC (.int 3)) lNil)) (lCons (eC (.int 1)) lNil))) lNil))))))) lNil))))))) (sSeq (sAsg (eThaw (lAdd (eV 0) (eFrz (lSz (lCons (eTup (lCons (eTup (lCons (eC (.int 2)) (lCons (eC (.int 2)) (lCons (eTup lNil) lNil)))) (lCons (eTup (lCons (eTup (lCons (eC (.int 1)) (lCons (eC (.int 0)) lNil))) (lCons (eTup (lCons (eC (.int 0)) (lCons (eC (.int 1)) lNil))) lNil))) (lCons (eTup lNil) (lCons (eFrz (lSz (lCons (eTup (lCons (eTup (lCons (eC (.int 0)) lNil)) (lCons (eC (.int 1)) lNil))) (lCons (eTup (lCons (eTup (lCons (eC (.int 0)) (lCons (eC (.int 1)) lNil))) (lCons (eC (.int 2)) lNil))) lNil)))) lNil))))) lNil))))) (gN 0)) (sSeq (sExpr (eApp (eV 0) (eTup (lCons (eTup (lCons (eC (.int 5)) (lCons (eC (.int 3)) (lCons (eTup (lCons (eTup (lCons (eC (.int 0)) (lCons (eC (.int 2)) (lCons (eC (.int 4)) lNil)))) (lCons (eTup (lCons (eC (.int 3)) (lCons (eC (.int 1)) (lCons (eC (.int 0)) lNil)))) lNil))) lNil)))) (lCons (eTup (lCons (eTup (lCons (eC (.int 1)) (lCons (eC (.int 2)) (lCons (eC (.int 4)) lNil)))) lNil)) (lCons (eTup (lCons (eTup (lCons (eC (.int 1)) (lCons (eC (.int 0)) (lCons (eC (.int 1)) lNil)))) (lCons (eTup (lCons (eC (.int 0)) (lCons (eC (.int 1)) (lCons (eC (.int 2)) lNil)))) lNil))) (lCons (eFrz (lSz (lCons (eTup (lCons (eTup (lCons (eC (.int 0)) lNil)) (lCons (eC (.int 1)) lNil))) (lCons (eTup (lCons (eTup (lCons (eC (.int 1)) (lCons (eC (.int 2)) lNil))) (lCons (eC (.int 1)) lNil))) lNil)))) lNil))))))) (sSeq (sAsg (eThaw (lAdd (eV 0) (eFrz (lSz (lCons (eTup (lCons (eTup (lCons (eC (.int 3)) (lCons (eC (.int 2)) (lCons (eTup (lCons (eTup (lCons (eC (.int 1)) (lCons (eC (.int 1)) lNil))) (lCons (eTup (lCons (eC (.int 1)) (lCons (eC (.int 2)) lNil))) lNil))) lNil)))) (lCons (eTup lNil) (lCons (eTup (lCons (eTup (lCons (eC (.int 1)) (lCons (eC (.int 0)) lNil))) (lCons (eTup (lCons (eC (.int 0)) (lCons (eC (.int 1)) lNil))) lNil))) (lCons (eFrz (lSz (lCons (eTup (lCons (eTup (lCons (eC (.int 0)) lNil)) (lCons (eC (.int 0)) lNil))) (lCons (eTup (lCons (eTup (lCons (eC (.int 0)) (lCons (eC (.int 1)) lNil))) (lCons (eC (.int 0)) lNil))) lNil)))) lNil))))) lNil))))) (gN 0)) (sSeq (sAsg (eThaw (lAdd (eV 0) (eFrz (lSz (lCons (eTup (lCons (eTup (lCons (eC (.int 7)) (lCons (eC (.int 1)) (lCons (eTup lNil) lNil)))) (lCons (eTup (lCons (eTup (lCons (eC (.int 1)) lNil)) lNil)) (lCons (eTup lNil) (lCons (eFrz (lSz (lCons (eTup (lCons (eTup (lCons (eC (.int 0)) lNil)) (lCons (eC (.int 1)) lNil))) lNil))) lNil))))) (lCons (eTup (lCons (eTup (lCons (eC (.int 7)) (lCons (eC (.int 1)) (lCons (eTup (lCons (eTup (lCons (eC (.int 3)) lNil)) (lCons (eTup (lCons (eC (.int 5)) lNil)) lNil))) lNil)))) (lCons (eTup lNil) (lCons (eTup (lCons (eTup (lCons (eC (.int 1)) lNil)) lNil)) (lCons (eFrz (lSz (lCons (eTup (lCons (eTup (lCons (eC (.int 0)) lNil)) (lCons (eC (.int 0)) lNil))) lNil))) lNil))))) lNil)))))) (gN 0)) (sSeq (sExpr (eApp (eV 0) (eTup (lCons (eTup (lCons (eC (.int 2)) (lCons (eC (.int 4)) (lCons (eTup (lCons (eTup (lCons (eC (.int 1)) (lCons (eC (.int 1)) (lCons (eC (.int 1)) (lCons (eC (.int 1)) lNil))))) (lCons (eTup (lCons (eC (.int 1)) (lCons (eC (.int 1)) (lCons (eC (.int 1)) (lCons (eC (.int 1)) lNil))))) (lCons (eTup (lCons (eC (.int 0)) (lCons (eC (.int 1)) (lCons (eC (.int 1)) (lCons (eC (.int 0)) lNil))))) (lCons (eTup (lCons (eC (.int 1)) (lCons (eC (.int 0)) (lCons (eC (.int 0)) (lCons (eC (.int 1)) lNil))))) lNil))))) lNil)))) (lCons (eTup (lCons (eTup (lCons (eC (.int 1)) (lCons (eC (.int 0)) (lCons (eC (.int 0)) (lCons (eC (.int 1)) lNil))))) (lCons (eTup (lCons (eC (.int 0)) (lCons (eC (.int 1)) (lCons (eC (.int 1)) (lCons (eC (.int 0)) lNil))))) lNil))) (lCons (eTup (lCons (eTup (lCons (eC (.int 1)) (lCons (eC (.int 0)) (lCons (eC (.int 0)) (lCons (eC (.int 1)) lNil))))) (lCons (eTup (lCons (eC (.int 0)) (lCons (eC (.int 1)) (lCons (eC (.int 1)) (lCons (eC (.int 0)) lNil))))) lNil))) (lCons (eFrz (lSz (lCons (eTup (lCons (eTup (lCons (eC (.int 0)) (lCons (eC (.int 3)) lNil))) (lCons (eC (.int 1)) lNil))) (lCons (eTup (lCons (eTup (lCons (eC (.int 1)) (lCons (eC (.int 2)) lNil))) (lCons (eC (.int 1)) lNil))) (lCons (eTup (lCons (eTup (lCons (eC (.int 0)) (lCons (eC (.int 1)) lNil))) (lCons (eC (.int 2)) lNil))) (lCons (eTup (lCons (eTup (lCons (eC (.int 0)) (lCons (eC (.int 1)) (lCons (eC (.int 3)) lNil)))) (lCons (eC (.int 2)) lNil))) lNil)))))) lNil))))))) (sSeq (sExpr (eApp (eV 0) (eTup (lCons (eTup (lCons (eC (.int 3)) (lCons (eC (.int 4)) (lCons (eTup (lCons (eTup (lCons (eC (.int 0)) (lCons (eC (.int 0)) (lCons (eC (.int 0)) (lCons (eC (.int 2)) lNil))))) (lCons (eTup (lCons (eC (.int 0)) (lCons (eC (.int 1)) (lCons (eC (.int 2)) (lCons (eC (.int 1)) lNil))))) lNil))) lNil)))) (lCons (eTup (lCons (eTup (lCons (eC (.int 1)) (lCons (eC (.int 0)) (lCons (eC (.int 0)) (lCons (eC (.int 0)) lNil))))) (lCons (eTup (lCons (eC (.int 0)) (lCons (eC (.int 1)) (lCons (eC (.int 1)) (lCons (eC (.int 0)) lNil))))) lNil))) (lCons (eTup (lCons (eTup (lCons (eC (.int 0)) (lCons (eC (.int 1)) (lCons (eC (.int 2)) (lCons (eC (.int 0)) lNil))))) (lCons (eTup (lCons (eC (.int 0)) (lCons (eC (.int 0)) (lCons (eC (.int 0)) (lCons (eC (.int 1)) lNil))))) lNil))) (lCons (eFrz (lSz (lCons (eTup (lCons (eTup (lCons (eC (.int 3)) lNil)) (lCons (eC (.int 0)) lNil))) (lCons (eTup (lCons (eTup (lCons (eC (.int 1)) (lCons (eC (.int 2)) lNil))) (lCons (eC (.int 1)) lNil))) (lCons (eTup (lCons (eTup (lCons (eC (.int 0)) (lCons (eC (.int 3)) lNil))) (lCons (eC (.int 1)) lNil))) (lCons (eTup (lCons (eTup (lCons (eC (.int 0)) (lCons (eC (.int 1)) (lCons (eC (.int 2)) lNil)))) (lCons (eC (.int 2)) lNil))) lNil)))))) lNil))))))) (sSeq (sExpr (eApp (eV 0) (eTup (lCons (eTup (lCons (eC (.int 9973)) (lCons (eC (.int 3)) (lCons (eTup (lCons (eTup (lCons (eC (.int 9972)) (lCons (eC (.int 1)) (lCons (eC (.int 0)) lNil)))) (lCons (eTup (lCons (eC (.int 0)) (lCons (eC (.int 2)) (lCons (eC (.int 1)) lNil)))) lNil))) lNil)))) (lCons (eTup (lCons (eTup (lCons (eC (.int 1)) (lCons (eC (.int 1)) (lCons (eC (.int 9971)) lNil)))) lNil)) (lCons (eTup (lCons (eTup (lCons (eC (.int 1)) (lCons (eC (.int 0)) (lCons (eC (.int 4987)) lNil)))) (lCons (eTup (lCons (eC (.int 0)) (lCons (eC (.int 1)) (lCons (eC (.int 4987)) lNil)))) lNil))) (lCons (eFrz (lSz (lCons (eTup (lCons (eTup (lCons (eC (.int 2)) lNil)) (lCons (eC (.int 1)) lNil))) (lCons (eTup (lCons (eTup (lCons (eC (.int 0)) (lCons (eC (.int 1)) lNil))) (lCons (eC (.int 1)) lNil))) lNil)))) lNil))))))) (sSeq (sExpr (eApp (eV 0) (eTup (lCons (eTup (lCons (eC (.int 5)) (lCons (eC (.int 4)) (lCons (eTup (lCons (eTup (lCons (eC (.int 0)) (lCons (eC (.int 0)) (lCons (eC (.int 3)) (lCons (eC (.int 4)) lNil))))) lNil)) lNil)))) (lCons (eTup (lCons (eTup (lCons (eC (.int 1)) (lCons (eC (.int 0)) (lCons (eC (.int 0)) (lCons (eC (.int 0)) lNil))))) (lCons (eTup (lCons (eC (.int 0)) (lCons (eC (.int 1)) (lCons (eC (.int 0)) (lCons (eC (.int 0)) lNil))))) (lCons (eTup (lCons (eC (.int 0)) (lCons (eC (.int 0)) (lCons (eC (.int 1)) (lCons (eC (.int 3)) lNil))))) lNil)))) (lCons (eTup (lCons (eTup (lCons (eC (.int 0)) (lCons (eC (.int 0)) (lCons (eC (.int 1)) (lCons (eC (.int 3)) lNil))))) lNil)) (lCons (eFrz (lSz (lCons (eTup (lCons (eTup (lCons (eC (.int 2)) (lCons (eC (.int 3)) lNil))) (lCons (eC (.int 1)) lNil))) (lCons (eTup (lCons (eTup (lCons (eC (.int 0)) (lCons (eC (.int 1)) (lCons (eC (.int 2)) (lCons (eC (.int 3)) lNil))))) (lCons (eC (.int 3)) lNil))) (lCons (eTup (lCons (eTup (lCons (eC (.int 0)) (lCons (eC (.int 3)) lNil))) (lCons (eC (.int 2)) lNil))) lNil))))) lNil))))))) (sRet (eV 0))))))))))))
def m__law_books : GD := frm (fnD n__law_books.length fb__law_books)
theorem p__law_books [TC : TabC] {P : Program} {w : World} {K : PySem.W.Frag} {mg : Str → Option Value} {base : Heap} (T : Tops K mg) (X : Cx) (E : XK) (c : XC P w K mg base false E 0 n__law_books (defScope s__law_books) X) (hf : ∀ x, X.fn x = true) : PSs X (defBody s__law_books) (tDS K mg E fb__law_books) :=
  (ss_cons (c.set' 0 rfl (.inl (by kernel_rfl)) (.inr (by kernel_rfl)) (d_thaw (f_lst (l_cons (d_tup (l_cons (d_tup (l_cons d_int (l_cons d_int (l_cons (d_tup (l_cons (d_tup (l_cons d_int (l_cons d_int (l_cons d_int l_nil)))) l_nil)) l_nil)))) (l_cons (d_tup (l_cons (d_tup (l_cons d_int (l_cons d_int (l_cons d_int l_nil)))) (l_cons (d_tup (l_cons d_int (l_cons d_int (l_cons d_int l_nil)))) l_nil))) (l_cons (d_tup (l_cons (d_tup (l_cons d_int (l_cons d_int (l_cons d_int l_nil)))) l_nil)) (l_cons (d_frz (f_lst (l_cons (d_tup (l_cons (d_tup (l_cons d_int (l_cons d_int l_nil))) (l_cons d_int l_nil))) (l_cons (d_tup (l_cons (d_tup (l_cons d_int l_nil)) (l_cons d_int l_nil))) (l_cons (d_tup (l_cons (d_tup (l_cons d_int (l_cons d_int (l_cons d_int l_nil)))) (l_cons d_int l_nil))) l_nil))))) l_nil))))) l_nil))) (by intro env h; cases env; cases h; first | rfl | kernel_rfl)) (ss_cons (s_expr (c.app (c.var 0 rfl (.inl (by kernel_rfl))) (d_tup (l_cons (d_tup (l_cons d_int (l_cons d_int (l_cons (d_tup (l_cons (d_tup (l_cons d_int (l_cons d_int (l_cons d_int (l_cons d_int l_nil))))) (l_cons (d_tup (l_cons d_int (l_cons d_int (l_cons d_int (l_cons d_int l_nil))))) l_nil))) l_nil)))) (l_cons (d_tup (l_cons (d_tup (l_cons d_int (l_cons d_int (l_cons d_int (l_cons d_int l_nil))))) (l_cons (d_tup (l_cons d_int (l_cons d_int (l_cons d_int (l_cons d_int l_nil))))) l_nil))) (l_cons (d_tup (l_cons (d_tup (l_cons d_int (l_cons d_int (l_cons d_int (l_cons d_int l_nil))))) (l_cons (d_tup (l_cons d_int (l_cons d_int (l_cons d_int (l_cons d_int l_nil))))) l_nil))) (l_cons (d_frz (f_lst (l_cons (d_tup (l_cons (d_tup (l_cons d_int (l_cons d_int l_nil))) (l_cons d_int l_nil))) (l_cons (d_tup (l_cons (d_tup (l_cons d_int (l_cons d_int l_nil))) (l_cons d_int l_nil))) (l_cons (d_tup (l_cons (d_tup (l_cons d_int (l_cons d_int l_nil))) (l_cons d_int l_nil))) (l_cons (d_tup (l_cons (d_tup (l_cons d_int (l_cons d_int (l_cons d_int (l_cons d_int l_nil))))) (l_cons d_int l_nil))) (l_cons (d_tup (l_cons (d_tup (l_cons d_int l_nil)) (l_cons d_int l_nil))) l_nil))))))) l_nil))))))) (ss_cons (c.set' 0 rfl (.inl (by kernel_rfl)) (.inr (by kernel_rfl)) (d_thaw (c.addL (c.var 0 rfl (.inl (by kernel_rfl))) (d_frz (f_lst (l_cons (d_tup (l_cons (d_tup (l_cons d_int (l_cons d_int (l_cons (d_tup l_nil) l_nil)))) (l_cons (d_tup (l_cons (d_tup (l_cons d_int (l_cons d_int l_nil))) (l_cons (d_tup (l_cons d_int (l_cons d_int l_nil))) l_nil))) (l_cons (d_tup l_nil) (l_cons (d_frz (f_lst (l_cons (d_tup (l_cons (d_tup (l_cons d_int l_nil)) (l_cons d_int l_nil))) (l_cons (d_tup (l_cons (d_tup (l_cons d_int (l_cons d_int l_nil))) (l_cons d_int l_nil))) l_nil)))) l_nil))))) l_nil))))) (by intro env h; cases env; cases h; first | rfl | kernel_rfl)) (ss_cons (s_expr (c.app (c.var 0 rfl (.inl (by kernel_rfl))) (d_tup (l_cons (d_tup (l_cons d_int (l_cons d_int (l_cons (d_tup (l_cons (d_tup (l_cons d_int (l_cons d_int (l_cons d_int l_nil)))) (l_cons (d_tup (l_cons d_int (l_cons d_int (l_cons d_int l_nil)))) l_nil))) l_nil)))) (l_cons (d_tup (l_cons (d_tup (l_cons d_int (l_cons d_int (l_cons d_int l_nil)))) l_nil)) (l_cons (d_tup (l_cons (d_tup (l_cons d_int (l_cons d_int (l_cons d_int l_nil)))) (l_cons (d_tup (l_cons d_int (l_cons d_int (l_cons d_int l_nil)))) l_nil))) (l_cons (d_frz (f_lst (l_cons (d_tup (l_cons (d_tup (l_cons d_int l_nil)) (l_cons d_int l_nil))) (l_cons (d_tup (l_cons (d_tup (l_cons d_int (l_cons d_int l_nil))) (l_cons d_int l_nil))) l_nil)))) l_nil))))))) (ss_cons (c.set' 0 rfl (.inl (by kernel_rfl)) (.inr (by kernel_rfl)) (d_thaw (c.addL (c.var 0 rfl (.inl (by kernel_rfl))) (d_frz (f_lst (l_cons (d_tup (l_cons (d_tup (l_cons d_int (l_cons d_int (l_cons (d_tup (l_cons (d_tup (l_cons d_int (l_cons d_int l_nil))) (l_cons (d_tup (l_cons d_int (l_cons d_int l_nil))) l_nil))) l_nil)))) (l_cons (d_tup l_nil) (l_cons (d_tup (l_cons (d_tup (l_cons d_int (l_cons d_int l_nil))) (l_cons (d_tup (l_cons d_int (l_cons d_int l_nil))) l_nil))) (l_cons (d_frz (f_lst (l_cons (d_tup (l_cons (d_tup (l_cons d_int l_nil)) (l_cons d_int l_nil))) (l_cons (d_tup (l_cons (d_tup (l_cons d_int (l_cons d_int l_nil))) (l_cons d_int l_nil))) l_nil)))) l_nil))))) l_nil))))) (by intro env h; cases env; cases h; first | rfl | kernel_rfl)) (ss_cons (c.set' 0 rfl (.inl (by kernel_rfl)) (.inr (by kernel_rfl)) (d_thaw (c.addL (c.var 0 rfl (.inl (by kernel_rfl))) (d_frz (f_lst (l_cons (d_tup (l_cons (d_tup (l_cons d_int (l_cons d_int (l_cons (d_tup l_nil) l_nil)))) (l_cons (d_tup (l_cons (d_tup (l_cons d_int l_nil)) l_nil)) (l_cons (d_tup l_nil) (l_cons (d_frz (f_lst (l_cons (d_tup (l_cons (d_tup (l_cons d_int l_nil)) (l_cons d_int l_nil))) l_nil))) l_nil))))) (l_cons (d_tup (l_cons (d_tup (l_cons d_int (l_cons d_int (l_cons (d_tup (l_cons (d_tup (l_cons d_int l_nil)) (l_cons (d_tup (l_cons d_int l_nil)) l_nil))) l_nil)))) (l_cons (d_tup l_nil) (l_cons (d_tup (l_cons (d_tup (l_cons d_int l_nil)) l_nil)) (l_cons (d_frz (f_lst (l_cons (d_tup (l_cons (d_tup (l_cons d_int l_nil)) (l_cons d_int l_nil))) l_nil))) l_nil))))) l_nil)))))) (by intro env h; cases env; cases h; first | rfl | kernel_rfl)) (ss_cons (s_expr (c.app (c.var 0 rfl (.inl (by kernel_rfl))) (d_tup (l_cons (d_tup (l_cons d_int (l_cons d_int (l_cons (d_tup (l_cons (d_tup (l_cons d_int (l_cons d_int (l_cons d_int (l_cons d_int l_nil))))) (l_cons (d_tup (l_cons d_int (l_cons d_int (l_cons d_int (l_cons d_int l_nil))))) (l_cons (d_tup (l_cons d_int (l_cons d_int (l_cons d_int (l_cons d_int l_nil))))) (l_cons (d_tup (l_cons d_int (l_cons d_int (l_cons d_int (l_cons d_int l_nil))))) l_nil))))) l_nil)))) (l_cons (d_tup (l_cons (d_tup (l_cons d_int (l_cons d_int (l_cons d_int (l_cons d_int l_nil))))) (l_cons (d_tup (l_cons d_int (l_cons d_int (l_cons d_int (l_cons d_int l_nil))))) l_nil))) (l_cons (d_tup (l_cons (d_tup (l_cons d_int (l_cons d_int (l_cons d_int (l_cons d_int l_nil))))) (l_cons (d_tup (l_cons d_int (l_cons d_int (l_cons d_int (l_cons d_int l_nil))))) l_nil))) (l_cons (d_frz (f_lst (l_cons (d_tup (l_cons (d_tup (l_cons d_int (l_cons d_int l_nil))) (l_cons d_int l_nil))) (l_cons (d_tup (l_cons (d_tup (l_cons d_int (l_cons d_int l_nil))) (l_cons d_int l_nil))) (l_cons (d_tup (l_cons (d_tup (l_cons d_int (l_cons d_int l_nil))) (l_cons d_int l_nil))) (l_cons (d_tup (l_cons (d_tup (l_cons d_int (l_cons d_int (l_cons d_int l_nil)))) (l_cons d_int l_nil))) l_nil)))))) l_nil))))))) (ss_cons (s_expr (c.app (c.var 0 rfl (.inl (by kernel_rfl))) (d_tup (l_cons (d_tup (l_cons d_int (l_cons d_int (l_cons (d_tup (l_cons (d_tup (l_cons d_int (l_cons d_int (l_cons d_int (l_cons d_int l_nil))))) (l_cons (d_tup (l_cons d_int (l_cons d_int (l_cons d_int (l_cons d_int l_nil))))) l_nil))) l_nil)))) (l_cons (d_tup (l_cons (d_tup (l_cons d_int (l_cons d_int (l_cons d_int (l_cons d_int l_nil))))) (l_cons (d_tup (l_cons d_int (l_cons d_int (l_cons d_int (l_cons d_int l_nil))))) l_nil))) (l_cons (d_tup (l_cons (d_tup (l_cons d_int (l_cons d_int (l_cons d_int (l_cons d_int l_nil))))) (l_cons (d_tup (l_cons d_int (l_cons d_int (l_cons d_int (l_cons d_int l_nil))))) l_nil))) (l_cons (d_frz (f_lst (l_cons (d_tup (l_cons (d_tup (l_cons d_int l_nil)) (l_cons d_int l_nil))) (l_cons (d_tup (l_cons (d_tup (l_cons d_int (l_cons d_int l_nil))) (l_cons d_int l_nil))) (l_cons (d_tup (l_cons (d_tup (l_cons d_int (l_cons d_int l_nil))) (l_cons d_int l_nil))) (l_cons (d_tup (l_cons (d_tup (l_cons d_int (l_cons d_int (l_cons d_int l_nil)))) (l_cons d_int l_nil))) l_nil)))))) l_nil))))))) (ss_cons (s_expr (c.app (c.var 0 rfl (.inl (by kernel_rfl))) (d_tup (l_cons (d_tup (l_cons d_int (l_cons d_int (l_cons (d_tup (l_cons (d_tup (l_cons d_int (l_cons d_int (l_cons d_int l_nil)))) (l_cons (d_tup (l_cons d_int (l_cons d_int (l_cons d_int l_nil)))) l_nil))) l_nil)))) (l_cons (d_tup (l_cons (d_tup (l_cons d_int (l_cons d_int (l_cons d_int l_nil)))) l_nil)) (l_cons (d_tup (l_cons (d_tup (l_cons d_int (l_cons d_int (l_cons d_int l_nil)))) (l_cons (d_tup (l_cons d_int (l_cons d_int (l_cons d_int l_nil)))) l_nil))) (l_cons (d_frz (f_lst (l_cons (d_tup (l_cons (d_tup (l_cons d_int l_nil)) (l_cons d_int l_nil))) (l_cons (d_tup (l_cons (d_tup (l_cons d_int (l_cons d_int l_nil))) (l_cons d_int l_nil))) l_nil)))) l_nil))))))) (ss_cons (s_expr (c.app (c.var 0 rfl (.inl (by kernel_rfl))) (d_tup (l_cons (d_tup (l_cons d_int (l_cons d_int (l_cons (d_tup (l_cons (d_tup (l_cons d_int (l_cons d_int (l_cons d_int (l_cons d_int l_nil))))) l_nil)) l_nil)))) (l_cons (d_tup (l_cons (d_tup (l_cons d_int (l_cons d_int (l_cons d_int (l_cons d_int l_nil))))) (l_cons (d_tup (l_cons d_int (l_cons d_int (l_cons d_int (l_cons d_int l_nil))))) (l_cons (d_tup (l_cons d_int (l_cons d_int (l_cons d_int (l_cons d_int l_nil))))) l_nil)))) (l_cons (d_tup (l_cons (d_tup (l_cons d_int (l_cons d_int (l_cons d_int (l_cons d_int l_nil))))) l_nil)) (l_cons (d_frz (f_lst (l_cons (d_tup (l_cons (d_tup (l_cons d_int (l_cons d_int l_nil))) (l_cons d_int l_nil))) (l_cons (d_tup (l_cons (d_tup (l_cons d_int (l_cons d_int (l_cons d_int (l_cons d_int l_nil))))) (l_cons d_int l_nil))) (l_cons (d_tup (l_cons (d_tup (l_cons d_int (l_cons d_int l_nil))) (l_cons d_int l_nil))) l_nil))))) l_nil))))))) (ss_one (s_ret (c.var 0 rfl (.inl (by kernel_rfl)))))))))))))))
theorem ok__law_books [TC : TabC] {P : Program} {w : World} {K : PySem.W.Frag} {mg : Str → Option Value} {base : Heap} (T : Tops K mg) : FnG P w K mg base false 1 T.a__law_books T.d__law_books [] (spG K mg 0 m__law_books) :=
  fnG_fun T.F__law_books sc__law_books fun X E c hf => p__law_books T X E c hf
def fb__law_draw : SD := (sSeq (sDPutD (eV 0) (eC (.str "drawn")) (eBin addD (eBin dGetD (eV 0) (eC (.str "drawn"))) (eC (.int 1)))) (sSeq (sIf (bB (eBin (cmpI fun i j => decide (j < i)) (eBin dGetD (eV 0) (eC (.str "left"))) (eC (.int 0)))) (sSeq (sAsg (eBin modD (eBi intD (lCons (eBin dGetD (eV 0) (eC (.str "left"))) lNil)) (eV 1)) (gN 4)) (sSeq (sDPutD (eV 0) (eC (.str "left")) (eBin fdivD (eBin dGetD (eV 0) (eC (.str "left"))) (eV 1))) (sRet (eV 4)))) sNext) (sSeq (sPar 5 6 (lCons (eBin dGetD (eV 0) (eC (.str "next"))) (lCons (eBin dGetD (eV 0) (eC (.str "cells"))) lNil))) (sSeq (sDPutD (eV 0) (eC (.str "next")) (eBin addD (eV 5) (eC (.int 1)))) (sSeq (sAsg (eIf (bB (eBin neOD (eV 6) (eFrz (lSz lNil)))) (eBin itemD (eV 6) (eBin modD (eBi intD (lCons (eV 5) lNil)) (eBi lenD (lCons (eV 6) lNil)))) (eC (.int 116284))) (gN 2)) (sSeq (sIf (bAnd (bB (eBin (cmpI fun i j => decide (j ≤ i)) (eV 2) (eBin powD (eC (.int 10)) (eC (.int 18))))) (bB (eBin (cmpI fun i j => decide (i < j)) (eV 5) (eBi lenD (lCons (eV 6) lNil))))) (sSeq (sDPutD (eV 0) (eC (.str "left")) (eBin fdivD (eV 2) (eV 1))) (sRet (eBin modD (eBi intD (lCons (eV 2) lNil)) (eV 1)))) sNext) (sSeq (sAsg (eBin modD (eBi intD (lCons (eBin addD (eBin addD (eBin modD (eBi intD (lCons (eV 2) lNil)) (eC (.int 1000708077))) (eBin mulD' (eC (.int 83812)) (eBin dGetD (eV 0) (eC (.str "drawn"))))) (eC (.int 1006))) lNil)) (eC (.int 2147200903))) (gN 3)) (sSeq (sAsg (eBin modD (eBi intD (lCons (eBin addD (eBin addD (eBin mulD' (eV 3) (eV 3)) (eBin mulD' (eC (.int 1214664)) (eBin dGetD (eV 0) (eC (.str "drawn"))))) (eC (.int 804))) lNil)) (eC (.int 2147210729))) (gN 3)) (sRet (eBin modD (eBi intD (lCons (eBin fdivD (eBin modD (eBi intD (lCons (eBin addD (eBin mulD' (eV 3) (eV 3)) (eBin mulD' (eC (.int 664)) (eV 3))) lNil)) (eC (.int 2147220803))) (eC (.int 32))) lNil)) (eV 1)))))))))))
def m__law_draw : GD := frm (fnD n__law_draw.length fb__law_draw)
theorem p__law_draw [TC : TabC] {P : Program} {w : World} {K : PySem.W.Frag} {mg : Str → Option Value} {base : Heap} (T : Tops K mg) (X : Cx) (E : XK) (c : XC P w K mg base false E 0 n__law_draw (defScope s__law_draw) X) (hf : ∀ x, X.fn x = true) : PSs X (defBody s__law_draw) (tDS K mg E fb__law_draw) :=
  (ss_cons (c.dput (c.var 0 rfl (.inl (by kernel_rfl))) d_str (c.add (c.dget (c.var 0 rfl (.inl (by kernel_rfl))) d_str) d_int)) (ss_cons (s_if (t_cmp op_gt sp_cmpI (c.dget (c.var 0 rfl (.inl (by kernel_rfl))) d_str) d_int rfl) (ss_cons (c.set' 4 rfl (.inl (by kernel_rfl)) (.inr (by kernel_rfl)) (d_bin op_mod sp_mod (c.int (by kernel_rfl) (T.z_int) (l_cons (c.dget (c.var 0 rfl (.inl (by kernel_rfl))) d_str) l_nil)) (c.var 1 rfl (.inl (by kernel_rfl)))) (by intro env h; cases env; cases h; first | rfl | kernel_rfl)) (ss_cons (c.dput (c.var 0 rfl (.inl (by kernel_rfl))) d_str (d_bin op_fdiv sp_fdiv (c.dget (c.var 0 rfl (.inl (by kernel_rfl))) d_str) (c.var 1 rfl (.inl (by kernel_rfl))))) (ss_one (s_ret (c.var 4 rfl (.inl (by kernel_rfl))))))) ss_nil) (ss_cons (c.par 5 6 rfl rfl (by decide) (by kernel_rfl) (by kernel_rfl) (l_cons (c.dget (c.var 0 rfl (.inl (by kernel_rfl))) d_str) (l_cons (c.dget (c.var 0 rfl (.inl (by kernel_rfl))) d_str) l_nil)) (by intro env h; cases env; cases h; first | rfl | kernel_rfl) (by intro env h; cases env; cases h; first | rfl | kernel_rfl)) (ss_cons (c.dput (c.var 0 rfl (.inl (by kernel_rfl))) d_str (c.add (c.var 5 rfl (.inl (by kernel_rfl))) d_int)) (ss_cons (c.set' 2 rfl (.inl (by kernel_rfl)) (.inr (by kernel_rfl)) (d_if (c.tne (c.var 6 rfl (.inl (by kernel_rfl))) (d_frz (f_lst l_nil))) (c.item (c.var 6 rfl (.inl (by kernel_rfl))) (d_bin op_mod sp_mod (c.int (by kernel_rfl) (T.z_int) (l_cons (c.var 5 rfl (.inl (by kernel_rfl))) l_nil)) (c.len (by kernel_rfl) (T.z_len) (l_cons (c.var 6 rfl (.inl (by kernel_rfl))) l_nil)))) d_int) (by intro env h; cases env; cases h; first | rfl | kernel_rfl)) (ss_cons (s_if (PW.pt (w_and (t_cmp op_ge sp_cmpI (c.var 2 rfl (.inl (by kernel_rfl))) (d_bin op_pow sp_pow d_int d_int) rfl) (w_and1 (t_cmp op_lt sp_cmpI (c.var 5 rfl (.inl (by kernel_rfl))) (c.len (by kernel_rfl) (T.z_len) (l_cons (c.var 6 rfl (.inl (by kernel_rfl))) l_nil)) rfl)))) (ss_cons (c.dput (c.var 0 rfl (.inl (by kernel_rfl))) d_str (d_bin op_fdiv sp_fdiv (c.var 2 rfl (.inl (by kernel_rfl))) (c.var 1 rfl (.inl (by kernel_rfl))))) (ss_one (s_ret (d_bin op_mod sp_mod (c.int (by kernel_rfl) (T.z_int) (l_cons (c.var 2 rfl (.inl (by kernel_rfl))) l_nil)) (c.var 1 rfl (.inl (by kernel_rfl))))))) ss_nil) (ss_cons (c.set' 3 rfl (.inl (by kernel_rfl)) (.inr (by kernel_rfl)) (d_bin op_mod sp_mod (c.int (by kernel_rfl) (T.z_int) (l_cons (c.add (c.add (d_bin op_mod sp_mod (c.int (by kernel_rfl) (T.z_int) (l_cons (c.var 2 rfl (.inl (by kernel_rfl))) l_nil)) d_int) (c.mul d_int (c.dget (c.var 0 rfl (.inl (by kernel_rfl))) d_str))) d_int) l_nil)) d_int) (by intro env h; cases env; cases h; first | rfl | kernel_rfl)) (ss_cons (c.set' 3 rfl (.inl (by kernel_rfl)) (.inr (by kernel_rfl)) (d_bin op_mod sp_mod (c.int (by kernel_rfl) (T.z_int) (l_cons (c.add (c.add (c.mul (c.var 3 rfl (.inl (by kernel_rfl))) (c.var 3 rfl (.inl (by kernel_rfl)))) (c.mul d_int (c.dget (c.var 0 rfl (.inl (by kernel_rfl))) d_str))) d_int) l_nil)) d_int) (by intro env h; cases env; cases h; first | rfl | kernel_rfl)) (ss_one (s_ret (d_bin op_mod sp_mod (c.int (by kernel_rfl) (T.z_int) (l_cons (d_bin op_fdiv sp_fdiv (d_bin op_mod sp_mod (c.int (by kernel_rfl) (T.z_int) (l_cons (c.add (c.mul (c.var 3 rfl (.inl (by kernel_rfl))) (c.var 3 rfl (.inl (by kernel_rfl)))) (c.mul d_int (c.var 3 rfl (.inl (by kernel_rfl))))) l_nil)) d_int) d_int) l_nil)) (c.var 1 rfl (.inl (by kernel_rfl))))))))))))))
theorem ok__law_draw [TC : TabC] {P : Program} {w : World} {K : PySem.W.Frag} {mg : Str → Option Value} {base : Heap} (T : Tops K mg) : FnG P w K mg base false 1 T.a__law_draw T.d__law_draw ["_law_feed_here", "_law_many"] (spG K mg 2 m__law_draw) :=
  fnG_fun T.F__law_draw sc__law_draw fun X E c hf => p__law_draw T X E c hf
def fb__law_feed : SD := (sRet (eDict [.inr "cells", .inr "next", .inr "left", .inr "drawn"] (lCons (eFrz (lComp (iAny (eSlA (eV 0) oN (oB (eC (.int 63))))) [1] (gN 1) bYes (eBi intD (lCons (eV 1) lNil)))) (lCons (eC (.int 0)) (lCons (eC (.int 0)) (lCons (eC (.int 0)) lNil))))))
def m__law_feed : GD := frm (fnD n__law_feed.length fb__law_feed)
theorem p__law_feed [TC : TabC] {P : Program} {w : World} {K : PySem.W.Frag} {mg : Str → Option Value} {base : Heap} (T : Tops K mg) (X : Cx) (E : XK) (c : XC P w K mg base false E 0 n__law_feed (defScope s__law_feed) X) (hf : ∀ x, X.fn x = true) : PSs X (defBody s__law_feed) (tDS K mg E fb__law_feed) :=
  (ss_one (s_ret (d_dict (dd_cons (d_frz (c.comp (own := [("_law_cell", 1)]) (by kernel_rfl) (c.anyI (c.slA (c.var 0 rfl (.inl (by kernel_rfl))) o_none (o_some d_int))) (fun Y16 c16 h16 => (c16.gN 1 rfl (.inl (by kernel_rfl)) (.inr (by kernel_rfl)))) (g_name (i := 1) (vs := [1]) (by decide)) (fun Y16 c16 => (c16.tnil)) (fun Y16 c16 => (c16.int (by kernel_rfl) (T.z_int) (l_cons (c16.var 1 rfl (.inl (by kernel_rfl))) l_nil))))) (dd_cons d_int (dd_cons d_int (dd_cons d_int dd_nil)))) (by simp) (by decide))))
theorem ok__law_feed [TC : TabC] {P : Program} {w : World} {K : PySem.W.Frag} {mg : Str → Option Value} {base : Heap} (T : Tops K mg) : FnG P w K mg base false 1 T.a__law_feed T.d__law_feed ["_law_script"] (spG K mg 1 m__law_feed) :=
  fnG_fun T.F__law_feed sc__law_feed fun X E c hf => p__law_feed T X E c hf
def fb__law_all : SD := (sSeq (sAsg (eFrz (lSz (lCons (eBin mulD' (eTup (lCons (eC (.int 0)) lNil)) (eV 1)) lNil))) (gN 3)) (sSeq (sFor (iAny (eV 2)) (gN 4) (sSeq (sAsg (eThaw (lSz lNil)) (gN 5)) (sSeq (sFor (iRng1 (lCons (eV 0) lNil)) (gN 6) (sFor (iAny (eBi lstD (lCons (eV 3) lNil))) (gN 7) (sExpr (eApp (eV 5) (eBi tupD (lCons (eFrz (lComp (iZip (lCons (eV 7) (lCons (eV 4) lNil))) [8, 9] (gT [(gN 8), (gN 9)]) bYes (eBin modD (eBi intD (lCons (eBin addD (eV 8) (eBin mulD' (eV 6) (eV 9))) lNil)) (eV 0)))) lNil)))))) (sAsg (eV 5) (gN 3))))) (sRet (eBi sortB (lCons (eV 3) lNil)))))
def m__law_all : GD := frm (fnD n__law_all.length fb__law_all)
theorem p__law_all [TC : TabC] {P : Program} {w : World} {K : PySem.W.Frag} {mg : Str → Option Value} {base : Heap} (T : Tops K mg) (X : Cx) (E : XK) (c : XC P w K mg base false E 0 n__law_all (defScope s__law_all) X) (hf : ∀ x, X.fn x = true) : PSs X (defBody s__law_all) (tDS K mg E fb__law_all) :=
  (ss_cons (c.set' 3 rfl (.inl (by kernel_rfl)) (.inr (by kernel_rfl)) (d_frz (f_lst (l_cons (c.mul (d_tup (l_cons d_int l_nil)) (c.var 1 rfl (.inl (by kernel_rfl)))) l_nil))) (by intro env h; cases env; cases h; first | rfl | kernel_rfl)) (ss_cons (c.for (vs := [4]) (c.anyI (c.var 2 rfl (.inl (by kernel_rfl)))) (c.gN 4 rfl (.inl (by kernel_rfl)) (.inr (by kernel_rfl))) (g_name (i := 4) (vs := [4]) (by decide)) (ss_cons (c.set' 5 rfl (.inl (by kernel_rfl)) (.inr (by kernel_rfl)) (d_thaw (f_lst l_nil)) (by intro env h; cases env; cases h; first | rfl | kernel_rfl)) (ss_cons (c.for (vs := [6]) (c.rng1 (by kernel_rfl) (T.z_range) (l_cons (c.var 0 rfl (.inr (.inl (by kernel_rfl)))) l_nil)) (c.gN 6 rfl (.inr (by kernel_rfl)) (.inl (hf _))) (g_name (i := 6) (vs := [6]) (by decide)) (ss_one (c.for (vs := [7]) (c.anyI (c.lst (by kernel_rfl) (T.z_list) (l_cons (c.var 3 rfl (.inl (by kernel_rfl))) l_nil))) (c.gN 7 rfl (.inl (by kernel_rfl)) (.inr (by kernel_rfl))) (g_name (i := 7) (vs := [7]) (by decide)) (ss_one (s_expr (c.app (c.var 5 rfl (.inl (by kernel_rfl))) (c.tup (by kernel_rfl) (T.z_tuple) (l_cons (d_frz (c.comp (own := [("_law_a", 8), ("_law_b", 9)]) (by kernel_rfl) (c.zip (by kernel_rfl) (T.z_zip) (l_cons (c.var 7 rfl (.inl (by kernel_rfl))) (l_cons (c.var 4 rfl (.inl (by kernel_rfl))) l_nil))) (fun Y17 c17 h17 => (c17.pgt 2 (pgs_cons (c17.gN 8 rfl (.inl (by kernel_rfl)) (.inr (by kernel_rfl))) (pgs_cons (c17.gN 9 rfl (.inl (by kernel_rfl)) (.inr (by kernel_rfl))) pgs_nil)))) (g_tup (gs_cons (g_name (i := 8) (vs := [8, 9]) (by decide)) (gs_cons (g_name (i := 9) (vs := [8, 9]) (by decide)) gs_nil))) (fun Y17 c17 => (c17.tnil)) (fun Y17 c17 => (d_bin op_mod sp_mod (c17.int (by kernel_rfl) (T.z_int) (l_cons (c17.add (c17.var 8 rfl (.inl (by kernel_rfl))) (c17.mul (c17.var 6 rfl (.inr (.inl (by kernel_rfl)))) (c17.var 9 rfl (.inl (by kernel_rfl))))) l_nil)) (c17.var 0 rfl (.inr (.inl (by kernel_rfl)))))))) l_nil)))))))) (ss_one (c.set' 3 rfl (.inl (by kernel_rfl)) (.inr (by kernel_rfl)) (c.var 5 rfl (.inl (by kernel_rfl))) (by intro env h; cases env; cases h; first | rfl | kernel_rfl)))))) (ss_one (s_ret (c.srtB (by kernel_rfl) (T.z_sorted) (l_cons (c.var 3 rfl (.inl (by kernel_rfl))) l_nil))))))
theorem ok__law_all [TC : TabC] {P : Program} {w : World} {K : PySem.W.Frag} {mg : Str → Option Value} {base : Heap} (T : Tops K mg) : FnG P w K mg base false 1 T.a__law_all T.d__law_all ["_law_prime", "_law_size", "_law_words"] (spG K mg 3 m__law_all) :=
  fnG_fun T.F__law_all sc__law_all fun X E c hf => p__law_all T X E c hf
def fb__law_same : SD := (sRet (eBin eqOD (eBi reprD (lCons (eV 0) lNil)) (eBi reprD (lCons (eV 1) lNil))))
def m__law_same : GD := same3
theorem p__law_same [TC : TabC] {P : Program} {w : World} {K : PySem.W.Frag} {mg : Str → Option Value} {base : Heap} (T : Tops K mg) (X : Cx) (E : XK) (c : XC P w K mg base true E 0 n__law_same (defScope s__law_same) X) (hf : ∀ x, X.fn x = true) : PSs X (defBody s__law_same) (tDS K mg E fb__law_same) :=
  (ss_one (s_ret (c.eq (c.repr (by kernel_rfl) (T.z_repr) (l_cons (c.var 0 rfl (.inl (by kernel_rfl))) l_nil)) (c.repr (by kernel_rfl) (T.z_repr) (l_cons (c.var 1 rfl (.inl (by kernel_rfl))) l_nil)))))
theorem ok__law_same [TC : TabC] {P : Program} {w : World} {K : PySem.W.Frag} {mg : Str → Option Value} {base : Heap} (T : Tops K mg) : FnG P w K mg base true 1 T.a__law_same T.d__law_same ["_law_told", "_law_due"] (spG K mg 2 m__law_same) :=
  (fnG_fun T.F__law_same sc__law_same fun X E c hf => p__law_same T X E c hf).by same3_by
def fb_bound_row : SD := (sRet (eBi tupD (lCons (eFrz (lComp (iRng1 (lCons (eV 1) lNil)) [4] (gN 4) bYes (eIf (bB (eBin dInD (eV 4) (eV 2))) (eBin modD (eNeg (eBin itemD (eBin dGetD (eV 2) (eV 4)) (eV 3))) (eV 0)) (eIf (bB (eBin eqOD (eV 4) (eV 3))) (eC (.int 1)) (eC (.int 0)))))) lNil)))
def m_bound_row : GD := frm (fnD n_bound_row.length fb_bound_row)
theorem p_bound_row [TC : TabC] {P : Program} {w : World} {K : PySem.W.Frag} {mg : Str → Option Value} {base : Heap} (T : Tops K mg) (X : Cx) (E : XK) (c : XC P w K mg base false E 0 n_bound_row (defScope s_bound_row) X) (hf : ∀ x, X.fn x = true) : PSs X (defBody s_bound_row) (tDS K mg E fb_bound_row) :=
  (ss_one (s_ret (c.tup (by kernel_rfl) (T.z_tuple) (l_cons (d_frz (c.comp (own := [("place", 4)]) (by kernel_rfl) (c.rng1 (by kernel_rfl) (T.z_range) (l_cons (c.var 1 rfl (.inl (by kernel_rfl))) l_nil)) (fun Y11 c11 h11 => (c11.gN 4 rfl (.inl (by kernel_rfl)) (.inr (by kernel_rfl)))) (g_name (i := 4) (vs := [4]) (by decide)) (fun Y11 c11 => (c11.tnil)) (fun Y11 c11 => (d_if (c11.tin (c11.var 4 rfl (.inl (by kernel_rfl))) (c11.var 2 rfl (.inr (.inl (by kernel_rfl))))) (d_bin op_mod sp_mod (d_neg (c11.item (c11.dget (c11.var 2 rfl (.inr (.inl (by kernel_rfl)))) (c11.var 4 rfl (.inl (by kernel_rfl)))) (c11.var 3 rfl (.inr (.inl (by kernel_rfl)))))) (c11.var 0 rfl (.inr (.inl (by kernel_rfl))))) (d_if (c11.teq (c11.var 4 rfl (.inl (by kernel_rfl))) (c11.var 3 rfl (.inr (.inl (by kernel_rfl))))) d_int d_int))))) l_nil))))
theorem ok_bound_row [TC : TabC] {P : Program} {w : World} {K : PySem.W.Frag} {mg : Str → Option Value} {base : Heap} (T : Tops K mg) : FnG P w K mg base false 1 T.a_bound_row T.d_bound_row ["prime", "size", "ties", "free"] (spG K mg 4 m_bound_row) :=
  fnG_fun T.F_bound_row sc_bound_row fun X E c hf => p_bound_row T X E c hf
def fb_places_of : SD := (sRet (eBi tupD (lCons (eFrz (lComp (iEnum (lCons (eV 0) lNil)) [1, 2] (gT [(gN 1), (gN 2)]) (bB (eBin neOD (eV 2) (eC (.int 0)))) (eV 1))) lNil)))
def m_places_of : GD := frm (fnD n_places_of.length fb_places_of)
theorem p_places_of [TC : TabC] {P : Program} {w : World} {K : PySem.W.Frag} {mg : Str → Option Value} {base : Heap} (T : Tops K mg) (X : Cx) (E : XK) (c : XC P w K mg base false E 0 n_places_of (defScope s_places_of) X) (hf : ∀ x, X.fn x = true) : PSs X (defBody s_places_of) (tDS K mg E fb_places_of) :=
  (ss_one (s_ret (c.tup (by kernel_rfl) (T.z_tuple) (l_cons (d_frz (c.comp (own := [("place", 1), ("number", 2)]) (by kernel_rfl) (c.enum (by kernel_rfl) (T.z_enumerate) (l_cons (c.var 0 rfl (.inl (by kernel_rfl))) l_nil)) (fun Y3 c3 h3 => (c3.pgt 2 (pgs_cons (c3.gN 1 rfl (.inl (by kernel_rfl)) (.inr (by kernel_rfl))) (pgs_cons (c3.gN 2 rfl (.inl (by kernel_rfl)) (.inr (by kernel_rfl))) pgs_nil)))) (g_tup (gs_cons (g_name (i := 1) (vs := [1, 2]) (by decide)) (gs_cons (g_name (i := 2) (vs := [1, 2]) (by decide)) gs_nil))) (fun Y3 c3 => (c3.tone (c3.tne (c3.var 2 rfl (.inl (by kernel_rfl))) d_int))) (fun Y3 c3 => (c3.var 1 rfl (.inl (by kernel_rfl)))))) l_nil))))
theorem ok_places_of [TC : TabC] {P : Program} {w : World} {K : PySem.W.Frag} {mg : Str → Option Value} {base : Heap} (T : Tops K mg) : FnG P w K mg base false 1 T.a_places_of T.d_places_of ["row"] (spG K mg 1 m_places_of) :=
  fnG_fun T.F_places_of sc_places_of fun X E c hf => p_places_of T X E c hf
def fb_first_place : SD := (sSeq (sFor (iEnum (lCons (eV 0) lNil)) (gT [(gN 1), (gN 2)]) (sIf (bB (eBin neOD (eV 2) (eC (.int 0)))) (sRet (eV 1)) sNext)) (sRet (eBi lenD (lCons (eV 0) lNil))))
def m_first_place : GD := frm (fnD n_first_place.length fb_first_place)
theorem p_first_place [TC : TabC] {P : Program} {w : World} {K : PySem.W.Frag} {mg : Str → Option Value} {base : Heap} (T : Tops K mg) (X : Cx) (E : XK) (c : XC P w K mg base false E 0 n_first_place (defScope s_first_place) X) (hf : ∀ x, X.fn x = true) : PSs X (defBody s_first_place) (tDS K mg E fb_first_place) :=
  (ss_cons (c.for (vs := [1, 2]) (c.enum (by kernel_rfl) (T.z_enumerate) (l_cons (c.var 0 rfl (.inl (by kernel_rfl))) l_nil)) (c.pgt 2 (pgs_cons (c.gN 1 rfl (.inl (by kernel_rfl)) (.inr (by kernel_rfl))) (pgs_cons (c.gN 2 rfl (.inl (by kernel_rfl)) (.inr (by kernel_rfl))) pgs_nil))) (g_tup (gs_cons (g_name (i := 1) (vs := [1, 2]) (by decide)) (gs_cons (g_name (i := 2) (vs := [1, 2]) (by decide)) gs_nil))) (ss_one (s_if (c.tne (c.var 2 rfl (.inl (by kernel_rfl))) d_int) (ss_one (s_ret (c.var 1 rfl (.inl (by kernel_rfl))))) ss_nil))) (ss_one (s_ret (c.len (by kernel_rfl) (T.z_len) (l_cons (c.var 0 rfl (.inl (by kernel_rfl))) l_nil)))))
theorem ok_first_place [TC : TabC] {P : Program} {w : World} {K : PySem.W.Frag} {mg : Str → Option Value} {base : Heap} (T : Tops K mg) : FnG P w K mg base false 1 T.a_first_place T.d_first_place ["row"] (spG K mg 1 m_first_place) :=
  fnG_fun T.F_first_place sc_first_place fun X E c hf => p_first_place T X E c hf
def fb_plus_scaled : SD := (sRet (eBi tupD (lCons (eFrz (lComp (iZip (lCons (eV 1) (lCons (eV 3) lNil))) [4, 5] (gT [(gN 4), (gN 5)]) bYes (eBin modD (eBin addD (eV 4) (eBin mulD' (eV 2) (eV 5))) (eV 0)))) lNil)))
def m_plus_scaled : GD := frm (fnD n_plus_scaled.length fb_plus_scaled)
theorem p_plus_scaled [TC : TabC] {P : Program} {w : World} {K : PySem.W.Frag} {mg : Str → Option Value} {base : Heap} (T : Tops K mg) (X : Cx) (E : XK) (c : XC P w K mg base false E 0 n_plus_scaled (defScope s_plus_scaled) X) (hf : ∀ x, X.fn x = true) : PSs X (defBody s_plus_scaled) (tDS K mg E fb_plus_scaled) :=
  (ss_one (s_ret (c.tup (by kernel_rfl) (T.z_tuple) (l_cons (d_frz (c.comp (own := [("number", 4), ("more", 5)]) (by kernel_rfl) (c.zip (by kernel_rfl) (T.z_zip) (l_cons (c.var 1 rfl (.inl (by kernel_rfl))) (l_cons (c.var 3 rfl (.inl (by kernel_rfl))) l_nil))) (fun Y2 c2 h2 => (c2.pgt 2 (pgs_cons (c2.gN 4 rfl (.inl (by kernel_rfl)) (.inr (by kernel_rfl))) (pgs_cons (c2.gN 5 rfl (.inl (by kernel_rfl)) (.inr (by kernel_rfl))) pgs_nil)))) (g_tup (gs_cons (g_name (i := 4) (vs := [4, 5]) (by decide)) (gs_cons (g_name (i := 5) (vs := [4, 5]) (by decide)) gs_nil))) (fun Y2 c2 => (c2.tnil)) (fun Y2 c2 => (d_bin op_mod sp_mod (c2.add (c2.var 4 rfl (.inl (by kernel_rfl))) (c2.mul (c2.var 2 rfl (.inr (.inl (by kernel_rfl)))) (c2.var 5 rfl (.inl (by kernel_rfl))))) (c2.var 0 rfl (.inr (.inl (by kernel_rfl)))))))) l_nil))))
theorem ok_plus_scaled [TC : TabC] {P : Program} {w : World} {K : PySem.W.Frag} {mg : Str → Option Value} {base : Heap} (T : Tops K mg) : FnG P w K mg base false 1 T.a_plus_scaled T.d_plus_scaled ["prime", "row", "times", "other"] (spG K mg 4 m_plus_scaled) :=
  fnG_fun T.F_plus_scaled sc_plus_scaled fun X E c hf => p_plus_scaled T X E c hf
def fb_cleared : SD := (sSeq (sAsg (eV 1) (gN 3)) (sSeq (sFor (iAny (eV 2)) (gN 4) (sSeq (sAsg (eBin itemD (eV 3) (eCall 1 m_first_place (lCons (eV 4) lNil))) (gN 5)) (sIf (bB (eBin neOD (eV 5) (eC (.int 0)))) (sAsg (eCall 4 m_plus_scaled (lCons (eV 0) (lCons (eV 3) (lCons (eNeg (eV 5)) (lCons (eV 4) lNil))))) (gN 3)) sNext))) (sRet (eV 3))))
def m_cleared : GD := frm (fnD n_cleared.length fb_cleared)
theorem p_cleared [TC : TabC] {P : Program} {w : World} {K : PySem.W.Frag} {mg : Str → Option Value} {base : Heap} (T : Tops K mg) (F_first_place : FnG P w K mg base false 1 T.a_first_place T.d_first_place ["row"] (spG K mg 1 m_first_place)) (F_plus_scaled : FnG P w K mg base false 1 T.a_plus_scaled T.d_plus_scaled ["prime", "row", "times", "other"] (spG K mg 4 m_plus_scaled)) (X : Cx) (E : XK) (c : XC P w K mg base false E 1 n_cleared (defScope s_cleared) X) (hf : ∀ x, X.fn x = true) : PSs X (defBody s_cleared) (tDS K mg E fb_cleared) :=
  (ss_cons (c.set' 3 rfl (.inl (by kernel_rfl)) (.inr (by kernel_rfl)) (c.var 1 rfl (.inl (by kernel_rfl))) (by intro env h; cases env; cases h; first | rfl | kernel_rfl)) (ss_cons (c.for (vs := [4]) (c.anyI (c.var 2 rfl (.inl (by kernel_rfl)))) (c.gN 4 rfl (.inl (by kernel_rfl)) (.inr (by kernel_rfl))) (g_name (i := 4) (vs := [4]) (by decide)) (ss_cons (c.set' 5 rfl (.inl (by kernel_rfl)) (.inr (by kernel_rfl)) (c.item (c.var 3 rfl (.inl (by kernel_rfl))) (c.call F_first_place.up (by kernel_rfl) T.m_first_place T.F_first_place.kp T.b_first_place (l_cons (c.var 4 rfl (.inl (by kernel_rfl))) l_nil))) (by intro env h; cases env; cases h; first | rfl | kernel_rfl)) (ss_one (s_if (c.tne (c.var 5 rfl (.inl (by kernel_rfl))) d_int) (ss_one (c.set' 3 rfl (.inl (by kernel_rfl)) (.inr (by kernel_rfl)) (c.call F_plus_scaled.up (by kernel_rfl) T.m_plus_scaled T.F_plus_scaled.kp T.b_plus_scaled (l_cons (c.var 0 rfl (.inl (by kernel_rfl))) (l_cons (c.var 3 rfl (.inl (by kernel_rfl))) (l_cons (d_neg (c.var 5 rfl (.inl (by kernel_rfl)))) (l_cons (c.var 4 rfl (.inl (by kernel_rfl))) l_nil))))) (by intro env h; cases env; cases h; first | rfl | kernel_rfl))) ss_nil)))) (ss_one (s_ret (c.var 3 rfl (.inl (by kernel_rfl)))))))
theorem ok_cleared [TC : TabC] {P : Program} {w : World} {K : PySem.W.Frag} {mg : Str → Option Value} {base : Heap} (T : Tops K mg) (F_first_place : FnG P w K mg base false 1 T.a_first_place T.d_first_place ["row"] (spG K mg 1 m_first_place)) (F_plus_scaled : FnG P w K mg base false 1 T.a_plus_scaled T.d_plus_scaled ["prime", "row", "times", "other"] (spG K mg 4 m_plus_scaled)) : FnG P w K mg base false 2 T.a_cleared T.d_cleared ["prime", "row", "done"] (spG K mg 3 m_cleared) :=
  fnG_fun T.F_cleared sc_cleared fun X E c hf => p_cleared T F_first_place F_plus_scaled X E c hf
def fb_inverse_of : SD := (sSeq (sPar 2 3 (lCons (eV 0) (lCons (eC (.int 1)) lNil))) (sSeq (sPar 4 5 (lCons (eV 1) (lCons (eC (.int 0)) lNil))) (sSeq (sWhile 64 (bB (eBin neOD (eV 2) (eC (.int 1)))) (sSeq (sAsg (eBin fdivD (eV 4) (eV 2)) (gN 6)) (sSeq (sPar 2 4 (lCons (eBin subD (eV 4) (eBin mulD' (eV 6) (eV 2))) (lCons (eV 2) lNil))) (sPar 3 5 (lCons (eBin subD (eV 5) (eBin mulD' (eV 6) (eV 3))) (lCons (eV 3) lNil)))))) (sRet (eBin modD (eV 3) (eV 1))))))
def m_inverse_of : GD := frm (fnD n_inverse_of.length fb_inverse_of)
theorem p_inverse_of [TC : TabC] {P : Program} {w : World} {K : PySem.W.Frag} {mg : Str → Option Value} {base : Heap} (T : Tops K mg) (X : Cx) (E : XK) (c : XC P w K mg base false E 0 n_inverse_of (defScope s_inverse_of) X) (hf : ∀ x, X.fn x = true) : PSs X (defBody s_inverse_of) (tDS K mg E fb_inverse_of) :=
  (ss_cons (c.par 2 3 rfl rfl (by decide) (by kernel_rfl) (by kernel_rfl) (l_cons (c.var 0 rfl (.inl (by kernel_rfl))) (l_cons d_int l_nil)) (by intro env h; cases env; cases h; first | rfl | kernel_rfl) (by intro env h; cases env; cases h; first | rfl | kernel_rfl)) (ss_cons (c.par 4 5 rfl rfl (by decide) (by kernel_rfl) (by kernel_rfl) (l_cons (c.var 1 rfl (.inl (by kernel_rfl))) (l_cons d_int l_nil)) (by intro env h; cases env; cases h; first | rfl | kernel_rfl) (by intro env h; cases env; cases h; first | rfl | kernel_rfl)) (ss_cons (c.while 64 (c.tne (c.var 2 rfl (.inl (by kernel_rfl))) d_int) (ss_cons (c.set' 6 rfl (.inl (by kernel_rfl)) (.inr (by kernel_rfl)) (d_bin op_fdiv sp_fdiv (c.var 4 rfl (.inl (by kernel_rfl))) (c.var 2 rfl (.inl (by kernel_rfl)))) (by intro env h; cases env; cases h; first | rfl | kernel_rfl)) (ss_cons (c.par 2 4 rfl rfl (by decide) (by kernel_rfl) (by kernel_rfl) (l_cons (d_bin op_sub sp_sub (c.var 4 rfl (.inl (by kernel_rfl))) (c.mul (c.var 6 rfl (.inl (by kernel_rfl))) (c.var 2 rfl (.inl (by kernel_rfl))))) (l_cons (c.var 2 rfl (.inl (by kernel_rfl))) l_nil)) (by intro env h; cases env; cases h; first | rfl | kernel_rfl) (by intro env h; cases env; cases h; first | rfl | kernel_rfl)) (ss_one (c.par 3 5 rfl rfl (by decide) (by kernel_rfl) (by kernel_rfl) (l_cons (d_bin op_sub sp_sub (c.var 5 rfl (.inl (by kernel_rfl))) (c.mul (c.var 6 rfl (.inl (by kernel_rfl))) (c.var 3 rfl (.inl (by kernel_rfl))))) (l_cons (c.var 3 rfl (.inl (by kernel_rfl))) l_nil)) (by intro env h; cases env; cases h; first | rfl | kernel_rfl) (by intro env h; cases env; cases h; first | rfl | kernel_rfl)))))) (ss_one (s_ret (d_bin op_mod sp_mod (c.var 3 rfl (.inl (by kernel_rfl))) (c.var 1 rfl (.inl (by kernel_rfl)))))))))
theorem ok_inverse_of [TC : TabC] {P : Program} {w : World} {K : PySem.W.Frag} {mg : Str → Option Value} {base : Heap} (T : Tops K mg) : FnG P w K mg base false 1 T.a_inverse_of T.d_inverse_of ["number", "prime"] (spG K mg 2 m_inverse_of) :=
  fnG_fun T.F_inverse_of sc_inverse_of fun X E c hf => p_inverse_of T X E c hf
def fb_scaled : SD := (sRet (eBi tupD (lCons (eFrz (lComp (iAny (eV 2)) [3] (gN 3) bYes (eBin modD (eBin mulD' (eV 1) (eV 3)) (eV 0)))) lNil)))
def m_scaled : GD := frm (fnD n_scaled.length fb_scaled)
theorem p_scaled [TC : TabC] {P : Program} {w : World} {K : PySem.W.Frag} {mg : Str → Option Value} {base : Heap} (T : Tops K mg) (X : Cx) (E : XK) (c : XC P w K mg base false E 0 n_scaled (defScope s_scaled) X) (hf : ∀ x, X.fn x = true) : PSs X (defBody s_scaled) (tDS K mg E fb_scaled) :=
  (ss_one (s_ret (c.tup (by kernel_rfl) (T.z_tuple) (l_cons (d_frz (c.comp (own := [("number", 3)]) (by kernel_rfl) (c.anyI (c.var 2 rfl (.inl (by kernel_rfl)))) (fun Y1 c1 h1 => (c1.gN 3 rfl (.inl (by kernel_rfl)) (.inr (by kernel_rfl)))) (g_name (i := 3) (vs := [3]) (by decide)) (fun Y1 c1 => (c1.tnil)) (fun Y1 c1 => (d_bin op_mod sp_mod (c1.mul (c1.var 1 rfl (.inr (.inl (by kernel_rfl)))) (c1.var 3 rfl (.inl (by kernel_rfl)))) (c1.var 0 rfl (.inr (.inl (by kernel_rfl)))))))) l_nil))))
theorem ok_scaled [TC : TabC] {P : Program} {w : World} {K : PySem.W.Frag} {mg : Str → Option Value} {base : Heap} (T : Tops K mg) : FnG P w K mg base false 1 T.a_scaled T.d_scaled ["prime", "times", "row"] (spG K mg 3 m_scaled) :=
  fnG_fun T.F_scaled sc_scaled fun X E c hf => p_scaled T X E c hf
def fb_joined : SD := (sSeq (sAsg (eCall 1 m_first_place (lCons (eV 2) lNil)) (gN 3)) (sSeq (sAsg (eCall 3 m_scaled (lCons (eV 0) (lCons (eCall 2 m_inverse_of (lCons (eBin itemD (eV 2) (eV 3)) (lCons (eV 0) lNil))) (lCons (eV 2) lNil)))) (gN 4)) (sRet (eFrz (lSz (lStar (eFrz (lComp (iAny (eV 1)) [5] (gN 5) bYes (eCall 4 m_plus_scaled (lCons (eV 0) (lCons (eV 5) (lCons (eNeg (eBin itemD (eV 5) (eV 3))) (lCons (eV 4) lNil))))))) (lCons (eV 4) lNil)))))))
def m_joined : GD := frm (fnD n_joined.length fb_joined)
theorem p_joined [TC : TabC] {P : Program} {w : World} {K : PySem.W.Frag} {mg : Str → Option Value} {base : Heap} (T : Tops K mg) (F_first_place : FnG P w K mg base false 1 T.a_first_place T.d_first_place ["row"] (spG K mg 1 m_first_place)) (F_inverse_of : FnG P w K mg base false 1 T.a_inverse_of T.d_inverse_of ["number", "prime"] (spG K mg 2 m_inverse_of)) (F_plus_scaled : FnG P w K mg base false 1 T.a_plus_scaled T.d_plus_scaled ["prime", "row", "times", "other"] (spG K mg 4 m_plus_scaled)) (F_scaled : FnG P w K mg base false 1 T.a_scaled T.d_scaled ["prime", "times", "row"] (spG K mg 3 m_scaled)) (X : Cx) (E : XK) (c : XC P w K mg base false E 1 n_joined (defScope s_joined) X) (hf : ∀ x, X.fn x = true) : PSs X (defBody s_joined) (tDS K mg E fb_joined) :=
  (ss_cons (c.set' 3 rfl (.inr (by kernel_rfl)) (.inl (hf _)) (c.call F_first_place.up (by kernel_rfl) T.m_first_place T.F_first_place.kp T.b_first_place (l_cons (c.var 2 rfl (.inl (by kernel_rfl))) l_nil)) (by intro env h; cases env; cases h; first | rfl | kernel_rfl)) (ss_cons (c.set' 4 rfl (.inr (by kernel_rfl)) (.inl (hf _)) (c.call F_scaled.up (by kernel_rfl) T.m_scaled T.F_scaled.kp T.b_scaled (l_cons (c.var 0 rfl (.inr (.inl (by kernel_rfl)))) (l_cons (c.call F_inverse_of.up (by kernel_rfl) T.m_inverse_of T.F_inverse_of.kp T.b_inverse_of (l_cons (c.item (c.var 2 rfl (.inl (by kernel_rfl))) (c.var 3 rfl (.inr (.inl (by kernel_rfl))))) (l_cons (c.var 0 rfl (.inr (.inl (by kernel_rfl)))) l_nil))) (l_cons (c.var 2 rfl (.inl (by kernel_rfl))) l_nil)))) (by intro env h; cases env; cases h; first | rfl | kernel_rfl)) (ss_one (s_ret (d_frz (f_lst (c.star (d_frz (c.comp (own := [("other", 5)]) (by kernel_rfl) (c.anyI (c.var 1 rfl (.inl (by kernel_rfl)))) (fun Y5 c5 h5 => (c5.gN 5 rfl (.inl (by kernel_rfl)) (.inr (by kernel_rfl)))) (g_name (i := 5) (vs := [5]) (by decide)) (fun Y5 c5 => (c5.tnil)) (fun Y5 c5 => (c5.call F_plus_scaled.up (by kernel_rfl) T.m_plus_scaled T.F_plus_scaled.kp T.b_plus_scaled (l_cons (c5.var 0 rfl (.inr (.inl (by kernel_rfl)))) (l_cons (c5.var 5 rfl (.inl (by kernel_rfl))) (l_cons (d_neg (c5.item (c5.var 5 rfl (.inl (by kernel_rfl))) (c5.var 3 rfl (.inr (.inl (by kernel_rfl)))))) (l_cons (c5.var 4 rfl (.inr (.inl (by kernel_rfl)))) l_nil)))))))) (l_cons (c.var 4 rfl (.inr (.inl (by kernel_rfl)))) l_nil))))))))
theorem ok_joined [TC : TabC] {P : Program} {w : World} {K : PySem.W.Frag} {mg : Str → Option Value} {base : Heap} (T : Tops K mg) (F_first_place : FnG P w K mg base false 1 T.a_first_place T.d_first_place ["row"] (spG K mg 1 m_first_place)) (F_inverse_of : FnG P w K mg base false 1 T.a_inverse_of T.d_inverse_of ["number", "prime"] (spG K mg 2 m_inverse_of)) (F_plus_scaled : FnG P w K mg base false 1 T.a_plus_scaled T.d_plus_scaled ["prime", "row", "times", "other"] (spG K mg 4 m_plus_scaled)) (F_scaled : FnG P w K mg base false 1 T.a_scaled T.d_scaled ["prime", "times", "row"] (spG K mg 3 m_scaled)) : FnG P w K mg base false 2 T.a_joined T.d_joined ["prime", "done", "rest"] (spG K mg 3 m_joined) :=
  fnG_fun T.F_joined sc_joined fun X E c hf => p_joined T F_first_place F_inverse_of F_plus_scaled F_scaled X E c hf
def fb_reduced_rows : SD := (sSeq (sAsg (eFrz (lSz lNil)) (gN 2)) (sSeq (sFor (iAny (eV 1)) (gN 3) (sSeq (sAsg (eCall 3 m_cleared (lCons (eV 0) (lCons (eV 3) (lCons (eV 2) lNil)))) (gN 4)) (sIf (bT (eBi anyA (lCons (eV 4) lNil))) (sAsg (eCall 3 m_joined (lCons (eV 0) (lCons (eV 2) (lCons (eV 4) lNil)))) (gN 2)) sNext))) (sRet (eBi tupD (lCons (eSrtR (lCons (eV 2) lNil) (lCons (eC (.bl true)) lNil)) lNil)))))
def m_reduced_rows : GD := frm (fnD n_reduced_rows.length fb_reduced_rows)
theorem p_reduced_rows [TC : TabC] {P : Program} {w : World} {K : PySem.W.Frag} {mg : Str → Option Value} {base : Heap} (T : Tops K mg) (F_cleared : FnG P w K mg base false 2 T.a_cleared T.d_cleared ["prime", "row", "done"] (spG K mg 3 m_cleared)) (F_joined : FnG P w K mg base false 2 T.a_joined T.d_joined ["prime", "done", "rest"] (spG K mg 3 m_joined)) (X : Cx) (E : XK) (c : XC P w K mg base false E 2 n_reduced_rows (defScope s_reduced_rows) X) (hf : ∀ x, X.fn x = true) : PSs X (defBody s_reduced_rows) (tDS K mg E fb_reduced_rows) :=
  (ss_cons (c.set' 2 rfl (.inl (by kernel_rfl)) (.inr (by kernel_rfl)) (d_frz (f_lst l_nil)) (by intro env h; cases env; cases h; first | rfl | kernel_rfl)) (ss_cons (c.for (vs := [3]) (c.anyI (c.var 1 rfl (.inl (by kernel_rfl)))) (c.gN 3 rfl (.inl (by kernel_rfl)) (.inr (by kernel_rfl))) (g_name (i := 3) (vs := [3]) (by decide)) (ss_cons (c.set' 4 rfl (.inl (by kernel_rfl)) (.inr (by kernel_rfl)) (c.call F_cleared.up (by kernel_rfl) T.m_cleared T.F_cleared.kp T.b_cleared (l_cons (c.var 0 rfl (.inl (by kernel_rfl))) (l_cons (c.var 3 rfl (.inl (by kernel_rfl))) (l_cons (c.var 2 rfl (.inl (by kernel_rfl))) l_nil)))) (by intro env h; cases env; cases h; first | rfl | kernel_rfl)) (ss_one (s_if (c.val (c.anyA (by kernel_rfl) (T.z_any) (l_cons (c.var 4 rfl (.inl (by kernel_rfl))) l_nil))) (ss_one (c.set' 2 rfl (.inl (by kernel_rfl)) (.inr (by kernel_rfl)) (c.call F_joined.up (by kernel_rfl) T.m_joined T.F_joined.kp T.b_joined (l_cons (c.var 0 rfl (.inl (by kernel_rfl))) (l_cons (c.var 2 rfl (.inl (by kernel_rfl))) (l_cons (c.var 4 rfl (.inl (by kernel_rfl))) l_nil)))) (by intro env h; cases env; cases h; first | rfl | kernel_rfl))) ss_nil)))) (ss_one (s_ret (c.tup (by kernel_rfl) (T.z_tuple) (l_cons (c.srtR (by kernel_rfl) (T.z_sorted) (l_cons (c.var 2 rfl (.inl (by kernel_rfl))) l_nil) (k_cons d_bl k_nil)) l_nil))))))
theorem ok_reduced_rows [TC : TabC] {P : Program} {w : World} {K : PySem.W.Frag} {mg : Str → Option Value} {base : Heap} (T : Tops K mg) (F_cleared : FnG P w K mg base false 2 T.a_cleared T.d_cleared ["prime", "row", "done"] (spG K mg 3 m_cleared)) (F_joined : FnG P w K mg base false 2 T.a_joined T.d_joined ["prime", "done", "rest"] (spG K mg 3 m_joined)) : FnG P w K mg base false 3 T.a_reduced_rows T.d_reduced_rows ["prime", "rows"] (spG K mg 2 m_reduced_rows) :=
  fnG_fun T.F_reduced_rows sc_reduced_rows fun X E c hf => p_reduced_rows T F_cleared F_joined X E c hf
def fb_bound_rows : SD := (sSeq (sAsg (eFrz (lComp (iAny (eCall 2 m_reduced_rows (lCons (eV 0) (lCons (eFrz (lComp (iAny (eV 2)) [5] (gN 5) bYes (eRevT (eV 5)))) lNil)))) [5] (gN 5) bYes (eRevT (eV 5)))) (gN 3)) (sSeq (sAsg (eDc (iAny (eV 3)) [5] (gN 5) bYes (eBin itemD (eCall 1 m_places_of (lCons (eV 5) lNil)) (eNeg (eC (.int 1)))) (eV 5)) (gN 4)) (sRet (eBi tupD (lCons (eFrz (lComp (iRng1 (lCons (eV 1) lNil)) [6] (gN 6) (bB (eBin dNotInD (eV 6) (eV 4))) (eCall 4 m_bound_row (lCons (eV 0) (lCons (eV 1) (lCons (eV 4) (lCons (eV 6) lNil))))))) lNil)))))
def m_bound_rows : GD := frm (fnD n_bound_rows.length fb_bound_rows)
theorem p_bound_rows [TC : TabC] {P : Program} {w : World} {K : PySem.W.Frag} {mg : Str → Option Value} {base : Heap} (T : Tops K mg) (F_bound_row : FnG P w K mg base false 1 T.a_bound_row T.d_bound_row ["prime", "size", "ties", "free"] (spG K mg 4 m_bound_row)) (F_places_of : FnG P w K mg base false 1 T.a_places_of T.d_places_of ["row"] (spG K mg 1 m_places_of)) (F_reduced_rows : FnG P w K mg base false 3 T.a_reduced_rows T.d_reduced_rows ["prime", "rows"] (spG K mg 2 m_reduced_rows)) (X : Cx) (E : XK) (c : XC P w K mg base false E 3 n_bound_rows (defScope s_bound_rows) X) (hf : ∀ x, X.fn x = true) : PSs X (defBody s_bound_rows) (tDS K mg E fb_bound_rows) :=
  (ss_cons (c.setLF (own := [("row", 5)]) 3 rfl (by kernel_rfl) (by kernel_rfl) (c.anyI (c.call F_reduced_rows.up (by kernel_rfl) T.m_reduced_rows T.F_reduced_rows.kp T.b_reduced_rows (l_cons (c.var 0 rfl (.inr (.inl (by kernel_rfl)))) (l_cons (d_frz (c.comp (own := [("row", 5)]) (by kernel_rfl) (c.anyI (c.var 2 rfl (.inl (by kernel_rfl)))) (fun Y7 c7 h7 => (c7.gN 5 rfl (.inl (by kernel_rfl)) (.inr (by kernel_rfl)))) (g_name (i := 5) (vs := [5]) (by decide)) (fun Y7 c7 => (c7.tnil)) (fun Y7 c7 => (c7.revT (c7.var 5 rfl (.inl (by kernel_rfl))))))) l_nil)))) (fun Y8 c8 h8 => (c8.gN 5 rfl (.inl (by kernel_rfl)) (.inr (by kernel_rfl)))) (g_name (i := 5) (vs := [5]) (by decide)) (fun Y8 c8 => (c8.tnil)) (fun Y8 c8 => (c8.revT (c8.var 5 rfl (.inl (by kernel_rfl))))) (by intro env h; cases env; cases h; first | rfl | kernel_rfl)) (ss_cons (c.set' 4 rfl (.inr (by kernel_rfl)) (.inl (hf _)) (c.dcomp (own := [("row", 5)]) (by kernel_rfl) (c.anyI (c.var 3 rfl (.inl (by kernel_rfl)))) (fun Y9 c9 h9 => (c9.gN 5 rfl (.inl (by kernel_rfl)) (.inr (by kernel_rfl)))) (g_name (i := 5) (vs := [5]) (by decide)) (fun Y9 c9 => (c9.tnil)) (fun Y9 c9 => (c9.item (c9.call F_places_of.up (by kernel_rfl) T.m_places_of T.F_places_of.kp T.b_places_of (l_cons (c9.var 5 rfl (.inl (by kernel_rfl))) l_nil)) (d_neg d_int))) (fun Y9 c9 => (c9.var 5 rfl (.inl (by kernel_rfl))))) (by intro env h; cases env; cases h; first | rfl | kernel_rfl)) (ss_one (s_ret (c.tup (by kernel_rfl) (T.z_tuple) (l_cons (d_frz (c.comp (own := [("free", 6)]) (by kernel_rfl) (c.rng1 (by kernel_rfl) (T.z_range) (l_cons (c.var 1 rfl (.inr (.inl (by kernel_rfl)))) l_nil)) (fun Y10 c10 h10 => (c10.gN 6 rfl (.inl (by kernel_rfl)) (.inr (by kernel_rfl)))) (g_name (i := 6) (vs := [6]) (by decide)) (fun Y10 c10 => (c10.tone (c10.tnin (c10.var 6 rfl (.inl (by kernel_rfl))) (c10.var 4 rfl (.inr (.inl (by kernel_rfl))))))) (fun Y10 c10 => (c10.call F_bound_row.up (by kernel_rfl) T.m_bound_row T.F_bound_row.kp T.b_bound_row (l_cons (c10.var 0 rfl (.inr (.inl (by kernel_rfl)))) (l_cons (c10.var 1 rfl (.inr (.inl (by kernel_rfl)))) (l_cons (c10.var 4 rfl (.inr (.inl (by kernel_rfl)))) (l_cons (c10.var 6 rfl (.inl (by kernel_rfl))) l_nil)))))))) l_nil))))))
theorem ok_bound_rows [TC : TabC] {P : Program} {w : World} {K : PySem.W.Frag} {mg : Str → Option Value} {base : Heap} (T : Tops K mg) (F_bound_row : FnG P w K mg base false 1 T.a_bound_row T.d_bound_row ["prime", "size", "ties", "free"] (spG K mg 4 m_bound_row)) (F_places_of : FnG P w K mg base false 1 T.a_places_of T.d_places_of ["row"] (spG K mg 1 m_places_of)) (F_reduced_rows : FnG P w K mg base false 3 T.a_reduced_rows T.d_reduced_rows ["prime", "rows"] (spG K mg 2 m_reduced_rows)) : FnG P w K mg base false 4 T.a_bound_rows T.d_bound_rows ["prime", "size", "rows"] (spG K mg 3 m_bound_rows) :=
  fnG_fun T.F_bound_rows sc_bound_rows fun X E c hf => p_bound_rows T F_bound_row F_places_of F_reduced_rows X E c hf
def fb_is_integer : SD := (sRet (eAnd (eIsa .int (eV 0)) (eNot (eIsa .bool (eV 0)))))
def m_is_integer : GD := frm (fnD n_is_integer.length fb_is_integer)
theorem p_is_integer [TC : TabC] {P : Program} {w : World} {K : PySem.W.Frag} {mg : Str → Option Value} {base : Heap} (T : Tops K mg) (X : Cx) (E : XK) (c : XC P w K mg base false E 0 n_is_integer (defScope s_is_integer) X) (hf : ∀ x, X.fn x = true) : PSs X (defBody s_is_integer) (tDS K mg E fb_is_integer) :=
  (ss_one (s_ret (d_and (c.isa .int (by kernel_rfl) (T.z_isinstance) (by kernel_rfl) (T.z_int) PyProof.Rows.boot_int (c.var 0 rfl (.inl (by kernel_rfl)))) (d_one (d_not (c.isa .bool (by kernel_rfl) (T.z_isinstance) (by kernel_rfl) (T.z_bool) PyProof.Rows.boot_bool (c.var 0 rfl (.inl (by kernel_rfl)))))))))
theorem ok_is_integer [TC : TabC] {P : Program} {w : World} {K : PySem.W.Frag} {mg : Str → Option Value} {base : Heap} (T : Tops K mg) : FnG P w K mg base false 1 T.a_is_integer T.d_is_integer ["thing"] (spG K mg 1 m_is_integer) :=
  fnG_fun T.F_is_integer sc_is_integer fun X E c hf => p_is_integer T X E c hf
def fb_is_number : SD := (sRet (eAnd (eCall 1 m_is_integer (lCons (eV 0) lNil)) (eBin (cmpI fun i j => decide (j ≤ i)) (eV 0) (eC (.int 0)))))
def m_is_number : GD := frm (fnD n_is_number.length fb_is_number)
theorem p_is_number [TC : TabC] {P : Program} {w : World} {K : PySem.W.Frag} {mg : Str → Option Value} {base : Heap} (T : Tops K mg) (F_is_integer : FnG P w K mg base false 1 T.a_is_integer T.d_is_integer ["thing"] (spG K mg 1 m_is_integer)) (X : Cx) (E : XK) (c : XC P w K mg base false E 1 n_is_number (defScope s_is_number) X) (hf : ∀ x, X.fn x = true) : PSs X (defBody s_is_number) (tDS K mg E fb_is_number) :=
  (ss_one (s_ret (d_and (c.call F_is_integer.up (by kernel_rfl) T.m_is_integer T.F_is_integer.kp T.b_is_integer (l_cons (c.var 0 rfl (.inl (by kernel_rfl))) l_nil)) (d_one (d_cmp op_ge sp_cmpI (c.var 0 rfl (.inl (by kernel_rfl))) d_int rfl)))))
theorem ok_is_number [TC : TabC] {P : Program} {w : World} {K : PySem.W.Frag} {mg : Str → Option Value} {base : Heap} (T : Tops K mg) (F_is_integer : FnG P w K mg base false 1 T.a_is_integer T.d_is_integer ["thing"] (spG K mg 1 m_is_integer)) : FnG P w K mg base false 2 T.a_is_number T.d_is_number ["thing"] (spG K mg 1 m_is_number) :=
  fnG_fun T.F_is_number sc_is_number fun X E c hf => p_is_number T F_is_integer X E c hf
def fb_is_numbers : SD := (sSeq (sIf (bOr (bNot (bT (eIsa .tuple (eV 0)))) (bB (eBin neOD (eBi lenD (lCons (eV 0) lNil)) (eV 1)))) (sRet (eC (.bl false))) sNext) (sRet (eBi allD (lCons (eFrz (lComp (iAny (eV 0)) [3] (gN 3) bYes (eAnd (eCall 1 m_is_number (lCons (eV 3) lNil)) (eBin (cmpI fun i j => decide (i < j)) (eV 3) (eV 2))))) lNil))))
def m_is_numbers : GD := frm (fnD n_is_numbers.length fb_is_numbers)
theorem p_is_numbers [TC : TabC] {P : Program} {w : World} {K : PySem.W.Frag} {mg : Str → Option Value} {base : Heap} (T : Tops K mg) (F_is_number : FnG P w K mg base false 2 T.a_is_number T.d_is_number ["thing"] (spG K mg 1 m_is_number)) (X : Cx) (E : XK) (c : XC P w K mg base false E 2 n_is_numbers (defScope s_is_numbers) X) (hf : ∀ x, X.fn x = true) : PSs X (defBody s_is_numbers) (tDS K mg E fb_is_numbers) :=
  (ss_cons (s_if (PW.pt (w_or (t_not (c.val (c.isa .tuple (by kernel_rfl) (T.z_isinstance) (by kernel_rfl) (T.z_tuple) PyProof.Rows.boot_tuple (c.var 0 rfl (.inl (by kernel_rfl)))))) (w_or1 (c.tne (c.len (by kernel_rfl) (T.z_len) (l_cons (c.var 0 rfl (.inl (by kernel_rfl))) l_nil)) (c.var 1 rfl (.inl (by kernel_rfl))))))) (ss_one (s_ret d_bl)) ss_nil) (ss_one (s_ret (c.all (by kernel_rfl) (T.z_all) (l_cons (d_frz (c.comp (own := [("number", 3)]) (by kernel_rfl) (c.anyI (c.var 0 rfl (.inl (by kernel_rfl)))) (fun Y12 c12 h12 => (c12.gN 3 rfl (.inl (by kernel_rfl)) (.inr (by kernel_rfl)))) (g_name (i := 3) (vs := [3]) (by decide)) (fun Y12 c12 => (c12.tnil)) (fun Y12 c12 => (d_and (c12.call F_is_number.up (by kernel_rfl) T.m_is_number T.F_is_number.kp T.b_is_number (l_cons (c12.var 3 rfl (.inl (by kernel_rfl))) l_nil)) (d_one (d_cmp op_lt sp_cmpI (c12.var 3 rfl (.inl (by kernel_rfl))) (c12.var 2 rfl (.inr (.inl (by kernel_rfl)))) rfl)))))) l_nil)))))
theorem ok_is_numbers [TC : TabC] {P : Program} {w : World} {K : PySem.W.Frag} {mg : Str → Option Value} {base : Heap} (T : Tops K mg) (F_is_number : FnG P w K mg base false 2 T.a_is_number T.d_is_number ["thing"] (spG K mg 1 m_is_number)) : FnG P w K mg base false 3 T.a_is_numbers T.d_is_numbers ["thing", "many", "below"] (spG K mg 3 m_is_numbers) :=
  fnG_fun T.F_is_numbers sc_is_numbers fun X E c hf => p_is_numbers T F_is_number X E c hf
def fb_is_prime : SD := (sSeq (sIf (bOr (bNot (bT (eCall 1 m_is_integer (lCons (eV 0) lNil)))) (bNot (bB (eChain (cmpI fun i j => decide (i ≤ j)) (cmpI fun i j => decide (i < j)) (eC (.int 2)) (eV 0) (eC (.int 1000000)))))) (sRet (eC (.bl false))) sNext) (sSeq (sAsg (eC (.int 2)) (gN 1)) (sSeq (sWhile 1000 (bB (eBin (cmpI fun i j => decide (i ≤ j)) (eBin mulD' (eV 1) (eV 1)) (eV 0))) (sSeq (sIf (bB (eBin eqOD (eBin modD (eV 0) (eV 1)) (eC (.int 0)))) (sRet (eC (.bl false))) sNext) (sAsg (eBin addD (eV 1) (eC (.int 1))) (gN 1)))) (sRet (eC (.bl true))))))
def m_is_prime : GD := frm (fnD n_is_prime.length fb_is_prime)
theorem p_is_prime [TC : TabC] {P : Program} {w : World} {K : PySem.W.Frag} {mg : Str → Option Value} {base : Heap} (T : Tops K mg) (F_is_integer : FnG P w K mg base false 1 T.a_is_integer T.d_is_integer ["thing"] (spG K mg 1 m_is_integer)) (X : Cx) (E : XK) (c : XC P w K mg base false E 1 n_is_prime (defScope s_is_prime) X) (hf : ∀ x, X.fn x = true) : PSs X (defBody s_is_prime) (tDS K mg E fb_is_prime) :=
  (ss_cons (s_if (PW.pt (w_or (t_not (c.val (c.call F_is_integer.up (by kernel_rfl) T.m_is_integer T.F_is_integer.kp T.b_is_integer (l_cons (c.var 0 rfl (.inl (by kernel_rfl))) l_nil)))) (w_or1 (t_not (t_chain op_le op_lt sp_cmpI sp_cmpI d_int (c.var 0 rfl (.inl (by kernel_rfl))) (c.glob (v := .int 1000000) (.int 1000000) (by kernel_rfl) T.m_PRIMES_END ⟨_, rfl⟩ rfl) rfl))))) (ss_one (s_ret d_bl)) ss_nil) (ss_cons (c.set' 1 rfl (.inl (by kernel_rfl)) (.inr (by kernel_rfl)) d_int (by intro env h; cases env; cases h; first | rfl | kernel_rfl)) (ss_cons (c.while 1000 (t_cmp op_le sp_cmpI (c.mul (c.var 1 rfl (.inl (by kernel_rfl))) (c.var 1 rfl (.inl (by kernel_rfl)))) (c.var 0 rfl (.inl (by kernel_rfl))) rfl) (ss_cons (s_if (c.teq (d_bin op_mod sp_mod (c.var 0 rfl (.inl (by kernel_rfl))) (c.var 1 rfl (.inl (by kernel_rfl)))) d_int) (ss_one (s_ret d_bl)) ss_nil) (ss_one (c.set' 1 rfl (.inl (by kernel_rfl)) (.inr (by kernel_rfl)) (c.add (c.var 1 rfl (.inl (by kernel_rfl))) d_int) (by intro env h; cases env; cases h; first | rfl | kernel_rfl))))) (ss_one (s_ret d_bl)))))
theorem ok_is_prime [TC : TabC] {P : Program} {w : World} {K : PySem.W.Frag} {mg : Str → Option Value} {base : Heap} (T : Tops K mg) (F_is_integer : FnG P w K mg base false 1 T.a_is_integer T.d_is_integer ["thing"] (spG K mg 1 m_is_integer)) : FnG P w K mg base false 2 T.a_is_prime T.d_is_prime ["thing"] (spG K mg 1 m_is_prime) :=
  fnG_fun T.F_is_prime sc_is_prime fun X E c hf => p_is_prime T F_is_integer X E c hf
def fb_is_size : SD := (sRet (eAnd (eCall 1 m_is_integer (lCons (eV 0) lNil)) (eChain (cmpI fun i j => decide (i ≤ j)) (cmpI fun i j => decide (i ≤ j)) (eC (.int 1)) (eV 0) (eC (.int 100)))))
def m_is_size : GD := frm (fnD n_is_size.length fb_is_size)
theorem p_is_size [TC : TabC] {P : Program} {w : World} {K : PySem.W.Frag} {mg : Str → Option Value} {base : Heap} (T : Tops K mg) (F_is_integer : FnG P w K mg base false 1 T.a_is_integer T.d_is_integer ["thing"] (spG K mg 1 m_is_integer)) (X : Cx) (E : XK) (c : XC P w K mg base false E 1 n_is_size (defScope s_is_size) X) (hf : ∀ x, X.fn x = true) : PSs X (defBody s_is_size) (tDS K mg E fb_is_size) :=
  (ss_one (s_ret (d_and (c.call F_is_integer.up (by kernel_rfl) T.m_is_integer T.F_is_integer.kp T.b_is_integer (l_cons (c.var 0 rfl (.inl (by kernel_rfl))) l_nil)) (d_one (d_chain op_le op_le sp_cmpI sp_cmpI d_int (c.var 0 rfl (.inl (by kernel_rfl))) (c.glob (v := .int 100) (.int 100) (by kernel_rfl) T.m_MOST_PLACES ⟨_, rfl⟩ rfl) rfl)))))
theorem ok_is_size [TC : TabC] {P : Program} {w : World} {K : PySem.W.Frag} {mg : Str → Option Value} {base : Heap} (T : Tops K mg) (F_is_integer : FnG P w K mg base false 1 T.a_is_integer T.d_is_integer ["thing"] (spG K mg 1 m_is_integer)) : FnG P w K mg base false 2 T.a_is_size T.d_is_size ["thing"] (spG K mg 1 m_is_size) :=
  fnG_fun T.F_is_size sc_is_size fun X E c hf => p_is_size T F_is_integer X E c hf
def fb_book_fault : SD := (sSeq (sIf (bOr (bNot (bT (eIsa .tuple (eV 0)))) (bB (eBin neOD (eBi lenD (lCons (eV 0) lNil)) (eC (.int 3))))) (sRet (eTup (lCons (eC (.str "shape")) (lCons (eNeg (eC (.int 1))) lNil)))) sNext) (sSeq (sAsg (eV 0) (gT [(gN 1), (gN 2), (gN 3)])) (sSeq (sIf (bNot (bT (eCall 1 m_is_prime (lCons (eV 1) lNil)))) (sRet (eTup (lCons (eC (.str "prime")) (lCons (eNeg (eC (.int 1))) lNil)))) sNext) (sSeq (sIf (bNot (bT (eCall 1 m_is_size (lCons (eV 2) lNil)))) (sRet (eTup (lCons (eC (.str "size")) (lCons (eNeg (eC (.int 1))) lNil)))) sNext) (sSeq (sIf (bNot (bT (eIsa .tuple (eV 3)))) (sRet (eTup (lCons (eC (.str "sums")) (lCons (eNeg (eC (.int 1))) lNil)))) sNext) (sSeq (sFor (iEnum (lCons (eV 3) lNil)) (gT [(gN 4), (gN 5)]) (sSeq (sIf (bNot (bT (eCall 3 m_is_numbers (lCons (eV 5) (lCons (eV 2) (lCons (eV 1) lNil)))))) (sRet (eTup (lCons (eC (.str "sum")) (lCons (eV 4) lNil)))) sNext) (sIf (bNot (bT (eBi anyA (lCons (eV 5) lNil)))) (sRet (eTup (lCons (eC (.str "nought")) (lCons (eV 4) lNil)))) sNext))) (sRet (eC .non))))))))
def m_book_fault : GD := frm (fnD n_book_fault.length fb_book_fault)
theorem p_book_fault [TC : TabC] {P : Program} {w : World} {K : PySem.W.Frag} {mg : Str → Option Value} {base : Heap} (T : Tops K mg) (F_is_numbers : FnG P w K mg base false 3 T.a_is_numbers T.d_is_numbers ["thing", "many", "below"] (spG K mg 3 m_is_numbers)) (F_is_prime : FnG P w K mg base false 2 T.a_is_prime T.d_is_prime ["thing"] (spG K mg 1 m_is_prime)) (F_is_size : FnG P w K mg base false 2 T.a_is_size T.d_is_size ["thing"] (spG K mg 1 m_is_size)) (X : Cx) (E : XK) (c : XC P w K mg base false E 3 n_book_fault (defScope s_book_fault) X) (hf : ∀ x, X.fn x = true) : PSs X (defBody s_book_fault) (tDS K mg E fb_book_fault) :=
  (ss_cons (s_if (PW.pt (w_or (t_not (c.val (c.isa .tuple (by kernel_rfl) (T.z_isinstance) (by kernel_rfl) (T.z_tuple) PyProof.Rows.boot_tuple (c.var 0 rfl (.inl (by kernel_rfl)))))) (w_or1 (c.tne (c.len (by kernel_rfl) (T.z_len) (l_cons (c.var 0 rfl (.inl (by kernel_rfl))) l_nil)) d_int)))) (ss_one (s_ret (d_tup (l_cons d_str (l_cons (d_neg d_int) l_nil))))) ss_nil) (ss_cons (c.asg [1, 2, 3] (c.var 0 rfl (.inl (by kernel_rfl))) (c.pgt 3 (pgs_cons (c.gN 1 rfl (.inl (by kernel_rfl)) (.inr (by kernel_rfl))) (pgs_cons (c.gN 2 rfl (.inl (by kernel_rfl)) (.inr (by kernel_rfl))) (pgs_cons (c.gN 3 rfl (.inl (by kernel_rfl)) (.inr (by kernel_rfl))) pgs_nil)))) (g_tup (gs_cons (g_name (i := 1) (vs := [1, 2, 3]) (by decide)) (gs_cons (g_name (i := 2) (vs := [1, 2, 3]) (by decide)) (gs_cons (g_name (i := 3) (vs := [1, 2, 3]) (by decide)) gs_nil)))) (by intro env h; cases env; cases h; first | rfl | kernel_rfl) (by intro env h; cases env; cases h; first | rfl | kernel_rfl)) (ss_cons (s_if (t_not (c.val (c.call F_is_prime.up (by kernel_rfl) T.m_is_prime T.F_is_prime.kp T.b_is_prime (l_cons (c.var 1 rfl (.inl (by kernel_rfl))) l_nil)))) (ss_one (s_ret (d_tup (l_cons d_str (l_cons (d_neg d_int) l_nil))))) ss_nil) (ss_cons (s_if (t_not (c.val (c.call F_is_size.up (by kernel_rfl) T.m_is_size T.F_is_size.kp T.b_is_size (l_cons (c.var 2 rfl (.inl (by kernel_rfl))) l_nil)))) (ss_one (s_ret (d_tup (l_cons d_str (l_cons (d_neg d_int) l_nil))))) ss_nil) (ss_cons (s_if (t_not (c.val (c.isa .tuple (by kernel_rfl) (T.z_isinstance) (by kernel_rfl) (T.z_tuple) PyProof.Rows.boot_tuple (c.var 3 rfl (.inl (by kernel_rfl)))))) (ss_one (s_ret (d_tup (l_cons d_str (l_cons (d_neg d_int) l_nil))))) ss_nil) (ss_cons (c.for (vs := [4, 5]) (c.enum (by kernel_rfl) (T.z_enumerate) (l_cons (c.var 3 rfl (.inl (by kernel_rfl))) l_nil)) (c.pgt 2 (pgs_cons (c.gN 4 rfl (.inl (by kernel_rfl)) (.inr (by kernel_rfl))) (pgs_cons (c.gN 5 rfl (.inl (by kernel_rfl)) (.inr (by kernel_rfl))) pgs_nil))) (g_tup (gs_cons (g_name (i := 4) (vs := [4, 5]) (by decide)) (gs_cons (g_name (i := 5) (vs := [4, 5]) (by decide)) gs_nil))) (ss_cons (s_if (t_not (c.val (c.call F_is_numbers.up (by kernel_rfl) T.m_is_numbers T.F_is_numbers.kp T.b_is_numbers (l_cons (c.var 5 rfl (.inl (by kernel_rfl))) (l_cons (c.var 2 rfl (.inl (by kernel_rfl))) (l_cons (c.var 1 rfl (.inl (by kernel_rfl))) l_nil)))))) (ss_one (s_ret (d_tup (l_cons d_str (l_cons (c.var 4 rfl (.inl (by kernel_rfl))) l_nil))))) ss_nil) (ss_one (s_if (t_not (c.val (c.anyA (by kernel_rfl) (T.z_any) (l_cons (c.var 5 rfl (.inl (by kernel_rfl))) l_nil)))) (ss_one (s_ret (d_tup (l_cons d_str (l_cons (c.var 4 rfl (.inl (by kernel_rfl))) l_nil))))) ss_nil)))) (ss_one (s_ret d_non))))))))
theorem ok_book_fault [TC : TabC] {P : Program} {w : World} {K : PySem.W.Frag} {mg : Str → Option Value} {base : Heap} (T : Tops K mg) (F_is_numbers : FnG P w K mg base false 3 T.a_is_numbers T.d_is_numbers ["thing", "many", "below"] (spG K mg 3 m_is_numbers)) (F_is_prime : FnG P w K mg base false 2 T.a_is_prime T.d_is_prime ["thing"] (spG K mg 1 m_is_prime)) (F_is_size : FnG P w K mg base false 2 T.a_is_size T.d_is_size ["thing"] (spG K mg 1 m_is_size)) : FnG P w K mg base false 4 T.a_book_fault T.d_book_fault ["thing"] (spG K mg 1 m_book_fault) :=
  fnG_fun T.F_book_fault sc_book_fault fun X E c hf => p_book_fault T F_is_numbers F_is_prime F_is_size X E c hf
def fb_want : SD := (sIf (bNot (bT (eV 0))) (sRaise "NotUsable" "word" "at" (lCons (eV 1) (lCons (eNeg (eC (.int 1))) lNil))) sNext)
def m_want : GD := frm (fnD n_want.length fb_want)
theorem p_want [TC : TabC] {P : Program} {w : World} {K : PySem.W.Frag} {mg : Str → Option Value} {base : Heap} (T : Tops K mg) (X : Cx) (E : XK) (c : XC P w K mg base false E 2 n_want (defScope s_want) X) (hf : ∀ x, X.fn x = true) : PSs X (defBody s_want) (tDS K mg E fb_want) :=
  (ss_one (s_if (t_not (c.val (c.var 0 rfl (.inl (by kernel_rfl))))) (ss_one (c.raise2 (T.xc_NotUsable) (T.xI_NotUsable (P := P) (w := w) (base := base)) T.xB_NotUsable (by kernel_rfl) (l_cons (c.var 1 rfl (.inl (by kernel_rfl))) (l_cons (d_neg d_int) l_nil)))) ss_nil))
theorem ok_want [TC : TabC] {P : Program} {w : World} {K : PySem.W.Frag} {mg : Str → Option Value} {base : Heap} (T : Tops K mg) : FnG P w K mg base false 3 T.a_want T.d_want ["fits", "name"] (spG K mg 2 m_want) :=
  fnG_fun T.F_want sc_want fun X E c hf => p_want T X E c hf
def fb_want_book : SD := (sExpr (eCall 2 m_want (lCons (eBin isND (eCall 1 m_book_fault (lCons (eV 0) lNil)) (eC .non)) (lCons (eV 1) lNil))))
def m_want_book : GD := frm (fnD n_want_book.length fb_want_book)
theorem p_want_book [TC : TabC] {P : Program} {w : World} {K : PySem.W.Frag} {mg : Str → Option Value} {base : Heap} (T : Tops K mg) (F_book_fault : FnG P w K mg base false 4 T.a_book_fault T.d_book_fault ["thing"] (spG K mg 1 m_book_fault)) (F_want : FnG P w K mg base false 3 T.a_want T.d_want ["fits", "name"] (spG K mg 2 m_want)) (X : Cx) (E : XK) (c : XC P w K mg base false E 4 n_want_book (defScope s_want_book) X) (hf : ∀ x, X.fn x = true) : PSs X (defBody s_want_book) (tDS K mg E fb_want_book) :=
  (ss_one (s_expr (c.call F_want.up (by kernel_rfl) T.m_want T.F_want.kp T.b_want (l_cons (d_cmp op_isN sp_isN (c.call F_book_fault.up (by kernel_rfl) T.m_book_fault T.F_book_fault.kp T.b_book_fault (l_cons (c.var 0 rfl (.inl (by kernel_rfl))) l_nil)) d_non rfl) (l_cons (c.var 1 rfl (.inl (by kernel_rfl))) l_nil)))))
theorem ok_want_book [TC : TabC] {P : Program} {w : World} {K : PySem.W.Frag} {mg : Str → Option Value} {base : Heap} (T : Tops K mg) (F_book_fault : FnG P w K mg base false 4 T.a_book_fault T.d_book_fault ["thing"] (spG K mg 1 m_book_fault)) (F_want : FnG P w K mg base false 3 T.a_want T.d_want ["fits", "name"] (spG K mg 2 m_want)) : FnG P w K mg base false 5 T.a_want_book T.d_want_book ["thing", "name"] (spG K mg 2 m_want_book) :=
  fnG_fun T.F_want_book sc_want_book fun X E c hf => p_want_book T F_book_fault F_want X E c hf
def fb_all_words : SG := (gSeq (gPlain (sExpr (eCall 2 m_want_book (lCons (eV 0) (lCons (eC (.str "book")) lNil))))) (gSeq (gPlain (sAsg (eV 0) (gT [(gN 4), (gN 5), (gN 6)]))) (gSeq (gPlain (sAsg (eCall 3 m_bound_rows (lCons (eV 4) (lCons (eV 5) (lCons (eV 6) lNil)))) (gN 1))) (gSeq (gPlain (sAsg (eThaw (lComp (iAny (eV 1)) [8] (gN 8) bYes (eC (.int 0)))) (gN 2))) (gSeq (gPlain (sAsg (eBin mulD' (eTup (lCons (eC (.int 0)) lNil)) (eV 5)) (gN 3))) (gSeq (gWhile 1000 (bT (eC (.bl true))) (gSeq (gYield (eV 3)) (gSeq (gPlain (sAsg (eBin subD (eBi lenD (lCons (eV 1) lNil)) (eC (.int 1))) (gN 7))) (gSeq (gPlain (sWhile 1000 (bAnd (bB (eBin (cmpI fun i j => decide (j ≤ i)) (eV 7) (eC (.int 0)))) (bB (eBin eqOD (eBin itemD (eV 2) (eV 7)) (eBin subD (eV 4) (eC (.int 1)))))) (sSeq (sLPut (eV 2) (eV 7) (eC (.int 0))) (sSeq (sAsg (eCall 4 m_plus_scaled (lCons (eV 4) (lCons (eV 3) (lCons (eC (.int 1)) (lCons (eBin itemD (eV 1) (eV 7)) lNil))))) (gN 3)) (sAsg (eBin subD (eV 7) (eC (.int 1))) (gN 7)))))) (gSeq (gPlain (sIf (bB (eBin (cmpI fun i j => decide (i < j)) (eV 7) (eC (.int 0)))) sRetN sNext)) (gSeq (gPlain (sLPut (eV 2) (eV 7) (eBin addD (eBin itemD (eV 2) (eV 7)) (eC (.int 1))))) (gSeq (gPlain (sAsg (eCall 4 m_plus_scaled (lCons (eV 4) (lCons (eV 3) (lCons (eC (.int 1)) (lCons (eBin itemD (eV 1) (eV 7)) lNil))))) (gN 3))) gNext))))))) gNext))))))
def g_all_words : LGD := frmL (fnL n_all_words.length fb_all_words)
theorem p_all_words [TC : TabC] {P : Program} {w : World} {K : PySem.W.Frag} {mg : Str → Option Value} {base : Heap} (T : Tops K mg) (F_bound_rows : FnG P w K mg base false 4 T.a_bound_rows T.d_bound_rows ["prime", "size", "rows"] (spG K mg 3 m_bound_rows)) (F_plus_scaled : FnG P w K mg base false 1 T.a_plus_scaled T.d_plus_scaled ["prime", "row", "times", "other"] (spG K mg 4 m_plus_scaled)) (F_want_book : FnG P w K mg base false 5 T.a_want_book T.d_want_book ["thing", "name"] (spG K mg 2 m_want_book)) (X : Cx) (E : XK) (c : XC P w K mg base false E 5 n_all_words (defScope s_all_words) X) (hf : ∀ x, X.fn x = true) (hs : X.env.scope = defScope s_all_words) : GSs X (defBody s_all_words) (tDG K mg E fb_all_words) :=
  have hI : interactive X.env = false := by unfold interactive; rw [hs]; rfl
  (gg_cons (g_plain (s_expr (c.call F_want_book.up (by kernel_rfl) T.m_want_book T.F_want_book.kp T.b_want_book (l_cons (c.var 0 rfl (.inl (by kernel_rfl))) (l_cons d_str l_nil))))) (gg_cons (g_plain (c.asg [4, 5, 6] (c.var 0 rfl (.inl (by kernel_rfl))) (c.pgt 3 (pgs_cons (c.gN 4 rfl (.inl (by kernel_rfl)) (.inr (by kernel_rfl))) (pgs_cons (c.gN 5 rfl (.inl (by kernel_rfl)) (.inr (by kernel_rfl))) (pgs_cons (c.gN 6 rfl (.inl (by kernel_rfl)) (.inr (by kernel_rfl))) pgs_nil)))) (g_tup (gs_cons (g_name (i := 4) (vs := [4, 5, 6]) (by decide)) (gs_cons (g_name (i := 5) (vs := [4, 5, 6]) (by decide)) (gs_cons (g_name (i := 6) (vs := [4, 5, 6]) (by decide)) gs_nil)))) (by intro env h; cases env; cases h; first | rfl | kernel_rfl) (by intro env h; cases env; cases h; first | rfl | kernel_rfl))) (gg_cons (g_plain (c.set' 1 rfl (.inl (by kernel_rfl)) (.inr (by kernel_rfl)) (c.call F_bound_rows.up (by kernel_rfl) T.m_bound_rows T.F_bound_rows.kp T.b_bound_rows (l_cons (c.var 4 rfl (.inl (by kernel_rfl))) (l_cons (c.var 5 rfl (.inl (by kernel_rfl))) (l_cons (c.var 6 rfl (.inl (by kernel_rfl))) l_nil)))) (by intro env h; cases env; cases h; first | rfl | kernel_rfl))) (gg_cons (g_plain (c.setLT (own := [("_", 8)]) 2 rfl (by kernel_rfl) (by kernel_rfl) (c.anyI (c.var 1 rfl (.inl (by kernel_rfl)))) (fun Y15 c15 h15 => (c15.gN 8 rfl (.inl (by kernel_rfl)) (.inr (by kernel_rfl)))) (g_name (i := 8) (vs := [8]) (by decide)) (fun Y15 c15 => (c15.tnil)) (fun Y15 c15 => d_int) (by intro env h; cases env; cases h; first | rfl | kernel_rfl))) (gg_cons (g_plain (c.set' 3 rfl (.inl (by kernel_rfl)) (.inr (by kernel_rfl)) (c.mul (d_tup (l_cons d_int l_nil)) (c.var 5 rfl (.inl (by kernel_rfl)))) (by intro env h; cases env; cases h; first | rfl | kernel_rfl))) (gg_cons (c.gwhile 1000 (c.val d_bl) (gg_cons (g_yield (c.var 3 rfl (.inl (by kernel_rfl))) (by rw [hs]; rfl) (hI)) (gg_cons (g_plain (c.set' 7 rfl (.inl (by kernel_rfl)) (.inr (by kernel_rfl)) (d_bin op_sub sp_sub (c.len (by kernel_rfl) (T.z_len) (l_cons (c.var 1 rfl (.inl (by kernel_rfl))) l_nil)) d_int) (by intro env h; cases env; cases h; first | rfl | kernel_rfl))) (gg_cons (g_plain (c.while 1000 (PW.pt (w_and (t_cmp op_ge sp_cmpI (c.var 7 rfl (.inl (by kernel_rfl))) d_int rfl) (w_and1 (c.teq (c.item (c.var 2 rfl (.inl (by kernel_rfl))) (c.var 7 rfl (.inl (by kernel_rfl)))) (d_bin op_sub sp_sub (c.var 4 rfl (.inl (by kernel_rfl))) d_int))))) (ss_cons (c.lput (c.var 2 rfl (.inl (by kernel_rfl))) (c.var 7 rfl (.inl (by kernel_rfl))) d_int) (ss_cons (c.set' 3 rfl (.inl (by kernel_rfl)) (.inr (by kernel_rfl)) (c.call F_plus_scaled.up (by kernel_rfl) T.m_plus_scaled T.F_plus_scaled.kp T.b_plus_scaled (l_cons (c.var 4 rfl (.inl (by kernel_rfl))) (l_cons (c.var 3 rfl (.inl (by kernel_rfl))) (l_cons d_int (l_cons (c.item (c.var 1 rfl (.inl (by kernel_rfl))) (c.var 7 rfl (.inl (by kernel_rfl)))) l_nil))))) (by intro env h; cases env; cases h; first | rfl | kernel_rfl)) (ss_one (c.set' 7 rfl (.inl (by kernel_rfl)) (.inr (by kernel_rfl)) (d_bin op_sub sp_sub (c.var 7 rfl (.inl (by kernel_rfl))) d_int) (by intro env h; cases env; cases h; first | rfl | kernel_rfl))))))) (gg_cons (g_plain (s_if (t_cmp op_lt sp_cmpI (c.var 7 rfl (.inl (by kernel_rfl))) d_int rfl) (ss_one s_retN) ss_nil)) (gg_cons (g_plain (c.lput (c.var 2 rfl (.inl (by kernel_rfl))) (c.var 7 rfl (.inl (by kernel_rfl))) (c.add (c.item (c.var 2 rfl (.inl (by kernel_rfl))) (c.var 7 rfl (.inl (by kernel_rfl)))) d_int))) (gg_cons (g_plain (c.set' 3 rfl (.inl (by kernel_rfl)) (.inr (by kernel_rfl)) (c.call F_plus_scaled.up (by kernel_rfl) T.m_plus_scaled T.F_plus_scaled.kp T.b_plus_scaled (l_cons (c.var 4 rfl (.inl (by kernel_rfl))) (l_cons (c.var 3 rfl (.inl (by kernel_rfl))) (l_cons d_int (l_cons (c.item (c.var 1 rfl (.inl (by kernel_rfl))) (c.var 7 rfl (.inl (by kernel_rfl)))) l_nil))))) (by intro env h; cases env; cases h; first | rfl | kernel_rfl))) gg_nil))))))) gg_nil))))))
theorem ok_all_words [TC : TabC] {P : Program} {w : World} {K : PySem.W.Frag} {mg : Str → Option Value} {base : Heap} (T : Tops K mg) (F_bound_rows : FnG P w K mg base false 4 T.a_bound_rows T.d_bound_rows ["prime", "size", "rows"] (spG K mg 3 m_bound_rows)) (F_plus_scaled : FnG P w K mg base false 1 T.a_plus_scaled T.d_plus_scaled ["prime", "row", "times", "other"] (spG K mg 4 m_plus_scaled)) (F_want_book : FnG P w K mg base false 5 T.a_want_book T.d_want_book ["thing", "name"] (spG K mg 2 m_want_book)) : GFn P w K mg base 6 T.a_all_words T.d_all_words ["book"] (spGG K mg 1 g_all_words) :=
  gnG_fun T.F_all_words sc_all_words fun X E c hf hs => p_all_words T F_bound_rows F_plus_scaled F_want_book X E c hf hs
def fb_base_sums : SD := (sSeq (sExpr (eCall 2 m_want_book (lCons (eV 0) (lCons (eC (.str "book")) lNil)))) (sSeq (sAsg (eV 0) (gT [(gN 1), (gN 2), (gN 3)])) (sRet (eCall 2 m_reduced_rows (lCons (eV 1) (lCons (eV 3) lNil))))))
def m_base_sums : GD := frm (fnD n_base_sums.length fb_base_sums)
theorem p_base_sums [TC : TabC] {P : Program} {w : World} {K : PySem.W.Frag} {mg : Str → Option Value} {base : Heap} (T : Tops K mg) (F_reduced_rows : FnG P w K mg base false 3 T.a_reduced_rows T.d_reduced_rows ["prime", "rows"] (spG K mg 2 m_reduced_rows)) (F_want_book : FnG P w K mg base false 5 T.a_want_book T.d_want_book ["thing", "name"] (spG K mg 2 m_want_book)) (X : Cx) (E : XK) (c : XC P w K mg base false E 5 n_base_sums (defScope s_base_sums) X) (hf : ∀ x, X.fn x = true) : PSs X (defBody s_base_sums) (tDS K mg E fb_base_sums) :=
  (ss_cons (s_expr (c.call F_want_book.up (by kernel_rfl) T.m_want_book T.F_want_book.kp T.b_want_book (l_cons (c.var 0 rfl (.inl (by kernel_rfl))) (l_cons d_str l_nil)))) (ss_cons (c.asg [1, 2, 3] (c.var 0 rfl (.inl (by kernel_rfl))) (c.pgt 3 (pgs_cons (c.gN 1 rfl (.inl (by kernel_rfl)) (.inr (by kernel_rfl))) (pgs_cons (c.gN 2 rfl (.inl (by kernel_rfl)) (.inr (by kernel_rfl))) (pgs_cons (c.gN 3 rfl (.inl (by kernel_rfl)) (.inr (by kernel_rfl))) pgs_nil)))) (g_tup (gs_cons (g_name (i := 1) (vs := [1, 2, 3]) (by decide)) (gs_cons (g_name (i := 2) (vs := [1, 2, 3]) (by decide)) (gs_cons (g_name (i := 3) (vs := [1, 2, 3]) (by decide)) gs_nil)))) (by intro env h; cases env; cases h; first | rfl | kernel_rfl) (by intro env h; cases env; cases h; first | rfl | kernel_rfl)) (ss_one (s_ret (c.call F_reduced_rows.up (by kernel_rfl) T.m_reduced_rows T.F_reduced_rows.kp T.b_reduced_rows (l_cons (c.var 1 rfl (.inl (by kernel_rfl))) (l_cons (c.var 3 rfl (.inl (by kernel_rfl))) l_nil)))))))
theorem ok_base_sums [TC : TabC] {P : Program} {w : World} {K : PySem.W.Frag} {mg : Str → Option Value} {base : Heap} (T : Tops K mg) (F_reduced_rows : FnG P w K mg base false 3 T.a_reduced_rows T.d_reduced_rows ["prime", "rows"] (spG K mg 2 m_reduced_rows)) (F_want_book : FnG P w K mg base false 5 T.a_want_book T.d_want_book ["thing", "name"] (spG K mg 2 m_want_book)) : FnG P w K mg base false 6 T.a_base_sums T.d_base_sums ["book"] (spG K mg 1 m_base_sums) :=
  fnG_fun T.F_base_sums sc_base_sums fun X E c hf => p_base_sums T F_reduced_rows F_want_book X E c hf
def fb_base_words : SD := (sSeq (sExpr (eCall 2 m_want_book (lCons (eV 0) (lCons (eC (.str "book")) lNil)))) (sSeq (sAsg (eV 0) (gT [(gN 1), (gN 2), (gN 3)])) (sRet (eCall 3 m_bound_rows (lCons (eV 1) (lCons (eV 2) (lCons (eV 3) lNil)))))))
def m_base_words : GD := frm (fnD n_base_words.length fb_base_words)
theorem p_base_words [TC : TabC] {P : Program} {w : World} {K : PySem.W.Frag} {mg : Str → Option Value} {base : Heap} (T : Tops K mg) (F_bound_rows : FnG P w K mg base false 4 T.a_bound_rows T.d_bound_rows ["prime", "size", "rows"] (spG K mg 3 m_bound_rows)) (F_want_book : FnG P w K mg base false 5 T.a_want_book T.d_want_book ["thing", "name"] (spG K mg 2 m_want_book)) (X : Cx) (E : XK) (c : XC P w K mg base false E 5 n_base_words (defScope s_base_words) X) (hf : ∀ x, X.fn x = true) : PSs X (defBody s_base_words) (tDS K mg E fb_base_words) :=
  (ss_cons (s_expr (c.call F_want_book.up (by kernel_rfl) T.m_want_book T.F_want_book.kp T.b_want_book (l_cons (c.var 0 rfl (.inl (by kernel_rfl))) (l_cons d_str l_nil)))) (ss_cons (c.asg [1, 2, 3] (c.var 0 rfl (.inl (by kernel_rfl))) (c.pgt 3 (pgs_cons (c.gN 1 rfl (.inl (by kernel_rfl)) (.inr (by kernel_rfl))) (pgs_cons (c.gN 2 rfl (.inl (by kernel_rfl)) (.inr (by kernel_rfl))) (pgs_cons (c.gN 3 rfl (.inl (by kernel_rfl)) (.inr (by kernel_rfl))) pgs_nil)))) (g_tup (gs_cons (g_name (i := 1) (vs := [1, 2, 3]) (by decide)) (gs_cons (g_name (i := 2) (vs := [1, 2, 3]) (by decide)) (gs_cons (g_name (i := 3) (vs := [1, 2, 3]) (by decide)) gs_nil)))) (by intro env h; cases env; cases h; first | rfl | kernel_rfl) (by intro env h; cases env; cases h; first | rfl | kernel_rfl)) (ss_one (s_ret (c.call F_bound_rows.up (by kernel_rfl) T.m_bound_rows T.F_bound_rows.kp T.b_bound_rows (l_cons (c.var 1 rfl (.inl (by kernel_rfl))) (l_cons (c.var 2 rfl (.inl (by kernel_rfl))) (l_cons (c.var 3 rfl (.inl (by kernel_rfl))) l_nil))))))))
theorem ok_base_words [TC : TabC] {P : Program} {w : World} {K : PySem.W.Frag} {mg : Str → Option Value} {base : Heap} (T : Tops K mg) (F_bound_rows : FnG P w K mg base false 4 T.a_bound_rows T.d_bound_rows ["prime", "size", "rows"] (spG K mg 3 m_bound_rows)) (F_want_book : FnG P w K mg base false 5 T.a_want_book T.d_want_book ["thing", "name"] (spG K mg 2 m_want_book)) : FnG P w K mg base false 6 T.a_base_words T.d_base_words ["book"] (spG K mg 1 m_base_words) :=
  fnG_fun T.F_base_words sc_base_words fun X E c hf => p_base_words T F_bound_rows F_want_book X E c hf
def fb_is_kept : SD := (sSeq (sAsg (eV 0) (gT [(gN 2), (gN 3), (gN 4)])) (sRet (eNot (eBi anyA (lCons (eCall 3 m_cleared (lCons (eV 2) (lCons (eV 1) (lCons (eCall 2 m_reduced_rows (lCons (eV 2) (lCons (eV 4) lNil))) lNil)))) lNil)))))
def m_is_kept : GD := frm (fnD n_is_kept.length fb_is_kept)
theorem p_is_kept [TC : TabC] {P : Program} {w : World} {K : PySem.W.Frag} {mg : Str → Option Value} {base : Heap} (T : Tops K mg) (F_cleared : FnG P w K mg base false 2 T.a_cleared T.d_cleared ["prime", "row", "done"] (spG K mg 3 m_cleared)) (F_reduced_rows : FnG P w K mg base false 3 T.a_reduced_rows T.d_reduced_rows ["prime", "rows"] (spG K mg 2 m_reduced_rows)) (X : Cx) (E : XK) (c : XC P w K mg base false E 3 n_is_kept (defScope s_is_kept) X) (hf : ∀ x, X.fn x = true) : PSs X (defBody s_is_kept) (tDS K mg E fb_is_kept) :=
  (ss_cons (c.asg [2, 3, 4] (c.var 0 rfl (.inl (by kernel_rfl))) (c.pgt 3 (pgs_cons (c.gN 2 rfl (.inl (by kernel_rfl)) (.inr (by kernel_rfl))) (pgs_cons (c.gN 3 rfl (.inl (by kernel_rfl)) (.inr (by kernel_rfl))) (pgs_cons (c.gN 4 rfl (.inl (by kernel_rfl)) (.inr (by kernel_rfl))) pgs_nil)))) (g_tup (gs_cons (g_name (i := 2) (vs := [2, 3, 4]) (by decide)) (gs_cons (g_name (i := 3) (vs := [2, 3, 4]) (by decide)) (gs_cons (g_name (i := 4) (vs := [2, 3, 4]) (by decide)) gs_nil)))) (by intro env h; cases env; cases h; first | rfl | kernel_rfl) (by intro env h; cases env; cases h; first | rfl | kernel_rfl)) (ss_one (s_ret (d_not (c.anyA (by kernel_rfl) (T.z_any) (l_cons (c.call F_cleared.up (by kernel_rfl) T.m_cleared T.F_cleared.kp T.b_cleared (l_cons (c.var 2 rfl (.inl (by kernel_rfl))) (l_cons (c.var 1 rfl (.inl (by kernel_rfl))) (l_cons (c.call F_reduced_rows.up (by kernel_rfl) T.m_reduced_rows T.F_reduced_rows.kp T.b_reduced_rows (l_cons (c.var 2 rfl (.inl (by kernel_rfl))) (l_cons (c.var 4 rfl (.inl (by kernel_rfl))) l_nil))) l_nil)))) l_nil))))))
theorem ok_is_kept [TC : TabC] {P : Program} {w : World} {K : PySem.W.Frag} {mg : Str → Option Value} {base : Heap} (T : Tops K mg) (F_cleared : FnG P w K mg base false 2 T.a_cleared T.d_cleared ["prime", "row", "done"] (spG K mg 3 m_cleared)) (F_reduced_rows : FnG P w K mg base false 3 T.a_reduced_rows T.d_reduced_rows ["prime", "rows"] (spG K mg 2 m_reduced_rows)) : FnG P w K mg base false 4 T.a_is_kept T.d_is_kept ["book", "numbers"] (spG K mg 2 m_is_kept) :=
  fnG_fun T.F_is_kept sc_is_kept fun X E c hf => p_is_kept T F_cleared F_reduced_rows X E c hf
def fb_is_sum_like : SD := (sSeq (sAsg (eV 0) (gT [(gN 2), (gN 3), (gN 4)])) (sRet (eAnd (eCall 3 m_is_numbers (lCons (eV 1) (lCons (eV 3) (lCons (eV 2) lNil)))) (eBi anyA (lCons (eV 1) lNil)))))
def m_is_sum_like : GD := frm (fnD n_is_sum_like.length fb_is_sum_like)
theorem p_is_sum_like [TC : TabC] {P : Program} {w : World} {K : PySem.W.Frag} {mg : Str → Option Value} {base : Heap} (T : Tops K mg) (F_is_numbers : FnG P w K mg base false 3 T.a_is_numbers T.d_is_numbers ["thing", "many", "below"] (spG K mg 3 m_is_numbers)) (X : Cx) (E : XK) (c : XC P w K mg base false E 3 n_is_sum_like (defScope s_is_sum_like) X) (hf : ∀ x, X.fn x = true) : PSs X (defBody s_is_sum_like) (tDS K mg E fb_is_sum_like) :=
  (ss_cons (c.asg [2, 3, 4] (c.var 0 rfl (.inl (by kernel_rfl))) (c.pgt 3 (pgs_cons (c.gN 2 rfl (.inl (by kernel_rfl)) (.inr (by kernel_rfl))) (pgs_cons (c.gN 3 rfl (.inl (by kernel_rfl)) (.inr (by kernel_rfl))) (pgs_cons (c.gN 4 rfl (.inl (by kernel_rfl)) (.inr (by kernel_rfl))) pgs_nil)))) (g_tup (gs_cons (g_name (i := 2) (vs := [2, 3, 4]) (by decide)) (gs_cons (g_name (i := 3) (vs := [2, 3, 4]) (by decide)) (gs_cons (g_name (i := 4) (vs := [2, 3, 4]) (by decide)) gs_nil)))) (by intro env h; cases env; cases h; first | rfl | kernel_rfl) (by intro env h; cases env; cases h; first | rfl | kernel_rfl)) (ss_one (s_ret (d_and (c.call F_is_numbers.up (by kernel_rfl) T.m_is_numbers T.F_is_numbers.kp T.b_is_numbers (l_cons (c.var 1 rfl (.inl (by kernel_rfl))) (l_cons (c.var 3 rfl (.inl (by kernel_rfl))) (l_cons (c.var 2 rfl (.inl (by kernel_rfl))) l_nil)))) (d_one (c.anyA (by kernel_rfl) (T.z_any) (l_cons (c.var 1 rfl (.inl (by kernel_rfl))) l_nil)))))))
theorem ok_is_sum_like [TC : TabC] {P : Program} {w : World} {K : PySem.W.Frag} {mg : Str → Option Value} {base : Heap} (T : Tops K mg) (F_is_numbers : FnG P w K mg base false 3 T.a_is_numbers T.d_is_numbers ["thing", "many", "below"] (spG K mg 3 m_is_numbers)) : FnG P w K mg base false 4 T.a_is_sum_like T.d_is_sum_like ["book", "thing"] (spG K mg 2 m_is_sum_like) :=
  fnG_fun T.F_is_sum_like sc_is_sum_like fun X E c hf => p_is_sum_like T F_is_numbers X E c hf
def fb_want_sum : SD := (sExpr (eCall 2 m_want (lCons (eCall 2 m_is_sum_like (lCons (eV 0) (lCons (eV 1) lNil))) (lCons (eC (.str "numbers")) lNil))))
def m_want_sum : GD := frm (fnD n_want_sum.length fb_want_sum)
theorem p_want_sum [TC : TabC] {P : Program} {w : World} {K : PySem.W.Frag} {mg : Str → Option Value} {base : Heap} (T : Tops K mg) (F_is_sum_like : FnG P w K mg base false 4 T.a_is_sum_like T.d_is_sum_like ["book", "thing"] (spG K mg 2 m_is_sum_like)) (F_want : FnG P w K mg base false 3 T.a_want T.d_want ["fits", "name"] (spG K mg 2 m_want)) (X : Cx) (E : XK) (c : XC P w K mg base false E 4 n_want_sum (defScope s_want_sum) X) (hf : ∀ x, X.fn x = true) : PSs X (defBody s_want_sum) (tDS K mg E fb_want_sum) :=
  (ss_one (s_expr (c.call F_want.up (by kernel_rfl) T.m_want T.F_want.kp T.b_want (l_cons (c.call F_is_sum_like.up (by kernel_rfl) T.m_is_sum_like T.F_is_sum_like.kp T.b_is_sum_like (l_cons (c.var 0 rfl (.inl (by kernel_rfl))) (l_cons (c.var 1 rfl (.inl (by kernel_rfl))) l_nil))) (l_cons d_str l_nil)))))
theorem ok_want_sum [TC : TabC] {P : Program} {w : World} {K : PySem.W.Frag} {mg : Str → Option Value} {base : Heap} (T : Tops K mg) (F_is_sum_like : FnG P w K mg base false 4 T.a_is_sum_like T.d_is_sum_like ["book", "thing"] (spG K mg 2 m_is_sum_like)) (F_want : FnG P w K mg base false 3 T.a_want T.d_want ["fits", "name"] (spG K mg 2 m_want)) : FnG P w K mg base false 5 T.a_want_sum T.d_want_sum ["book", "thing"] (spG K mg 2 m_want_sum) :=
  fnG_fun T.F_want_sum sc_want_sum fun X E c hf => p_want_sum T F_is_sum_like F_want X E c hf
def fb_keeps : SD := (sSeq (sExpr (eCall 2 m_want_book (lCons (eV 0) (lCons (eC (.str "book")) lNil)))) (sSeq (sExpr (eCall 2 m_want_sum (lCons (eV 0) (lCons (eV 1) lNil)))) (sRet (eCall 2 m_is_kept (lCons (eV 0) (lCons (eV 1) lNil))))))
def m_keeps : GD := frm (fnD n_keeps.length fb_keeps)
theorem p_keeps [TC : TabC] {P : Program} {w : World} {K : PySem.W.Frag} {mg : Str → Option Value} {base : Heap} (T : Tops K mg) (F_is_kept : FnG P w K mg base false 4 T.a_is_kept T.d_is_kept ["book", "numbers"] (spG K mg 2 m_is_kept)) (F_want_book : FnG P w K mg base false 5 T.a_want_book T.d_want_book ["thing", "name"] (spG K mg 2 m_want_book)) (F_want_sum : FnG P w K mg base false 5 T.a_want_sum T.d_want_sum ["book", "thing"] (spG K mg 2 m_want_sum)) (X : Cx) (E : XK) (c : XC P w K mg base false E 5 n_keeps (defScope s_keeps) X) (hf : ∀ x, X.fn x = true) : PSs X (defBody s_keeps) (tDS K mg E fb_keeps) :=
  (ss_cons (s_expr (c.call F_want_book.up (by kernel_rfl) T.m_want_book T.F_want_book.kp T.b_want_book (l_cons (c.var 0 rfl (.inl (by kernel_rfl))) (l_cons d_str l_nil)))) (ss_cons (s_expr (c.call F_want_sum.up (by kernel_rfl) T.m_want_sum T.F_want_sum.kp T.b_want_sum (l_cons (c.var 0 rfl (.inl (by kernel_rfl))) (l_cons (c.var 1 rfl (.inl (by kernel_rfl))) l_nil)))) (ss_one (s_ret (c.call F_is_kept.up (by kernel_rfl) T.m_is_kept T.F_is_kept.kp T.b_is_kept (l_cons (c.var 0 rfl (.inl (by kernel_rfl))) (l_cons (c.var 1 rfl (.inl (by kernel_rfl))) l_nil)))))))
theorem ok_keeps [TC : TabC] {P : Program} {w : World} {K : PySem.W.Frag} {mg : Str → Option Value} {base : Heap} (T : Tops K mg) (F_is_kept : FnG P w K mg base false 4 T.a_is_kept T.d_is_kept ["book", "numbers"] (spG K mg 2 m_is_kept)) (F_want_book : FnG P w K mg base false 5 T.a_want_book T.d_want_book ["thing", "name"] (spG K mg 2 m_want_book)) (F_want_sum : FnG P w K mg base false 5 T.a_want_sum T.d_want_sum ["book", "thing"] (spG K mg 2 m_want_sum)) : FnG P w K mg base false 6 T.a_keeps T.d_keeps ["book", "numbers"] (spG K mg 2 m_keeps) :=
  fnG_fun T.F_keeps sc_keeps fun X E c hf => p_keeps T F_is_kept F_want_book F_want_sum X E c hf
def fb_cut_to : SD := (sRet (eBi tupD (lCons (eFrz (lComp (iAny (eV 1)) [2] (gN 2) bYes (eBin itemD (eV 0) (eV 2)))) lNil)))
def m_cut_to : GD := frm (fnD n_cut_to.length fb_cut_to)
theorem p_cut_to [TC : TabC] {P : Program} {w : World} {K : PySem.W.Frag} {mg : Str → Option Value} {base : Heap} (T : Tops K mg) (X : Cx) (E : XK) (c : XC P w K mg base false E 0 n_cut_to (defScope s_cut_to) X) (hf : ∀ x, X.fn x = true) : PSs X (defBody s_cut_to) (tDS K mg E fb_cut_to) :=
  (ss_one (s_ret (c.tup (by kernel_rfl) (T.z_tuple) (l_cons (d_frz (c.comp (own := [("place", 2)]) (by kernel_rfl) (c.anyI (c.var 1 rfl (.inl (by kernel_rfl)))) (fun Y4 c4 h4 => (c4.gN 2 rfl (.inl (by kernel_rfl)) (.inr (by kernel_rfl)))) (g_name (i := 2) (vs := [2]) (by decide)) (fun Y4 c4 => (c4.tnil)) (fun Y4 c4 => (c4.item (c4.var 0 rfl (.inr (.inl (by kernel_rfl)))) (c4.var 2 rfl (.inl (by kernel_rfl))))))) l_nil))))
theorem ok_cut_to [TC : TabC] {P : Program} {w : World} {K : PySem.W.Frag} {mg : Str → Option Value} {base : Heap} (T : Tops K mg) : FnG P w K mg base false 1 T.a_cut_to T.d_cut_to ["row", "lot"] (spG K mg 2 m_cut_to) :=
  fnG_fun T.F_cut_to sc_cut_to fun X E c hf => p_cut_to T X E c hf
def fb_rank_on : SD := (sRet (eBi lenD (lCons (eCall 2 m_reduced_rows (lCons (eV 0) (lCons (eFrz (lComp (iAny (eV 1)) [3] (gN 3) bYes (eCall 2 m_cut_to (lCons (eV 3) (lCons (eV 2) lNil))))) lNil))) lNil)))
def m_rank_on : GD := frm (fnD n_rank_on.length fb_rank_on)
theorem p_rank_on [TC : TabC] {P : Program} {w : World} {K : PySem.W.Frag} {mg : Str → Option Value} {base : Heap} (T : Tops K mg) (F_cut_to : FnG P w K mg base false 1 T.a_cut_to T.d_cut_to ["row", "lot"] (spG K mg 2 m_cut_to)) (F_reduced_rows : FnG P w K mg base false 3 T.a_reduced_rows T.d_reduced_rows ["prime", "rows"] (spG K mg 2 m_reduced_rows)) (X : Cx) (E : XK) (c : XC P w K mg base false E 3 n_rank_on (defScope s_rank_on) X) (hf : ∀ x, X.fn x = true) : PSs X (defBody s_rank_on) (tDS K mg E fb_rank_on) :=
  (ss_one (s_ret (c.len (by kernel_rfl) (T.z_len) (l_cons (c.call F_reduced_rows.up (by kernel_rfl) T.m_reduced_rows T.F_reduced_rows.kp T.b_reduced_rows (l_cons (c.var 0 rfl (.inl (by kernel_rfl))) (l_cons (d_frz (c.comp (own := [("row", 3)]) (by kernel_rfl) (c.anyI (c.var 1 rfl (.inl (by kernel_rfl)))) (fun Y6 c6 h6 => (c6.gN 3 rfl (.inl (by kernel_rfl)) (.inr (by kernel_rfl)))) (g_name (i := 3) (vs := [3]) (by decide)) (fun Y6 c6 => (c6.tnil)) (fun Y6 c6 => (c6.call F_cut_to.up (by kernel_rfl) T.m_cut_to T.F_cut_to.kp T.b_cut_to (l_cons (c6.var 3 rfl (.inl (by kernel_rfl))) (l_cons (c6.var 2 rfl (.inr (.inl (by kernel_rfl)))) l_nil)))))) l_nil))) l_nil))))
theorem ok_rank_on [TC : TabC] {P : Program} {w : World} {K : PySem.W.Frag} {mg : Str → Option Value} {base : Heap} (T : Tops K mg) (F_cut_to : FnG P w K mg base false 1 T.a_cut_to T.d_cut_to ["row", "lot"] (spG K mg 2 m_cut_to)) (F_reduced_rows : FnG P w K mg base false 3 T.a_reduced_rows T.d_reduced_rows ["prime", "rows"] (spG K mg 2 m_reduced_rows)) : FnG P w K mg base false 4 T.a_rank_on T.d_rank_on ["prime", "rows", "lot"] (spG K mg 3 m_rank_on) :=
  fnG_fun T.F_rank_on sc_rank_on fun X E c hf => p_rank_on T F_cut_to F_reduced_rows X E c hf
def fb_is_place_of : SD := (sRet (eAnd (eCall 1 m_is_number (lCons (eV 1) lNil)) (eBin (cmpI fun i j => decide (i < j)) (eV 1) (eBin itemD (eV 0) (eC (.int 1))))))
def m_is_place_of : GD := frm (fnD n_is_place_of.length fb_is_place_of)
theorem p_is_place_of [TC : TabC] {P : Program} {w : World} {K : PySem.W.Frag} {mg : Str → Option Value} {base : Heap} (T : Tops K mg) (F_is_number : FnG P w K mg base false 2 T.a_is_number T.d_is_number ["thing"] (spG K mg 1 m_is_number)) (X : Cx) (E : XK) (c : XC P w K mg base false E 2 n_is_place_of (defScope s_is_place_of) X) (hf : ∀ x, X.fn x = true) : PSs X (defBody s_is_place_of) (tDS K mg E fb_is_place_of) :=
  (ss_one (s_ret (d_and (c.call F_is_number.up (by kernel_rfl) T.m_is_number T.F_is_number.kp T.b_is_number (l_cons (c.var 1 rfl (.inl (by kernel_rfl))) l_nil)) (d_one (d_cmp op_lt sp_cmpI (c.var 1 rfl (.inl (by kernel_rfl))) (c.item (c.var 0 rfl (.inl (by kernel_rfl))) d_int) rfl)))))
theorem ok_is_place_of [TC : TabC] {P : Program} {w : World} {K : PySem.W.Frag} {mg : Str → Option Value} {base : Heap} (T : Tops K mg) (F_is_number : FnG P w K mg base false 2 T.a_is_number T.d_is_number ["thing"] (spG K mg 1 m_is_number)) : FnG P w K mg base false 3 T.a_is_place_of T.d_is_place_of ["book", "thing"] (spG K mg 2 m_is_place_of) :=
  fnG_fun T.F_is_place_of sc_is_place_of fun X E c hf => p_is_place_of T F_is_number X E c hf
def fb_is_lot_of : SD := (sSeq (sIf (bOr (bNot (bT (eIsa .tuple (eV 1)))) (bNot (bT (eBi allD (lCons (eFrz (lComp (iAny (eV 1)) [3] (gN 3) bYes (eCall 2 m_is_place_of (lCons (eV 0) (lCons (eV 3) lNil))))) lNil))))) (sRet (eC (.bl false))) sNext) (sRet (eBi allD (lCons (eFrz (lComp (iRng2 (lCons (eC (.int 1)) (lCons (eBi lenD (lCons (eV 1) lNil)) lNil))) [2] (gN 2) bYes (eBin (cmpI fun i j => decide (i < j)) (eBin itemD (eV 1) (eBin subD (eV 2) (eC (.int 1)))) (eBin itemD (eV 1) (eV 2))))) lNil))))
def m_is_lot_of : GD := frm (fnD n_is_lot_of.length fb_is_lot_of)
theorem p_is_lot_of [TC : TabC] {P : Program} {w : World} {K : PySem.W.Frag} {mg : Str → Option Value} {base : Heap} (T : Tops K mg) (F_is_place_of : FnG P w K mg base false 3 T.a_is_place_of T.d_is_place_of ["book", "thing"] (spG K mg 2 m_is_place_of)) (X : Cx) (E : XK) (c : XC P w K mg base false E 3 n_is_lot_of (defScope s_is_lot_of) X) (hf : ∀ x, X.fn x = true) : PSs X (defBody s_is_lot_of) (tDS K mg E fb_is_lot_of) :=
  (ss_cons (s_if (PW.pt (w_or (t_not (c.val (c.isa .tuple (by kernel_rfl) (T.z_isinstance) (by kernel_rfl) (T.z_tuple) PyProof.Rows.boot_tuple (c.var 1 rfl (.inr (.inl (by kernel_rfl))))))) (w_or1 (t_not (c.val (c.all (by kernel_rfl) (T.z_all) (l_cons (d_frz (c.comp (own := [("place", 3)]) (by kernel_rfl) (c.anyI (c.var 1 rfl (.inr (.inl (by kernel_rfl))))) (fun Y13 c13 h13 => (c13.gN 3 rfl (.inl (by kernel_rfl)) (.inr (by kernel_rfl)))) (g_name (i := 3) (vs := [3]) (by decide)) (fun Y13 c13 => (c13.tnil)) (fun Y13 c13 => (c13.call F_is_place_of.up (by kernel_rfl) T.m_is_place_of T.F_is_place_of.kp T.b_is_place_of (l_cons (c13.var 0 rfl (.inr (.inl (by kernel_rfl)))) (l_cons (c13.var 3 rfl (.inl (by kernel_rfl))) l_nil)))))) l_nil))))))) (ss_one (s_ret d_bl)) ss_nil) (ss_one (s_ret (c.all (by kernel_rfl) (T.z_all) (l_cons (d_frz (c.comp (own := [("at", 2)]) (by kernel_rfl) (c.rng2 (by kernel_rfl) (T.z_range) (l_cons d_int (l_cons (c.len (by kernel_rfl) (T.z_len) (l_cons (c.var 1 rfl (.inr (.inl (by kernel_rfl)))) l_nil)) l_nil))) (fun Y14 c14 h14 => (c14.gN 2 rfl (.inl (by kernel_rfl)) (.inr (by kernel_rfl)))) (g_name (i := 2) (vs := [2]) (by decide)) (fun Y14 c14 => (c14.tnil)) (fun Y14 c14 => (d_cmp op_lt sp_cmpI (c14.item (c14.var 1 rfl (.inr (.inl (by kernel_rfl)))) (d_bin op_sub sp_sub (c14.var 2 rfl (.inl (by kernel_rfl))) d_int)) (c14.item (c14.var 1 rfl (.inr (.inl (by kernel_rfl)))) (c14.var 2 rfl (.inl (by kernel_rfl)))) rfl)))) l_nil)))))
theorem ok_is_lot_of [TC : TabC] {P : Program} {w : World} {K : PySem.W.Frag} {mg : Str → Option Value} {base : Heap} (T : Tops K mg) (F_is_place_of : FnG P w K mg base false 3 T.a_is_place_of T.d_is_place_of ["book", "thing"] (spG K mg 2 m_is_place_of)) : FnG P w K mg base false 4 T.a_is_lot_of T.d_is_lot_of ["book", "thing"] (spG K mg 2 m_is_lot_of) :=
  fnG_fun T.F_is_lot_of sc_is_lot_of fun X E c hf => p_is_lot_of T F_is_place_of X E c hf
def fb_want_lot : SD := (sExpr (eCall 2 m_want (lCons (eCall 2 m_is_lot_of (lCons (eV 0) (lCons (eV 1) lNil))) (lCons (eC (.str "lot")) lNil))))
def m_want_lot : GD := frm (fnD n_want_lot.length fb_want_lot)
theorem p_want_lot [TC : TabC] {P : Program} {w : World} {K : PySem.W.Frag} {mg : Str → Option Value} {base : Heap} (T : Tops K mg) (F_is_lot_of : FnG P w K mg base false 4 T.a_is_lot_of T.d_is_lot_of ["book", "thing"] (spG K mg 2 m_is_lot_of)) (F_want : FnG P w K mg base false 3 T.a_want T.d_want ["fits", "name"] (spG K mg 2 m_want)) (X : Cx) (E : XK) (c : XC P w K mg base false E 4 n_want_lot (defScope s_want_lot) X) (hf : ∀ x, X.fn x = true) : PSs X (defBody s_want_lot) (tDS K mg E fb_want_lot) :=
  (ss_one (s_expr (c.call F_want.up (by kernel_rfl) T.m_want T.F_want.kp T.b_want (l_cons (c.call F_is_lot_of.up (by kernel_rfl) T.m_is_lot_of T.F_is_lot_of.kp T.b_is_lot_of (l_cons (c.var 0 rfl (.inl (by kernel_rfl))) (l_cons (c.var 1 rfl (.inl (by kernel_rfl))) l_nil))) (l_cons d_str l_nil)))))
theorem ok_want_lot [TC : TabC] {P : Program} {w : World} {K : PySem.W.Frag} {mg : Str → Option Value} {base : Heap} (T : Tops K mg) (F_is_lot_of : FnG P w K mg base false 4 T.a_is_lot_of T.d_is_lot_of ["book", "thing"] (spG K mg 2 m_is_lot_of)) (F_want : FnG P w K mg base false 3 T.a_want T.d_want ["fits", "name"] (spG K mg 2 m_want)) : FnG P w K mg base false 5 T.a_want_lot T.d_want_lot ["book", "thing"] (spG K mg 2 m_want_lot) :=
  fnG_fun T.F_want_lot sc_want_lot fun X E c hf => p_want_lot T F_is_lot_of F_want X E c hf
def fb_told_on : SD := (sSeq (sExpr (eCall 2 m_want_book (lCons (eV 0) (lCons (eC (.str "book")) lNil)))) (sSeq (sExpr (eCall 2 m_want_lot (lCons (eV 0) (lCons (eV 1) lNil)))) (sSeq (sAsg (eV 0) (gT [(gN 2), (gN 3), (gN 4)])) (sRet (eCall 3 m_rank_on (lCons (eV 2) (lCons (eCall 3 m_bound_rows (lCons (eV 2) (lCons (eV 3) (lCons (eV 4) lNil)))) (lCons (eV 1) lNil))))))))
def m_told_on : GD := frm (fnD n_told_on.length fb_told_on)
theorem p_told_on [TC : TabC] {P : Program} {w : World} {K : PySem.W.Frag} {mg : Str → Option Value} {base : Heap} (T : Tops K mg) (F_bound_rows : FnG P w K mg base false 4 T.a_bound_rows T.d_bound_rows ["prime", "size", "rows"] (spG K mg 3 m_bound_rows)) (F_rank_on : FnG P w K mg base false 4 T.a_rank_on T.d_rank_on ["prime", "rows", "lot"] (spG K mg 3 m_rank_on)) (F_want_book : FnG P w K mg base false 5 T.a_want_book T.d_want_book ["thing", "name"] (spG K mg 2 m_want_book)) (F_want_lot : FnG P w K mg base false 5 T.a_want_lot T.d_want_lot ["book", "thing"] (spG K mg 2 m_want_lot)) (X : Cx) (E : XK) (c : XC P w K mg base false E 5 n_told_on (defScope s_told_on) X) (hf : ∀ x, X.fn x = true) : PSs X (defBody s_told_on) (tDS K mg E fb_told_on) :=
  (ss_cons (s_expr (c.call F_want_book.up (by kernel_rfl) T.m_want_book T.F_want_book.kp T.b_want_book (l_cons (c.var 0 rfl (.inl (by kernel_rfl))) (l_cons d_str l_nil)))) (ss_cons (s_expr (c.call F_want_lot.up (by kernel_rfl) T.m_want_lot T.F_want_lot.kp T.b_want_lot (l_cons (c.var 0 rfl (.inl (by kernel_rfl))) (l_cons (c.var 1 rfl (.inl (by kernel_rfl))) l_nil)))) (ss_cons (c.asg [2, 3, 4] (c.var 0 rfl (.inl (by kernel_rfl))) (c.pgt 3 (pgs_cons (c.gN 2 rfl (.inl (by kernel_rfl)) (.inr (by kernel_rfl))) (pgs_cons (c.gN 3 rfl (.inl (by kernel_rfl)) (.inr (by kernel_rfl))) (pgs_cons (c.gN 4 rfl (.inl (by kernel_rfl)) (.inr (by kernel_rfl))) pgs_nil)))) (g_tup (gs_cons (g_name (i := 2) (vs := [2, 3, 4]) (by decide)) (gs_cons (g_name (i := 3) (vs := [2, 3, 4]) (by decide)) (gs_cons (g_name (i := 4) (vs := [2, 3, 4]) (by decide)) gs_nil)))) (by intro env h; cases env; cases h; first | rfl | kernel_rfl) (by intro env h; cases env; cases h; first | rfl | kernel_rfl)) (ss_one (s_ret (c.call F_rank_on.up (by kernel_rfl) T.m_rank_on T.F_rank_on.kp T.b_rank_on (l_cons (c.var 2 rfl (.inl (by kernel_rfl))) (l_cons (c.call F_bound_rows.up (by kernel_rfl) T.m_bound_rows T.F_bound_rows.kp T.b_bound_rows (l_cons (c.var 2 rfl (.inl (by kernel_rfl))) (l_cons (c.var 3 rfl (.inl (by kernel_rfl))) (l_cons (c.var 4 rfl (.inl (by kernel_rfl))) l_nil)))) (l_cons (c.var 1 rfl (.inl (by kernel_rfl))) l_nil)))))))))
theorem ok_told_on [TC : TabC] {P : Program} {w : World} {K : PySem.W.Frag} {mg : Str → Option Value} {base : Heap} (T : Tops K mg) (F_bound_rows : FnG P w K mg base false 4 T.a_bound_rows T.d_bound_rows ["prime", "size", "rows"] (spG K mg 3 m_bound_rows)) (F_rank_on : FnG P w K mg base false 4 T.a_rank_on T.d_rank_on ["prime", "rows", "lot"] (spG K mg 3 m_rank_on)) (F_want_book : FnG P w K mg base false 5 T.a_want_book T.d_want_book ["thing", "name"] (spG K mg 2 m_want_book)) (F_want_lot : FnG P w K mg base false 5 T.a_want_lot T.d_want_lot ["book", "thing"] (spG K mg 2 m_want_lot)) : FnG P w K mg base false 6 T.a_told_on T.d_told_on ["book", "lot"] (spG K mg 2 m_told_on) :=
  fnG_fun T.F_told_on sc_told_on fun X E c hf => p_told_on T F_bound_rows F_rank_on F_want_book F_want_lot X E c hf
def fb_told_signs : SD := (sSeq (sExpr (eCall 2 m_want_book (lCons (eV 0) (lCons (eC (.str "book")) lNil)))) (sSeq (sAsg (eV 0) (gT [(gN 1), (gN 2), (gN 3)])) (sRet (eBin subD (eV 2) (eBi lenD (lCons (eCall 2 m_reduced_rows (lCons (eV 1) (lCons (eV 3) lNil))) lNil))))))
def m_told_signs : GD := frm (fnD n_told_signs.length fb_told_signs)
theorem p_told_signs [TC : TabC] {P : Program} {w : World} {K : PySem.W.Frag} {mg : Str → Option Value} {base : Heap} (T : Tops K mg) (F_reduced_rows : FnG P w K mg base false 3 T.a_reduced_rows T.d_reduced_rows ["prime", "rows"] (spG K mg 2 m_reduced_rows)) (F_want_book : FnG P w K mg base false 5 T.a_want_book T.d_want_book ["thing", "name"] (spG K mg 2 m_want_book)) (X : Cx) (E : XK) (c : XC P w K mg base false E 5 n_told_signs (defScope s_told_signs) X) (hf : ∀ x, X.fn x = true) : PSs X (defBody s_told_signs) (tDS K mg E fb_told_signs) :=
  (ss_cons (s_expr (c.call F_want_book.up (by kernel_rfl) T.m_want_book T.F_want_book.kp T.b_want_book (l_cons (c.var 0 rfl (.inl (by kernel_rfl))) (l_cons d_str l_nil)))) (ss_cons (c.asg [1, 2, 3] (c.var 0 rfl (.inl (by kernel_rfl))) (c.pgt 3 (pgs_cons (c.gN 1 rfl (.inl (by kernel_rfl)) (.inr (by kernel_rfl))) (pgs_cons (c.gN 2 rfl (.inl (by kernel_rfl)) (.inr (by kernel_rfl))) (pgs_cons (c.gN 3 rfl (.inl (by kernel_rfl)) (.inr (by kernel_rfl))) pgs_nil)))) (g_tup (gs_cons (g_name (i := 1) (vs := [1, 2, 3]) (by decide)) (gs_cons (g_name (i := 2) (vs := [1, 2, 3]) (by decide)) (gs_cons (g_name (i := 3) (vs := [1, 2, 3]) (by decide)) gs_nil)))) (by intro env h; cases env; cases h; first | rfl | kernel_rfl) (by intro env h; cases env; cases h; first | rfl | kernel_rfl)) (ss_one (s_ret (d_bin op_sub sp_sub (c.var 2 rfl (.inl (by kernel_rfl))) (c.len (by kernel_rfl) (T.z_len) (l_cons (c.call F_reduced_rows.up (by kernel_rfl) T.m_reduced_rows T.F_reduced_rows.kp T.b_reduced_rows (l_cons (c.var 1 rfl (.inl (by kernel_rfl))) (l_cons (c.var 3 rfl (.inl (by kernel_rfl))) l_nil))) l_nil)))))))
theorem ok_told_signs [TC : TabC] {P : Program} {w : World} {K : PySem.W.Frag} {mg : Str → Option Value} {base : Heap} (T : Tops K mg) (F_reduced_rows : FnG P w K mg base false 3 T.a_reduced_rows T.d_reduced_rows ["prime", "rows"] (spG K mg 2 m_reduced_rows)) (F_want_book : FnG P w K mg base false 5 T.a_want_book T.d_want_book ["thing", "name"] (spG K mg 2 m_want_book)) : FnG P w K mg base false 6 T.a_told_signs T.d_told_signs ["book"] (spG K mg 1 m_told_signs) :=
  fnG_fun T.F_told_signs sc_told_signs fun X E c hf => p_told_signs T F_reduced_rows F_want_book X E c hf
def fb__law_is_right : SD := (sSeq (sPar 7 8 (lCons (eBi reprD (lCons (eV 0) lNil)) (lCons (eBi lenD (lCons (eV 1) lNil)) lNil))) (sSeq (sAsg (eFrz (lSz (lCons (eCall 1 m_told_signs (lCons (eV 0) lNil)) (lCons (eCall 1 m_base_words (lCons (eV 0) lNil)) (lCons (eCall 1 m_base_sums (lCons (eV 0) lNil)) (lCons (eCall 2 m_told_on (lCons (eV 0) (lCons (eTup lNil) lNil))) lNil)))))) (gN 4)) (sSeq (sAsg (eFrz (lSz (lCons (eCallK 1 [0] m_told_signs (lCons (eV 0) lNil)) (lCons (eCallK 1 [0] m_base_words (lCons (eV 0) lNil)) (lCons (eCallK 1 [0] m_base_sums (lCons (eV 0) lNil)) (lCons (eCallK 2 [1, 0] m_told_on (lCons (eTup lNil) (lCons (eV 0) lNil))) lNil)))))) (gN 5)) (sSeq (sIf (bNot (bT (eCall 2 m__law_same (lCons (eFrz (lSz (lCons (eV 4) (lCons (eV 5) lNil)))) (lCons (eBin mulD' (eFrz (lSz (lCons (eFrz (lSz (lCons (eV 8) (lCons (eV 1) (lCons (eV 2) (lCons (eC (.int 0)) lNil)))))) lNil))) (eC (.int 2))) lNil))))) (sRet (eC (.bl false))) sNext) (sSeq (sIf (bB (eBin neOD (eFrz (lComp (iAny (eV 3)) [10, 11] (gT [(gN 10), (gN 11)]) (bNot (bT (eCall 2 m__law_same (lCons (eFrz (lSz (lCons (eCall 2 m_told_on (lCons (eV 0) (lCons (eV 10) lNil))) (lCons (eCallK 2 [0, 1] m_told_on (lCons (eV 0) (lCons (eV 10) lNil))) lNil)))) (lCons (eFrz (lSz (lCons (eV 11) (lCons (eV 11) lNil)))) lNil))))) (eV 10))) (eFrz (lSz lNil)))) (sRet (eC (.bl false))) sNext) (sSeq (sFor (iAny (eBin addD (eBin itemD (eV 0) (eC (.int 2))) (eV 2))) (gN 6) (sIf (bNot (bT (eCall 2 m__law_same (lCons (eFrz (lSz (lCons (eCall 2 m_keeps (lCons (eV 0) (lCons (eV 6) lNil))) (lCons (eCallK 2 [1, 0] m_keeps (lCons (eV 6) (lCons (eV 0) lNil))) lNil)))) (lCons (eFrz (lSz (lCons (eC (.bl true)) (lCons (eC (.bl true)) lNil)))) lNil))))) (sRet (eC (.bl false))) sNext)) (sSeq (sIf (bB (eBin (cmpI fun i j => decide (i < j)) (eBin itemD (eV 0) (eC (.int 0))) (eC (.int 10)))) (sSeq (sAsg (eCall 3 m__law_all (lCons (eBin itemD (eV 0) (eC (.int 0))) (lCons (eBin itemD (eV 0) (eC (.int 1))) (lCons (eV 1) lNil)))) (gN 9)) (sIf (bNot (bT (eCall 2 m__law_same (lCons (eFrz (lSz (lCons (eListG 1 g_all_words (lCons (eV 0) lNil)) (lCons (eListGK 1 [0] g_all_words (lCons (eV 0) lNil)) lNil)))) (lCons (eFrz (lSz (lCons (eV 9) (lCons (eV 9) lNil)))) lNil))))) (sRet (eC (.bl false))) sNext)) sNext) (sRet (eBin eqOD (eBi reprD (lCons (eV 0) lNil)) (eV 7))))))))))
def m__law_is_right : GD := frm (fnD n__law_is_right.length fb__law_is_right)
theorem p__law_is_right [TC : TabC] {P : Program} {w : World} {K : PySem.W.Frag} {mg : Str → Option Value} {base : Heap} (T : Tops K mg) (F__law_all : FnG P w K mg base false 1 T.a__law_all T.d__law_all ["_law_prime", "_law_size", "_law_words"] (spG K mg 3 m__law_all)) (F__law_same : FnG P w K mg base true 1 T.a__law_same T.d__law_same ["_law_told", "_law_due"] (spG K mg 2 m__law_same)) (G_all_words : GFn P w K mg base 6 T.a_all_words T.d_all_words ["book"] (spGG K mg 1 g_all_words)) (F_base_sums : FnG P w K mg base false 6 T.a_base_sums T.d_base_sums ["book"] (spG K mg 1 m_base_sums)) (F_base_words : FnG P w K mg base false 6 T.a_base_words T.d_base_words ["book"] (spG K mg 1 m_base_words)) (F_keeps : FnG P w K mg base false 6 T.a_keeps T.d_keeps ["book", "numbers"] (spG K mg 2 m_keeps)) (F_told_on : FnG P w K mg base false 6 T.a_told_on T.d_told_on ["book", "lot"] (spG K mg 2 m_told_on)) (F_told_signs : FnG P w K mg base false 6 T.a_told_signs T.d_told_signs ["book"] (spG K mg 1 m_told_signs)) (X : Cx) (E : XK) (c : XC P w K mg base true E 9 n__law_is_right (defScope s__law_is_right) X) (hf : ∀ x, X.fn x = true) : PSs X (defBody s__law_is_right) (tDS K mg E fb__law_is_right) :=
  (ss_cons (c.par 7 8 rfl rfl (by decide) (by kernel_rfl) (by kernel_rfl) (l_cons (c.repr (by kernel_rfl) (T.z_repr) (l_cons (c.var 0 rfl (.inr (.inl (by kernel_rfl)))) l_nil)) (l_cons (c.len (by kernel_rfl) (T.z_len) (l_cons (c.var 1 rfl (.inl (by kernel_rfl))) l_nil)) l_nil)) (by intro env h; cases env; cases h; first | rfl | kernel_rfl) (by intro env h; cases env; cases h; first | rfl | kernel_rfl)) (ss_cons (c.set' 4 rfl (.inl (by kernel_rfl)) (.inr (by kernel_rfl)) (d_frz (f_lst (l_cons (c.call F_told_signs.up (by kernel_rfl) T.m_told_signs T.F_told_signs.kp T.b_told_signs (l_cons (c.var 0 rfl (.inr (.inl (by kernel_rfl)))) l_nil)) (l_cons (c.call F_base_words.up (by kernel_rfl) T.m_base_words T.F_base_words.kp T.b_base_words (l_cons (c.var 0 rfl (.inr (.inl (by kernel_rfl)))) l_nil)) (l_cons (c.call F_base_sums.up (by kernel_rfl) T.m_base_sums T.F_base_sums.kp T.b_base_sums (l_cons (c.var 0 rfl (.inr (.inl (by kernel_rfl)))) l_nil)) (l_cons (c.call F_told_on.up (by kernel_rfl) T.m_told_on T.F_told_on.kp T.b_told_on (l_cons (c.var 0 rfl (.inr (.inl (by kernel_rfl)))) (l_cons (d_tup l_nil) l_nil))) l_nil)))))) (by intro env h; cases env; cases h; first | rfl | kernel_rfl)) (ss_cons (c.set' 5 rfl (.inl (by kernel_rfl)) (.inr (by kernel_rfl)) (d_frz (f_lst (l_cons (c.callK (n := 1) (pm := [0]) F_told_signs.up (by kernel_rfl) T.m_told_signs T.F_told_signs.kp (Fun.bindsK (ks := ["book"]) (ps := ["book"]) (n := 1) (pm := [0]) T.F_told_signs (fun _ _ _ _ _ _ us hl => match us, hl with | [_], _ => rfl)) (k_cons (c.var 0 rfl (.inr (.inl (by kernel_rfl)))) k_nil)) (l_cons (c.callK (n := 1) (pm := [0]) F_base_words.up (by kernel_rfl) T.m_base_words T.F_base_words.kp (Fun.bindsK (ks := ["book"]) (ps := ["book"]) (n := 1) (pm := [0]) T.F_base_words (fun _ _ _ _ _ _ us hl => match us, hl with | [_], _ => rfl)) (k_cons (c.var 0 rfl (.inr (.inl (by kernel_rfl)))) k_nil)) (l_cons (c.callK (n := 1) (pm := [0]) F_base_sums.up (by kernel_rfl) T.m_base_sums T.F_base_sums.kp (Fun.bindsK (ks := ["book"]) (ps := ["book"]) (n := 1) (pm := [0]) T.F_base_sums (fun _ _ _ _ _ _ us hl => match us, hl with | [_], _ => rfl)) (k_cons (c.var 0 rfl (.inr (.inl (by kernel_rfl)))) k_nil)) (l_cons (c.callK (n := 2) (pm := [1, 0]) F_told_on.up (by kernel_rfl) T.m_told_on T.F_told_on.kp (Fun.bindsK (ks := ["lot", "book"]) (ps := ["book", "lot"]) (n := 2) (pm := [1, 0]) T.F_told_on (fun _ _ _ _ _ _ us hl => match us, hl with | [_, _], _ => rfl)) (k_cons (d_tup l_nil) (k_cons (c.var 0 rfl (.inr (.inl (by kernel_rfl)))) k_nil))) l_nil)))))) (by intro env h; cases env; cases h; first | rfl | kernel_rfl)) (ss_cons (s_if (t_not (c.val (c.call F__law_same (by kernel_rfl) T.m__law_same T.F__law_same.kp T.b__law_same (l_cons (d_frz (f_lst (l_cons (c.var 4 rfl (.inl (by kernel_rfl))) (l_cons (c.var 5 rfl (.inl (by kernel_rfl))) l_nil)))) (l_cons (c.mul (d_frz (f_lst (l_cons (d_frz (f_lst (l_cons (c.var 8 rfl (.inl (by kernel_rfl))) (l_cons (c.var 1 rfl (.inl (by kernel_rfl))) (l_cons (c.var 2 rfl (.inl (by kernel_rfl))) (l_cons d_int l_nil)))))) l_nil))) d_int) l_nil))))) (ss_one (s_ret d_bl)) ss_nil) (ss_cons (s_if (c.tne (d_frz (c.comp (own := [("_law_cut", 10), ("_law_due", 11)]) (by kernel_rfl) (c.anyI (c.var 3 rfl (.inl (by kernel_rfl)))) (fun Y18 c18 h18 => (c18.pgt 2 (pgs_cons (c18.gN 10 rfl (.inl (by kernel_rfl)) (.inr (by kernel_rfl))) (pgs_cons (c18.gN 11 rfl (.inl (by kernel_rfl)) (.inr (by kernel_rfl))) pgs_nil)))) (g_tup (gs_cons (g_name (i := 10) (vs := [10, 11]) (by decide)) (gs_cons (g_name (i := 11) (vs := [10, 11]) (by decide)) gs_nil))) (fun Y18 c18 => (c18.tone (t_not (c18.val (c18.call F__law_same (by kernel_rfl) T.m__law_same T.F__law_same.kp T.b__law_same (l_cons (d_frz (f_lst (l_cons (c18.call F_told_on.up (by kernel_rfl) T.m_told_on T.F_told_on.kp T.b_told_on (l_cons (c18.var 0 rfl (.inr (.inl (by kernel_rfl)))) (l_cons (c18.var 10 rfl (.inl (by kernel_rfl))) l_nil))) (l_cons (c18.callK (n := 2) (pm := [0, 1]) F_told_on.up (by kernel_rfl) T.m_told_on T.F_told_on.kp (Fun.bindsK (ks := ["book", "lot"]) (ps := ["book", "lot"]) (n := 2) (pm := [0, 1]) T.F_told_on (fun _ _ _ _ _ _ us hl => match us, hl with | [_, _], _ => rfl)) (k_cons (c18.var 0 rfl (.inr (.inl (by kernel_rfl)))) (k_cons (c18.var 10 rfl (.inl (by kernel_rfl))) k_nil))) l_nil)))) (l_cons (d_frz (f_lst (l_cons (c18.var 11 rfl (.inl (by kernel_rfl))) (l_cons (c18.var 11 rfl (.inl (by kernel_rfl))) l_nil)))) l_nil))))))) (fun Y18 c18 => (c18.var 10 rfl (.inl (by kernel_rfl)))))) (d_frz (f_lst l_nil))) (ss_one (s_ret d_bl)) ss_nil) (ss_cons (c.for (vs := [6]) (c.anyI (c.add (c.item (c.var 0 rfl (.inr (.inl (by kernel_rfl)))) d_int) (c.var 2 rfl (.inl (by kernel_rfl))))) (c.gN 6 rfl (.inl (by kernel_rfl)) (.inr (by kernel_rfl))) (g_name (i := 6) (vs := [6]) (by decide)) (ss_one (s_if (t_not (c.val (c.call F__law_same (by kernel_rfl) T.m__law_same T.F__law_same.kp T.b__law_same (l_cons (d_frz (f_lst (l_cons (c.call F_keeps.up (by kernel_rfl) T.m_keeps T.F_keeps.kp T.b_keeps (l_cons (c.var 0 rfl (.inr (.inl (by kernel_rfl)))) (l_cons (c.var 6 rfl (.inl (by kernel_rfl))) l_nil))) (l_cons (c.callK (n := 2) (pm := [1, 0]) F_keeps.up (by kernel_rfl) T.m_keeps T.F_keeps.kp (Fun.bindsK (ks := ["numbers", "book"]) (ps := ["book", "numbers"]) (n := 2) (pm := [1, 0]) T.F_keeps (fun _ _ _ _ _ _ us hl => match us, hl with | [_, _], _ => rfl)) (k_cons (c.var 6 rfl (.inl (by kernel_rfl))) (k_cons (c.var 0 rfl (.inr (.inl (by kernel_rfl)))) k_nil))) l_nil)))) (l_cons (d_frz (f_lst (l_cons d_bl (l_cons d_bl l_nil)))) l_nil))))) (ss_one (s_ret d_bl)) ss_nil))) (ss_cons (s_if (t_cmp op_lt sp_cmpI (c.item (c.var 0 rfl (.inr (.inl (by kernel_rfl)))) d_int) d_int rfl) (ss_cons (c.set' 9 rfl (.inl (by kernel_rfl)) (.inr (by kernel_rfl)) (c.call F__law_all.up (by kernel_rfl) T.m__law_all T.F__law_all.kp T.b__law_all (l_cons (c.item (c.var 0 rfl (.inr (.inl (by kernel_rfl)))) d_int) (l_cons (c.item (c.var 0 rfl (.inr (.inl (by kernel_rfl)))) d_int) (l_cons (c.var 1 rfl (.inl (by kernel_rfl))) l_nil)))) (by intro env h; cases env; cases h; first | rfl | kernel_rfl)) (ss_one (s_if (t_not (c.val (c.call F__law_same (by kernel_rfl) T.m__law_same T.F__law_same.kp T.b__law_same (l_cons (d_frz (f_lst (l_cons (c.lstG G_all_words (by kernel_rfl) T.m_all_words T.F_all_words.kp T.b_all_words (by kernel_rfl) (T.z_list) (l_cons (c.var 0 rfl (.inr (.inl (by kernel_rfl)))) l_nil)) (l_cons (c.lstGK (n := 1) (pm := [0]) G_all_words (by kernel_rfl) T.m_all_words T.F_all_words.kp (Fun.bindsK (ks := ["book"]) (ps := ["book"]) (n := 1) (pm := [0]) T.F_all_words (fun _ _ _ _ _ _ us hl => match us, hl with | [_], _ => rfl)) (by kernel_rfl) (T.z_list) (k_cons (c.var 0 rfl (.inr (.inl (by kernel_rfl)))) k_nil)) l_nil)))) (l_cons (d_frz (f_lst (l_cons (c.var 9 rfl (.inl (by kernel_rfl))) (l_cons (c.var 9 rfl (.inl (by kernel_rfl))) l_nil)))) l_nil))))) (ss_one (s_ret d_bl)) ss_nil))) ss_nil) (ss_one (s_ret (c.eq (c.repr (by kernel_rfl) (T.z_repr) (l_cons (c.var 0 rfl (.inr (.inl (by kernel_rfl)))) l_nil)) (c.var 7 rfl (.inl (by kernel_rfl)))))))))))))
theorem ok__law_is_right [TC : TabC] {P : Program} {w : World} {K : PySem.W.Frag} {mg : Str → Option Value} {base : Heap} (T : Tops K mg) (F__law_all : FnG P w K mg base false 1 T.a__law_all T.d__law_all ["_law_prime", "_law_size", "_law_words"] (spG K mg 3 m__law_all)) (F__law_same : FnG P w K mg base true 1 T.a__law_same T.d__law_same ["_law_told", "_law_due"] (spG K mg 2 m__law_same)) (G_all_words : GFn P w K mg base 6 T.a_all_words T.d_all_words ["book"] (spGG K mg 1 g_all_words)) (F_base_sums : FnG P w K mg base false 6 T.a_base_sums T.d_base_sums ["book"] (spG K mg 1 m_base_sums)) (F_base_words : FnG P w K mg base false 6 T.a_base_words T.d_base_words ["book"] (spG K mg 1 m_base_words)) (F_keeps : FnG P w K mg base false 6 T.a_keeps T.d_keeps ["book", "numbers"] (spG K mg 2 m_keeps)) (F_told_on : FnG P w K mg base false 6 T.a_told_on T.d_told_on ["book", "lot"] (spG K mg 2 m_told_on)) (F_told_signs : FnG P w K mg base false 6 T.a_told_signs T.d_told_signs ["book"] (spG K mg 1 m_told_signs)) : FnG P w K mg base true 10 T.a__law_is_right T.d__law_is_right ["_law_tome", "_law_words", "_law_sums", "_law_cuts"] (spG K mg 4 m__law_is_right) :=
  fnG_fun T.F__law_is_right sc__law_is_right fun X E c hf => p__law_is_right T F__law_all F__law_same G_all_words F_base_sums F_base_words F_keeps F_told_on F_told_signs X E c hf
def fb__law_keeps_right : SD := (sSeq (sAsg (eTup (lCons (eTup (lCons (eC (.int 3)) (lCons (eC (.int 3)) (lCons (eTup (lCons (eTup (lCons (eC (.int 1)) (lCons (eC (.int 1)) (lCons (eC (.int 1)) lNil)))) lNil)) lNil)))) (lCons (eTup (lCons (eC (.int 2)) (lCons (eC (.int 4)) (lCons (eTup (lCons (eTup (lCons (eC (.int 1)) (lCons (eC (.int 1)) (lCons (eC (.int 0)) (lCons (eC (.int 0)) lNil))))) (lCons (eTup (lCons (eC (.int 0)) (lCons (eC (.int 0)) (lCons (eC (.int 1)) (lCons (eC (.int 1)) lNil))))) lNil))) lNil)))) lNil))) (gT [(gN 1), (gN 2)])) (sSeq (sAsg (eFrz (lSz (lCons (eTup (lCons (eV 1) (lCons (eTup (lCons (eC (.int 2)) (lCons (eC (.int 2)) (lCons (eC (.int 2)) lNil)))) (lCons (eC (.bl true)) lNil)))) (lCons (eTup (lCons (eV 1) (lCons (eTup (lCons (eC (.int 1)) (lCons (eC (.int 1)) (lCons (eC (.int 0)) lNil)))) (lCons (eC (.bl false)) lNil)))) (lCons (eTup (lCons (eV 1) (lCons (eTup (lCons (eC (.int 1)) (lCons (eC (.int 1)) (lCons (eC (.int 2)) lNil)))) (lCons (eC (.bl false)) lNil)))) (lCons (eTup (lCons (eV 2) (lCons (eTup (lCons (eC (.int 1)) (lCons (eC (.int 1)) (lCons (eC (.int 1)) (lCons (eC (.int 1)) lNil))))) (lCons (eC (.bl true)) lNil)))) lNil)))))) (gN 0)) (sSeq (sAsg (eBin addD (eV 0) (eFrz (lSz (lCons (eTup (lCons (eV 2) (lCons (eTup (lCons (eC (.int 1)) (lCons (eC (.int 0)) (lCons (eC (.int 1)) (lCons (eC (.int 0)) lNil))))) (lCons (eC (.bl false)) lNil)))) (lCons (eTup (lCons (eV 2) (lCons (eTup (lCons (eC (.int 0)) (lCons (eC (.int 0)) (lCons (eC (.int 0)) (lCons (eC (.int 1)) lNil))))) (lCons (eC (.bl false)) lNil)))) (lCons (eTup (lCons (eTup (lCons (eC (.int 2)) (lCons (eC (.int 2)) (lCons (eTup lNil) lNil)))) (lCons (eTup (lCons (eC (.int 1)) (lCons (eC (.int 1)) lNil))) (lCons (eC (.bl false)) lNil)))) lNil)))))) (gN 0)) (sSeq (sAsg (eBin addD (eV 0) (eFrz (lSz (lCons (eTup (lCons (eTup (lCons (eC (.int 3)) (lCons (eC (.int 2)) (lCons (eTup (lCons (eTup (lCons (eC (.int 1)) (lCons (eC (.int 1)) lNil))) (lCons (eTup (lCons (eC (.int 1)) (lCons (eC (.int 2)) lNil))) lNil))) lNil)))) (lCons (eTup (lCons (eC (.int 0)) (lCons (eC (.int 1)) lNil))) (lCons (eC (.bl true)) lNil)))) (lCons (eTup (lCons (eTup (lCons (eC (.int 7)) (lCons (eC (.int 1)) (lCons (eTup (lCons (eTup (lCons (eC (.int 3)) lNil)) lNil)) lNil)))) (lCons (eTup (lCons (eC (.int 6)) lNil)) (lCons (eC (.bl true)) lNil)))) (lCons (eTup (lCons (eTup (lCons (eC (.int 7)) (lCons (eC (.int 1)) (lCons (eTup lNil) lNil)))) (lCons (eTup (lCons (eC (.int 6)) lNil)) (lCons (eC (.bl false)) lNil)))) lNil)))))) (gN 0)) (sSeq (sAsg (eBin addD (eV 0) (eFrz (lSz (lCons (eTup (lCons (eTup (lCons (eC (.int 5)) (lCons (eC (.int 3)) (lCons (eTup (lCons (eTup (lCons (eC (.int 0)) (lCons (eC (.int 2)) (lCons (eC (.int 4)) lNil)))) (lCons (eTup (lCons (eC (.int 3)) (lCons (eC (.int 1)) (lCons (eC (.int 0)) lNil)))) lNil))) lNil)))) (lCons (eTup (lCons (eC (.int 1)) (lCons (eC (.int 1)) (lCons (eC (.int 3)) lNil)))) (lCons (eC (.bl true)) lNil)))) (lCons (eTup (lCons (eTup (lCons (eC (.int 5)) (lCons (eC (.int 3)) (lCons (eTup (lCons (eTup (lCons (eC (.int 0)) (lCons (eC (.int 2)) (lCons (eC (.int 4)) lNil)))) lNil)) lNil)))) (lCons (eTup (lCons (eC (.int 1)) (lCons (eC (.int 1)) (lCons (eC (.int 3)) lNil)))) (lCons (eC (.bl false)) lNil)))) lNil))))) (gN 0)) (sRet (eBin eqOD (eFrz (lComp (iAny (eV 0)) [3] (gN 3) (bNot (bT (eCall 2 m__law_same (lCons (eCall 2 m_keeps (lCons (eBin itemD (eV 3) (eC (.int 0))) (lCons (eBin itemD (eV 3) (eC (.int 1))) lNil))) (lCons (eBin itemD (eV 3) (eC (.int 2))) lNil))))) (eV 3))) (eFrz (lSz lNil)))))))))
def m__law_keeps_right : GD := frm (fnD n__law_keeps_right.length fb__law_keeps_right)
theorem p__law_keeps_right [TC : TabC] {P : Program} {w : World} {K : PySem.W.Frag} {mg : Str → Option Value} {base : Heap} (T : Tops K mg) (F__law_same : FnG P w K mg base true 1 T.a__law_same T.d__law_same ["_law_told", "_law_due"] (spG K mg 2 m__law_same)) (F_keeps : FnG P w K mg base false 6 T.a_keeps T.d_keeps ["book", "numbers"] (spG K mg 2 m_keeps)) (X : Cx) (E : XK) (c : XC P w K mg base true E 6 n__law_keeps_right (defScope s__law_keeps_right) X) (hf : ∀ x, X.fn x = true) : PSs X (defBody s__law_keeps_right) (tDS K mg E fb__law_keeps_right) :=
  (ss_cons (c.asg [1, 2] (d_tup (l_cons (d_tup (l_cons d_int (l_cons d_int (l_cons (d_tup (l_cons (d_tup (l_cons d_int (l_cons d_int (l_cons d_int l_nil)))) l_nil)) l_nil)))) (l_cons (d_tup (l_cons d_int (l_cons d_int (l_cons (d_tup (l_cons (d_tup (l_cons d_int (l_cons d_int (l_cons d_int (l_cons d_int l_nil))))) (l_cons (d_tup (l_cons d_int (l_cons d_int (l_cons d_int (l_cons d_int l_nil))))) l_nil))) l_nil)))) l_nil))) (c.pgt 2 (pgs_cons (c.gN 1 rfl (.inl (by kernel_rfl)) (.inr (by kernel_rfl))) (pgs_cons (c.gN 2 rfl (.inl (by kernel_rfl)) (.inr (by kernel_rfl))) pgs_nil))) (g_tup (gs_cons (g_name (i := 1) (vs := [1, 2]) (by decide)) (gs_cons (g_name (i := 2) (vs := [1, 2]) (by decide)) gs_nil))) (by intro env h; cases env; cases h; first | rfl | kernel_rfl) (by intro env h; cases env; cases h; first | rfl | kernel_rfl)) (ss_cons (c.set' 0 rfl (.inl (by kernel_rfl)) (.inr (by kernel_rfl)) (d_frz (f_lst (l_cons (d_tup (l_cons (c.var 1 rfl (.inl (by kernel_rfl))) (l_cons (d_tup (l_cons d_int (l_cons d_int (l_cons d_int l_nil)))) (l_cons d_bl l_nil)))) (l_cons (d_tup (l_cons (c.var 1 rfl (.inl (by kernel_rfl))) (l_cons (d_tup (l_cons d_int (l_cons d_int (l_cons d_int l_nil)))) (l_cons d_bl l_nil)))) (l_cons (d_tup (l_cons (c.var 1 rfl (.inl (by kernel_rfl))) (l_cons (d_tup (l_cons d_int (l_cons d_int (l_cons d_int l_nil)))) (l_cons d_bl l_nil)))) (l_cons (d_tup (l_cons (c.var 2 rfl (.inl (by kernel_rfl))) (l_cons (d_tup (l_cons d_int (l_cons d_int (l_cons d_int (l_cons d_int l_nil))))) (l_cons d_bl l_nil)))) l_nil)))))) (by intro env h; cases env; cases h; first | rfl | kernel_rfl)) (ss_cons (c.set' 0 rfl (.inl (by kernel_rfl)) (.inr (by kernel_rfl)) (c.add (c.var 0 rfl (.inl (by kernel_rfl))) (d_frz (f_lst (l_cons (d_tup (l_cons (c.var 2 rfl (.inl (by kernel_rfl))) (l_cons (d_tup (l_cons d_int (l_cons d_int (l_cons d_int (l_cons d_int l_nil))))) (l_cons d_bl l_nil)))) (l_cons (d_tup (l_cons (c.var 2 rfl (.inl (by kernel_rfl))) (l_cons (d_tup (l_cons d_int (l_cons d_int (l_cons d_int (l_cons d_int l_nil))))) (l_cons d_bl l_nil)))) (l_cons (d_tup (l_cons (d_tup (l_cons d_int (l_cons d_int (l_cons (d_tup l_nil) l_nil)))) (l_cons (d_tup (l_cons d_int (l_cons d_int l_nil))) (l_cons d_bl l_nil)))) l_nil)))))) (by intro env h; cases env; cases h; first | rfl | kernel_rfl)) (ss_cons (c.set' 0 rfl (.inl (by kernel_rfl)) (.inr (by kernel_rfl)) (c.add (c.var 0 rfl (.inl (by kernel_rfl))) (d_frz (f_lst (l_cons (d_tup (l_cons (d_tup (l_cons d_int (l_cons d_int (l_cons (d_tup (l_cons (d_tup (l_cons d_int (l_cons d_int l_nil))) (l_cons (d_tup (l_cons d_int (l_cons d_int l_nil))) l_nil))) l_nil)))) (l_cons (d_tup (l_cons d_int (l_cons d_int l_nil))) (l_cons d_bl l_nil)))) (l_cons (d_tup (l_cons (d_tup (l_cons d_int (l_cons d_int (l_cons (d_tup (l_cons (d_tup (l_cons d_int l_nil)) l_nil)) l_nil)))) (l_cons (d_tup (l_cons d_int l_nil)) (l_cons d_bl l_nil)))) (l_cons (d_tup (l_cons (d_tup (l_cons d_int (l_cons d_int (l_cons (d_tup l_nil) l_nil)))) (l_cons (d_tup (l_cons d_int l_nil)) (l_cons d_bl l_nil)))) l_nil)))))) (by intro env h; cases env; cases h; first | rfl | kernel_rfl)) (ss_cons (c.set' 0 rfl (.inl (by kernel_rfl)) (.inr (by kernel_rfl)) (c.add (c.var 0 rfl (.inl (by kernel_rfl))) (d_frz (f_lst (l_cons (d_tup (l_cons (d_tup (l_cons d_int (l_cons d_int (l_cons (d_tup (l_cons (d_tup (l_cons d_int (l_cons d_int (l_cons d_int l_nil)))) (l_cons (d_tup (l_cons d_int (l_cons d_int (l_cons d_int l_nil)))) l_nil))) l_nil)))) (l_cons (d_tup (l_cons d_int (l_cons d_int (l_cons d_int l_nil)))) (l_cons d_bl l_nil)))) (l_cons (d_tup (l_cons (d_tup (l_cons d_int (l_cons d_int (l_cons (d_tup (l_cons (d_tup (l_cons d_int (l_cons d_int (l_cons d_int l_nil)))) l_nil)) l_nil)))) (l_cons (d_tup (l_cons d_int (l_cons d_int (l_cons d_int l_nil)))) (l_cons d_bl l_nil)))) l_nil))))) (by intro env h; cases env; cases h; first | rfl | kernel_rfl)) (ss_one (s_ret (c.eq (d_frz (c.comp (own := [("_law_row", 3)]) (by kernel_rfl) (c.anyI (c.var 0 rfl (.inl (by kernel_rfl)))) (fun Y19 c19 h19 => (c19.gN 3 rfl (.inl (by kernel_rfl)) (.inr (by kernel_rfl)))) (g_name (i := 3) (vs := [3]) (by decide)) (fun Y19 c19 => (c19.tone (t_not (c19.val (c19.call F__law_same (by kernel_rfl) T.m__law_same T.F__law_same.kp T.b__law_same (l_cons (c19.call F_keeps.up (by kernel_rfl) T.m_keeps T.F_keeps.kp T.b_keeps (l_cons (c19.item (c19.var 3 rfl (.inl (by kernel_rfl))) d_int) (l_cons (c19.item (c19.var 3 rfl (.inl (by kernel_rfl))) d_int) l_nil))) (l_cons (c19.item (c19.var 3 rfl (.inl (by kernel_rfl))) d_int) l_nil))))))) (fun Y19 c19 => (c19.var 3 rfl (.inl (by kernel_rfl)))))) (d_frz (f_lst l_nil))))))))))
theorem ok__law_keeps_right [TC : TabC] {P : Program} {w : World} {K : PySem.W.Frag} {mg : Str → Option Value} {base : Heap} (T : Tops K mg) (F__law_same : FnG P w K mg base true 1 T.a__law_same T.d__law_same ["_law_told", "_law_due"] (spG K mg 2 m__law_same)) (F_keeps : FnG P w K mg base false 6 T.a_keeps T.d_keeps ["book", "numbers"] (spG K mg 2 m_keeps)) : FnG P w K mg base true 7 T.a__law_keeps_right T.d__law_keeps_right [] (spG K mg 0 m__law_keeps_right) :=
  fnG_fun T.F__law_keeps_right sc__law_keeps_right fun X E c hf => p__law_keeps_right T F__law_same F_keeps X E c hf
def fb_law_0 : SD := (sAsg (eCall 1 m__law_feed (lCons (eV 0) lNil)) (gN 1))
def fb_law_1 : SD := (sFor (iAny (eCall0 m__law_books)) (gT [(gN 5), (gN 6), (gN 7), (gN 8)]) (sIf (bNot (bT (eCall 4 m__law_is_right (lCons (eV 5) (lCons (eV 6) (lCons (eV 7) (lCons (eV 8) lNil))))))) (sRet (eC (.bl false))) sNext))
def fb_law_2 : SD := (sAsg (eCall0 m__law_books) (gN 2))
def fb_law_3 : SD := (sAsg (eBin itemD (eV 2) (eCall 2 m__law_draw (lCons (eV 1) (lCons (eBi lenD (lCons (eV 2) lNil)) lNil)))) (gT [(gN 5), (gN 6), (gN 7), (gN 8)]))
def fb_law_4 : SD := (sAsg (eBin addD (eC (.int 1)) (eCall 2 m__law_draw (lCons (eV 1) (lCons (eC (.int 3)) lNil)))) (gN 3))
def fb_law_5 : SD := (sAsg (eTup (lCons (eBin itemD (eV 5) (eC (.int 0))) (lCons (eBin itemD (eV 5) (eC (.int 1))) (lCons (eBin addD (eBin itemD (eV 5) (eC (.int 2))) (eBi tupD (lCons (eFrz (lComp (iAny (eBin itemD (eV 5) (eC (.int 2)))) [9] (gN 9) bYes (eBi tupD (lCons (eFrz (lComp (iAny (eV 9)) [10] (gN 10) bYes (eBin modD (eBi intD (lCons (eBin mulD' (eV 10) (eV 3)) lNil)) (eBin itemD (eV 5) (eC (.int 0)))))) lNil)))) lNil))) lNil)))) (gN 4))
def fb_law_6 : SD := (sIf (bAnd (bB (eBin (cmpI fun i j => decide (i < j)) (eV 3) (eBin itemD (eV 5) (eC (.int 0))))) (bNot (bT (eCall 4 m__law_is_right (lCons (eV 4) (lCons (eV 6) (lCons (eV 7) (lCons (eV 8) lNil)))))))) (sRet (eC (.bl false))) sNext)
def fb_law_7 : SD := (sRet (eAnd (eCall 4 m__law_is_right (lCons (eTup (lCons (eBin itemD (eV 5) (eC (.int 0))) (lCons (eBin itemD (eV 5) (eC (.int 1))) (lCons (eRevT (eBin itemD (eV 5) (eC (.int 2)))) lNil)))) (lCons (eV 6) (lCons (eV 7) (lCons (eV 8) lNil))))) (eCall0 m__law_keeps_right)))
def fb_law : SD := (sSeq fb_law_0 (sSeq fb_law_1 (sSeq fb_law_2 (sSeq fb_law_3 (sSeq fb_law_4 (sSeq fb_law_5 (sSeq fb_law_6 fb_law_7)))))))
def m_law : GD := frm (fnD n_law.length fb_law)
theorem p_law [TC : TabC] {P : Program} {w : World} {K : PySem.W.Frag} {mg : Str → Option Value} {base : Heap} (T : Tops K mg) (F__law_books : FnG P w K mg base false 1 T.a__law_books T.d__law_books [] (spG K mg 0 m__law_books)) (F__law_draw : FnG P w K mg base false 1 T.a__law_draw T.d__law_draw ["_law_feed_here", "_law_many"] (spG K mg 2 m__law_draw)) (F__law_feed : FnG P w K mg base false 1 T.a__law_feed T.d__law_feed ["_law_script"] (spG K mg 1 m__law_feed)) (F__law_is_right : FnG P w K mg base true 10 T.a__law_is_right T.d__law_is_right ["_law_tome", "_law_words", "_law_sums", "_law_cuts"] (spG K mg 4 m__law_is_right)) (F__law_keeps_right : FnG P w K mg base true 7 T.a__law_keeps_right T.d__law_keeps_right [] (spG K mg 0 m__law_keeps_right)) (X : Cx) (E : XK) (c : XC P w K mg base true E 10 n_law (defScope s_law) X) (hf : ∀ x, X.fn x = true) : PSs X (defBody s_law) (tDS K mg E fb_law) :=
  (ss_cons (c.set' 1 rfl (.inl (by kernel_rfl)) (.inr (by kernel_rfl)) (c.call F__law_feed.up (by kernel_rfl) T.m__law_feed T.F__law_feed.kp T.b__law_feed (l_cons (c.var 0 rfl (.inl (by kernel_rfl))) l_nil)) (by intro env h; cases env; cases h; first | rfl | kernel_rfl)) (ss_cons (c.for (vs := [5, 6, 7, 8]) (c.anyI (c.call0 F__law_books.up (by kernel_rfl) T.m__law_books T.F__law_books.kp T.b__law_books)) (c.pgt 4 (pgs_cons (c.gN 5 rfl (.inr (by kernel_rfl)) (.inl (hf _))) (pgs_cons (c.gN 6 rfl (.inl (by kernel_rfl)) (.inr (by kernel_rfl))) (pgs_cons (c.gN 7 rfl (.inl (by kernel_rfl)) (.inr (by kernel_rfl))) (pgs_cons (c.gN 8 rfl (.inl (by kernel_rfl)) (.inr (by kernel_rfl))) pgs_nil))))) (g_tup (gs_cons (g_name (i := 5) (vs := [5, 6, 7, 8]) (by decide)) (gs_cons (g_name (i := 6) (vs := [5, 6, 7, 8]) (by decide)) (gs_cons (g_name (i := 7) (vs := [5, 6, 7, 8]) (by decide)) (gs_cons (g_name (i := 8) (vs := [5, 6, 7, 8]) (by decide)) gs_nil))))) (ss_one (s_if (t_not (c.val (c.call F__law_is_right (by kernel_rfl) T.m__law_is_right T.F__law_is_right.kp T.b__law_is_right (l_cons (c.var 5 rfl (.inr (.inl (by kernel_rfl)))) (l_cons (c.var 6 rfl (.inl (by kernel_rfl))) (l_cons (c.var 7 rfl (.inl (by kernel_rfl))) (l_cons (c.var 8 rfl (.inl (by kernel_rfl))) l_nil))))))) (ss_one (s_ret d_bl)) ss_nil))) (ss_cons (c.set' 2 rfl (.inl (by kernel_rfl)) (.inr (by kernel_rfl)) (c.call0 F__law_books.up (by kernel_rfl) T.m__law_books T.F__law_books.kp T.b__law_books) (by intro env h; cases env; cases h; first | rfl | kernel_rfl)) (ss_cons (c.asg [5, 6, 7, 8] (c.item (c.var 2 rfl (.inl (by kernel_rfl))) (c.call F__law_draw.up (by kernel_rfl) T.m__law_draw T.F__law_draw.kp T.b__law_draw (l_cons (c.var 1 rfl (.inl (by kernel_rfl))) (l_cons (c.len (by kernel_rfl) (T.z_len) (l_cons (c.var 2 rfl (.inl (by kernel_rfl))) l_nil)) l_nil)))) (c.pgt 4 (pgs_cons (c.gN 5 rfl (.inr (by kernel_rfl)) (.inl (hf _))) (pgs_cons (c.gN 6 rfl (.inl (by kernel_rfl)) (.inr (by kernel_rfl))) (pgs_cons (c.gN 7 rfl (.inl (by kernel_rfl)) (.inr (by kernel_rfl))) (pgs_cons (c.gN 8 rfl (.inl (by kernel_rfl)) (.inr (by kernel_rfl))) pgs_nil))))) (g_tup (gs_cons (g_name (i := 5) (vs := [5, 6, 7, 8]) (by decide)) (gs_cons (g_name (i := 6) (vs := [5, 6, 7, 8]) (by decide)) (gs_cons (g_name (i := 7) (vs := [5, 6, 7, 8]) (by decide)) (gs_cons (g_name (i := 8) (vs := [5, 6, 7, 8]) (by decide)) gs_nil))))) (by intro env h; cases env; cases h; first | rfl | kernel_rfl) (by intro env h; cases env; cases h; first | rfl | kernel_rfl)) (ss_cons (c.set' 3 rfl (.inr (by kernel_rfl)) (.inl (hf _)) (c.add d_int (c.call F__law_draw.up (by kernel_rfl) T.m__law_draw T.F__law_draw.kp T.b__law_draw (l_cons (c.var 1 rfl (.inl (by kernel_rfl))) (l_cons d_int l_nil)))) (by intro env h; cases env; cases h; first | rfl | kernel_rfl)) (ss_cons (c.set' 4 rfl (.inl (by kernel_rfl)) (.inr (by kernel_rfl)) (d_tup (l_cons (c.item (c.var 5 rfl (.inr (.inl (by kernel_rfl)))) d_int) (l_cons (c.item (c.var 5 rfl (.inr (.inl (by kernel_rfl)))) d_int) (l_cons (c.add (c.item (c.var 5 rfl (.inr (.inl (by kernel_rfl)))) d_int) (c.tup (by kernel_rfl) (T.z_tuple) (l_cons (d_frz (c.comp (own := [("_law_row", 9)]) (by kernel_rfl) (c.anyI (c.item (c.var 5 rfl (.inr (.inl (by kernel_rfl)))) d_int)) (fun Y20 c20 h20 => (c20.gN 9 rfl (.inl (by kernel_rfl)) (.inr (by kernel_rfl)))) (g_name (i := 9) (vs := [9]) (by decide)) (fun Y20 c20 => (c20.tnil)) (fun Y20 c20 => (c20.tup (by kernel_rfl) (T.z_tuple) (l_cons (d_frz (c20.comp (own := [("_law_a", 10)]) (by kernel_rfl) (c20.anyI (c20.var 9 rfl (.inl (by kernel_rfl)))) (fun Y21 c21 h21 => (c21.gN 10 rfl (.inl (by kernel_rfl)) (.inr (by kernel_rfl)))) (g_name (i := 10) (vs := [10]) (by decide)) (fun Y21 c21 => (c21.tnil)) (fun Y21 c21 => (d_bin op_mod sp_mod (c21.int (by kernel_rfl) (T.z_int) (l_cons (c21.mul (c21.var 10 rfl (.inl (by kernel_rfl))) (c21.var 3 rfl (.inr (.inl (by kernel_rfl))))) l_nil)) (c21.item (c21.var 5 rfl (.inr (.inl (by kernel_rfl)))) d_int))))) l_nil))))) l_nil))) l_nil)))) (by intro env h; cases env; cases h; first | rfl | kernel_rfl)) (ss_cons (s_if (PW.pt (w_and (t_cmp op_lt sp_cmpI (c.var 3 rfl (.inr (.inl (by kernel_rfl)))) (c.item (c.var 5 rfl (.inr (.inl (by kernel_rfl)))) d_int) rfl) (w_and1 (t_not (c.val (c.call F__law_is_right (by kernel_rfl) T.m__law_is_right T.F__law_is_right.kp T.b__law_is_right (l_cons (c.var 4 rfl (.inl (by kernel_rfl))) (l_cons (c.var 6 rfl (.inl (by kernel_rfl))) (l_cons (c.var 7 rfl (.inl (by kernel_rfl))) (l_cons (c.var 8 rfl (.inl (by kernel_rfl))) l_nil)))))))))) (ss_one (s_ret d_bl)) ss_nil) (ss_one (s_ret (d_and (c.call F__law_is_right (by kernel_rfl) T.m__law_is_right T.F__law_is_right.kp T.b__law_is_right (l_cons (d_tup (l_cons (c.item (c.var 5 rfl (.inr (.inl (by kernel_rfl)))) d_int) (l_cons (c.item (c.var 5 rfl (.inr (.inl (by kernel_rfl)))) d_int) (l_cons (c.revT (c.item (c.var 5 rfl (.inr (.inl (by kernel_rfl)))) d_int)) l_nil)))) (l_cons (c.var 6 rfl (.inl (by kernel_rfl))) (l_cons (c.var 7 rfl (.inl (by kernel_rfl))) (l_cons (c.var 8 rfl (.inl (by kernel_rfl))) l_nil))))) (d_one (c.call0 F__law_keeps_right (by kernel_rfl) T.m__law_keeps_right T.F__law_keeps_right.kp T.b__law_keeps_right))))))))))))
theorem ok_law [TC : TabC] {P : Program} {w : World} {K : PySem.W.Frag} {mg : Str → Option Value} {base : Heap} (T : Tops K mg) (F__law_books : FnG P w K mg base false 1 T.a__law_books T.d__law_books [] (spG K mg 0 m__law_books)) (F__law_draw : FnG P w K mg base false 1 T.a__law_draw T.d__law_draw ["_law_feed_here", "_law_many"] (spG K mg 2 m__law_draw)) (F__law_feed : FnG P w K mg base false 1 T.a__law_feed T.d__law_feed ["_law_script"] (spG K mg 1 m__law_feed)) (F__law_is_right : FnG P w K mg base true 10 T.a__law_is_right T.d__law_is_right ["_law_tome", "_law_words", "_law_sums", "_law_cuts"] (spG K mg 4 m__law_is_right)) (F__law_keeps_right : FnG P w K mg base true 7 T.a__law_keeps_right T.d__law_keeps_right [] (spG K mg 0 m__law_keeps_right)) : FnG P w K mg base true 11 T.a_law T.d_law ["_law_script"] (spG K mg 1 m_law) :=
  fnG_fun T.F_law sc_law fun X E c hf => p_law T F__law_books F__law_draw F__law_feed F__law_is_right F__law_keeps_right X E c hf
end Zed

namespace Zed.Fl
open PySem PySem.Spec PyProof.Rows L2 RZ Wp
theorem tab_def {m : Nat} {fb : SD} {ds : List D} {y : D} (ρ : En) (er : ds.map some ++ List.replicate (m - ds.length) none = ρ) (hl : allL (low 0 60) ds = true) (r : fb ρ (tabS 0 0) = .ok (.rt y) (tabS 0 0)) {S : Sto} (hS : Ft S) (ht : S.take (tblN S) = tabS 0 0) : frm (fnD m fb) ds S = .ok y S := by
  have hl2 : allL (low (tblN S) 60) ds = true := allL_of fun x hx => low_up 60 (Nat.zero_le _) (allL_at hl x hx)
  have e : fnD m fb ds (tabS 0 0) = .ok y (tabS 0 0) := by
    unfold fnD
    rw [er, r]
    exact closeD_same rfl
  unfold frm
  rw [hl2, hS, ht]
  simp only []
  rw [e]
  rfl
def bkX (p n : Int) (s : List (List Int)) : D := .tup [.int p, .int n, .tup (s.map tI)]
def rws (s : List (List Int)) : D := .tup (s.map tI)
def cts (s : List (List Int × Int)) : D := .lst (s.map fun x => .tup [tI x.1, .int x.2])
structure Case where
  p : Int
  n : Int
  s : List (List Int)
  w : List (List Int)
  u : List (List Int)
  c : List (List Int × Int)
def casesL : List Case := [
  ⟨3, 3, [[1, 1, 1]], [[1, 0, 2], [0, 1, 2]], [[1, 1, 1]], [([0, 1], 2), ([2], 1), ([0, 1, 2], 2)]⟩,
  ⟨2, 4, [[1, 1, 0, 0], [0, 0, 1, 1]], [[1, 1, 0, 0], [0, 0, 1, 1]], [[1, 1, 0, 0], [0, 0, 1, 1]], [([0, 1], 1), ([0, 2], 2), ([2, 3], 1), ([0, 1, 2, 3], 2), ([3], 1)]⟩,
  ⟨2, 2, [], [[1, 0], [0, 1]], [], [([0], 1), ([0, 1], 2)]⟩,
  ⟨5, 3, [[0, 2, 4], [3, 1, 0]], [[1, 2, 4]], [[1, 0, 1], [0, 1, 2]], [([0], 1), ([1, 2], 1)]⟩,
  ⟨3, 2, [[1, 1], [1, 2]], [], [[1, 0], [0, 1]], [([0], 0), ([0, 1], 0)]⟩,
  ⟨7, 1, [], [[1]], [], [([0], 1)]⟩,
  ⟨7, 1, [[3], [5]], [], [[1]], [([0], 0)]⟩,
  ⟨2, 4, [[1, 1, 1, 1], [1, 1, 1, 1], [0, 1, 1, 0], [1, 0, 0, 1]], [[1, 0, 0, 1], [0, 1, 1, 0]], [[1, 0, 0, 1], [0, 1, 1, 0]], [([0, 3], 1), ([1, 2], 1), ([0, 1], 2), ([0, 1, 3], 2)]⟩,
  ⟨3, 4, [[0, 0, 0, 2], [0, 1, 2, 1]], [[1, 0, 0, 0], [0, 1, 1, 0]], [[0, 1, 2, 0], [0, 0, 0, 1]], [([3], 0), ([1, 2], 1), ([0, 3], 1), ([0, 1, 2], 2)]⟩,
  ⟨9973, 3, [[9972, 1, 0], [0, 2, 1]], [[1, 1, 9971]], [[1, 0, 4987], [0, 1, 4987]], [([2], 1), ([0, 1], 1)]⟩,
  ⟨5, 4, [[0, 0, 3, 4]], [[1, 0, 0, 0], [0, 1, 0, 0], [0, 0, 1, 3]], [[0, 0, 1, 3]], [([2, 3], 1), ([0, 1, 2, 3], 3), ([0, 3], 2)]⟩]
def Case.d (x : Case) : D := .tup [bkX x.p x.n x.s, rws x.w, rws x.u, cts x.c]
theorem tab_fn {m : Nat} {fb : SD} {ds : List D} {y : D} (hl : allL (low 0 60) ds = true) (e : fnD m fb ds (tabS 0 0) = .ok y (tabS 0 0)) {S : Sto} (hS : Ft S) (ht : S.take (tblN S) = tabS 0 0) : frm (fnD m fb) ds S = .ok y S := by
  have hl2 : allL (low (tblN S) 60) ds = true := allL_of fun x hx => low_up 60 (Nat.zero_le _) (allL_at hl x hx)
  unfold frm
  rw [hl2, hS, ht]
  simp only []
  rw [e]
  rfl
theorem books_t {S : Sto} (hS : Ft S) (ht : S.take (tblN S) = tabS 0 0) : m__law_books [] S = .ok (.lst (casesL.map Case.d)) S := tab_fn (m := n__law_books.length) (fb := fb__law_books) rfl (by kernel_rfl) hS ht
theorem keeps_t {S : Sto} (hS : Ft S) (ht : S.take (tblN S) = tabS 0 0) : m__law_keeps_right [] S = .ok (.bl true) S := tab_fn (m := n__law_keeps_right.length) (fb := fb__law_keeps_right) rfl (by kernel_rfl) hS ht
abbrev rR (x : Case) (s : List (List Int)) : En := [some (bkX x.p x.n s), some (rws x.w), some (rws x.u), some (cts x.c), none, none, none, none, none, none, none, none]
def lateS (x : Case) (t : Int) : List (List Int) := x.s ++ x.s.map fun r => r.map fun a => a * t % x.p
theorem own_ok : ∀ x ∈ casesL, fb__law_is_right (rR x x.s) (tabS 0 0) = .ok (.rt (.bl true)) (tabS 0 0) := fun x hx => by
  simp only [casesL, List.mem_cons, List.not_mem_nil, or_false] at hx
  rcases hx with rfl | rfl | rfl | rfl | rfl | rfl | rfl | rfl | rfl | rfl | rfl <;> kernel_rfl
theorem rev_ok : ∀ x ∈ casesL, fb__law_is_right (rR x x.s.reverse) (tabS 0 0) = .ok (.rt (.bl true)) (tabS 0 0) := fun x hx => by
  simp only [casesL, List.mem_cons, List.not_mem_nil, or_false] at hx
  rcases hx with rfl | rfl | rfl | rfl | rfl | rfl | rfl | rfl | rfl | rfl | rfl <;> kernel_rfl
theorem late1_ok : ∀ x ∈ casesL, fb__law_is_right (rR x (lateS x 1)) (tabS 0 0) = .ok (.rt (.bl true)) (tabS 0 0) := fun x hx => by
  simp only [casesL, List.mem_cons, List.not_mem_nil, or_false] at hx
  rcases hx with rfl | rfl | rfl | rfl | rfl | rfl | rfl | rfl | rfl | rfl | rfl <;> kernel_rfl
theorem late2_ok : ∀ x ∈ casesL, x.p ≠ 2 → fb__law_is_right (rR x (lateS x 2)) (tabS 0 0) = .ok (.rt (.bl true)) (tabS 0 0) := fun x hx h2 => by
  simp only [casesL, List.mem_cons, List.not_mem_nil, or_false] at hx
  rcases hx with rfl | rfl | rfl | rfl | rfl | rfl | rfl | rfl | rfl | rfl | rfl <;> first | exact absurd rfl h2 | kernel_rfl
theorem late3_ok : ∀ x ∈ casesL, x.p ≠ 2 → x.p ≠ 3 → fb__law_is_right (rR x (lateS x 3)) (tabS 0 0) = .ok (.rt (.bl true)) (tabS 0 0) := fun x hx h2 h3 => by
  simp only [casesL, List.mem_cons, List.not_mem_nil, or_false] at hx
  rcases hx with rfl | rfl | rfl | rfl | rfl | rfl | rfl | rfl | rfl | rfl | rfl <;> first | exact absurd rfl h2 | exact absurd rfl h3 | kernel_rfl
end Zed.Fl

namespace Zed.Fl
open PySem PySem.Spec PyProof.Rows L2 RZ Wp
abbrev A (cs : List Int) : Fm := feedF 0 (fdQ cs) (fun k l d => feed_low 0 cs k l d) (fun _ _ _ => rfl)
section
variable {cs ns : List Int} {gs : Sto} {c : Nat} {S : Sto} {ρ : En} {f g : ED} {Q : D → Sto → Prop}
theorem draw_is (many : Int) (hm : 0 < many ∧ many < 1073741824) : DSp (A cs) m__law_draw [.ref 0, .int many] 1 fun y => ∃ v, y = .int v ∧ 0 ≤ v ∧ v < many := fun gs c S F => by
  obtain ⟨B, ⟨k, l, d, rfl, h0, hd⟩, rfl, lo, t⟩ := F
  obtain ⟨y, k', l', d', e, h1, h2, hy⟩ := Zed.N0.drawQ (cs := cs) (gs := gs) (a0 := 116284) (a1 := 1000708077) (a2 := 83812) (a3 := 1006) (a4 := 2147200903) (a5 := 1214664) (a6 := 804) (a7 := 2147210729) (a8 := 664) (a9 := 2147220803) (a10 := 32) (G := m__law_draw) rfl ⟨by decide, by decide⟩ ⟨by decide, by decide⟩ (by decide) ⟨by decide, by decide⟩ ⟨by decide, by decide⟩ ⟨by decide, by decide⟩ (by decide) (by decide) hm k l d h0 (by omega)
  exact ⟨y, Zed.N0.stQ cs gs k' l' d', e, ⟨_, ⟨k', l', d', rfl, by omega, by omega⟩, rfl, lo, t⟩, hy⟩
theorem WE.draw {many : Nat} (F : Fd (A cs) gs (c + 1) S) (h0 : f ρ S = .ok (.ref 0) S) (hg : g ρ S = .ok (.int (many : Int)) S) (hm : 0 < many ∧ many < 1000000) (q : ∀ (v : Nat) S', Fd (A cs) gs c S' → v < many → Q (.int (v : Int)) S') : WE (eCall 2 m__law_draw (lCons f (lCons g lNil))) ρ S Q :=
  WE.dsp F (lc h0 (lc hg rfl)) rfl (draw_is many ⟨by omega, by omega⟩) fun y S' F1 ⟨v, e, h0, h1⟩ => by
    subst e
    obtain ⟨n, rfl⟩ := Int.eq_ofNat_of_zero_le h0
    exact q n S' F1 (by omega)
theorem take_tab (F : Fd (A cs) gs c S) : S.take (tblN S) = tabS 0 0 := by
  have ht : tblN S = 0 := F.tbl
  rw [ht]
  rfl
theorem WR.seqQ {a b : SD} {Q1 : En → Sto → Prop} {Q2 : D → Sto → Prop} (w : WN a ρ S Q1) (k : ∀ ρ' S', Q1 ρ' S' → WR b ρ' S' Q2) : WR (sSeq a b) ρ S Q2 := by
  obtain ⟨ρ', S', e, q⟩ := w
  exact WR.seq ⟨ρ', S', e, k ρ' S' q⟩
theorem low_case {x : Case} (hx : x ∈ casesL) : low 0 60 (rws x.w) = true ∧ low 0 60 (rws x.u) = true ∧ low 0 60 (cts x.c) = true := by
  have : casesL.all (fun x => low 0 60 (rws x.w) && (low 0 60 (rws x.u) && low 0 60 (cts x.c))) = true := by decide +kernel
  have := List.all_eq_true.mp this x hx
  rw [Bool.and_eq_true, Bool.and_eq_true] at this
  exact ⟨this.1, this.2.1, this.2.2⟩
theorem low_bkX (p n : Int) (s : List (List Int)) : low 0 60 (bkX p n s) = true := allL_cons rfl (allL_cons rfl (allL_cons (Gr.rowsT 56 s) rfl))
theorem right_t {x : Case} (hx : x ∈ casesL) {s : List (List Int)} (r : fb__law_is_right (rR x s) (tabS 0 0) = .ok (.rt (.bl true)) (tabS 0 0)) (F : Fd (A cs) gs c S) : m__law_is_right [bkX x.p x.n s, rws x.w, rws x.u, cts x.c] S = .ok (.bl true) S := by
  obtain ⟨h1, h2, h3⟩ := low_case hx
  exact tab_def (m := 12) (fb := fb__law_is_right) (rR x s) rfl (allL_cons (low_bkX _ _ _) (allL_cons h1 (allL_cons h2 (allL_cons h3 rfl)))) r F.ft (take_tab F)
abbrev rW (ns : List Int) (x2 x3 x4 x5 x6 x7 x8 : Option D) : En := [some (.scr ns), some (.ref 0), x2, x3, x4, x5, x6, x7, x8, none, none]
abbrev someD : D := .lst (casesL.map Case.d)
abbrev rX (ns : List Int) (x : Case) (x3 x4 : Option D) : En := rW ns (some someD) x3 x4 (some (bkX x.p x.n x.s)) (some (rws x.w)) (some (rws x.u)) (some (cts x.c))
def lateE : ED := (eTup (lCons (eBin itemD (eV 5) (eC (.int 0))) (lCons (eBin itemD (eV 5) (eC (.int 1))) (lCons (eBin addD (eBin itemD (eV 5) (eC (.int 2))) (eBi tupD (lCons (eFrz (lComp (iAny (eBin itemD (eV 5) (eC (.int 2)))) [9] (gN 9) bYes (eBi tupD (lCons (eFrz (lComp (iAny (eV 9)) [10] (gN 10) bYes (eBin modD (eBi intD (lCons (eBin mulD' (eV 10) (eV 3)) lNil)) (eBin itemD (eV 5) (eC (.int 0)))))) lNil)))) lNil))) lNil))))
theorem law5_is : fb_law_5 = sAsg lateE (gN 4) := rfl
theorem late_ev {x : Case} (hx : x ∈ casesL) {t : Nat} (ht : t < 3) (S : Sto) : lateE (rX ns x (some (.int ((1 + t : Nat) : Int))) none) S = .ok (bkX x.p x.n (lateS x ((1 + t : Nat) : Int))) S := by
  simp only [casesL, List.mem_cons, List.not_mem_nil, or_false] at hx
  have : t = 0 ∨ t = 1 ∨ t = 2 := by omega
  rcases hx with rfl | rfl | rfl | rfl | rfl | rfl | rfl | rfl | rfl | rfl | rfl <;> rcases this with rfl | rfl | rfl <;> kernel_rfl
theorem law_run (ns : List Int) (h : ns.length ≤ 63) : ∃ S1, fb_law [some (.scr ns), none, none, none, none, none, none, none, none, none, none] (tabS 0 0) = .ok (.rt (.bl true)) S1 := by
  have e0 : eCall 1 m__law_feed (lCons (eV 0) lNil) (([some (.scr ns), none, none, none, none, none, none, none, none, none, none] : En)) (tabS 0 0) = .ok (.ref 0) (tabS 0 0 ++ [fdQ ns 0 0 0]) := by
    refine callN' (n := 1) (ds := [.scr ns]) (lc rfl rfl) rfl ?_
    rw [show m__law_feed = frm (fnD 2 fbFeedQ) from rfl]
    exact Zed.N0.feedQ0 ns h
  have F : Fd (A ns) [] 400 (tabS 0 0 ++ [fdQ ns 0 0 0]) := ⟨_, ⟨0, 0, 0, rfl, by decide, by decide⟩, (List.append_nil _).symm, rfl, rfl⟩
  have w : WR fb_law [some (.scr ns), none, none, none, none, none, none, none, none, none, none] (tabS 0 0) fun y _ => y = .bl true := by
    unfold fb_law fb_law_0
    refine WR.seq (WN.asg ⟨_, _, e0, ?_⟩)
    generalize hS0 : tabS 0 0 ++ [fdQ ns 0 0 0] = S0 at F
    show WR _ (rW ns none none none none none none none) S0 _
    unfold fb_law_1
    have eb : ∀ (ρ : En), iAny (eCall0 m__law_books) ρ S0 = .ok (casesL.map Case.d) S0 := fun ρ => by
      unfold iAny eCall0
      rw [books_t F.ft (take_tab F)]
      rfl
    refine WR.seqQ (Q1 := fun ρ S => ∃ x5 x6 x7 x8, ρ = rW ns none none none x5 x6 x7 x8 ∧ S = S0) (WN.for (fun j ρ S => ∃ x5 x6 x7 x8, ρ = rW ns none none none x5 x6 x7 x8 ∧ S = S0) (ds := casesL.map Case.d) (eb _) ⟨none, none, none, none, rfl, rfl⟩ (fun j d hd ρ S ⟨x5, x6, x7, x8, e, eS⟩ => ?_) (fun ρ' S' h => h)) fun ρ1 S1 ⟨x5, x6, x7, x8, e, eS⟩ => ?_
    · obtain ⟨x, hx, rfl⟩ := List.mem_map.mp (List.mem_of_getElem? hd)
      subst e eS
      refine ⟨rW ns none none none (some (bkX x.p x.n x.s)) (some (rws x.w)) (some (rws x.u)) (some (cts x.c)), rfl, ?_⟩
      have e1 := callN (n := 4) (g := m__law_is_right) (la := lCons (eV 5) (lCons (eV 6) (lCons (eV 7) (lCons (eV 8) lNil)))) (ρ := rW ns none none none (some (bkX x.p x.n x.s)) (some (rws x.w)) (some (rws x.u)) (some (cts x.c))) (S := S) (ds := [bkX x.p x.n x.s, rws x.w, rws x.u, cts x.c]) (lc rfl (lc rfl (lc rfl (lc rfl rfl)))) rfl (right_t hx (own_ok x hx) F)
      exact WN.skip (WB.of (ev_not (ev_bT e1)) ⟨rfl, _, _, _, _, rfl, rfl⟩)
    · subst e eS
      unfold fb_law_2
      have e2 : eCall0 m__law_books (rW ns none none none x5 x6 x7 x8) S1 = .ok someD S1 := by
        unfold eCall0
        rw [books_t F.ft (take_tab F)]
      refine WR.seq (WN.asg (WE.of e2 ?_))
      show WR _ (rW ns (some someD) none none x5 x6 x7 x8) S1 _
      unfold fb_law_3
      refine WR.seq (WN.asgG (WE.bin (WE.of (d := someD) rfl (WE.draw (c := 399) (many := 11) F rfl rfl (by decide) fun v S2 F2 hv => ?_))))
      have hvl : v < casesL.length := hv
      have hx : casesL[v] ∈ casesL := List.getElem_mem hvl
      have ei : itemD someD (.int (v : Int)) S2 = .ok (casesL[v]).d S2 := by
        have : atI (casesL.map Case.d) ((v : Nat) : Int) = some (casesL[v]).d := atI_nat (by rw [List.getElem?_map, List.getElem?_eq_getElem hvl]; rfl)
        simp only [itemD, itemsL, this]
      refine ⟨_, ei, ?_⟩
      generalize casesL[v] = x at hx
      refine ⟨rX ns x none none, rfl, ?_⟩
      unfold fb_law_4
      refine WR.seq (WN.asg (WE.bin (WE.cst (WE.draw (c := 398) (many := 3) F2 rfl rfl (by decide) fun t S3 F3 ht => ⟨.int ((1 + t : Nat) : Int), ?_, ?_⟩))))
      · show Zed.R.ok (D.int (1 + (t : Int))) S3 = _
        rw [show (1 : Int) + (t : Int) = ((1 + t : Nat) : Int) by omega]
      show WR _ (rX ns x (some (.int ((1 + t : Nat) : Int))) none) S3 _
      rw [law5_is]
      refine WR.seq (WN.asg (WE.of (late_ev hx ht S3) ?_))
      show WR _ (rX ns x (some (.int ((1 + t : Nat) : Int))) (some (bkX x.p x.n (lateS x ((1 + t : Nat) : Int))))) S3 _
      unfold fb_law_6
      have c1 : bB (eBin (cmpI fun i j => decide (i < j)) (eV 3) (eBin itemD (eV 5) (eC (.int 0)))) (rX ns x (some (.int ((1 + t : Nat) : Int))) (some (bkX x.p x.n (lateS x ((1 + t : Nat) : Int))))) S3 = .ok (decide (((1 + t : Nat) : Int) < x.p)) S3 := rfl
      refine WR.seqQ (Q1 := fun ρ S => ρ = rX ns x (some (.int ((1 + t : Nat) : Int))) (some (bkX x.p x.n (lateS x ((1 + t : Nat) : Int)))) ∧ S = S3) (WN.skip (WB.and (WB.of c1 ⟨fun _ => ⟨rfl, rfl, rfl⟩, fun hlt => ?_⟩))) fun ρ4 S4 ⟨e, eS⟩ => ?_
      · have hlt := of_decide_eq_true hlt
        have hr : fb__law_is_right (rR x (lateS x ((1 + t : Nat) : Int))) (tabS 0 0) = .ok (.rt (.bl true)) (tabS 0 0) := by
          have : t = 0 ∨ t = 1 ∨ t = 2 := by omega
          rcases this with rfl | rfl | rfl
          · exact late1_ok x hx
          · exact late2_ok x hx (by omega)
          · exact late3_ok x hx (by omega) (by omega)
        exact WB.of (ev_not (ev_bT (callN (n := 4) (ds := [bkX x.p x.n (lateS x ((1 + t : Nat) : Int)), rws x.w, rws x.u, cts x.c]) (lc rfl (lc rfl (lc rfl (lc rfl rfl)))) rfl (right_t hx hr F3)))) ⟨rfl, rfl, rfl⟩
      · subst e eS
        unfold fb_law_7
        have er : eTup (lCons (eBin itemD (eV 5) (eC (.int 0))) (lCons (eBin itemD (eV 5) (eC (.int 1))) (lCons (eRevT (eBin itemD (eV 5) (eC (.int 2)))) lNil))) (rX ns x (some (.int ((1 + t : Nat) : Int))) (some (bkX x.p x.n (lateS x ((1 + t : Nat) : Int))))) S4 = .ok (bkX x.p x.n x.s.reverse) S4 := by
          show Zed.R.ok (D.tup [.int x.p, .int x.n, .tup (x.s.map tI).reverse]) S4 = _
          rw [← List.map_reverse]
          rfl
        have g1 := callN (n := 4) (g := m__law_is_right) (la := lCons (eTup (lCons (eBin itemD (eV 5) (eC (.int 0))) (lCons (eBin itemD (eV 5) (eC (.int 1))) (lCons (eRevT (eBin itemD (eV 5) (eC (.int 2)))) lNil)))) (lCons (eV 6) (lCons (eV 7) (lCons (eV 8) lNil)))) (ρ := rX ns x (some (.int ((1 + t : Nat) : Int))) (some (bkX x.p x.n (lateS x ((1 + t : Nat) : Int))))) (S := S4) (ds := [bkX x.p x.n x.s.reverse, rws x.w, rws x.u, cts x.c]) (lc er (lc rfl (lc rfl (lc rfl rfl)))) rfl (right_t hx (rev_ok x hx) F3)
        have g2 : eCall0 m__law_keeps_right (rX ns x (some (.int ((1 + t : Nat) : Int))) (some (bkX x.p x.n (lateS x ((1 + t : Nat) : Int))))) S4 = .ok (.bl true) S4 := by
          unfold eCall0
          exact keeps_t F3.ft (take_tab F3)
        have g3 := ev_andS (s := true) (t := true) g1 (fun _ => g2)
        exact WR.ret (WE.of g3 rfl)
  obtain ⟨y, S1, e1, rfl⟩ := w
  exact ⟨S1, e1⟩
end
end Zed.Fl
namespace Zed
theorem law_yes (ns : List Int) (h : ns.length ≤ 63) : ∃ S', m_law [.scr ns] (tabS 0 0) = .ok (.bl true) S' := by
  obtain ⟨S1, run⟩ := Fl.law_run ns h
  exact run_endN (t := 0) (n := n_law.length) (f := fb_law) rfl rfl rfl rfl run
end Zed

namespace Zed
open PySem PySem.Spec PyProof.Rows L2 RZ
theorem all_mk {l : PySem.W.OpenLaw} {w : World} {K : PySem.W.Frag} {h : Heap} {mg : Str → Option Value} {fa : Addr} (X : K.In h) (G : h.Ns mainGlobals mg) (hfa : mg "law" = some (.ref fa))
    (HT : ∀ y ∈ ([] : List Str), ∀ c P, PySem.W.tabIn K y = some (c, P) → PySem.W.CodeHd h c P ∧ h.get? P = some { cls := .none, data := .fields #[] })
    {f0 : Addr} {od0 an0 : Option Addr} {sl0 : Array (Option Value)} {oc0 kV0 dc0 pm0 cd0 ct0 : Value}
    (a0 : PySem.W.nsIn K mainGlobals "is_integer" = some (some (.ref f0))) (l0 : K.lookup f0 = some ⟨oc0, od0, .func (PySem.W.fnOf "is_integer" "is_integer" (defArgs s_is_integer) (defBody s_is_integer) (defScope s_is_integer) .none kV0 dc0 pm0 an0 cd0 ct0), sl0⟩) (c0 : PySem.W.codeIn K cd0 "is_integer" = true) (k0 : PySem.W.keepIn K (.ref f0) = true)
    {f1 : Addr} {od1 an1 : Option Addr} {sl1 : Array (Option Value)} {oc1 kV1 dc1 pm1 cd1 ct1 : Value}
    (a1 : PySem.W.nsIn K mainGlobals "is_number" = some (some (.ref f1))) (l1 : K.lookup f1 = some ⟨oc1, od1, .func (PySem.W.fnOf "is_number" "is_number" (defArgs s_is_number) (defBody s_is_number) (defScope s_is_number) .none kV1 dc1 pm1 an1 cd1 ct1), sl1⟩) (c1 : PySem.W.codeIn K cd1 "is_number" = true) (k1 : PySem.W.keepIn K (.ref f1) = true)
    {f2 : Addr} {od2 an2 : Option Addr} {sl2 : Array (Option Value)} {oc2 kV2 dc2 pm2 cd2 ct2 : Value}
    (a2 : PySem.W.nsIn K mainGlobals "is_prime" = some (some (.ref f2))) (l2 : K.lookup f2 = some ⟨oc2, od2, .func (PySem.W.fnOf "is_prime" "is_prime" (defArgs s_is_prime) (defBody s_is_prime) (defScope s_is_prime) .none kV2 dc2 pm2 an2 cd2 ct2), sl2⟩) (c2 : PySem.W.codeIn K cd2 "is_prime" = true) (k2 : PySem.W.keepIn K (.ref f2) = true)
    {f3 : Addr} {od3 an3 : Option Addr} {sl3 : Array (Option Value)} {oc3 kV3 dc3 pm3 cd3 ct3 : Value}
    (a3 : PySem.W.nsIn K mainGlobals "inverse_of" = some (some (.ref f3))) (l3 : K.lookup f3 = some ⟨oc3, od3, .func (PySem.W.fnOf "inverse_of" "inverse_of" (defArgs s_inverse_of) (defBody s_inverse_of) (defScope s_inverse_of) .none kV3 dc3 pm3 an3 cd3 ct3), sl3⟩) (c3 : PySem.W.codeIn K cd3 "inverse_of" = true) (k3 : PySem.W.keepIn K (.ref f3) = true)
    {f4 : Addr} {od4 an4 : Option Addr} {sl4 : Array (Option Value)} {oc4 kV4 dc4 pm4 cd4 ct4 : Value}
    (a4 : PySem.W.nsIn K mainGlobals "scaled" = some (some (.ref f4))) (l4 : K.lookup f4 = some ⟨oc4, od4, .func (PySem.W.fnOf "scaled" "scaled" (defArgs s_scaled) (defBody s_scaled) (defScope s_scaled) .none kV4 dc4 pm4 an4 cd4 ct4), sl4⟩) (c4 : PySem.W.codeIn K cd4 "scaled" = true) (k4 : PySem.W.keepIn K (.ref f4) = true)
    {f5 : Addr} {od5 an5 : Option Addr} {sl5 : Array (Option Value)} {oc5 kV5 dc5 pm5 cd5 ct5 : Value}
    (a5 : PySem.W.nsIn K mainGlobals "plus_scaled" = some (some (.ref f5))) (l5 : K.lookup f5 = some ⟨oc5, od5, .func (PySem.W.fnOf "plus_scaled" "plus_scaled" (defArgs s_plus_scaled) (defBody s_plus_scaled) (defScope s_plus_scaled) .none kV5 dc5 pm5 an5 cd5 ct5), sl5⟩) (c5 : PySem.W.codeIn K cd5 "plus_scaled" = true) (k5 : PySem.W.keepIn K (.ref f5) = true)
    {f6 : Addr} {od6 an6 : Option Addr} {sl6 : Array (Option Value)} {oc6 kV6 dc6 pm6 cd6 ct6 : Value}
    (a6 : PySem.W.nsIn K mainGlobals "places_of" = some (some (.ref f6))) (l6 : K.lookup f6 = some ⟨oc6, od6, .func (PySem.W.fnOf "places_of" "places_of" (defArgs s_places_of) (defBody s_places_of) (defScope s_places_of) .none kV6 dc6 pm6 an6 cd6 ct6), sl6⟩) (c6 : PySem.W.codeIn K cd6 "places_of" = true) (k6 : PySem.W.keepIn K (.ref f6) = true)
    {f7 : Addr} {od7 an7 : Option Addr} {sl7 : Array (Option Value)} {oc7 kV7 dc7 pm7 cd7 ct7 : Value}
    (a7 : PySem.W.nsIn K mainGlobals "first_place" = some (some (.ref f7))) (l7 : K.lookup f7 = some ⟨oc7, od7, .func (PySem.W.fnOf "first_place" "first_place" (defArgs s_first_place) (defBody s_first_place) (defScope s_first_place) .none kV7 dc7 pm7 an7 cd7 ct7), sl7⟩) (c7 : PySem.W.codeIn K cd7 "first_place" = true) (k7 : PySem.W.keepIn K (.ref f7) = true)
    {f8 : Addr} {od8 an8 : Option Addr} {sl8 : Array (Option Value)} {oc8 kV8 dc8 pm8 cd8 ct8 : Value}
    (a8 : PySem.W.nsIn K mainGlobals "cut_to" = some (some (.ref f8))) (l8 : K.lookup f8 = some ⟨oc8, od8, .func (PySem.W.fnOf "cut_to" "cut_to" (defArgs s_cut_to) (defBody s_cut_to) (defScope s_cut_to) .none kV8 dc8 pm8 an8 cd8 ct8), sl8⟩) (c8 : PySem.W.codeIn K cd8 "cut_to" = true) (k8 : PySem.W.keepIn K (.ref f8) = true)
    {f9 : Addr} {od9 an9 : Option Addr} {sl9 : Array (Option Value)} {oc9 kV9 dc9 pm9 cd9 ct9 : Value}
    (a9 : PySem.W.nsIn K mainGlobals "cleared" = some (some (.ref f9))) (l9 : K.lookup f9 = some ⟨oc9, od9, .func (PySem.W.fnOf "cleared" "cleared" (defArgs s_cleared) (defBody s_cleared) (defScope s_cleared) .none kV9 dc9 pm9 an9 cd9 ct9), sl9⟩) (c9 : PySem.W.codeIn K cd9 "cleared" = true) (k9 : PySem.W.keepIn K (.ref f9) = true)
    {f10 : Addr} {od10 an10 : Option Addr} {sl10 : Array (Option Value)} {oc10 kV10 dc10 pm10 cd10 ct10 : Value}
    (a10 : PySem.W.nsIn K mainGlobals "joined" = some (some (.ref f10))) (l10 : K.lookup f10 = some ⟨oc10, od10, .func (PySem.W.fnOf "joined" "joined" (defArgs s_joined) (defBody s_joined) (defScope s_joined) .none kV10 dc10 pm10 an10 cd10 ct10), sl10⟩) (c10 : PySem.W.codeIn K cd10 "joined" = true) (k10 : PySem.W.keepIn K (.ref f10) = true)
    {f11 : Addr} {od11 an11 : Option Addr} {sl11 : Array (Option Value)} {oc11 kV11 dc11 pm11 cd11 ct11 : Value}
    (a11 : PySem.W.nsIn K mainGlobals "reduced_rows" = some (some (.ref f11))) (l11 : K.lookup f11 = some ⟨oc11, od11, .func (PySem.W.fnOf "reduced_rows" "reduced_rows" (defArgs s_reduced_rows) (defBody s_reduced_rows) (defScope s_reduced_rows) .none kV11 dc11 pm11 an11 cd11 ct11), sl11⟩) (c11 : PySem.W.codeIn K cd11 "reduced_rows" = true) (k11 : PySem.W.keepIn K (.ref f11) = true)
    {f12 : Addr} {od12 an12 : Option Addr} {sl12 : Array (Option Value)} {oc12 kV12 dc12 pm12 cd12 ct12 : Value}
    (a12 : PySem.W.nsIn K mainGlobals "rank_on" = some (some (.ref f12))) (l12 : K.lookup f12 = some ⟨oc12, od12, .func (PySem.W.fnOf "rank_on" "rank_on" (defArgs s_rank_on) (defBody s_rank_on) (defScope s_rank_on) .none kV12 dc12 pm12 an12 cd12 ct12), sl12⟩) (c12 : PySem.W.codeIn K cd12 "rank_on" = true) (k12 : PySem.W.keepIn K (.ref f12) = true)
    {f13 : Addr} {od13 an13 : Option Addr} {sl13 : Array (Option Value)} {oc13 kV13 dc13 pm13 cd13 ct13 : Value}
    (a13 : PySem.W.nsIn K mainGlobals "bound_rows" = some (some (.ref f13))) (l13 : K.lookup f13 = some ⟨oc13, od13, .func (PySem.W.fnOf "bound_rows" "bound_rows" (defArgs s_bound_rows) (defBody s_bound_rows) (defScope s_bound_rows) .none kV13 dc13 pm13 an13 cd13 ct13), sl13⟩) (c13 : PySem.W.codeIn K cd13 "bound_rows" = true) (k13 : PySem.W.keepIn K (.ref f13) = true)
    {f14 : Addr} {od14 an14 : Option Addr} {sl14 : Array (Option Value)} {oc14 kV14 dc14 pm14 cd14 ct14 : Value}
    (a14 : PySem.W.nsIn K mainGlobals "bound_row" = some (some (.ref f14))) (l14 : K.lookup f14 = some ⟨oc14, od14, .func (PySem.W.fnOf "bound_row" "bound_row" (defArgs s_bound_row) (defBody s_bound_row) (defScope s_bound_row) .none kV14 dc14 pm14 an14 cd14 ct14), sl14⟩) (c14 : PySem.W.codeIn K cd14 "bound_row" = true) (k14 : PySem.W.keepIn K (.ref f14) = true)
    {f15 : Addr} {od15 an15 : Option Addr} {sl15 : Array (Option Value)} {oc15 kV15 dc15 pm15 cd15 ct15 : Value}
    (a15 : PySem.W.nsIn K mainGlobals "is_numbers" = some (some (.ref f15))) (l15 : K.lookup f15 = some ⟨oc15, od15, .func (PySem.W.fnOf "is_numbers" "is_numbers" (defArgs s_is_numbers) (defBody s_is_numbers) (defScope s_is_numbers) .none kV15 dc15 pm15 an15 cd15 ct15), sl15⟩) (c15 : PySem.W.codeIn K cd15 "is_numbers" = true) (k15 : PySem.W.keepIn K (.ref f15) = true)
    {f16 : Addr} {od16 an16 : Option Addr} {sl16 : Array (Option Value)} {oc16 kV16 dc16 pm16 cd16 ct16 : Value}
    (a16 : PySem.W.nsIn K mainGlobals "is_size" = some (some (.ref f16))) (l16 : K.lookup f16 = some ⟨oc16, od16, .func (PySem.W.fnOf "is_size" "is_size" (defArgs s_is_size) (defBody s_is_size) (defScope s_is_size) .none kV16 dc16 pm16 an16 cd16 ct16), sl16⟩) (c16 : PySem.W.codeIn K cd16 "is_size" = true) (k16 : PySem.W.keepIn K (.ref f16) = true)
    {f17 : Addr} {od17 an17 : Option Addr} {sl17 : Array (Option Value)} {oc17 kV17 dc17 pm17 cd17 ct17 : Value}
    (a17 : PySem.W.nsIn K mainGlobals "book_fault" = some (some (.ref f17))) (l17 : K.lookup f17 = some ⟨oc17, od17, .func (PySem.W.fnOf "book_fault" "book_fault" (defArgs s_book_fault) (defBody s_book_fault) (defScope s_book_fault) .none kV17 dc17 pm17 an17 cd17 ct17), sl17⟩) (c17 : PySem.W.codeIn K cd17 "book_fault" = true) (k17 : PySem.W.keepIn K (.ref f17) = true)
    {f18 : Addr} {od18 an18 : Option Addr} {sl18 : Array (Option Value)} {oc18 kV18 dc18 pm18 cd18 ct18 : Value}
    (a18 : PySem.W.nsIn K mainGlobals "is_place_of" = some (some (.ref f18))) (l18 : K.lookup f18 = some ⟨oc18, od18, .func (PySem.W.fnOf "is_place_of" "is_place_of" (defArgs s_is_place_of) (defBody s_is_place_of) (defScope s_is_place_of) .none kV18 dc18 pm18 an18 cd18 ct18), sl18⟩) (c18 : PySem.W.codeIn K cd18 "is_place_of" = true) (k18 : PySem.W.keepIn K (.ref f18) = true)
    {f19 : Addr} {od19 an19 : Option Addr} {sl19 : Array (Option Value)} {oc19 kV19 dc19 pm19 cd19 ct19 : Value}
    (a19 : PySem.W.nsIn K mainGlobals "is_lot_of" = some (some (.ref f19))) (l19 : K.lookup f19 = some ⟨oc19, od19, .func (PySem.W.fnOf "is_lot_of" "is_lot_of" (defArgs s_is_lot_of) (defBody s_is_lot_of) (defScope s_is_lot_of) .none kV19 dc19 pm19 an19 cd19 ct19), sl19⟩) (c19 : PySem.W.codeIn K cd19 "is_lot_of" = true) (k19 : PySem.W.keepIn K (.ref f19) = true)
    {f20 : Addr} {od20 an20 : Option Addr} {sl20 : Array (Option Value)} {oc20 kV20 dc20 pm20 cd20 ct20 : Value}
    (a20 : PySem.W.nsIn K mainGlobals "is_sum_like" = some (some (.ref f20))) (l20 : K.lookup f20 = some ⟨oc20, od20, .func (PySem.W.fnOf "is_sum_like" "is_sum_like" (defArgs s_is_sum_like) (defBody s_is_sum_like) (defScope s_is_sum_like) .none kV20 dc20 pm20 an20 cd20 ct20), sl20⟩) (c20 : PySem.W.codeIn K cd20 "is_sum_like" = true) (k20 : PySem.W.keepIn K (.ref f20) = true)
    {f21 : Addr} {od21 an21 : Option Addr} {sl21 : Array (Option Value)} {oc21 kV21 dc21 pm21 cd21 ct21 : Value}
    (a21 : PySem.W.nsIn K mainGlobals "is_kept" = some (some (.ref f21))) (l21 : K.lookup f21 = some ⟨oc21, od21, .func (PySem.W.fnOf "is_kept" "is_kept" (defArgs s_is_kept) (defBody s_is_kept) (defScope s_is_kept) .none kV21 dc21 pm21 an21 cd21 ct21), sl21⟩) (c21 : PySem.W.codeIn K cd21 "is_kept" = true) (k21 : PySem.W.keepIn K (.ref f21) = true)
    {f22 : Addr} {od22 an22 : Option Addr} {sl22 : Array (Option Value)} {oc22 kV22 dc22 pm22 cd22 ct22 : Value}
    (a22 : PySem.W.nsIn K mainGlobals "want" = some (some (.ref f22))) (l22 : K.lookup f22 = some ⟨oc22, od22, .func (PySem.W.fnOf "want" "want" (defArgs s_want) (defBody s_want) (defScope s_want) .none kV22 dc22 pm22 an22 cd22 ct22), sl22⟩) (c22 : PySem.W.codeIn K cd22 "want" = true) (k22 : PySem.W.keepIn K (.ref f22) = true)
    {f23 : Addr} {od23 an23 : Option Addr} {sl23 : Array (Option Value)} {oc23 kV23 dc23 pm23 cd23 ct23 : Value}
    (a23 : PySem.W.nsIn K mainGlobals "want_book" = some (some (.ref f23))) (l23 : K.lookup f23 = some ⟨oc23, od23, .func (PySem.W.fnOf "want_book" "want_book" (defArgs s_want_book) (defBody s_want_book) (defScope s_want_book) .none kV23 dc23 pm23 an23 cd23 ct23), sl23⟩) (c23 : PySem.W.codeIn K cd23 "want_book" = true) (k23 : PySem.W.keepIn K (.ref f23) = true)
    {f24 : Addr} {od24 an24 : Option Addr} {sl24 : Array (Option Value)} {oc24 kV24 dc24 pm24 cd24 ct24 : Value}
    (a24 : PySem.W.nsIn K mainGlobals "want_lot" = some (some (.ref f24))) (l24 : K.lookup f24 = some ⟨oc24, od24, .func (PySem.W.fnOf "want_lot" "want_lot" (defArgs s_want_lot) (defBody s_want_lot) (defScope s_want_lot) .none kV24 dc24 pm24 an24 cd24 ct24), sl24⟩) (c24 : PySem.W.codeIn K cd24 "want_lot" = true) (k24 : PySem.W.keepIn K (.ref f24) = true)
    {f25 : Addr} {od25 an25 : Option Addr} {sl25 : Array (Option Value)} {oc25 kV25 dc25 pm25 cd25 ct25 : Value}
    (a25 : PySem.W.nsIn K mainGlobals "want_sum" = some (some (.ref f25))) (l25 : K.lookup f25 = some ⟨oc25, od25, .func (PySem.W.fnOf "want_sum" "want_sum" (defArgs s_want_sum) (defBody s_want_sum) (defScope s_want_sum) .none kV25 dc25 pm25 an25 cd25 ct25), sl25⟩) (c25 : PySem.W.codeIn K cd25 "want_sum" = true) (k25 : PySem.W.keepIn K (.ref f25) = true)
    {f26 : Addr} {od26 an26 : Option Addr} {sl26 : Array (Option Value)} {oc26 kV26 dc26 pm26 cd26 ct26 : Value}
    (a26 : PySem.W.nsIn K mainGlobals "told_signs" = some (some (.ref f26))) (l26 : K.lookup f26 = some ⟨oc26, od26, .func (PySem.W.fnOf "told_signs" "told_signs" (defArgs s_told_signs) (defBody s_told_signs) (defScope s_told_signs) .none kV26 dc26 pm26 an26 cd26 ct26), sl26⟩) (c26 : PySem.W.codeIn K cd26 "told_signs" = true) (k26 : PySem.W.keepIn K (.ref f26) = true)
    {f27 : Addr} {od27 an27 : Option Addr} {sl27 : Array (Option Value)} {oc27 kV27 dc27 pm27 cd27 ct27 : Value}
    (a27 : PySem.W.nsIn K mainGlobals "told_on" = some (some (.ref f27))) (l27 : K.lookup f27 = some ⟨oc27, od27, .func (PySem.W.fnOf "told_on" "told_on" (defArgs s_told_on) (defBody s_told_on) (defScope s_told_on) .none kV27 dc27 pm27 an27 cd27 ct27), sl27⟩) (c27 : PySem.W.codeIn K cd27 "told_on" = true) (k27 : PySem.W.keepIn K (.ref f27) = true)
    {f28 : Addr} {od28 an28 : Option Addr} {sl28 : Array (Option Value)} {oc28 kV28 dc28 pm28 cd28 ct28 : Value}
    (a28 : PySem.W.nsIn K mainGlobals "keeps" = some (some (.ref f28))) (l28 : K.lookup f28 = some ⟨oc28, od28, .func (PySem.W.fnOf "keeps" "keeps" (defArgs s_keeps) (defBody s_keeps) (defScope s_keeps) .none kV28 dc28 pm28 an28 cd28 ct28), sl28⟩) (c28 : PySem.W.codeIn K cd28 "keeps" = true) (k28 : PySem.W.keepIn K (.ref f28) = true)
    {f29 : Addr} {od29 an29 : Option Addr} {sl29 : Array (Option Value)} {oc29 kV29 dc29 pm29 cd29 ct29 : Value}
    (a29 : PySem.W.nsIn K mainGlobals "base_words" = some (some (.ref f29))) (l29 : K.lookup f29 = some ⟨oc29, od29, .func (PySem.W.fnOf "base_words" "base_words" (defArgs s_base_words) (defBody s_base_words) (defScope s_base_words) .none kV29 dc29 pm29 an29 cd29 ct29), sl29⟩) (c29 : PySem.W.codeIn K cd29 "base_words" = true) (k29 : PySem.W.keepIn K (.ref f29) = true)
    {f30 : Addr} {od30 an30 : Option Addr} {sl30 : Array (Option Value)} {oc30 kV30 dc30 pm30 cd30 ct30 : Value}
    (a30 : PySem.W.nsIn K mainGlobals "base_sums" = some (some (.ref f30))) (l30 : K.lookup f30 = some ⟨oc30, od30, .func (PySem.W.fnOf "base_sums" "base_sums" (defArgs s_base_sums) (defBody s_base_sums) (defScope s_base_sums) .none kV30 dc30 pm30 an30 cd30 ct30), sl30⟩) (c30 : PySem.W.codeIn K cd30 "base_sums" = true) (k30 : PySem.W.keepIn K (.ref f30) = true)
    {f31 : Addr} {od31 an31 : Option Addr} {sl31 : Array (Option Value)} {oc31 kV31 dc31 pm31 cd31 ct31 : Value}
    (a31 : PySem.W.nsIn K mainGlobals "all_words" = some (some (.ref f31))) (l31 : K.lookup f31 = some ⟨oc31, od31, .func (PySem.W.fnOf "all_words" "all_words" (defArgs s_all_words) (defBody s_all_words) (defScope s_all_words) .none kV31 dc31 pm31 an31 cd31 ct31), sl31⟩) (c31 : PySem.W.codeIn K cd31 "all_words" = true) (k31 : PySem.W.keepIn K (.ref f31) = true)
    {f32 : Addr} {od32 an32 : Option Addr} {sl32 : Array (Option Value)} {oc32 kV32 dc32 pm32 cd32 ct32 : Value}
    (a32 : PySem.W.nsIn K mainGlobals "_law_feed" = some (some (.ref f32))) (l32 : K.lookup f32 = some ⟨oc32, od32, .func (PySem.W.fnOf "_law_feed" "_law_feed" (defArgs s__law_feed) (defBody s__law_feed) (defScope s__law_feed) .none kV32 dc32 pm32 an32 cd32 ct32), sl32⟩) (c32 : PySem.W.codeIn K cd32 "_law_feed" = true) (k32 : PySem.W.keepIn K (.ref f32) = true)
    {f33 : Addr} {od33 an33 : Option Addr} {sl33 : Array (Option Value)} {oc33 kV33 dc33 pm33 cd33 ct33 : Value}
    (a33 : PySem.W.nsIn K mainGlobals "_law_draw" = some (some (.ref f33))) (l33 : K.lookup f33 = some ⟨oc33, od33, .func (PySem.W.fnOf "_law_draw" "_law_draw" (defArgs s__law_draw) (defBody s__law_draw) (defScope s__law_draw) .none kV33 dc33 pm33 an33 cd33 ct33), sl33⟩) (c33 : PySem.W.codeIn K cd33 "_law_draw" = true) (k33 : PySem.W.keepIn K (.ref f33) = true)
    {f34 : Addr} {od34 an34 : Option Addr} {sl34 : Array (Option Value)} {oc34 kV34 dc34 pm34 cd34 ct34 : Value}
    (a34 : PySem.W.nsIn K mainGlobals "_law_same" = some (some (.ref f34))) (l34 : K.lookup f34 = some ⟨oc34, od34, .func (PySem.W.fnOf "_law_same" "_law_same" (defArgs s__law_same) (defBody s__law_same) (defScope s__law_same) .none kV34 dc34 pm34 an34 cd34 ct34), sl34⟩) (c34 : PySem.W.codeIn K cd34 "_law_same" = true) (k34 : PySem.W.keepIn K (.ref f34) = true)
    {f35 : Addr} {od35 an35 : Option Addr} {sl35 : Array (Option Value)} {oc35 kV35 dc35 pm35 cd35 ct35 : Value}
    (a35 : PySem.W.nsIn K mainGlobals "_law_books" = some (some (.ref f35))) (l35 : K.lookup f35 = some ⟨oc35, od35, .func (PySem.W.fnOf "_law_books" "_law_books" (defArgs s__law_books) (defBody s__law_books) (defScope s__law_books) .none kV35 dc35 pm35 an35 cd35 ct35), sl35⟩) (c35 : PySem.W.codeIn K cd35 "_law_books" = true) (k35 : PySem.W.keepIn K (.ref f35) = true)
    {f36 : Addr} {od36 an36 : Option Addr} {sl36 : Array (Option Value)} {oc36 kV36 dc36 pm36 cd36 ct36 : Value}
    (a36 : PySem.W.nsIn K mainGlobals "_law_all" = some (some (.ref f36))) (l36 : K.lookup f36 = some ⟨oc36, od36, .func (PySem.W.fnOf "_law_all" "_law_all" (defArgs s__law_all) (defBody s__law_all) (defScope s__law_all) .none kV36 dc36 pm36 an36 cd36 ct36), sl36⟩) (c36 : PySem.W.codeIn K cd36 "_law_all" = true) (k36 : PySem.W.keepIn K (.ref f36) = true)
    {f37 : Addr} {od37 an37 : Option Addr} {sl37 : Array (Option Value)} {oc37 kV37 dc37 pm37 cd37 ct37 : Value}
    (a37 : PySem.W.nsIn K mainGlobals "_law_is_right" = some (some (.ref f37))) (l37 : K.lookup f37 = some ⟨oc37, od37, .func (PySem.W.fnOf "_law_is_right" "_law_is_right" (defArgs s__law_is_right) (defBody s__law_is_right) (defScope s__law_is_right) .none kV37 dc37 pm37 an37 cd37 ct37), sl37⟩) (c37 : PySem.W.codeIn K cd37 "_law_is_right" = true) (k37 : PySem.W.keepIn K (.ref f37) = true)
    {f38 : Addr} {od38 an38 : Option Addr} {sl38 : Array (Option Value)} {oc38 kV38 dc38 pm38 cd38 ct38 : Value}
    (a38 : PySem.W.nsIn K mainGlobals "_law_keeps_right" = some (some (.ref f38))) (l38 : K.lookup f38 = some ⟨oc38, od38, .func (PySem.W.fnOf "_law_keeps_right" "_law_keeps_right" (defArgs s__law_keeps_right) (defBody s__law_keeps_right) (defScope s__law_keeps_right) .none kV38 dc38 pm38 an38 cd38 ct38), sl38⟩) (c38 : PySem.W.codeIn K cd38 "_law_keeps_right" = true) (k38 : PySem.W.keepIn K (.ref f38) = true)
    {f39 : Addr} {od39 an39 : Option Addr} {sl39 : Array (Option Value)} {oc39 kV39 dc39 pm39 cd39 ct39 : Value}
    (a39 : PySem.W.nsIn K mainGlobals "law" = some (some (.ref f39))) (l39 : K.lookup f39 = some ⟨oc39, od39, .func (PySem.W.fnOf "law" "law" (defArgs s_law) (defBody s_law) (defScope s_law) .none kV39 dc39 pm39 an39 cd39 ct39), sl39⟩) (c39 : PySem.W.codeIn K cd39 "law" = true) (k39 : PySem.W.keepIn K (.ref f39) = true)
    (z_all : PySem.W.nsIn K mainGlobals "all" = some none)
    (z_any : PySem.W.nsIn K mainGlobals "any" = some none)
    (z_bool : PySem.W.nsIn K mainGlobals "bool" = some none)
    (z_enumerate : PySem.W.nsIn K mainGlobals "enumerate" = some none)
    (z_int : PySem.W.nsIn K mainGlobals "int" = some none)
    (z_isinstance : PySem.W.nsIn K mainGlobals "isinstance" = some none)
    (z_len : PySem.W.nsIn K mainGlobals "len" = some none)
    (z_list : PySem.W.nsIn K mainGlobals "list" = some none)
    (z_range : PySem.W.nsIn K mainGlobals "range" = some none)
    (z_repr : PySem.W.nsIn K mainGlobals "repr" = some none)
    (z_sorted : PySem.W.nsIn K mainGlobals "sorted" = some none)
    (z_tuple : PySem.W.nsIn K mainGlobals "tuple" = some none)
    (z_zip : PySem.W.nsIn K mainGlobals "zip" = some none)
    {t_MOST_PLACES : Tok} (n_MOST_PLACES : PySem.W.nsIn K mainGlobals "MOST_PLACES" = some (some (.int 100 t_MOST_PLACES)))
    {t_PRIMES_END : Tok} (n_PRIMES_END : PySem.W.nsIn K mainGlobals "PRIMES_END" = some (some (.int 1000000 t_PRIMES_END)))
    {C_NotUsable : Addr} (aC_NotUsable : PySem.W.nsIn K mainGlobals "NotUsable" = some (some (.ref C_NotUsable)))
    {nm_NotUsable q_NotUsable : Str} {N_NotUsable : Addr} {bs_NotUsable bm_NotUsable : List Value} {sn_NotUsable : List Str} {sub_NotUsable : List Value} {ab_NotUsable : Bool} {col_NotUsable : Option Bool} {dd_NotUsable : Option Addr} {m0_NotUsable m1_NotUsable m2_NotUsable m3_NotUsable m5_NotUsable : Option Value} {fI_NotUsable : Addr} {odI_NotUsable anI_NotUsable : Option Addr} {slI_NotUsable : Array (Option Value)} {ocI_NotUsable kVI_NotUsable dcI_NotUsable pmI_NotUsable cdI_NotUsable ctI_NotUsable : Value}
    (xL_NotUsable : K.lookup C_NotUsable = some (excClassObj nm_NotUsable q_NotUsable C_NotUsable N_NotUsable bs_NotUsable bm_NotUsable true sn_NotUsable sub_NotUsable ab_NotUsable col_NotUsable dd_NotUsable m0_NotUsable m1_NotUsable m2_NotUsable m3_NotUsable m5_NotUsable "ValueError.__new__"))
    (rv_NotUsable : PySem.HandSPX.refsVE bm_NotUsable = true)
    (sa_NotUsable : PySem.W.findIn K (.ref C_NotUsable) "__setattr__" = some (some (.builtin "object.__setattr__")))
    (ga_NotUsable : PySem.W.findIn K (.ref C_NotUsable) "__getattribute__" = some (some (.builtin "BaseException.__getattribute__")))
    (gg_NotUsable : PySem.W.findIn K (.ref C_NotUsable) "__getattr__" = some none)
    (n1_NotUsable : PySem.W.findIn K (.ref C_NotUsable) "word" = some none)
    (n2_NotUsable : PySem.W.findIn K (.ref C_NotUsable) "at" = some none)
    (iC_NotUsable : PySem.W.findIn K (.ref C_NotUsable) "__init__" = some (some (.ref fI_NotUsable)))
    (tI_NotUsable : PySem.W.typeIn K (.ref fI_NotUsable) = some (.type "function"))
    (kC_NotUsable : PySem.W.keepIn K (.ref C_NotUsable) = true)
    (eC_NotUsable : PySem.W.subIn K (.ref C_NotUsable) (.type "BaseException") = some true)
    (tC_NotUsable : PySem.W.typeIn K (.ref C_NotUsable) = some (.type "type"))
    (hC_NotUsable : PySem.W.hasDictIn K C_NotUsable = true)
    (cl_NotUsable : PySem.W.findIn K (.ref C_NotUsable) "__class__" = some (some (.builtin "object.__class__")))
    (mO_NotUsable : PySem.W.mroIn K C_NotUsable (.type "object") = some true)
    (lI_NotUsable : K.lookup fI_NotUsable = some ⟨ocI_NotUsable, odI_NotUsable, .func (PySem.W.fnOf "__init__" "NotUsable.__init__" (defArgs sI_NotUsable) (defBody sI_NotUsable) (defScope sI_NotUsable) .none kVI_NotUsable dcI_NotUsable pmI_NotUsable anI_NotUsable cdI_NotUsable ctI_NotUsable), slI_NotUsable⟩)
    (cI_NotUsable : PySem.W.codeIn K cdI_NotUsable "NotUsable.__init__" = true)
    (kI_NotUsable : PySem.W.keepIn K (.ref fI_NotUsable) = true)
    (hnX : PySem.W.specialIn K (.builtin "object.__class__") "__get__" = some (some (.builtin "getset_descriptor.__get__"))) (htX : PySem.W.takesIn K (.builtin "object.__class__") = some true)
    : ∃ (fd : FuncData) (cs : TabL) (fs : List Addr), cs.length = ([] : List Str).length ∧ TabsOk K h cs ∧ (∀ (s : Shared) (v : Value), BindsTo s fd ⟨[v], []⟩ [("_law_script", v)]) ∧ ∀ base : Heap, K.In base → base.Ns mainGlobals mg → (∀ p ∈ cs, LamX.TabB base mg p.1 p.2.1) → FnG l.prog w K mg base true 11 fa fd ["_law_script"] (@spG (tcOf cs fs) K mg 1 m_law) := by
  have e := hfa.symm.trans (PySem.W.mg_of X G a39)
  cases e
  let cs : TabL := []
  let fs : List Addr := []
  letI : TabC := tcOf cs fs
  have F0 := fun_mk (st := s_is_integer) l0 c0 k0
  have F1 := fun_mk (st := s_is_number) l1 c1 k1
  have F2 := fun_mk (st := s_is_prime) l2 c2 k2
  have F3 := fun_mk (st := s_inverse_of) l3 c3 k3
  have F4 := fun_mk (st := s_scaled) l4 c4 k4
  have F5 := fun_mk (st := s_plus_scaled) l5 c5 k5
  have F6 := fun_mk (st := s_places_of) l6 c6 k6
  have F7 := fun_mk (st := s_first_place) l7 c7 k7
  have F8 := fun_mk (st := s_cut_to) l8 c8 k8
  have F9 := fun_mk (st := s_cleared) l9 c9 k9
  have F10 := fun_mk (st := s_joined) l10 c10 k10
  have F11 := fun_mk (st := s_reduced_rows) l11 c11 k11
  have F12 := fun_mk (st := s_rank_on) l12 c12 k12
  have F13 := fun_mk (st := s_bound_rows) l13 c13 k13
  have F14 := fun_mk (st := s_bound_row) l14 c14 k14
  have F15 := fun_mk (st := s_is_numbers) l15 c15 k15
  have F16 := fun_mk (st := s_is_size) l16 c16 k16
  have F17 := fun_mk (st := s_book_fault) l17 c17 k17
  have F18 := fun_mk (st := s_is_place_of) l18 c18 k18
  have F19 := fun_mk (st := s_is_lot_of) l19 c19 k19
  have F20 := fun_mk (st := s_is_sum_like) l20 c20 k20
  have F21 := fun_mk (st := s_is_kept) l21 c21 k21
  have F22 := fun_mk (st := s_want) l22 c22 k22
  have F23 := fun_mk (st := s_want_book) l23 c23 k23
  have F24 := fun_mk (st := s_want_lot) l24 c24 k24
  have F25 := fun_mk (st := s_want_sum) l25 c25 k25
  have F26 := fun_mk (st := s_told_signs) l26 c26 k26
  have F27 := fun_mk (st := s_told_on) l27 c27 k27
  have F28 := fun_mk (st := s_keeps) l28 c28 k28
  have F29 := fun_mk (st := s_base_words) l29 c29 k29
  have F30 := fun_mk (st := s_base_sums) l30 c30 k30
  have F31 := fun_mk (st := s_all_words) l31 c31 k31
  have F32 := fun_mk (st := s__law_feed) l32 c32 k32
  have F33 := fun_mk (st := s__law_draw) l33 c33 k33
  have F34 := fun_mk (st := s__law_same) l34 c34 k34
  have F35 := fun_mk (st := s__law_books) l35 c35 k35
  have F36 := fun_mk (st := s__law_all) l36 c36 k36
  have F37 := fun_mk (st := s__law_is_right) l37 c37 k37
  have F38 := fun_mk (st := s__law_keeps_right) l38 c38 k38
  have F39 := fun_mk (st := s_law) l39 c39 k39
  have FI_NotUsable := fun_mk (st := sI_NotUsable) lI_NotUsable cI_NotUsable kI_NotUsable
  have ec_NotUsable : ExcC K C_NotUsable := ⟨ga_NotUsable, gg_NotUsable, eC_NotUsable, hC_NotUsable, cl_NotUsable, hnX, htX, mO_NotUsable⟩
  have xf_NotUsable : XfC K C_NotUsable := ⟨ga_NotUsable, gg_NotUsable, eC_NotUsable, hC_NotUsable⟩
  let T : Tops K mg := {
    xC_NotUsable := C_NotUsable
    xf_NotUsable := fI_NotUsable
    xd_NotUsable := _
    a_is_integer := f0
    d_is_integer := _
    a_is_number := f1
    d_is_number := _
    a_is_prime := f2
    d_is_prime := _
    a_inverse_of := f3
    d_inverse_of := _
    a_scaled := f4
    d_scaled := _
    a_plus_scaled := f5
    d_plus_scaled := _
    a_places_of := f6
    d_places_of := _
    a_first_place := f7
    d_first_place := _
    a_cut_to := f8
    d_cut_to := _
    a_cleared := f9
    d_cleared := _
    a_joined := f10
    d_joined := _
    a_reduced_rows := f11
    d_reduced_rows := _
    a_rank_on := f12
    d_rank_on := _
    a_bound_rows := f13
    d_bound_rows := _
    a_bound_row := f14
    d_bound_row := _
    a_is_numbers := f15
    d_is_numbers := _
    a_is_size := f16
    d_is_size := _
    a_book_fault := f17
    d_book_fault := _
    a_is_place_of := f18
    d_is_place_of := _
    a_is_lot_of := f19
    d_is_lot_of := _
    a_is_sum_like := f20
    d_is_sum_like := _
    a_is_kept := f21
    d_is_kept := _
    a_want := f22
    d_want := _
    a_want_book := f23
    d_want_book := _
    a_want_lot := f24
    d_want_lot := _
    a_want_sum := f25
    d_want_sum := _
    a_told_signs := f26
    d_told_signs := _
    a_told_on := f27
    d_told_on := _
    a_keeps := f28
    d_keeps := _
    a_base_words := f29
    d_base_words := _
    a_base_sums := f30
    d_base_sums := _
    a_all_words := f31
    d_all_words := _
    a__law_feed := f32
    d__law_feed := _
    a__law_draw := f33
    d__law_draw := _
    a__law_same := f34
    d__law_same := _
    a__law_books := f35
    d__law_books := _
    a__law_all := f36
    d__law_all := _
    a__law_is_right := f37
    d__law_is_right := _
    a__law_keeps_right := f38
    d__law_keeps_right := _
    a_law := fa
    d_law := _
    ok := trivial
    xc_NotUsable := ⟨PySem.W.mg_of X G aC_NotUsable, ⟨⟨nm_NotUsable, q_NotUsable, N_NotUsable, bs_NotUsable, bm_NotUsable, sn_NotUsable, sub_NotUsable, ab_NotUsable, col_NotUsable, dd_NotUsable, m0_NotUsable, m1_NotUsable, m2_NotUsable, m3_NotUsable, m5_NotUsable, xL_NotUsable, rv_NotUsable⟩, sa_NotUsable, eC_NotUsable, tC_NotUsable, kC_NotUsable⟩, xf_NotUsable, ec_NotUsable, iC_NotUsable, tI_NotUsable, n1_NotUsable, n2_NotUsable⟩
    xI_NotUsable := init_ok FI_NotUsable scI_NotUsable rfl (fun _ => rfl) (fun _ => rfl) (.inl (by kernel_rfl)) (.inl (by kernel_rfl)) (.inl (by kernel_rfl)) (by decide) (by decide) (by decide) (by decide)
    xB_NotUsable := FI_NotUsable.binds (ps := ["self", "word", "at"]) fun _ _ _ _ _ _ us hl => match us, hl with | [_, _, _], _ => rfl
    tb := ⟨fun t ht => by
      simp only [exTb, List.mem_cons, List.not_mem_nil, or_false] at ht
      subst ht
      · refine ⟨C_NotUsable, PySem.W.mg_of X G aC_NotUsable, xf_NotUsable, ec_NotUsable, fun f hf => ?_, fun s hs => ?_⟩
        · simp only [List.mem_cons, List.not_mem_nil, or_false] at hf
          rcases hf with rfl | rfl
          · exact n1_NotUsable
          · exact n2_NotUsable
        · simp only [List.mem_cons, List.not_mem_nil, or_false] at hs
      ⟩
    F_is_integer := F0
    m_is_integer := PySem.W.mg_of X G a0
    b_is_integer := F0.binds (ps := ["thing"]) fun _ _ _ _ _ _ us hl => match us, hl with | [_], _ => rfl
    F_is_number := F1
    m_is_number := PySem.W.mg_of X G a1
    b_is_number := F1.binds (ps := ["thing"]) fun _ _ _ _ _ _ us hl => match us, hl with | [_], _ => rfl
    F_is_prime := F2
    m_is_prime := PySem.W.mg_of X G a2
    b_is_prime := F2.binds (ps := ["thing"]) fun _ _ _ _ _ _ us hl => match us, hl with | [_], _ => rfl
    F_inverse_of := F3
    m_inverse_of := PySem.W.mg_of X G a3
    b_inverse_of := F3.binds (ps := ["number", "prime"]) fun _ _ _ _ _ _ us hl => match us, hl with | [_, _], _ => rfl
    F_scaled := F4
    m_scaled := PySem.W.mg_of X G a4
    b_scaled := F4.binds (ps := ["prime", "times", "row"]) fun _ _ _ _ _ _ us hl => match us, hl with | [_, _, _], _ => rfl
    F_plus_scaled := F5
    m_plus_scaled := PySem.W.mg_of X G a5
    b_plus_scaled := F5.binds (ps := ["prime", "row", "times", "other"]) fun _ _ _ _ _ _ us hl => match us, hl with | [_, _, _, _], _ => rfl
    F_places_of := F6
    m_places_of := PySem.W.mg_of X G a6
    b_places_of := F6.binds (ps := ["row"]) fun _ _ _ _ _ _ us hl => match us, hl with | [_], _ => rfl
    F_first_place := F7
    m_first_place := PySem.W.mg_of X G a7
    b_first_place := F7.binds (ps := ["row"]) fun _ _ _ _ _ _ us hl => match us, hl with | [_], _ => rfl
    F_cut_to := F8
    m_cut_to := PySem.W.mg_of X G a8
    b_cut_to := F8.binds (ps := ["row", "lot"]) fun _ _ _ _ _ _ us hl => match us, hl with | [_, _], _ => rfl
    F_cleared := F9
    m_cleared := PySem.W.mg_of X G a9
    b_cleared := F9.binds (ps := ["prime", "row", "done"]) fun _ _ _ _ _ _ us hl => match us, hl with | [_, _, _], _ => rfl
    F_joined := F10
    m_joined := PySem.W.mg_of X G a10
    b_joined := F10.binds (ps := ["prime", "done", "rest"]) fun _ _ _ _ _ _ us hl => match us, hl with | [_, _, _], _ => rfl
    F_reduced_rows := F11
    m_reduced_rows := PySem.W.mg_of X G a11
    b_reduced_rows := F11.binds (ps := ["prime", "rows"]) fun _ _ _ _ _ _ us hl => match us, hl with | [_, _], _ => rfl
    F_rank_on := F12
    m_rank_on := PySem.W.mg_of X G a12
    b_rank_on := F12.binds (ps := ["prime", "rows", "lot"]) fun _ _ _ _ _ _ us hl => match us, hl with | [_, _, _], _ => rfl
    F_bound_rows := F13
    m_bound_rows := PySem.W.mg_of X G a13
    b_bound_rows := F13.binds (ps := ["prime", "size", "rows"]) fun _ _ _ _ _ _ us hl => match us, hl with | [_, _, _], _ => rfl
    F_bound_row := F14
    m_bound_row := PySem.W.mg_of X G a14
    b_bound_row := F14.binds (ps := ["prime", "size", "ties", "free"]) fun _ _ _ _ _ _ us hl => match us, hl with | [_, _, _, _], _ => rfl
    F_is_numbers := F15
    m_is_numbers := PySem.W.mg_of X G a15
    b_is_numbers := F15.binds (ps := ["thing", "many", "below"]) fun _ _ _ _ _ _ us hl => match us, hl with | [_, _, _], _ => rfl
    F_is_size := F16
    m_is_size := PySem.W.mg_of X G a16
    b_is_size := F16.binds (ps := ["thing"]) fun _ _ _ _ _ _ us hl => match us, hl with | [_], _ => rfl
    F_book_fault := F17
    m_book_fault := PySem.W.mg_of X G a17
    b_book_fault := F17.binds (ps := ["thing"]) fun _ _ _ _ _ _ us hl => match us, hl with | [_], _ => rfl
    F_is_place_of := F18
    m_is_place_of := PySem.W.mg_of X G a18
    b_is_place_of := F18.binds (ps := ["book", "thing"]) fun _ _ _ _ _ _ us hl => match us, hl with | [_, _], _ => rfl
    F_is_lot_of := F19
    m_is_lot_of := PySem.W.mg_of X G a19
    b_is_lot_of := F19.binds (ps := ["book", "thing"]) fun _ _ _ _ _ _ us hl => match us, hl with | [_, _], _ => rfl
    F_is_sum_like := F20
    m_is_sum_like := PySem.W.mg_of X G a20
    b_is_sum_like := F20.binds (ps := ["book", "thing"]) fun _ _ _ _ _ _ us hl => match us, hl with | [_, _], _ => rfl
    F_is_kept := F21
    m_is_kept := PySem.W.mg_of X G a21
    b_is_kept := F21.binds (ps := ["book", "numbers"]) fun _ _ _ _ _ _ us hl => match us, hl with | [_, _], _ => rfl
    F_want := F22
    m_want := PySem.W.mg_of X G a22
    b_want := F22.binds (ps := ["fits", "name"]) fun _ _ _ _ _ _ us hl => match us, hl with | [_, _], _ => rfl
    F_want_book := F23
    m_want_book := PySem.W.mg_of X G a23
    b_want_book := F23.binds (ps := ["thing", "name"]) fun _ _ _ _ _ _ us hl => match us, hl with | [_, _], _ => rfl
    F_want_lot := F24
    m_want_lot := PySem.W.mg_of X G a24
    b_want_lot := F24.binds (ps := ["book", "thing"]) fun _ _ _ _ _ _ us hl => match us, hl with | [_, _], _ => rfl
    F_want_sum := F25
    m_want_sum := PySem.W.mg_of X G a25
    b_want_sum := F25.binds (ps := ["book", "thing"]) fun _ _ _ _ _ _ us hl => match us, hl with | [_, _], _ => rfl
    F_told_signs := F26
    m_told_signs := PySem.W.mg_of X G a26
    b_told_signs := F26.binds (ps := ["book"]) fun _ _ _ _ _ _ us hl => match us, hl with | [_], _ => rfl
    F_told_on := F27
    m_told_on := PySem.W.mg_of X G a27
    b_told_on := F27.binds (ps := ["book", "lot"]) fun _ _ _ _ _ _ us hl => match us, hl with | [_, _], _ => rfl
    F_keeps := F28
    m_keeps := PySem.W.mg_of X G a28
    b_keeps := F28.binds (ps := ["book", "numbers"]) fun _ _ _ _ _ _ us hl => match us, hl with | [_, _], _ => rfl
    F_base_words := F29
    m_base_words := PySem.W.mg_of X G a29
    b_base_words := F29.binds (ps := ["book"]) fun _ _ _ _ _ _ us hl => match us, hl with | [_], _ => rfl
    F_base_sums := F30
    m_base_sums := PySem.W.mg_of X G a30
    b_base_sums := F30.binds (ps := ["book"]) fun _ _ _ _ _ _ us hl => match us, hl with | [_], _ => rfl
    F_all_words := F31
    m_all_words := PySem.W.mg_of X G a31
    b_all_words := F31.binds (ps := ["book"]) fun _ _ _ _ _ _ us hl => match us, hl with | [_], _ => rfl
    F__law_feed := F32
    m__law_feed := PySem.W.mg_of X G a32
    b__law_feed := F32.binds (ps := ["_law_script"]) fun _ _ _ _ _ _ us hl => match us, hl with | [_], _ => rfl
    F__law_draw := F33
    m__law_draw := PySem.W.mg_of X G a33
    b__law_draw := F33.binds (ps := ["_law_feed_here", "_law_many"]) fun _ _ _ _ _ _ us hl => match us, hl with | [_, _], _ => rfl
    F__law_same := F34
    m__law_same := PySem.W.mg_of X G a34
    b__law_same := F34.binds (ps := ["_law_told", "_law_due"]) fun _ _ _ _ _ _ us hl => match us, hl with | [_, _], _ => rfl
    F__law_books := F35
    m__law_books := PySem.W.mg_of X G a35
    b__law_books := F35.binds (ps := []) fun _ _ _ _ _ _ us hl => match us, hl with | [], _ => rfl
    F__law_all := F36
    m__law_all := PySem.W.mg_of X G a36
    b__law_all := F36.binds (ps := ["_law_prime", "_law_size", "_law_words"]) fun _ _ _ _ _ _ us hl => match us, hl with | [_, _, _], _ => rfl
    F__law_is_right := F37
    m__law_is_right := PySem.W.mg_of X G a37
    b__law_is_right := F37.binds (ps := ["_law_tome", "_law_words", "_law_sums", "_law_cuts"]) fun _ _ _ _ _ _ us hl => match us, hl with | [_, _, _, _], _ => rfl
    F__law_keeps_right := F38
    m__law_keeps_right := PySem.W.mg_of X G a38
    b__law_keeps_right := F38.binds (ps := []) fun _ _ _ _ _ _ us hl => match us, hl with | [], _ => rfl
    F_law := F39
    m_law := PySem.W.mg_of X G a39
    b_law := F39.binds (ps := ["_law_script"]) fun _ _ _ _ _ _ us hl => match us, hl with | [_], _ => rfl
    z_all := PySem.W.mg_none_of X G z_all
    z_any := PySem.W.mg_none_of X G z_any
    z_bool := PySem.W.mg_none_of X G z_bool
    z_enumerate := PySem.W.mg_none_of X G z_enumerate
    z_int := PySem.W.mg_none_of X G z_int
    z_isinstance := PySem.W.mg_none_of X G z_isinstance
    z_len := PySem.W.mg_none_of X G z_len
    z_list := PySem.W.mg_none_of X G z_list
    z_range := PySem.W.mg_none_of X G z_range
    z_repr := PySem.W.mg_none_of X G z_repr
    z_sorted := PySem.W.mg_none_of X G z_sorted
    z_tuple := PySem.W.mg_none_of X G z_tuple
    z_zip := PySem.W.mg_none_of X G z_zip
    t_MOST_PLACES := t_MOST_PLACES
    m_MOST_PLACES := PySem.W.mg_of X G n_MOST_PLACES
    t_PRIMES_END := t_PRIMES_END
    m_PRIMES_END := PySem.W.mg_of X G n_PRIMES_END
  }
  refine ⟨T.d_law, cs, fs, rfl, ⟨?_, ?_, ?_, List.nodup_nil⟩, fun s v => .of_eq rfl, fun base _ _ hTB => ?_⟩
  · intro p hp
    exact (List.not_mem_nil hp).elim
  · intro p hp
    exact (List.not_mem_nil hp).elim
  · intro p hp
    exact (List.not_mem_nil hp).elim
  have F__law_books := ok__law_books (P := l.prog) (w := w) (base := base) T
  have F__law_draw := ok__law_draw (P := l.prog) (w := w) (base := base) T
  have F__law_feed := ok__law_feed (P := l.prog) (w := w) (base := base) T
  have F__law_all := ok__law_all (P := l.prog) (w := w) (base := base) T
  have F__law_same := ok__law_same (P := l.prog) (w := w) (base := base) T
  have F_bound_row := ok_bound_row (P := l.prog) (w := w) (base := base) T
  have F_places_of := ok_places_of (P := l.prog) (w := w) (base := base) T
  have F_first_place := ok_first_place (P := l.prog) (w := w) (base := base) T
  have F_plus_scaled := ok_plus_scaled (P := l.prog) (w := w) (base := base) T
  have F_cleared := ok_cleared (P := l.prog) (w := w) (base := base) T F_first_place F_plus_scaled
  have F_inverse_of := ok_inverse_of (P := l.prog) (w := w) (base := base) T
  have F_scaled := ok_scaled (P := l.prog) (w := w) (base := base) T
  have F_joined := ok_joined (P := l.prog) (w := w) (base := base) T F_first_place F_inverse_of F_plus_scaled F_scaled
  have F_reduced_rows := ok_reduced_rows (P := l.prog) (w := w) (base := base) T F_cleared F_joined
  have F_bound_rows := ok_bound_rows (P := l.prog) (w := w) (base := base) T F_bound_row F_places_of F_reduced_rows
  have F_is_integer := ok_is_integer (P := l.prog) (w := w) (base := base) T
  have F_is_number := ok_is_number (P := l.prog) (w := w) (base := base) T F_is_integer
  have F_is_numbers := ok_is_numbers (P := l.prog) (w := w) (base := base) T F_is_number
  have F_is_prime := ok_is_prime (P := l.prog) (w := w) (base := base) T F_is_integer
  have F_is_size := ok_is_size (P := l.prog) (w := w) (base := base) T F_is_integer
  have F_book_fault := ok_book_fault (P := l.prog) (w := w) (base := base) T F_is_numbers F_is_prime F_is_size
  have F_want := ok_want (P := l.prog) (w := w) (base := base) T
  have F_want_book := ok_want_book (P := l.prog) (w := w) (base := base) T F_book_fault F_want
  have G_all_words := ok_all_words (P := l.prog) (w := w) (base := base) T F_bound_rows F_plus_scaled F_want_book
  have F_base_sums := ok_base_sums (P := l.prog) (w := w) (base := base) T F_reduced_rows F_want_book
  have F_base_words := ok_base_words (P := l.prog) (w := w) (base := base) T F_bound_rows F_want_book
  have F_is_kept := ok_is_kept (P := l.prog) (w := w) (base := base) T F_cleared F_reduced_rows
  have F_is_sum_like := ok_is_sum_like (P := l.prog) (w := w) (base := base) T F_is_numbers
  have F_want_sum := ok_want_sum (P := l.prog) (w := w) (base := base) T F_is_sum_like F_want
  have F_keeps := ok_keeps (P := l.prog) (w := w) (base := base) T F_is_kept F_want_book F_want_sum
  have F_cut_to := ok_cut_to (P := l.prog) (w := w) (base := base) T
  have F_rank_on := ok_rank_on (P := l.prog) (w := w) (base := base) T F_cut_to F_reduced_rows
  have F_is_place_of := ok_is_place_of (P := l.prog) (w := w) (base := base) T F_is_number
  have F_is_lot_of := ok_is_lot_of (P := l.prog) (w := w) (base := base) T F_is_place_of
  have F_want_lot := ok_want_lot (P := l.prog) (w := w) (base := base) T F_is_lot_of F_want
  have F_told_on := ok_told_on (P := l.prog) (w := w) (base := base) T F_bound_rows F_rank_on F_want_book F_want_lot
  have F_told_signs := ok_told_signs (P := l.prog) (w := w) (base := base) T F_reduced_rows F_want_book
  have F__law_is_right := ok__law_is_right (P := l.prog) (w := w) (base := base) T F__law_all F__law_same G_all_words F_base_sums F_base_words F_keeps F_told_on F_told_signs
  have F__law_keeps_right := ok__law_keeps_right (P := l.prog) (w := w) (base := base) T F__law_same F_keeps
  exact ok_law T F__law_books F__law_draw F__law_feed F__law_is_right F__law_keeps_right
end Zed
open PySem PySem.W PyProof.Rows
set_option maxHeartbeats 0 in
theorem PySem.Challenge.cw_mendfew_k04_parts_told_holds : PySem.Challenge.rw_mendfew_k04_parts_told.Holds := by
  w_on; o_law; k_head; (case hw => w_witness2)
  k_fill
  refine Zed.the_end (l := PySem.Challenge.rw_mendfew_k04_parts_told) (n := 63) (k := 11) (x := "_law_script") (g := Zed.m_law) [] rfl (by decide) rfl ⟨rfl, by decide, by decide⟩ ?R (fun w h Y => PySem.W.kIn_of Y) ?F (fun ns h => Zed.law_yes ns h)
  case R =>
    intro y hy
    exact (List.not_mem_nil hy).elim
  case F =>
    intro w mg fa h KX G hmg HT
    refine' Zed.all_mk KX G hmg HT ?a0 ?l0 ?c0 ?k0 ?a1 ?l1 ?c1 ?k1 ?a2 ?l2 ?c2 ?k2 ?a3 ?l3 ?c3 ?k3 ?a4 ?l4 ?c4 ?k4 ?a5 ?l5 ?c5 ?k5 ?a6 ?l6 ?c6 ?k6 ?a7 ?l7 ?c7 ?k7 ?a8 ?l8 ?c8 ?k8 ?a9 ?l9 ?c9 ?k9 ?a10 ?l10 ?c10 ?k10 ?a11 ?l11 ?c11 ?k11 ?a12 ?l12 ?c12 ?k12 ?a13 ?l13 ?c13 ?k13 ?a14 ?l14 ?c14 ?k14 ?a15 ?l15 ?c15 ?k15 ?a16 ?l16 ?c16 ?k16 ?a17 ?l17 ?c17 ?k17 ?a18 ?l18 ?c18 ?k18 ?a19 ?l19 ?c19 ?k19 ?a20 ?l20 ?c20 ?k20 ?a21 ?l21 ?c21 ?k21 ?a22 ?l22 ?c22 ?k22 ?a23 ?l23 ?c23 ?k23 ?a24 ?l24 ?c24 ?k24 ?a25 ?l25 ?c25 ?k25 ?a26 ?l26 ?c26 ?k26 ?a27 ?l27 ?c27 ?k27 ?a28 ?l28 ?c28 ?k28 ?a29 ?l29 ?c29 ?k29 ?a30 ?l30 ?c30 ?k30 ?a31 ?l31 ?c31 ?k31 ?a32 ?l32 ?c32 ?k32 ?a33 ?l33 ?c33 ?k33 ?a34 ?l34 ?c34 ?k34 ?a35 ?l35 ?c35 ?k35 ?a36 ?l36 ?c36 ?k36 ?a37 ?l37 ?c37 ?k37 ?a38 ?l38 ?c38 ?k38 ?a39 ?l39 ?c39 ?k39 ?z_all ?z_any ?z_bool ?z_enumerate ?z_int ?z_isinstance ?z_len ?z_list ?z_range ?z_repr ?z_sorted ?z_tuple ?z_zip ?n_MOST_PLACES ?n_PRIMES_END ?aC_NotUsable ?xL_NotUsable ?rv_NotUsable ?sa_NotUsable ?ga_NotUsable ?gg_NotUsable ?n1_NotUsable ?n2_NotUsable ?iC_NotUsable ?tI_NotUsable ?kC_NotUsable ?eC_NotUsable ?tC_NotUsable ?hC_NotUsable ?cl_NotUsable ?mO_NotUsable ?lI_NotUsable ?cI_NotUsable ?kI_NotUsable ?hnX ?htX
    (case a0 => first | k_is | rfl | kernel_rfl)
    (case l0 => first | k_is | rfl | kernel_rfl)
    (case c0 => first | k_is | rfl | kernel_rfl)
    (case k0 => first | k_is | rfl | kernel_rfl)
    (case a1 => first | k_is | rfl | kernel_rfl)
    (case l1 => first | k_is | rfl | kernel_rfl)
    (case c1 => first | k_is | rfl | kernel_rfl)
    (case k1 => first | k_is | rfl | kernel_rfl)
    (case a2 => first | k_is | rfl | kernel_rfl)
    (case l2 => first | k_is | rfl | kernel_rfl)
    (case c2 => first | k_is | rfl | kernel_rfl)
    (case k2 => first | k_is | rfl | kernel_rfl)
    (case a3 => first | k_is | rfl | kernel_rfl)
    (case l3 => first | k_is | rfl | kernel_rfl)
    (case c3 => first | k_is | rfl | kernel_rfl)
    (case k3 => first | k_is | rfl | kernel_rfl)
    (case a4 => first | k_is | rfl | kernel_rfl)
    (case l4 => first | k_is | rfl | kernel_rfl)
    (case c4 => first | k_is | rfl | kernel_rfl)
    (case k4 => first | k_is | rfl | kernel_rfl)
    (case a5 => first | k_is | rfl | kernel_rfl)
    (case l5 => first | k_is | rfl | kernel_rfl)
    (case c5 => first | k_is | rfl | kernel_rfl)
    (case k5 => first | k_is | rfl | kernel_rfl)
    (case a6 => first | k_is | rfl | kernel_rfl)
    (case l6 => first | k_is | rfl | kernel_rfl)
    (case c6 => first | k_is | rfl | kernel_rfl)
    (case k6 => first | k_is | rfl | kernel_rfl)
    (case a7 => first | k_is | rfl | kernel_rfl)
    (case l7 => first | k_is | rfl | kernel_rfl)
    (case c7 => first | k_is | rfl | kernel_rfl)
    (case k7 => first | k_is | rfl | kernel_rfl)
    (case a8 => first | k_is | rfl | kernel_rfl)
    (case l8 => first | k_is | rfl | kernel_rfl)
    (case c8 => first | k_is | rfl | kernel_rfl)
    (case k8 => first | k_is | rfl | kernel_rfl)
    (case a9 => first | k_is | rfl | kernel_rfl)
    (case l9 => first | k_is | rfl | kernel_rfl)
    (case c9 => first | k_is | rfl | kernel_rfl)
    (case k9 => first | k_is | rfl | kernel_rfl)
    (case a10 => first | k_is | rfl | kernel_rfl)
    (case l10 => first | k_is | rfl | kernel_rfl)
    (case c10 => first | k_is | rfl | kernel_rfl)
    (case k10 => first | k_is | rfl | kernel_rfl)
    (case a11 => first | k_is | rfl | kernel_rfl)
    (case l11 => first | k_is | rfl | kernel_rfl)
    (case c11 => first | k_is | rfl | kernel_rfl)
    (case k11 => first | k_is | rfl | kernel_rfl)
    (case a12 => first | k_is | rfl | kernel_rfl)
    (case l12 => first | k_is | rfl | kernel_rfl)
    (case c12 => first | k_is | rfl | kernel_rfl)
    (case k12 => first | k_is | rfl | kernel_rfl)
    (case a13 => first | k_is | rfl | kernel_rfl)
    (case l13 => first | k_is | rfl | kernel_rfl)
    (case c13 => first | k_is | rfl | kernel_rfl)
    (case k13 => first | k_is | rfl | kernel_rfl)
    (case a14 => first | k_is | rfl | kernel_rfl)
    (case l14 => first | k_is | rfl | kernel_rfl)
    (case c14 => first | k_is | rfl | kernel_rfl)
    (case k14 => first | k_is | rfl | kernel_rfl)
    (case a15 => first | k_is | rfl | kernel_rfl)
    (case l15 => first | k_is | rfl | kernel_rfl)
    (case c15 => first | k_is | rfl | kernel_rfl)
    (case k15 => first | k_is | rfl | kernel_rfl)
    (case a16 => first | k_is | rfl | kernel_rfl)
    (case l16 => first | k_is | rfl | kernel_rfl)
    (case c16 => first | k_is | rfl | kernel_rfl)
    (case k16 => first | k_is | rfl | kernel_rfl)
    (case a17 => first | k_is | rfl | kernel_rfl)
    (case l17 => first | k_is | rfl | kernel_rfl)
    (case c17 => first | k_is | rfl | kernel_rfl)
    (case k17 => first | k_is | rfl | kernel_rfl)
    (case a18 => first | k_is | rfl | kernel_rfl)
    (case l18 => first | k_is | rfl | kernel_rfl)
    (case c18 => first | k_is | rfl | kernel_rfl)
    (case k18 => first | k_is | rfl | kernel_rfl)
    (case a19 => first | k_is | rfl | kernel_rfl)
    (case l19 => first | k_is | rfl | kernel_rfl)
    (case c19 => first | k_is | rfl | kernel_rfl)
    (case k19 => first | k_is | rfl | kernel_rfl)
    (case a20 => first | k_is | rfl | kernel_rfl)
    (case l20 => first | k_is | rfl | kernel_rfl)
    (case c20 => first | k_is | rfl | kernel_rfl)
    (case k20 => first | k_is | rfl | kernel_rfl)
    (case a21 => first | k_is | rfl | kernel_rfl)
    (case l21 => first | k_is | rfl | kernel_rfl)
    (case c21 => first | k_is | rfl | kernel_rfl)
    (case k21 => first | k_is | rfl | kernel_rfl)
    (case a22 => first | k_is | rfl | kernel_rfl)
    (case l22 => first | k_is | rfl | kernel_rfl)
    (case c22 => first | k_is | rfl | kernel_rfl)
    (case k22 => first | k_is | rfl | kernel_rfl)
    (case a23 => first | k_is | rfl | kernel_rfl)
    (case l23 => first | k_is | rfl | kernel_rfl)
    (case c23 => first | k_is | rfl | kernel_rfl)
    (case k23 => first | k_is | rfl | kernel_rfl)
    (case a24 => first | k_is | rfl | kernel_rfl)
    (case l24 => first | k_is | rfl | kernel_rfl)
    (case c24 => first | k_is | rfl | kernel_rfl)
    (case k24 => first | k_is | rfl | kernel_rfl)
    (case a25 => first | k_is | rfl | kernel_rfl)
    (case l25 => first | k_is | rfl | kernel_rfl)
    (case c25 => first | k_is | rfl | kernel_rfl)
    (case k25 => first | k_is | rfl | kernel_rfl)
    (case a26 => first | k_is | rfl | kernel_rfl)
    (case l26 => first | k_is | rfl | kernel_rfl)
    (case c26 => first | k_is | rfl | kernel_rfl)
    (case k26 => first | k_is | rfl | kernel_rfl)
    (case a27 => first | k_is | rfl | kernel_rfl)
    (case l27 => first | k_is | rfl | kernel_rfl)
    (case c27 => first | k_is | rfl | kernel_rfl)
    (case k27 => first | k_is | rfl | kernel_rfl)
    (case a28 => first | k_is | rfl | kernel_rfl)
    (case l28 => first | k_is | rfl | kernel_rfl)
    (case c28 => first | k_is | rfl | kernel_rfl)
    (case k28 => first | k_is | rfl | kernel_rfl)
    (case a29 => first | k_is | rfl | kernel_rfl)
    (case l29 => first | k_is | rfl | kernel_rfl)
    (case c29 => first | k_is | rfl | kernel_rfl)
    (case k29 => first | k_is | rfl | kernel_rfl)
    (case a30 => first | k_is | rfl | kernel_rfl)
    (case l30 => first | k_is | rfl | kernel_rfl)
    (case c30 => first | k_is | rfl | kernel_rfl)
    (case k30 => first | k_is | rfl | kernel_rfl)
    (case a31 => first | k_is | rfl | kernel_rfl)
    (case l31 => first | k_is | rfl | kernel_rfl)
    (case c31 => first | k_is | rfl | kernel_rfl)
    (case k31 => first | k_is | rfl | kernel_rfl)
    (case a32 => first | k_is | rfl | kernel_rfl)
    (case l32 => first | k_is | rfl | kernel_rfl)
    (case c32 => first | k_is | rfl | kernel_rfl)
    (case k32 => first | k_is | rfl | kernel_rfl)
    (case a33 => first | k_is | rfl | kernel_rfl)
    (case l33 => first | k_is | rfl | kernel_rfl)
    (case c33 => first | k_is | rfl | kernel_rfl)
    (case k33 => first | k_is | rfl | kernel_rfl)
    (case a34 => first | k_is | rfl | kernel_rfl)
    (case l34 => first | k_is | rfl | kernel_rfl)
    (case c34 => first | k_is | rfl | kernel_rfl)
    (case k34 => first | k_is | rfl | kernel_rfl)
    (case a35 => first | k_is | rfl | kernel_rfl)
    (case l35 => first | k_is | rfl | kernel_rfl)
    (case c35 => first | k_is | rfl | kernel_rfl)
    (case k35 => first | k_is | rfl | kernel_rfl)
    (case a36 => first | k_is | rfl | kernel_rfl)
    (case l36 => first | k_is | rfl | kernel_rfl)
    (case c36 => first | k_is | rfl | kernel_rfl)
    (case k36 => first | k_is | rfl | kernel_rfl)
    (case a37 => first | k_is | rfl | kernel_rfl)
    (case l37 => first | k_is | rfl | kernel_rfl)
    (case c37 => first | k_is | rfl | kernel_rfl)
    (case k37 => first | k_is | rfl | kernel_rfl)
    (case a38 => first | k_is | rfl | kernel_rfl)
    (case l38 => first | k_is | rfl | kernel_rfl)
    (case c38 => first | k_is | rfl | kernel_rfl)
    (case k38 => first | k_is | rfl | kernel_rfl)
    (case a39 => first | k_is | rfl | kernel_rfl)
    (case l39 => first | k_is | rfl | kernel_rfl)
    (case c39 => first | k_is | rfl | kernel_rfl)
    (case k39 => first | k_is | rfl | kernel_rfl)
    (case z_all => first | k_is | rfl | kernel_rfl)
    (case z_any => first | k_is | rfl | kernel_rfl)
    (case z_bool => first | k_is | rfl | kernel_rfl)
    (case z_enumerate => first | k_is | rfl | kernel_rfl)
    (case z_int => first | k_is | rfl | kernel_rfl)
    (case z_isinstance => first | k_is | rfl | kernel_rfl)
    (case z_len => first | k_is | rfl | kernel_rfl)
    (case z_list => first | k_is | rfl | kernel_rfl)
    (case z_range => first | k_is | rfl | kernel_rfl)
    (case z_repr => first | k_is | rfl | kernel_rfl)
    (case z_sorted => first | k_is | rfl | kernel_rfl)
    (case z_tuple => first | k_is | rfl | kernel_rfl)
    (case z_zip => first | k_is | rfl | kernel_rfl)
    (case n_MOST_PLACES => first | k_is | rfl | kernel_rfl)
    (case n_PRIMES_END => first | k_is | rfl | kernel_rfl)
    (case aC_NotUsable => first | k_is | rfl | kernel_rfl)
    (case xL_NotUsable => first | k_is | rfl | kernel_rfl)
    (case rv_NotUsable => first | rfl | decide +kernel | k_is)
    (case sa_NotUsable => first | k_is | rfl | kernel_rfl)
    (case ga_NotUsable => first | k_is | rfl | kernel_rfl)
    (case gg_NotUsable => first | k_is | rfl | kernel_rfl)
    (case n1_NotUsable => first | k_is | rfl | kernel_rfl)
    (case n2_NotUsable => first | k_is | rfl | kernel_rfl)
    (case iC_NotUsable => first | k_is | rfl | kernel_rfl)
    (case tI_NotUsable => first | k_is | rfl | kernel_rfl)
    (case kC_NotUsable => first | k_is | rfl | kernel_rfl)
    (case eC_NotUsable => first | k_is | rfl | kernel_rfl)
    (case tC_NotUsable => first | k_is | rfl | kernel_rfl)
    (case hC_NotUsable => first | k_is | rfl | kernel_rfl)
    (case cl_NotUsable => first | k_is | rfl | kernel_rfl)
    (case mO_NotUsable => first | k_is | rfl | kernel_rfl)
    (case lI_NotUsable => first | k_is | rfl | kernel_rfl)
    (case cI_NotUsable => first | k_is | rfl | kernel_rfl)
    (case kI_NotUsable => first | k_is | rfl | kernel_rfl)
    (case hnX => first | k_is | rfl | kernel_rfl)
    (case htX => first | k_is | rfl | kernel_rfl)


