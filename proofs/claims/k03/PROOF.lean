import PyProof.Rows.All
import Wide.All
import OpenK.AllK
import Wide.FinOn
import HandS.ForMost
import HandS.Wide
import HandS.TupAny
import HandS.Flow
import HandS.Style
import HandS.NoneIn
import KE.GoesMore
import KE.GoesEnum
import HandS.Zip
import KE.GoesZip
import HandS.Rev
import HandS.Codes
import HandS.Property
import HandS.Words
import HandS.MakeKwOnly
import HandS.Defaults
import HandS.Star
import HandS.SlotsOwn
import HandS.IsInst
import PyProof.InstNe
import HandS.More
import HandS.ClsMeth
import HandS.Conv
import HandS.SortInts
import HandS.Dict
import HandS.Sort
import HandS.FStr
import HandS.MakeKw
import HandS.ForExc
import HandS.ExcInit
import HandS.ExcBuiltin
import HandS.TryOnly
import KE.KDictPairs
import KE.KExcInit
import KE.KExcIs
import HandS.ExcIs
import HandS.ExcField
import HandS.WideBits
import KE.KDictZip
import HandS.TupMul
import HandS.Ends
import PySem.Challenge.RW_shownrun_k03_stretched_and_back
set_option Elab.async false
set_option linter.all false
set_option maxRecDepth 100000
set_option maxHeartbeats 4000000
/-! the data layer: what a value is worth as data, whatever stands at which address -/
namespace DL
open PySem L2
/-- data: a value with all that stands behind it -/
inductive D where
  | non | bl (b : Bool) | int (i : Int) | str (x : Str) | lst (xs : List D) | tup (xs : List D) | ins (C : Addr) (ns : List Str) (ds : List D) | raw (v : V)
/-- what is owned: a list, an object; nobody else has its address -/
inductive O where
  | lst (ds : List D) | ins (C : Addr) (ns : List Str) (ds : List D)
def O.data : O → D
  | .lst ds => .lst ds
  | .ins C ns ds => .ins C ns ds
/-- a slot: nothing known, shared data (never changed any more), an own thing, an own thing of the caller's -/
inductive Sl where
  | no | sh (d : D) | ow (o : O) | bx (n : Nat) (o : O)
abbrev G := List Sl
/-- a result: shared data or an own new thing -/
inductive R where
  | sh (d : D) | ow (o : O)
def R.data : R → D
  | .sh d => d
  | .ow o => o.data

/-- a class of the program whose objects have these attributes -/
def InsOk (K : PySem.W.Frag) (C : Addr) (ns : List Str) : Prop := Cls K C ∧ ∀ f ∈ ns, NoAttr K C f
mutual
def Rep (K : PySem.W.Frag) (S : Hp) : D → V → Prop
  | .non, v => v = .non
  | .bl b, v => v = .bl b
  | .int i, v => v = .int i
  | .str x, v => v = .str x
  | .raw u, v => v = u
  | .lst ds, v => ∃ a vs, v = .ref a ∧ Rd S a (.lst vs) ∧ Reps K S ds vs
  | .tup ds, v => ∃ a vs, v = .ref a ∧ SqT K S a vs ∧ Reps K S ds vs
  | .ins C ns ds, v => ∃ a dx vs, v = .ref a ∧ S a = some (.ins C dx (ns.zip vs)) ∧ ns.length = ds.length ∧ InsOk K C ns ∧ Reps K S ds vs
def Reps (K : PySem.W.Frag) (S : Hp) : List D → List V → Prop
  | [], vs => vs = []
  | d :: ds, vs => ∃ v r, vs = v :: r ∧ Rep K S d v ∧ Reps K S ds r
end

/-- all that stands in the one stands in the other -/
def Le (S S' : Hp) : Prop := ∀ a o, S a = some o → S' a = some o
theorem Le.rfl {S : Hp} : Le S S := fun _ _ h => h
theorem Le.trans {S S' S'' : Hp} (x : Le S S') (y : Le S' S'') : Le S S'' := fun a o h => y a o (x a o h)
theorem Le.up {S : Hp} {a : Addr} {o : HO} (h : S a = none) : Le S (upd S a o) := fun b u e => by
  rw [upd_ne (ne_of_none e h)]
  exact e
theorem Rd.le {S S' : Hp} {a : Addr} {u : HO} (l : Le S S') (h : Rd S a u) : Rd S' a u := by
  rcases h with h | ⟨o, h⟩
  · exact .inl (l _ _ h)
  · exact .inr ⟨o, l _ _ h⟩
theorem SqL.le {K : PySem.W.Frag} {S S' : Hp} {a : Addr} {vs : List V} (l : Le S S') (h : SqL K S a vs) : SqL K S' a vs := by
  rcases h with h | h
  · exact .inl (Rd.le l h)
  · exact .inr h
theorem SqT.le {K : PySem.W.Frag} {S S' : Hp} {a : Addr} {vs : List V} (l : Le S S') (h : SqT K S a vs) : SqT K S' a vs := by
  rcases h with h | h
  · exact .inl (Rd.le l h)
  · exact .inr h
mutual
theorem Rep.le {K : PySem.W.Frag} {S S' : Hp} (l : Le S S') : ∀ (d : D) (v : V), Rep K S d v → Rep K S' d v
  | .non, v, h => by unfold Rep at h ⊢; exact h
  | .bl b, v, h => by unfold Rep at h ⊢; exact h
  | .int i, v, h => by unfold Rep at h ⊢; exact h
  | .str x, v, h => by unfold Rep at h ⊢; exact h
  | .raw u, v, h => by unfold Rep at h ⊢; exact h
  | .lst ds, v, h => by
    unfold Rep at h ⊢
    obtain ⟨a, vs, e, q, r⟩ := h
    exact ⟨a, vs, e, Rd.le l q, Reps.le l ds vs r⟩
  | .tup ds, v, h => by
    unfold Rep at h ⊢
    obtain ⟨a, vs, e, q, r⟩ := h
    exact ⟨a, vs, e, SqT.le l q, Reps.le l ds vs r⟩
  | .ins C ns ds, v, h => by
    unfold Rep at h ⊢
    obtain ⟨a, dx, vs, e, q, n, io, r⟩ := h
    exact ⟨a, dx, vs, e, l _ _ q, n, io, Reps.le l ds vs r⟩
theorem Reps.le {K : PySem.W.Frag} {S S' : Hp} (l : Le S S') : ∀ (ds : List D) (vs : List V), Reps K S ds vs → Reps K S' ds vs
  | [], vs, h => by unfold Reps at h ⊢; exact h
  | d :: ds, vs, h => by
    unfold Reps at h ⊢
    obtain ⟨v, r, e, h1, h2⟩ := h
    exact ⟨v, r, e, Rep.le l d v h1, Reps.le l ds r h2⟩
end
section
variable {K : PySem.W.Frag} {S : Hp}
theorem Reps.nil : Reps K S [] [] := by unfold Reps; rfl
theorem Reps.cons {d : D} {v : V} {ds : List D} {vs : List V} (h : Rep K S d v) (t : Reps K S ds vs) : Reps K S (d :: ds) (v :: vs) := by
  unfold Reps
  exact ⟨v, vs, rfl, h, t⟩
theorem Reps.uncons {d : D} {ds : List D} {vs : List V} (h : Reps K S (d :: ds) vs) : ∃ v r, vs = v :: r ∧ Rep K S d v ∧ Reps K S ds r := by
  unfold Reps at h
  exact h
theorem Reps.len : ∀ {ds : List D} {vs : List V}, Reps K S ds vs → vs.length = ds.length
  | [], vs, h => by unfold Reps at h; subst h; rfl
  | d :: ds, vs, h => by
    obtain ⟨v, r, rfl, _, t⟩ := h.uncons
    simp [t.len]
theorem Reps.get : ∀ {ds : List D} {vs : List V} {i : Nat} {d : D}, Reps K S ds vs → ds[i]? = some d → ∃ v, vs[i]? = some v ∧ Rep K S d v
  | [], _, _, _, _, e => by simp at e
  | d :: ds, vs, i, x, h, e => by
    obtain ⟨v, r, rfl, h1, t⟩ := h.uncons
    cases i with
    | zero => simp at e; subst e; exact ⟨v, by simp, h1⟩
    | succ i =>
      obtain ⟨u, q, s⟩ := t.get (i := i) (d := x) (by simpa using e)
      exact ⟨u, by simpa using q, s⟩
theorem Reps.getV : ∀ {ds : List D} {vs : List V} {i : Nat} {v : V}, Reps K S ds vs → vs[i]? = some v → ∃ d, ds[i]? = some d ∧ Rep K S d v
  | [], vs, _, _, h, e => by unfold Reps at h; subst h; simp at e
  | d :: ds, vs, i, x, h, e => by
    obtain ⟨v, r, rfl, h1, t⟩ := h.uncons
    cases i with
    | zero => simp at e; subst e; exact ⟨d, by simp, h1⟩
    | succ i =>
      obtain ⟨u, q, s⟩ := t.getV (i := i) (v := x) (by simpa using e)
      exact ⟨u, by simpa using q, s⟩
theorem Reps.append : ∀ {ds es : List D} {vs ws : List V}, Reps K S ds vs → Reps K S es ws → Reps K S (ds ++ es) (vs ++ ws)
  | [], _, vs, _, h, t => by unfold Reps at h; subst h; exact t
  | d :: ds, es, vs, ws, h, t => by
    obtain ⟨v, r, rfl, h1, q⟩ := h.uncons
    exact .cons h1 (q.append t)
theorem Reps.take : ∀ {ds : List D} {vs : List V} (n : Nat), Reps K S ds vs → Reps K S (ds.take n) (vs.take n)
  | [], vs, n, h => by unfold Reps at h; subst h; simp; exact .nil
  | d :: ds, vs, 0, h => by simp; exact .nil
  | d :: ds, vs, n + 1, h => by
    obtain ⟨v, r, rfl, h1, q⟩ := h.uncons
    exact .cons h1 (q.take n)
theorem Reps.drop : ∀ {ds : List D} {vs : List V} (n : Nat), Reps K S ds vs → Reps K S (ds.drop n) (vs.drop n)
  | [], vs, n, h => by unfold Reps at h; subst h; simp; exact .nil
  | d :: ds, vs, 0, h => by simpa using h
  | d :: ds, vs, n + 1, h => by
    obtain ⟨v, r, rfl, h1, q⟩ := h.uncons
    exact q.drop n
theorem Reps.set : ∀ {ds : List D} {vs : List V} {d : D} {v : V} (n : Nat), Reps K S ds vs → Rep K S d v → Reps K S (ds.set n d) (vs.set n v)
  | [], vs, _, _, n, h, _ => by unfold Reps at h; subst h; simp; exact .nil
  | d :: ds, vs, x, y, 0, h, k => by
    obtain ⟨v, r, rfl, h1, q⟩ := h.uncons
    exact .cons k q
  | d :: ds, vs, x, y, n + 1, h, k => by
    obtain ⟨v, r, rfl, h1, q⟩ := h.uncons
    exact .cons h1 (q.set n k)
theorem Reps.reverse : ∀ {ds : List D} {vs : List V}, Reps K S ds vs → Reps K S ds.reverse vs.reverse
  | [], vs, h => by unfold Reps at h; subst h; exact .nil
  | d :: ds, vs, h => by
    obtain ⟨v, r, rfl, h1, q⟩ := h.uncons
    rw [List.reverse_cons, List.reverse_cons]
    exact q.reverse.append (.cons h1 .nil)
theorem Reps.replicate {d : D} {v : V} (h : Rep K S d v) : ∀ n, Reps K S (List.replicate n d) (List.replicate n v)
  | 0 => .nil
  | n + 1 => by
    rw [List.replicate_succ, List.replicate_succ]
    exact .cons h (Reps.replicate h n)
theorem Reps.ints : ∀ {l : List Int} {vs : List V}, Reps K S (l.map .int) vs → vs = l.map V.int
  | [], vs, h => by unfold Reps at h; exact h
  | i :: l, vs, h => by
    obtain ⟨v, r, rfl, h1, q⟩ := Reps.uncons (show Reps K S (.int i :: l.map .int) vs from h)
    unfold Rep at h1
    rw [h1, q.ints]
    rfl
theorem Reps.ofInts : ∀ (l : List Int), Reps K S (l.map .int) (l.map V.int)
  | [] => .nil
  | i :: l => .cons (by unfold Rep; rfl) (Reps.ofInts l)
theorem Rep.int {i : Int} {v : V} (h : Rep K S (.int i) v) : v = .int i := by unfold Rep at h; exact h
theorem Rep.bl {i : Bool} {v : V} (h : Rep K S (.bl i) v) : v = .bl i := by unfold Rep at h; exact h
theorem Rep.str {i : Str} {v : V} (h : Rep K S (.str i) v) : v = .str i := by unfold Rep at h; exact h
theorem Rep.non {v : V} (h : Rep K S .non v) : v = .non := by unfold Rep at h; exact h
theorem Rep.raw {u v : V} (h : Rep K S (.raw u) v) : v = u := by unfold Rep at h; exact h
theorem Rep.lst {ds : List D} {v : V} (h : Rep K S (.lst ds) v) : ∃ a vs, v = .ref a ∧ Rd S a (.lst vs) ∧ Reps K S ds vs := by unfold Rep at h; exact h
theorem Rep.tup {ds : List D} {v : V} (h : Rep K S (.tup ds) v) : ∃ a vs, v = .ref a ∧ SqT K S a vs ∧ Reps K S ds vs := by unfold Rep at h; exact h
theorem Rep.ins {C : Addr} {ns : List Str} {ds : List D} {v : V} (h : Rep K S (.ins C ns ds) v) : ∃ a dx vs, v = .ref a ∧ S a = some (.ins C dx (ns.zip vs)) ∧ ns.length = ds.length ∧ InsOk K C ns ∧ Reps K S ds vs := by unfold Rep at h; exact h
theorem Rep.ofInt (i : Int) : Rep K S (.int i) (.int i) := by unfold Rep; rfl
theorem Rep.ofBl (i : Bool) : Rep K S (.bl i) (.bl i) := by unfold Rep; rfl
theorem Rep.ofStr (i : Str) : Rep K S (.str i) (.str i) := by unfold Rep; rfl
theorem Rep.ofNon : Rep K S .non .non := by unfold Rep; rfl
theorem Rep.ofRaw (v : V) : Rep K S (.raw v) v := by unfold Rep; rfl
theorem Rep.ofLst {a : Addr} {ds : List D} {vs : List V} (h : S a = some (.lst vs)) (r : Reps K S ds vs) : Rep K S (.lst ds) (.ref a) := by unfold Rep; exact ⟨a, vs, rfl, .inl h, r⟩
theorem Rep.ofTup {a : Addr} {ds : List D} {vs : List V} (h : S a = some (.tup vs)) (r : Reps K S ds vs) : Rep K S (.tup ds) (.ref a) := by unfold Rep; exact ⟨a, vs, rfl, SqT.of h, r⟩
end

/-- what stands at an own thing's address -/
def OOk (K : PySem.W.Frag) (S H : Hp) (a : Addr) : O → Prop
  | .lst ds => ∃ vs, H a = some (.lst vs) ∧ Reps K S ds vs
  | .ins C ns ds => ∃ dx vs, H a = some (.ins C dx (ns.zip vs)) ∧ ns.length = ds.length ∧ InsOk K C ns ∧ Reps K S ds vs
theorem OOk.le {K : PySem.W.Frag} {S S' H : Hp} {a : Addr} {o : O} (l : Le S S') (h : OOk K S H a o) : OOk K S' H a o := by
  cases o with
  | lst ds => obtain ⟨vs, e, r⟩ := h; exact ⟨vs, e, Reps.le l _ _ r⟩
  | ins C ns ds => obtain ⟨dx, vs, e, n, io, r⟩ := h; exact ⟨dx, vs, e, n, io, Reps.le l _ _ r⟩
theorem OOk.at {K : PySem.W.Frag} {S H H' : Hp} {a : Addr} {o : O} (h : OOk K S H a o) (e : H' a = H a) : OOk K S H' a o := by
  cases o with
  | lst ds => obtain ⟨vs, q, r⟩ := h; exact ⟨vs, e.trans q, r⟩
  | ins C ns ds => obtain ⟨dx, vs, q, n, io, r⟩ := h; exact ⟨dx, vs, e.trans q, n, io, r⟩
theorem OOk.some {K : PySem.W.Frag} {S H : Hp} {a : Addr} {o : O} (h : OOk K S H a o) : ∃ u, H a = some u := by
  cases o with
  | lst ds => obtain ⟨vs, q, r⟩ := h; exact ⟨_, q⟩
  | ins C ns ds => obtain ⟨dx, vs, q, n, io, r⟩ := h; exact ⟨_, q⟩
/-- frozen: it is shared from now on -/
theorem OOk.rep {K : PySem.W.Frag} {S H : Hp} {a : Addr} {o : O} {u : HO} (n : S a = none) (h : OOk K S H a o) (e : H a = Option.some u) : Rep K (upd S a u) o.data (.ref a) := by
  cases o with
  | lst ds =>
    obtain ⟨vs, q, r⟩ := h
    rw [q] at e
    cases e
    exact Rep.ofLst upd_same (Reps.le (Le.up n) _ _ r)
  | ins C ns ds =>
    obtain ⟨dx, vs, q, z, io, r⟩ := h
    rw [q] at e
    cases e
    show Rep K _ (.ins C ns ds) _
    unfold Rep
    exact ⟨a, dx, vs, rfl, upd_same, z, io, Reps.le (Le.up n) _ _ r⟩

/-- where a def began: its heap, what was shared then, the callers' own things that it may change -/
structure Bs where
  H0 : Hp
  S0 : Hp
  O0 : List Addr
def SlOk (K : PySem.W.Frag) (b : Bs) (S H : Hp) (x : Option (Option V)) : Sl → Prop
  | .no => True
  | .sh d => ∃ v, x = some (some v) ∧ Rep K S d v
  | .ow o => ∃ a, x = some (some (.ref a)) ∧ S a = none ∧ b.H0 a = none ∧ OOk K S H a o
  | .bx n o => ∃ a, x = some (some (.ref a)) ∧ S a = none ∧ b.O0[n]? = some a ∧ OOk K S H a o
def Sl.own : Sl → Bool
  | .ow _ => true
  | .bx _ _ => true
  | _ => false
/-- slot i owns what stands at a -/
def Own (g : G) (σ : St) (i : Nat) (a : Addr) : Prop := ∃ s : Sl, g[i]? = some s ∧ s.own = true ∧ σ[i]? = some (some (.ref a))
structure Rel (K : PySem.W.Frag) (b : Bs) (g : G) (σ : St) (S H : Hp) : Prop where
  len : g.length = σ.length
  le : Le S H
  dom : ∀ a o, b.H0 a = some o → ∃ o', H a = some o'
  keep : ∀ a o, b.H0 a = some o → a ∉ b.O0 → H a = some o
  grow : ∀ a o, S a = some o → b.S0 a = some o ∨ b.H0 a = none
  base : Le b.S0 S
  slot : ∀ (i : Nat) (s : Sl), g[i]? = some s → SlOk K b S H (σ[i]?) s
  dis : ∀ i j a, Own g σ i a → Own g σ j a → i = j
/-- the own things' addresses -/
def Ows (g : G) (σ : St) (a : Addr) : Prop := ∃ i, Own g σ i a
/-- what may happen meanwhile: more is shared, only own things change -/
structure ExtH (O : Addr → Prop) (S H : Hp) (O' : Addr → Prop) (S' H' : Hp) : Prop where
  le : Le S S'
  kp : ∀ a o, H a = some o → ¬ O a → H' a = some o
  dom : ∀ a o, H a = some o → ∃ o', H' a = some o'
  nw : ∀ a o, S' a = some o → S a = some o ∨ H a = none ∨ O a
  ow : ∀ a, O' a → O a
abbrev Ext (g : G) (σ : St) (S H : Hp) (g' : G) (S' H' : Hp) : Prop := ExtH (Ows g σ) S H (Ows g' σ) S' H'
theorem ExtH.rfl {O : Addr → Prop} {S H : Hp} : ExtH O S H O S H := ⟨Le.rfl, fun _ _ h _ => h, fun _ o h => ⟨o, h⟩, fun _ _ h => .inl h, fun _ h => h⟩
theorem ExtH.none {O O' : Addr → Prop} {S H S' H' : Hp} {a : Addr} (x : ExtH O S H O' S' H') (h : H' a = none) : H a = none := by
  cases e : H a with
  | none => rfl
  | some u =>
    obtain ⟨o1, h1⟩ := x.dom a u e
    rw [h] at h1; cases h1
theorem ExtH.trans {O O1 O2 : Addr → Prop} {S H S1 H1 S2 H2 : Hp} (x : ExtH O S H O1 S1 H1) (y : ExtH O1 S1 H1 O2 S2 H2) : ExtH O S H O2 S2 H2 where
  le := x.le.trans y.le
  kp := fun a o h n => y.kp a o (x.kp a o h n) fun q => n (x.ow a q)
  dom := fun a o h => by
    obtain ⟨o1, h1⟩ := x.dom a o h
    exact y.dom a o1 h1
  nw := fun a o h => by
    rcases y.nw a o h with h | h | h
    · exact x.nw a o h
    · exact .inr (.inl (x.none h))
    · exact .inr (.inr (x.ow a h))
  ow := fun a h => x.ow a (y.ow a h)
theorem Ext.rfl {g : G} {σ : St} {S H : Hp} : Ext g σ S H g S H := ExtH.rfl
theorem Ext.trans {g g1 g2 : G} {σ : St} {S H S1 H1 S2 H2 : Hp} (x : Ext g σ S H g1 S1 H1) (y : Ext g1 σ S1 H1 g2 S2 H2) : Ext g σ S H g2 S2 H2 := ExtH.trans x y
/-- a result as a value (behind an expression that began at g0 and Hs) -/
def RRep (K : PySem.W.Frag) (b : Bs) (g0 : G) (Hs : Hp) (g : G) (σ : St) (S H : Hp) (v : V) : R → Prop
  | .sh d => Rep K S d v
  | .ow o => ∃ a, v = .ref a ∧ S a = none ∧ b.H0 a = none ∧ OOk K S H a o ∧ ¬ Ows g σ a ∧ (Hs a = none ∨ Ows g0 σ a)
end DL

set_option maxRecDepth 100000
set_option maxHeartbeats 4000000
namespace DL
open PySem L2
section
variable {K : PySem.W.Frag} {b : Bs} {g : G} {σ : St} {S H : Hp} {p a : Addr} {o : HO}
theorem SlOk.le {S' : Hp} {x : Option (Option V)} {s : Sl} (h : SlOk K b S H x s) (l : Le S S') (nn : ∀ a, s.own = true → x = some (some (.ref a)) → S' a = none) : SlOk K b S' H x s := by
  cases s with
  | no => trivial
  | sh d => obtain ⟨v, e, r⟩ := h; exact ⟨v, e, Rep.le l _ _ r⟩
  | ow o => obtain ⟨a, e, z, q, r⟩ := h; exact ⟨a, e, nn a rfl e, q, r.le l⟩
  | bx n o => obtain ⟨a, e, z, q, r⟩ := h; exact ⟨a, e, nn a rfl e, q, r.le l⟩
theorem SlOk.at {H' : Hp} {x : Option (Option V)} {s : Sl} (h : SlOk K b S H x s) (nn : ∀ a, s.own = true → x = some (some (.ref a)) → H' a = H a) : SlOk K b S H' x s := by
  cases s with
  | no => trivial
  | sh d => exact h
  | ow o => obtain ⟨a, e, z, q, r⟩ := h; exact ⟨a, e, z, q, r.at (nn a rfl e)⟩
  | bx n o => obtain ⟨a, e, z, q, r⟩ := h; exact ⟨a, e, z, q, r.at (nn a rfl e)⟩
theorem Rel.ownS (R : Rel K b g σ S H) {i : Nat} (h : Own g σ i a) : S a = none ∧ ∃ o, H a = some o := by
  obtain ⟨s, e, w, x⟩ := h
  have q := R.slot i s e
  rw [x] at q
  cases s with
  | no => cases w
  | sh d => cases w
  | ow o => obtain ⟨a', e', z, _, r⟩ := q; cases e'; exact ⟨z, r.some⟩
  | bx n o => obtain ⟨a', e', z, _, r⟩ := q; cases e'; exact ⟨z, r.some⟩
theorem Rel.ownH (R : Rel K b g σ S H) {i : Nat} (h : Own g σ i a) : b.H0 a = none ∨ a ∈ b.O0 := by
  obtain ⟨s, e, w, x⟩ := h
  have q := R.slot i s e
  rw [x] at q
  cases s with
  | no => cases w
  | sh d => cases w
  | ow o => obtain ⟨a', e', _, z, r⟩ := q; cases e'; exact .inl z
  | bx n o => obtain ⟨a', e', _, z, r⟩ := q; cases e'; exact .inr (List.mem_of_getElem? z)
theorem Rel.S0 (R : Rel K b g σ S H) (h : H p = none) : S p = none := by
  cases e : S p with
  | none => rfl
  | some o => rw [R.le p o e] at h; cases h
theorem Rel.H00 (R : Rel K b g σ S H) (h : H p = none) : b.H0 p = none := by
  cases e : b.H0 p with
  | none => rfl
  | some o =>
    obtain ⟨o', q⟩ := R.dom p o e
    rw [q] at h; cases h
theorem Rel.notOwn (R : Rel K b g σ S H) (h : H p = none) : ¬ Ows g σ p := fun ⟨i, q⟩ => by
  obtain ⟨_, o, e⟩ := R.ownS q
  rw [h] at e; cases e
/-- a new thing, not shared yet -/
theorem Rel.newOw (R : Rel K b g σ S H) (h : H p = none) : Rel K b g σ S (upd H p o) where
  len := R.len
  le := R.le.trans (Le.up h)
  dom := fun a u e => by
    obtain ⟨o', q⟩ := R.dom a u e
    exact ⟨o', Le.up h _ _ q⟩
  keep := fun a u e n => Le.up h _ _ (R.keep a u e n)
  grow := R.grow
  base := R.base
  slot := fun i s e => (R.slot i s e).at fun a w x => by
    obtain ⟨_, u, q⟩ := R.ownS (i := i) ⟨s, e, w, x⟩
    rw [q]
    exact Le.up h _ _ q
  dis := R.dis
theorem Ext.newOw (h : H p = none) : Ext g σ S H g S (upd H p o) :=
  ⟨Le.rfl, fun _ _ e _ => Le.up h _ _ e, fun _ u e => ⟨u, Le.up h _ _ e⟩, fun _ _ e => .inl e, fun _ e => e⟩
/-- it is shared from now on -/
theorem Rel.freeze (R : Rel K b g σ S H) (h : H a = some o) (hs : S a = none) (h0 : b.H0 a = none) (n : ¬ Ows g σ a) : Rel K b g σ (upd S a o) H where
  len := R.len
  le := fun c u e => by
    by_cases z : c = a
    · subst z; rw [upd_same] at e; cases e; exact h
    · rw [upd_ne z] at e; exact R.le c u e
  dom := R.dom
  keep := R.keep
  grow := fun c u e => by
    by_cases z : c = a
    · subst z; exact .inr h0
    · rw [upd_ne z] at e; exact R.grow c u e
  base := R.base.trans (Le.up hs)
  slot := fun i s e => (R.slot i s e).le (Le.up hs) fun c w x => by
    have ne : c ≠ a := by
      rintro rfl
      exact n ⟨i, s, e, w, x⟩
    rw [upd_ne ne]
    exact (R.ownS (i := i) ⟨s, e, w, x⟩).1
  dis := R.dis
theorem Ext.freeze (hs : S a = none) (h : H a = none ∨ Ows g σ a) : Ext g σ S H g (upd S a o) H :=
  ⟨Le.up hs, fun _ _ e _ => e, fun _ u e => ⟨u, e⟩, fun c u e => by
    by_cases z : c = a
    · subst z
      rcases h with h | h
      · exact .inr (.inl h)
      · exact .inr (.inr h)
    · rw [upd_ne z] at e; exact .inl e, fun _ e => e⟩
/-- a new thing, shared at once -/
theorem Rel.newSh (R : Rel K b g σ S H) (h : H p = none) : Rel K b g σ (upd S p o) (upd H p o) :=
  (R.newOw h).freeze upd_same (R.S0 h) (R.H00 h) (R.notOwn h)
theorem Ext.newSh (R : Rel K b g σ S H) (h : H p = none) : Ext g σ S H g (upd S p o) (upd H p o) :=
  ⟨Le.up (R.S0 h), fun _ _ e _ => Le.up h _ _ e, fun _ u e => ⟨u, Le.up h _ _ e⟩, fun c u e => by
    by_cases z : c = p
    · subst z; exact .inr (.inl h)
    · rw [upd_ne z] at e; exact .inl e, fun _ e => e⟩
theorem own_set {i j : Nat} {s : Sl} {x : Option V} (h : Own (g.set i s) (σ.set i x) j a) : (j = i ∧ s.own = true ∧ x = some (.ref a)) ∨ (j ≠ i ∧ Own g σ j a) := by
  obtain ⟨u, e, w, q⟩ := h
  by_cases z : j = i
  · subst z
    rw [List.getElem?_set] at e q
    simp at e q
    obtain ⟨_, rfl⟩ := e
    obtain ⟨_, rfl⟩ := q
    exact .inl ⟨rfl, w, rfl⟩
  · rw [List.getElem?_set_ne (Ne.symm z)] at e q
    exact .inr ⟨z, u, e, w, q⟩
theorem own_setg {i j : Nat} {s : Sl} (h : Own (g.set i s) σ j a) : (j = i ∧ s.own = true ∧ σ[i]? = some (some (.ref a))) ∨ (j ≠ i ∧ Own g σ j a) := by
  obtain ⟨u, e, w, q⟩ := h
  by_cases z : j = i
  · subst z
    rw [List.getElem?_set] at e
    simp at e
    obtain ⟨_, rfl⟩ := e
    exact .inl ⟨rfl, w, q⟩
  · rw [List.getElem?_set_ne (Ne.symm z)] at e
    exact .inr ⟨z, u, e, w, q⟩
/-- a slot gets a value -/
theorem Rel.set {i : Nat} {s : Sl} {v : V} (R : Rel K b g σ S H) (h : SlOk K b S H (some (some v)) s) (n : s.own = true → ∀ a, v = .ref a → ¬ Ows g σ a) : Rel K b (g.set i s) (σ.set i (some v)) S H where
  len := by rw [List.length_set, List.length_set, R.len]
  le := R.le
  dom := R.dom
  keep := R.keep
  grow := R.grow
  base := R.base
  slot := fun j u e => by
    by_cases z : j = i
    · subst z
      rw [List.getElem?_set] at e
      simp at e
      obtain ⟨l, rfl⟩ := e
      rw [List.getElem?_set]
      simp only [if_true]
      rw [if_pos (by rw [← R.len]; exact l)]
      exact h
    · rw [List.getElem?_set_ne (Ne.symm z)] at e ⊢
      exact R.slot j u e
  dis := fun j k c x y => by
    rcases own_set x with ⟨e1, w, e⟩ | ⟨z, x'⟩
    · rcases own_set y with ⟨e2, _, _⟩ | ⟨_, y'⟩
      · rw [e1, e2]
      · exact (n w c (Option.some.inj e) ⟨k, y'⟩).elim
    · rcases own_set y with ⟨e2, w, e⟩ | ⟨_, y'⟩
      · exact (n w c (Option.some.inj e) ⟨j, x'⟩).elim
      · exact R.dis j k c x' y'
theorem Rel.setSh {i : Nat} {v : V} {d : D} (R : Rel K b g σ S H) (h : Rep K S d v) : Rel K b (g.set i (.sh d)) (σ.set i (some v)) S H :=
  R.set ⟨v, rfl, h⟩ fun w => nomatch w
/-- what is known of a slot is forgotten -/
theorem Rel.forget {i : Nat} (R : Rel K b g σ S H) : Rel K b (g.set i .no) σ S H where
  len := by rw [List.length_set, R.len]
  le := R.le
  dom := R.dom
  keep := R.keep
  grow := R.grow
  base := R.base
  slot := fun j u e => by
    by_cases z : j = i
    · subst z
      rw [List.getElem?_set] at e
      simp at e
      obtain ⟨l, rfl⟩ := e
      trivial
    · rw [List.getElem?_set_ne (Ne.symm z)] at e
      exact R.slot j u e
  dis := fun j k c x y => by
    rcases own_setg x with ⟨_, w, _⟩ | ⟨_, x⟩
    · cases w
    · rcases own_setg y with ⟨_, w, _⟩ | ⟨_, y⟩
      · cases w
      · exact R.dis j k c x y
/-- only the slots of which something is known matter -/
theorem Rel.congr {σ' : St} (R : Rel K b g σ S H) (l : σ'.length = σ.length) (h : ∀ (i : Nat) (s : Sl), g[i]? = some s → s ≠ .no → σ'[i]? = σ[i]?) : Rel K b g σ' S H where
  len := R.len.trans l.symm
  le := R.le
  dom := R.dom
  keep := R.keep
  grow := R.grow
  base := R.base
  slot := fun i s e => by
    cases s with
    | no => trivial
    | sh d => rw [h i _ e (fun z => nomatch z)]; exact R.slot i _ e
    | ow d => rw [h i _ e (fun z => nomatch z)]; exact R.slot i _ e
    | bx n d => rw [h i _ e (fun z => nomatch z)]; exact R.slot i _ e
  dis := fun i j c x y => by
    have f : ∀ {i : Nat}, Own g σ' i c → Own g σ i c := fun {i} ⟨s, e, w, q⟩ => ⟨s, e, w, (h i s e (by rintro rfl; cases w)).symm.trans q⟩
    exact R.dis i j c (f x) (f y)
/-- an own slot is shared from now on -/
theorem Rel.freezeSlot {i : Nat} {u : O} (R : Rel K b g σ S H) (h : g[i]? = some (.ow u)) : ∃ a o, σ[i]? = some (some (.ref a)) ∧ H a = some o ∧ S a = none ∧ Rel K b (g.set i (.sh u.data)) σ (upd S a o) H ∧ Rep K (upd S a o) u.data (.ref a) ∧ Ext g σ S H (g.set i (.sh u.data)) (upd S a o) H := by
  obtain ⟨a, e, z, z0, r⟩ := R.slot i _ h
  obtain ⟨o, q⟩ := r.some
  have own : Own g σ i a := ⟨_, h, rfl, e⟩
  have rp := r.rep z q
  refine ⟨a, o, e, q, z, ?_, rp, ?_⟩
  · have n : ¬ Ows (g.set i .no) σ a := fun ⟨j, x⟩ => by
      rcases own_setg x with ⟨_, w, _⟩ | ⟨ne, x⟩
      · cases w
      · exact ne (R.dis _ _ _ x own)
    have R1 := (R.forget (i := i)).freeze q z z0 n
    have il : i < σ.length := by
      rcases Nat.lt_or_ge i σ.length with h | h
      · exact h
      · rw [List.getElem?_eq_none h] at e; cases e
    have R2 := R1.setSh (i := i) rp
    rw [List.set_set] at R2
    have es : σ.set i (some (V.ref a)) = σ := by
      apply List.ext_getElem?
      intro j
      rw [List.getElem?_set]
      split
      · rename_i hij; subst hij; exact e.symm
      · rfl
    rw [es] at R2
    exact R2
  · have x := Ext.freeze (g := g) (σ := σ) (S := S) (H := H) (o := o) z (.inr ⟨i, own⟩)
    refine ⟨x.le, x.kp, x.dom, x.nw, fun c ⟨j, y⟩ => ?_⟩
    rcases own_setg y with ⟨_, w, _⟩ | ⟨_, y⟩
    · cases w
    · exact ⟨j, y⟩
/-- an own thing is changed -/
theorem Rel.write {i : Nat} {s s' : Sl} (R : Rel K b g σ S H) (h : g[i]? = some s) (w : s.own = true) (e : σ[i]? = some (some (.ref a))) (h' : SlOk K b S (upd H a o) (σ[i]?) s') (w' : s'.own = true) : Rel K b (g.set i s') σ S (upd H a o) where
  len := by rw [List.length_set, R.len]
  le := fun c u q => by
    have ne : c ≠ a := by
      rintro rfl
      rw [(R.ownS (i := i) ⟨s, h, w, e⟩).1] at q; cases q
    rw [upd_ne ne]
    exact R.le c u q
  dom := fun c u q => by
    by_cases z : c = a
    · subst z; exact ⟨o, upd_same⟩
    · rw [upd_ne z]; exact R.dom c u q
  keep := fun c u q n => by
    have ne : c ≠ a := by
      rintro rfl
      rcases R.ownH (i := i) ⟨s, h, w, e⟩ with z | z
      · rw [q] at z; cases z
      · exact n z
    rw [upd_ne ne]
    exact R.keep c u q n
  grow := R.grow
  base := R.base
  slot := fun j u q => by
    by_cases z : j = i
    · subst z
      rw [List.getElem?_set] at q
      simp at q
      obtain ⟨l, rfl⟩ := q
      exact h'
    · rw [List.getElem?_set_ne (Ne.symm z)] at q
      refine (R.slot j u q).at fun c y x => ?_
      rw [upd_ne]
      rintro rfl
      exact z (R.dis _ _ _ ⟨u, q, y, x⟩ ⟨s, h, w, e⟩)
  dis := fun j k c x y => by
    have f : ∀ {j : Nat}, Own (g.set i s') σ j c → Own g σ j c := fun {j} x => by
      rcases own_setg x with ⟨rfl, _, q⟩ | ⟨_, x⟩
      · exact ⟨s, h, w, q⟩
      · exact x
    exact R.dis j k c (f x) (f y)
theorem Ext.write {i : Nat} {s s' : Sl} (h : g[i]? = some s) (w : s.own = true) (e : σ[i]? = some (some (.ref a))) : Ext g σ S H (g.set i s') S (upd H a o) :=
  ⟨Le.rfl, fun c u q n => by
    have ne : c ≠ a := by
      rintro rfl
      exact n ⟨i, s, h, w, e⟩
    rw [upd_ne ne]
    exact q, fun c u q => by
    by_cases z : c = a
    · subst z; exact ⟨o, upd_same⟩
    · rw [upd_ne z]; exact ⟨u, q⟩, fun _ _ q => .inl q, fun c ⟨j, x⟩ => by
    rcases own_setg x with ⟨rfl, _, q⟩ | ⟨_, x⟩
    · exact ⟨j, s, h, w, q⟩
    · exact ⟨j, x⟩⟩
end
end DL

set_option maxRecDepth 100000
set_option maxHeartbeats 4000000
namespace DL
open PySem L2
/-! ### the readings over data -/
abbrev DX := G → (R → G → Prop) → Prop
abbrev DE := G → (D → G → Prop) → Prop
abbrev DT := G → (Bool → G → Prop) → Prop
abbrev DA := G → (List D → G → Prop) → Prop
def SndX (K : PySem.W.Frag) (t : TE) (d : DX) : Prop := ∀ {b : Bs} {g : G} {σ : St} {S H : Hp} {Qd : R → G → Prop} {Q : VK}, Rel K b g σ S H → d g Qd →
  (∀ r g' v S' H', Qd r g' → Rel K b g' σ S' H' → Ext g σ S H g' S' H' → RRep K b g H g' σ S' H' v r → Q v H') → t σ H Q
def SndE (K : PySem.W.Frag) (t : TE) (d : DE) : Prop := ∀ {b : Bs} {g : G} {σ : St} {S H : Hp} {Qd : D → G → Prop} {Q : VK}, Rel K b g σ S H → d g Qd →
  (∀ r g' v S' H', Qd r g' → Rel K b g' σ S' H' → Ext g σ S H g' S' H' → Rep K S' r v → Q v H') → t σ H Q
def SndT (K : PySem.W.Frag) (t : TT) (d : DT) : Prop := ∀ {b : Bs} {g : G} {σ : St} {S H : Hp} {Qd : Bool → G → Prop} {Q : Bool → Hp → Prop}, Rel K b g σ S H → d g Qd →
  (∀ c g' S' H', Qd c g' → Rel K b g' σ S' H' → Ext g σ S H g' S' H' → Q c H') → t σ H Q
def SndA (K : PySem.W.Frag) (n : Nat) (t : TA) (d : DA) : Prop := ∀ {b : Bs} {g : G} {σ : St} {S H : Hp} {Qd : List D → G → Prop} {Q : List V → Hp → Prop}, Rel K b g σ S H → d g Qd →
  (∀ ds g' vs S' H', Qd ds g' → Rel K b g' σ S' H' → Ext g σ S H g' S' H' → Reps K S' ds vs → ds.length = n → Q vs H') → t σ H Q
/-- an expression: its value may be an own new thing; is shared; a test; several -/
def EX (X : Cx) (e : Expr) (d : DX) : Prop := ∃ t, PE X e t ∧ SndX X.K t d
def ED (X : Cx) (e : Expr) (d : DE) : Prop := ∃ t, PE X e t ∧ SndE X.K t d
def TD (X : Cx) (e : Expr) (d : DT) : Prop := ∃ t, PT X e t ∧ SndT X.K t d
def WD (X : Cx) (e : Expr) (d : DT) : Prop := ∃ t, PW X e t ∧ SndT X.K t d
def AD (X : Cx) (es : List Expr) (n : Nat) (d : DA) : Prop := ∃ t, PA X es t ∧ SndA X.K n t d
section
variable {X : Cx} {e a b c : Expr} {es : List Expr} {pos : Pos}
/-- shared data as a result -/
def xE (d : DE) : DX := fun g Q => d g fun x g' => Q (.sh x) g'
theorem ED.x {d : DE} (h : ED X e d) : EX X e (xE d) := by
  obtain ⟨t, p, s⟩ := h
  exact ⟨t, p, fun R hd k => s R hd fun r g' v S' H' q R' x rp => k (.sh r) g' v S' H' q R' x rp⟩
/-- a result, shared from now on -/
def eX (d : DX) : DE := fun g Q => d g fun r g' => Q r.data g'
theorem EX.d {d : DX} (h : EX X e d) : ED X e (eX d) := by
  obtain ⟨t, p, s⟩ := h
  refine ⟨t, p, fun {b g σ S H Qd Q} R hd k => s R hd fun r g' v S' H' q R' x rp => ?_⟩
  cases r with
  | sh d => exact k _ g' v S' H' q R' x rp
  | ow o =>
    obtain ⟨a, rfl, z, z0, ok, n, fr⟩ := rp
    obtain ⟨u, e⟩ := ok.some
    refine k o.data g' _ (upd S' a u) H' q (R'.freeze e z z0 n) ?_ (ok.rep z e)
    refine ⟨x.le.trans (Le.up z), x.kp, x.dom, fun c y hy => ?_, x.ow⟩
    by_cases hc : c = a
    · subst hc
      exact .inr fr
    · rw [upd_ne hc] at hy; exact x.nw c y hy

/-! ### names, constants -/
def gt : G → Nat → Sl
  | [], _ => .no
  | s :: _, 0 => s
  | _ :: g, n + 1 => gt g n
theorem gt_get : ∀ {g : G} {i : Nat} {s : Sl}, gt g i = s → s ≠ .no → g[i]? = some s
  | [], _, _, h, n => absurd h.symm n
  | x :: g, 0, s, h, _ => by simpa [gt] using h
  | x :: g, i + 1, s, h, n => by
    have := gt_get (g := g) (i := i) (s := s) h n
    simpa using this
/-- a name; what it owns is shared from now on -/
def eVar (i : Nat) : DE := fun g Q => match gt g i with
  | .sh d => Q d g
  | .ow o => Q o.data (g.set i (.sh o.data))
  | _ => False
theorem snd_var {K : PySem.W.Frag} {i : Nat} : SndE K (tVar i) (eVar i) := fun {b g σ S H Qd Q} R hd k => by
  unfold eVar at hd
  cases e : gt g i with
  | no => rw [e] at hd; exact hd.elim
  | bx n o => rw [e] at hd; exact hd.elim
  | sh d =>
    rw [e] at hd
    obtain ⟨v, q, rp⟩ := R.slot i _ (gt_get e (fun z => nomatch z))
    exact ⟨v, q, k d g v S H hd R .rfl rp⟩
  | ow o =>
    rw [e] at hd
    obtain ⟨a, u, q, _, _, R', rp, x⟩ := R.freezeSlot (gt_get e (fun z => nomatch z))
    exact ⟨_, q, k _ _ _ _ H hd R' x rp⟩
theorem ed_var {i : Nat} {x : Str} (hN : X.N[i]? = some x) (hv : Vis X.env.scope x) (hd : (x == ("__debug__" : Str)) = false := by decide) (hcd : (x == ("__classdict__" : Str)) = false := by decide) : ED X (.Name x pos) (eVar i) :=
  ⟨_, pe_var hN hv hd hcd, snd_var⟩
/-- a name that is left behind: what it owns is handed on -/
def xVar (i : Nat) : DX := fun g Q => match gt g i with
  | .sh d => Q (.sh d) g
  | .ow o => Q (.ow o) (g.set i .no)
  | _ => False
theorem snd_varX {K : PySem.W.Frag} {i : Nat} : SndX K (tVar i) (xVar i) := fun {b g σ S H Qd Q} R hd k => by
  unfold xVar at hd
  cases e : gt g i with
  | no => rw [e] at hd; exact hd.elim
  | bx n o => rw [e] at hd; exact hd.elim
  | sh d =>
    rw [e] at hd
    obtain ⟨v, q, rp⟩ := R.slot i _ (gt_get e (fun z => nomatch z))
    exact ⟨v, q, k _ g v S H hd R .rfl rp⟩
  | ow o =>
    rw [e] at hd
    have ge := gt_get e (fun z => nomatch z)
    obtain ⟨a, q, z, z0, ok⟩ := R.slot i _ ge
    have own : Own g σ i a := ⟨_, ge, rfl, q⟩
    refine ⟨_, q, k _ _ _ S H hd R.forget ⟨Le.rfl, fun _ _ h _ => h, fun _ u h => ⟨u, h⟩, fun _ _ h => .inl h, fun c ⟨j, y⟩ => ?_⟩ ⟨a, rfl, z, z0, ok, fun ⟨j, y⟩ => ?_, .inr ⟨i, own⟩⟩⟩
    · rcases own_setg y with ⟨_, w, _⟩ | ⟨_, y⟩
      · cases w
      · exact ⟨j, y⟩
    · rcases own_setg y with ⟨_, w, _⟩ | ⟨ne, y⟩
      · cases w
      · exact ne (R.dis _ _ _ y own)
theorem ex_var {i : Nat} {x : Str} (hN : X.N[i]? = some x) (hv : Vis X.env.scope x) (hd : (x == ("__debug__" : Str)) = false := by decide) (hcd : (x == ("__classdict__" : Str)) = false := by decide) : EX X (.Name x pos) (xVar i) :=
  ⟨_, pe_var hN hv hd hcd, snd_varX⟩
def eC (d : D) : DE := fun g Q => Q d g
theorem snd_c {K : PySem.W.Frag} {d : D} {v : V} (h : ∀ S, Rep K S d v) : SndE K (tC v) (eC d) := fun {b g σ S H Qd Q} R hd k => k d g v S H hd R .rfl (h S)
theorem ed_int {i j} : ED X (.Constant (.int i) j pos) (eC (.int i)) := ⟨_, pe_int, snd_c fun _ => .ofInt i⟩
theorem ed_bl {i j} : ED X (.Constant (.bool i) j pos) (eC (.bl i)) := ⟨_, pe_bl, snd_c fun _ => .ofBl i⟩
theorem ed_non {j} : ED X (.Constant .none j pos) (eC .non) := ⟨_, pe_non, snd_c fun _ => .ofNon⟩
theorem ed_str {x j} : ED X (.Constant (.str x) j pos) (eC (.str x)) := ⟨_, pe_str, snd_c fun _ => .ofStr x⟩
/-- a thing of the module: a class, a def, a constant, a table -/
theorem ed_glob {x : Str} {v : V} {u : Value} {d : D} (hg : Gl X x) (hm : X.mg x = some u) (r : RelV v u) (h : ∀ S, Rep X.K S d v) (hd : (x == ("__debug__" : Str)) = false := by decide) : ED X (.Name x pos) (eC d) :=
  ⟨_, pe_glob hg hm r hd, snd_c h⟩
theorem ed_bltn {x : Str} {v : V} {u : Value} (hg : Gl X x) (hm : X.mg x = none) (hv : bootBuiltins x = some u) (r : RelV v u) (hn : x ≠ "__name__" := by decide) (hd : (x == ("__debug__" : Str)) = false := by decide) : ED X (.Name x pos) (eC (.raw v)) :=
  ⟨_, pe_bltn hg hm hv r hn hd, snd_c fun _ => .ofRaw v⟩

/-! ### operations -/
abbrev G2 := D → D → (R → Prop) → Prop
def SndO (K : PySem.W.Frag) (r : R2) (f : G2) : Prop := ∀ {b : Bs} {g : G} {σ : St} {S H : Hp} {x y : D} {v w : V} {Qd : R → Prop} {Q : VK}, Rel K b g σ S H → Rep K S x v → Rep K S y w → f x y Qd →
  (∀ z u S' H', Qd z → Rel K b g σ S' H' → Ext g σ S H g S' H' → RRep K b g H g σ S' H' u z → Q u H') → r v w H Q
/-- an operation that leaves the heap as it is -/
theorem sndO_pure {K : PySem.W.Frag} {r : R2} {f : G2} (h : ∀ {S H : Hp} {x y : D} {v w : V} {Qd : R → Prop} {Q : VK}, Le S H → Rep K S x v → Rep K S y w → f x y Qd → (∀ z u, Qd (.sh z) → Rep K S z u → Q u H) → r v w H Q) : SndO K r f :=
  fun {b g σ S H x y v w Qd Q} R rx ry hd k => h R.le rx ry hd fun z u q rz => k (.sh z) u S H q R .rfl rz
/-- one of two -/
theorem OpR.or {f : Value → Value → Sem Value} {r r' : R2} (h : OpR X f r) (h' : OpR X f r') : OpR X f (fun x y H Q => r x y H Q ∨ r' x y H Q) :=
  fun pins s σ H x y v u Q I rx ry q => q.elim (h pins s σ H x y v u Q I rx ry) (h' pins s σ H x y v u Q I rx ry)
theorem RRep.from {K : PySem.W.Frag} {b : Bs} {g g1 g2 : G} {σ : St} {S H S1 H1 S2 H2 : Hp} {v : V} {r : R} (x : Ext g σ S H g1 S1 H1) (h : RRep K b g1 H1 g2 σ S2 H2 v r) : RRep K b g H g2 σ S2 H2 v r := by
  cases r with
  | sh d => exact h
  | ow o =>
    obtain ⟨a, e, z, z0, ok, n, fr⟩ := h
    refine ⟨a, e, z, z0, ok, n, ?_⟩
    rcases fr with fr | fr
    · exact .inl (x.none fr)
    · exact .inr (x.ow a fr)
def xOp (f : G2) (da db : DE) : DX := fun g Q => da g fun x g1 => db g1 fun y g2 => f x y fun z => Q z g2
theorem snd_op {K : PySem.W.Frag} {r : R2} {f : G2} {ta tb : TE} {da db : DE} (sr : SndO K r f) (sa : SndE K ta da) (sb : SndE K tb db) : SndX K (tOp r ta tb) (xOp f da db) := fun {b g σ S H Qd Q} R hd k =>
  sa R hd fun x g1 v S1 H1 q1 R1 x1 r1 => sb R1 q1 fun y g2 w S2 H2 q2 R2 x2 r2 => sr R2 (Rep.le x2.le _ _ r1) r2 q2 fun z u S3 H3 q R3 x3 rz => k z g2 u S3 H3 q R3 ((x1.trans x2).trans x3) (rz.from (x1.trans x2))
/-- a rule for an operation: as the machine does it, as data -/
def OpD (X : Cx) (f : Value → Value → Sem Value) (d : G2) : Prop := ∃ r, OpR X f r ∧ SndO X.K r d
theorem ex_op {op : Operator} {f : G2} {da db : DE} (ho : OpD X (binaryOp op) f) (ha : ED X a da) (hb : ED X b db) : EX X (.BinOp a op b pos) (xOp f da db) := by
  obtain ⟨r, h1, h2⟩ := ho
  obtain ⟨ta, pa, sa⟩ := ha
  obtain ⟨tb, pb, sb⟩ := hb
  exact ⟨_, pe_op h1 pa pb, snd_op h2 sa sb⟩
theorem ex_cmp {op : CmpOp} {f : G2} {da db : DE} (ho : OpD X (compareOp op) f) (ha : ED X a da) (hb : ED X b db) (hm : behindInMarks op b = false) : EX X (.Compare a [op] [b] pos) (xOp f da db) := by
  obtain ⟨r, h1, h2⟩ := ho
  obtain ⟨ta, pa, sa⟩ := ha
  obtain ⟨tb, pb, sb⟩ := hb
  exact ⟨_, pe_cmpR h1 pa pb hm, snd_op h2 sa sb⟩
/-- eX of a soundness -/
theorem sndX_e {K : PySem.W.Frag} {t : TE} {d : DX} (s : SndX K t d) : SndE K t (eX d) := fun {b g σ S H Qd Q} R hd k => s R hd fun r g' v S' H' q R' x rp => by
  cases r with
  | sh d => exact k _ g' v S' H' q R' x rp
  | ow o =>
    obtain ⟨a, rfl, z, z0, ok, n, fr⟩ := rp
    obtain ⟨u, e⟩ := ok.some
    refine k o.data g' _ (upd S' a u) H' q (R'.freeze e z z0 n) ?_ (ok.rep z e)
    refine ⟨x.le.trans (Le.up z), x.kp, x.dom, fun c y hy => ?_, x.ow⟩
    by_cases hc : c = a
    · subst hc
      exact .inr fr
    · rw [upd_ne hc] at hy; exact x.nw c y hy
def tTD (d : DE) : DT := fun g Q => d g fun x g' => match x with
  | .bl c => Q c g'
  | _ => False
theorem snd_test {K : PySem.W.Frag} {t : TE} {d : DE} (s : SndE K t d) : SndT K (tTest t) (tTD d) := fun {b g σ S H Qd Q} R hd k =>
  s R hd fun x g1 v S1 H1 q1 R1 x1 r1 => by
    cases x with
    | bl c => exact ⟨c, r1.bl, k c g1 S1 H1 q1 R1 x1⟩
    | _ => exact q1.elim
theorem td_cmp {op : CmpOp} {f : G2} {da db : DE} (ho : OpD X (compareOp op) f) (ha : ED X a da) (hb : ED X b db) (hm : behindInMarks op b = false) : TD X (.Compare a [op] [b] pos) (tTD (eX (xOp f da db))) := by
  obtain ⟨r, h1, h2⟩ := ho
  obtain ⟨ta, pa, sa⟩ := ha
  obtain ⟨tb, pb, sb⟩ := hb
  exact ⟨_, pt_cmpR h1 pa pb hm, snd_test (sndX_e (snd_op h2 sa sb))⟩
theorem snd_tB {K : PySem.W.Frag} {t : TE} {d : DE} (s : SndE K t d) : SndT K (tB t) (tTD d) := snd_test s
theorem td_val {d : DE} (h : ED X e d) (he : ∀ whole, isTrue e X.env whole = (do let v ← whole; standAt e.pos; holding [v] (truthy v)) := by intro _; rfl) : TD X e (tTD d) := by
  obtain ⟨t, p, s⟩ := h
  exact ⟨_, pt_val p he, snd_tB s⟩
/-- two ints -/
def f2 (f : Int → Int → D) : G2 := fun x y Q => match x, y with
  | .int i, .int j => Q (.sh (f i j))
  | _, _ => False
def f2c (C : Int → Int → Prop) (f : Int → Int → D) : G2 := fun x y Q => match x, y with
  | .int i, .int j => C i j ∧ Q (.sh (f i j))
  | _, _ => False
theorem snd_f2 {K : PySem.W.Frag} {f : Int → Int → D} {h : Int → Int → V} (hh : ∀ S i j, Rep K S (f i j) (h i j)) : SndO K (rI0 h) (f2 f) := sndO_pure fun {S H x y v w Qd Q} l rx ry hd k => by
  cases x with
  | int i =>
    cases y with
    | int j => exact ⟨i, j, rx.int, ry.int, k _ _ hd (hh S i j)⟩
    | _ => exact hd.elim
  | _ => cases y <;> exact hd.elim
theorem snd_f2c {K : PySem.W.Frag} {C C' : Int → Int → Prop} {f : Int → Int → D} {h : Int → Int → V} (hh : ∀ S i j, Rep K S (f i j) (h i j)) (hc : ∀ i j, C' i j → C i j) : SndO K (rI C h) (f2c C' f) := sndO_pure fun {S H x y v w Qd Q} l rx ry hd k => by
  cases x with
  | int i =>
    cases y with
    | int j => exact ⟨i, j, rx.int, ry.int, hc _ _ hd.1, k _ _ hd.2 (hh S i j)⟩
    | _ => exact hd.elim
  | _ => cases y <;> exact hd.elim
def MulOk (i j : Int) : Prop := CMul i j ∨ CMulW i j
theorem MulOk.l {i j : Int} (h : -(2 ^ 64) < i ∧ i < 2 ^ 64) : MulOk i j := .inl (.inl h)
theorem MulOk.r {i j : Int} (h : -(2 ^ 64) < j ∧ j < 2 ^ 64) : MulOk i j := .inl (.inr h)
def DivOk (i j : Int) : Prop := CDivW i j
theorem DivOk.of {i j : Int} (h : 0 < j) (k : j < 2 ^ 200) : DivOk i j := wide_div (b := 200) h (by omega) (by decide) (by decide)
abbrev fSub : G2 := f2 fun i j => .int (i - j)
abbrev fMod : G2 := f2c (fun _ j => 0 < j) fun i j => .int (i % j)
abbrev fDiv : G2 := f2c DivOk fun i j => .int (i / j)
abbrev fPow : G2 := f2c CPow fun i j => .int (i ^ j.toNat)
abbrev fShr : G2 := f2c (fun _ j => 0 ≤ j) fun i j => .int (i / 2 ^ j.toNat)
abbrev fShl : G2 := f2c CPow fun i j => .int (i * 2 ^ j.toNat)
abbrev fLt : G2 := f2 fun i j => .bl (decide (i < j))
abbrev fLe : G2 := f2 fun i j => .bl (decide (i ≤ j))
abbrev fGt : G2 := f2 fun i j => .bl (decide (j < i))
abbrev fGe : G2 := f2 fun i j => .bl (decide (j ≤ i))
theorem d_sub : OpD X (binaryOp .Sub) fSub := ⟨_, op_sub, snd_f2 fun _ _ _ => .ofInt _⟩
theorem d_mod : OpD X (binaryOp .Mod) fMod := ⟨_, op_mod, snd_f2c (fun _ _ _ => .ofInt _) fun _ _ h => h⟩
theorem d_div : OpD X (binaryOp .FloorDiv) fDiv := ⟨_, op_fdivW, snd_f2c (fun _ _ _ => .ofInt _) fun _ _ h => h⟩
theorem d_pow : OpD X (binaryOp .Pow) fPow := ⟨_, op_pow, snd_f2c (fun _ _ _ => .ofInt _) fun _ _ h => h⟩
theorem d_shr : OpD X (binaryOp .RShift) fShr := ⟨_, op_shr, snd_f2c (fun _ _ _ => .ofInt _) fun _ _ h => h⟩
theorem d_shl : OpD X (binaryOp .LShift) fShl := ⟨_, op_shl, snd_f2c (fun _ _ _ => .ofInt _) fun _ _ h => h⟩
theorem d_lt : OpD X (compareOp .Lt) fLt := ⟨_, op_lt, snd_f2 fun _ _ _ => .ofBl _⟩
theorem d_le : OpD X (compareOp .LtE) fLe := ⟨_, op_le, snd_f2 fun _ _ _ => .ofBl _⟩
theorem d_gt : OpD X (compareOp .Gt) fGt := ⟨_, op_gt, snd_f2 fun _ _ _ => .ofBl _⟩
theorem d_ge : OpD X (compareOp .GtE) fGe := ⟨_, op_ge, snd_f2 fun _ _ _ => .ofBl _⟩
end
end DL

set_option maxRecDepth 100000
set_option maxHeartbeats 4000000
namespace DL
open PySem L2
/-! ### new things -/
section
variable {K : PySem.W.Frag} {b : Bs} {g : G} {σ : St} {S H : Hp} {p : Addr}
theorem Rel.lst (R : Rel K b g σ S H) (h : H p = none) {ds : List D} {vs : List V} (r : Reps K S ds vs) : Rel K b g σ S (upd H p (.lst vs)) ∧ Ext g σ S H g S (upd H p (.lst vs)) ∧ RRep K b g H g σ S (upd H p (.lst vs)) (.ref p) (.ow (.lst ds)) :=
  ⟨R.newOw h, .newOw h, p, rfl, R.S0 h, R.H00 h, ⟨vs, upd_same, r⟩, R.notOwn h, .inl h⟩
theorem Rel.tup (R : Rel K b g σ S H) (h : H p = none) {ds : List D} {vs : List V} (r : Reps K S ds vs) : Rel K b g σ (upd S p (.tup vs)) (upd H p (.tup vs)) ∧ Ext g σ S H g (upd S p (.tup vs)) (upd H p (.tup vs)) ∧ Rep K (upd S p (.tup vs)) (.tup ds) (.ref p) :=
  ⟨R.newSh h, .newSh R h, .ofTup upd_same (Reps.le (Le.up (R.S0 h)) _ _ r)⟩
theorem Reps.of1 {d : D} {v : V} (h : Rep K S d v) : Reps K S [d] [v] := .cons h .nil
theorem Reps.flatRep : ∀ {ds : List D} {vs : List V} (n : Nat), Reps K S ds vs → Reps K S (List.replicate n ds).flatten (List.replicate n vs).flatten
  | _, _, 0, _ => by simp; exact .nil
  | ds, vs, n + 1, h => by
    rw [List.replicate_succ, List.replicate_succ, List.flatten_cons, List.flatten_cons]
    exact h.append (h.flatRep n)
end
end DL
namespace DL
open PySem PySem.Spec PyProof.Rows L2
section
variable {X : Cx}
/-! ### list + list, list * int of lists that are only read -/
def rCatR : R2 := fun x y H Q => ∃ l b xs zs, x = .ref l ∧ y = .ref b ∧ Rd H l (.lst xs) ∧ Rd H b (.lst zs) ∧ xs.length + zs.length ≤ sizeLine ∧ ∀ p, H p = Option.none → Q (.ref p) (upd H p (.lst (xs ++ zs)))
theorem op_catR : OpR X (binaryOp .Add) rCatR := by
  intro pins s σ H x y v u Q I rx ry h
  obtain ⟨l, b, xs, zs, rfl, rfl, hH, hB, hz, q⟩ := h
  cases rx
  cases ry
  obtain ⟨z, its, n, r, e⟩ := hH.ok I.hok
  obtain ⟨z2, its2, n2, r2, e2⟩ := hB.ok I.hok
  have hl := r.length
  have hl2 := r2.length
  refine PySem.P.add_list e e2 ?_ (by rw [List.size_toArray, List.size_toArray]; omega)
  have ea : its.toArray ++ its2.toArray = (its ++ its2).toArray := by simp
  rw [ea]
  exact ⟨.ref _, _, I.lnew (t' := s.toks) (r.append r2) (by rw [List.length_append]; omega), rfl, q _ I.fresh⟩
def rRepR : R2 := fun x y H Q => ∃ l k xs, x = .ref l ∧ y = .int k ∧ Rd H l (.lst xs) ∧ -(2 ^ 63) ≤ k ∧ k < 2 ^ 63 ∧ xs.length * k.toNat ≤ sizeLine ∧
  ∀ p, H p = Option.none → Q (.ref p) (upd H p (.lst (List.replicate k.toNat xs).flatten))
theorem op_repR : OpR X (binaryOp .Mult) rRepR := by
  intro pins s σ H x y v u Q I rx ry h
  obtain ⟨l, k, xs, rfl, rfl, hH, h1, h2, hz, q⟩ := h
  cases rx
  obtain ⟨t, rfl⟩ := ry
  obtain ⟨z, its, n, r, e⟩ := hH.ok I.hok
  have hl := r.length
  have hlen : its.toArray.size * k.toNat ≤ sizeLine := by rw [List.size_toArray, ← hl]; exact hz
  have hcap : ¬ its.toArray.size * k.toNat > (2 ^ 63 - 1) / 8 := by
    have : (sizeLine : Nat) ≤ (2 ^ 63 - 1) / 8 := by decide
    omega
  have hfit : ¬ (!Builtin.List.listFitsIndex k) = true := by
    rw [fitsIndex_both h1 h2]
    exact Bool.false_ne_true
  have hlong : ¬ Builtin.List.listTooLong (its.toArray.size * k.toNat) = true := by
    rw [notLongL hlen]
    exact Bool.false_ne_true
  have hnew : List.foldl (fun x1 x2 => x1 ++ x2) #[] (List.replicate (if its.toArray.isEmpty = true then 0 else k.toNat) its.toArray) = (List.replicate k.toNat its).flatten.toArray := by
    have f0 : ∀ m : Nat, List.foldl (fun x1 x2 => x1 ++ x2) #[] (List.replicate m its.toArray) = (List.replicate m its).flatten.toArray := fun m => by
      have := foldl_rep its m []
      rw [List.nil_append] at this
      exact this
    rw [f0]
    cases its with
    | nil => simp
    | cons a r' => rw [if_neg (by simp)]
  refine wpAny_binaryOp_repeat_ref (T := "list") (U := "int") (by decide) ⟨_, e, rfl⟩ (fun s' => typeIs_int s' k t) noFill_list_mul F.fills_int_mul F.slot_int_rmul repeat_list F.slot_int_index.lookup
    (call_meets F.slot_int_rmul (typeIs_int s k t) F.entry_int_rmul (F.args_int_rmul_2 _ _) (int___rmul___int_list k t l its.toArray n)
      ⟨e, rfl, ⟨_, e, rfl⟩, call_meets F.slot_list_mul ⟨_, e, rfl⟩ F.entry_list_mul (F.args_list_mul_2 _ _) (AutoListH.list___mul___list_int_3 l its.toArray n k t hfit hcap hlong) ⟨e, ?_⟩⟩)
  rw [hnew]
  exact ⟨.ref _, _, I.lnew (t' := s.toks) (r.rep k.toNat) (by rw [PyProof.Rows.lm_len_rep_flat, Nat.mul_comm]; exact hz), rfl, q _ I.fresh⟩
end
end DL
namespace DL
open PySem L2
/-! ### +, * -/
def fAdd : G2 := fun x y Q => match x, y with
  | .int i, .int j => Q (.sh (.int (i + j)))
  | .str s, .str t => s.length + t.length ≤ sizeLine ∧ Q (.sh (.str (s ++ t)))
  | .lst xs, .lst ys => xs.length + ys.length ≤ sizeLine ∧ Q (.ow (.lst (xs ++ ys)))
  | .tup xs, .tup ys => xs.length + ys.length ≤ sizeLine ∧ Q (.sh (.tup (xs ++ ys)))
  | _, _ => False
def fMul : G2 := fun x y Q => match x, y with
  | .int i, .int j => MulOk i j ∧ Q (.sh (.int (i * j)))
  | .lst xs, .int k => (-(2 ^ 63) ≤ k ∧ k < 2 ^ 63 ∧ xs.length * k.toNat ≤ sizeLine) ∧ Q (.ow (.lst (List.replicate k.toNat xs).flatten))
  | _, _ => False
section
variable {X : Cx} {e a b c : Expr} {es : List Expr} {pos : Pos}
def rAddAll (K : PySem.W.Frag) : R2 := fun x y H Q => rI0 (fun i j => .int (i + j)) x y H Q ∨ (∃ i j, x = .str i ∧ y = .str j ∧ i.length + j.length ≤ sizeLine ∧ Q (.str (i ++ j)) H) ∨ rCatR x y H Q ∨ rCatA K x y H Q
theorem d_add : OpD X (binaryOp .Add) fAdd := by
  refine ⟨rAddAll X.K, OpR.or op_add (OpR.or op_add_str (OpR.or op_catR op_catA)), fun {b g σ S H x y v w Qd Q} R rx ry hd k => ?_⟩
  cases x with
  | int i =>
    cases y with
    | int j => exact .inl ⟨i, j, rx.int, ry.int, k (.sh (.int (i + j))) _ S H hd R .rfl (Rep.ofInt (K := X.K) (S := S) (i + j))⟩
    | _ => exact hd.elim
  | str i =>
    cases y with
    | str j => exact .inr (.inl ⟨i, j, rx.str, ry.str, hd.1, k (.sh (.str (i ++ j))) _ S H hd.2 R .rfl (Rep.ofStr (K := X.K) (S := S) (i ++ j))⟩)
    | _ => exact hd.elim
  | lst xs =>
    cases y with
    | lst ys =>
      obtain ⟨l, vs, e1, h1, r1⟩ := rx.lst
      obtain ⟨m, ws, e2, h2, r2⟩ := ry.lst
      refine .inr (.inr (.inl ⟨l, m, vs, ws, e1, e2, Rd.le R.le h1, Rd.le R.le h2, ?_, fun p hp => ?_⟩))
      · rw [r1.len, r2.len]; exact hd.1
      · obtain ⟨R', x', rp⟩ := R.lst hp (r1.append r2)
        exact k _ _ _ _ hd.2 R' x' rp
    | _ => exact hd.elim
  | tup xs =>
    cases y with
    | tup ys =>
      obtain ⟨l, vs, e1, h1, r1⟩ := rx.tup
      obtain ⟨m, ws, e2, h2, r2⟩ := ry.tup
      refine .inr (.inr (.inr ⟨l, m, vs, ws, e1, e2, SqT.le R.le h1, SqT.le R.le h2, ?_, fun ez => ?_, fun _ ez => ?_, fun _ _ p hp => ?_⟩))
      · rw [r1.len, r2.len]; exact hd.1
      · have : xs = [] := by
          have := r1.len
          rw [ez] at this
          exact List.eq_nil_of_length_eq_zero this.symm
        subst this
        exact k _ _ S H hd.2 R .rfl (e2 ▸ ry)
      · have : ys = [] := by
          have := r2.len
          rw [ez] at this
          exact List.eq_nil_of_length_eq_zero this.symm
        subst this
        refine k _ _ S H hd.2 R .rfl ?_
        rw [List.append_nil]
        exact e1 ▸ rx
      · obtain ⟨R', x', rp⟩ := R.tup hp (r1.append r2)
        exact k _ _ _ _ hd.2 R' x' rp
    | _ => exact hd.elim
  | _ => cases y <;> exact hd.elim
theorem OpR.imp {f : Value → Value → Sem Value} {r r' : R2} (h : OpR X f r) (i : ∀ x y H Q, r' x y H Q → r x y H Q) : OpR X f r' := fun pins s σ H x y v u Q I rx ry q => h pins s σ H x y v u Q I rx ry (i _ _ _ _ q)
theorem d_mul : OpD X (binaryOp .Mult) fMul := by
  refine ⟨_, OpR.or op_mul (OpR.or op_mulW op_repR), fun {b g σ S H x y v w Qd Q} R rx ry hd k => ?_⟩
  cases x with
  | int i =>
    cases y with
    | int j =>
      rcases hd.1 with h | h
      · exact .inl ⟨i, j, rx.int, ry.int, h, k (.sh (.int (i * j))) _ S H hd.2 R .rfl (Rep.ofInt (K := X.K) (S := S) (i * j))⟩
      · exact .inr (.inl ⟨i, j, rx.int, ry.int, h, k (.sh (.int (i * j))) _ S H hd.2 R .rfl (Rep.ofInt (K := X.K) (S := S) (i * j))⟩)
    | _ => exact hd.elim
  | lst xs =>
    cases y with
    | int n =>
      obtain ⟨l, vs, e1, h1, r1⟩ := rx.lst
      refine .inr (.inr ⟨l, n, vs, e1, ry.int, Rd.le R.le h1, hd.1.1, hd.1.2.1, ?_, fun p hp => ?_⟩)
      · rw [r1.len]; exact hd.1.2.2
      · obtain ⟨R', x', rp⟩ := R.lst hp (r1.flatRep n.toNat)
        exact k _ _ _ _ hd.2 R' x' rp
    | _ => exact hd.elim
  | _ => cases y <;> exact hd.elim
/-! ### == -/
mutual
def toP : D → PyData
  | .non => .none
  | .bl b => .bool b
  | .int i => .int i
  | .str x => .str x
  | .lst xs => .list (toPs xs)
  | .tup xs => .tuple (toPs xs)
  | .ins _ _ _ => .none
  | .raw _ => .none
def toPs : List D → List PyData
  | [] => []
  | d :: ds => toP d :: toPs ds
end
/-- data without objects, not deeper than n -/
def dep : Nat → D → Prop
  | _, .non => True
  | _, .bl _ => True
  | _, .int _ => True
  | _, .str x => PyData.strOk x = true
  | n + 1, .lst xs => ∀ x ∈ xs, dep n x
  | n + 1, .tup xs => ∀ x ∈ xs, dep n x
  | _, _ => False
theorem dep_ok {K : PySem.W.Frag} {S H : Hp} (l : Le S H) : ∀ (n : Nat) (d : D) (v : V), dep n d → Rep K S d v → Dp K H v (toP d) ∧ (toP d).canLay0 = true ∧ (toP d).depth ≤ n := by
  intro n
  induction n with
  | zero =>
    intro d v h r
    cases d with
    | non => rw [r.non]; exact ⟨.non, by simp [toP, PyData.canLay0], by simp [toP, PyData.depth]⟩
    | bl b => rw [r.bl]; exact ⟨.bl b, by simp [toP, PyData.canLay0], by simp [toP, PyData.depth]⟩
    | int i => rw [r.int]; exact ⟨.int i, by simp [toP, PyData.canLay0], by simp [toP, PyData.depth]⟩
    | str x => rw [r.str]; exact ⟨.str x, by simp only [toP, PyData.canLay0]; exact h, by simp [toP, PyData.depth]⟩
    | _ => exact h.elim
  | succ n ih =>
    have all : ∀ (ds : List D) (vs : List V), (∀ x ∈ ds, dep n x) → Reps K S ds vs → DpAll K H vs (toPs ds) ∧ PyData.canLayAll0 (toPs ds) = true ∧ PyData.depthAll (toPs ds) ≤ n := by
      intro ds
      induction ds with
      | nil =>
        intro vs _ r
        unfold Reps at r
        subst r
        simp only [toPs]
        exact ⟨.nil, by simp [PyData.canLayAll0], by simp [PyData.depthAll]⟩
      | cons d ds ih2 =>
        intro vs h r
        obtain ⟨v, vr, rfl, r1, r2⟩ := r.uncons
        obtain ⟨a1, a2, a3⟩ := ih d v (h d List.mem_cons_self) r1
        obtain ⟨b1, b2, b3⟩ := ih2 vr (fun x hx => h x (List.mem_cons_of_mem _ hx)) r2
        simp only [toPs]
        exact ⟨.cons a1 b1, by simp [PyData.canLayAll0, a2, b2], by simp only [PyData.depthAll]; omega⟩
    intro d v h r
    cases d with
    | non => rw [r.non]; exact ⟨.non, by simp [toP, PyData.canLay0], by simp [toP, PyData.depth]⟩
    | bl b => rw [r.bl]; exact ⟨.bl b, by simp [toP, PyData.canLay0], by simp [toP, PyData.depth]⟩
    | int i => rw [r.int]; exact ⟨.int i, by simp [toP, PyData.canLay0], by simp [toP, PyData.depth]⟩
    | str x => rw [r.str]; exact ⟨.str x, by simp only [toP, PyData.canLay0]; exact h, by simp [toP, PyData.depth]⟩
    | lst xs =>
      obtain ⟨a, vs, rfl, q, rs⟩ := r.lst
      obtain ⟨a1, a2, a3⟩ := all xs vs h rs
      simp only [toP]
      exact ⟨.lst (.inl (Rd.le l q)) a1, by simpa [PyData.canLay0] using a2, by simp only [PyData.depth]; omega⟩
    | tup xs =>
      obtain ⟨a, vs, rfl, q, rs⟩ := r.tup
      obtain ⟨a1, a2, a3⟩ := all xs vs h rs
      simp only [toP]
      exact ⟨.tup (SqT.le l q) a1, by simpa [PyData.canLay0] using a2, by simp only [PyData.depth]; omega⟩
    | _ => exact h.elim
theorem dep_shaped {K : PySem.W.Frag} {S H : Hp} (l : Le S H) {n : Nat} {d : D} {v : V} (hn : n ≤ 64) (h : dep n d) (r : Rep K S d v) : Dp K H v (toP d) ∧ SeqAt.shaped (toP d) = true := by
  obtain ⟨a1, a2, a3⟩ := dep_ok l n d v h r
  refine ⟨a1, ?_⟩
  unfold SeqAt.shaped
  rw [a2, Bool.true_and]
  exact decide_eq_true (by omega)
/-- == of plain data -/
def deq (x y : D) : Bool := PyData.eqv (toP x) (toP y)
/-- == of things that are no lists, tuples or objects -/
def dEq : D → D → Option Bool
  | .int i, .int j => some (decide (i = j))
  | .str i, .str j => some (decide (i = j))
  | .bl i, .bl j => some (decide (i = j))
  | .non, .non => some true
  | .int _, .str _ => some false
  | .str _, .int _ => some false
  | .non, .int _ => some false
  | .int _, .non => some false
  | .non, .str _ => some false
  | .str _, .non => some false
  | .non, .bl _ => some false
  | .bl _, .non => some false
  | .bl _, .str _ => some false
  | .str _, .bl _ => some false
  | _, _ => none
def fEq : G2 := fun x y Q => match dEq x y with
  | some c => Q (.sh (.bl c))
  | none => dep 60 x ∧ dep 60 y ∧ Q (.sh (.bl (deq x y)))
def fNe : G2 := fun x y Q => match dEq x y with
  | some c => Q (.sh (.bl (!c)))
  | none => dep 60 x ∧ dep 60 y ∧ Q (.sh (.bl (!deq x y)))
theorem dEq_ok {K : PySem.W.Frag} {S : Hp} {x y : D} {v w : V} {c : Bool} (rx : Rep K S x v) (ry : Rep K S y w) (h : dEq x y = some c) : scal v w = true ∧ decide (v = w) = c := by
  cases x <;> cases y <;> simp only [dEq] at h <;> first
    | (cases h; done)
    | (simp only [Rep] at rx ry; subst rx; subst ry; cases h; refine ⟨rfl, ?_⟩; simp)
def rEqAll (K : PySem.W.Frag) : R2 := fun x y H Q => rEq x y H Q ∨ rEqD K x y H Q
theorem d_eq (hu : X.A.units + 64 < cLine) : OpD X (compareOp .Eq) fEq := by
  refine ⟨rEqAll X.K, OpR.or op_eq (op_eqD hu), sndO_pure fun {S H x y v w Qd Q} l rx ry hd k => ?_⟩
  unfold fEq at hd
  cases e : dEq x y with
  | some c =>
    rw [e] at hd
    obtain ⟨h1, h2⟩ := dEq_ok rx ry e
    exact .inl ⟨h1, by rw [h2]; exact k _ _ hd (.ofBl _)⟩
  | none =>
    rw [e] at hd
    obtain ⟨a1, a2⟩ := dep_shaped l (by decide) hd.1 rx
    obtain ⟨b1, b2⟩ := dep_shaped l (by decide) hd.2.1 ry
    exact .inr ⟨_, _, a1, b1, a2, b2, k _ _ hd.2.2 (.ofBl _)⟩
def rNeAll (K : PySem.W.Frag) : R2 := fun x y H Q => rNe x y H Q ∨ rNeD K x y H Q
theorem d_ne (hu : X.A.units + 64 < cLine) : OpD X (compareOp .NotEq) fNe := by
  refine ⟨rNeAll X.K, OpR.or op_ne (op_neD hu), sndO_pure fun {S H x y v w Qd Q} l rx ry hd k => ?_⟩
  unfold fNe at hd
  cases e : dEq x y with
  | some c =>
    rw [e] at hd
    obtain ⟨h1, h2⟩ := dEq_ok rx ry e
    exact .inl ⟨h1, by rw [h2]; exact k _ _ hd (.ofBl _)⟩
  | none =>
    rw [e] at hd
    obtain ⟨a1, a2⟩ := dep_shaped l (by decide) hd.1 rx
    obtain ⟨b1, b2⟩ := dep_shaped l (by decide) hd.2.1 ry
    exact .inr ⟨_, _, a1, b1, a2, b2, k _ _ hd.2.2 (.ofBl _)⟩
end
end DL

set_option maxRecDepth 100000
set_option maxHeartbeats 4000000
namespace DL
open PySem L2
section
variable {X : Cx} {e o a b c : Expr} {es rest : List Expr} {pos p p2 : Pos} {K : PySem.W.Frag}
/-! ### truth -/
def truD : D → (Bool → Prop) → Prop
  | .non, Q => Q false
  | .bl b, Q => Q b
  | .int i, Q => Q (i != 0)
  | .str s, Q => s.length ≤ sizeLine ∧ Q ((s.length : Int) != 0)
  | .lst xs, Q => Q (!xs.isEmpty)
  | .tup xs, Q => Q (!xs.isEmpty)
  | _, _ => False
theorem Reps.emp {S : Hp} {ds : List D} {vs : List V} (r : Reps K S ds vs) : (!vs.isEmpty) = !ds.isEmpty := by
  have := r.len
  cases ds <;> cases vs <;> simp_all
theorem tru_sound {S H : Hp} {d : D} {v : V} {Qd : Bool → Prop} (l : Le S H) (r : Rep K S d v) (h : truD d Qd) : ∃ k, TruV K v H k ∧ Qd k := by
  cases d with
  | non => rw [r.non]; exact ⟨_, rfl, h⟩
  | bl b => rw [r.bl]; exact ⟨_, rfl, h⟩
  | int i => rw [r.int]; exact ⟨_, rfl, h⟩
  | str s => rw [r.str]; exact ⟨_, ⟨h.1, rfl⟩, h.2⟩
  | lst xs =>
    obtain ⟨a, vs, rfl, q, rs⟩ := r.lst
    exact ⟨_, .inl ⟨vs, .inl (Rd.le l q), rfl⟩, by rw [rs.emp]; exact h⟩
  | tup xs =>
    obtain ⟨a, vs, rfl, q, rs⟩ := r.tup
    exact ⟨_, .inr (.inl ⟨vs, SqT.le l q, rfl⟩), by rw [rs.emp]; exact h⟩
  | _ => exact h.elim
def tTru (d : DE) : DT := fun g Q => d g fun x g' => truD x fun k => Q k g'
theorem td_truth {d : DE} (h : ED X e d) (he : ∀ whole, isTrue e X.env whole = (do let v ← whole; standAt e.pos; holding [v] (truthy v)) := by intro _; rfl) : TD X e (tTru d) := by
  obtain ⟨t, pe, s⟩ := h
  refine ⟨_, pt_truth pe he, fun {b g σ S H Qd Q} R hd k => s R hd fun x g1 v S1 H1 q1 R1 x1 r1 => ?_⟩
  obtain ⟨c, h1, h2⟩ := tru_sound R1.le r1 q1
  exact ⟨c, h1, k c g1 S1 H1 h2 R1 x1⟩
/-- a name's truth, what it owns stays its own -/
def truS : Sl → (Bool → Prop) → Prop
  | .sh d, Q => truD d Q
  | .ow (.lst ds), Q => Q (!ds.isEmpty)
  | .bx _ (.lst ds), Q => Q (!ds.isEmpty)
  | _, _ => False
theorem truS_sound {b : Bs} {g : G} {σ : St} {S H : Hp} {i : Nat} {Qd : Bool → Prop} (R : Rel K b g σ S H) (h : truS (gt g i) Qd) : ∃ v k, σ[i]? = some (some v) ∧ TruV K v H k ∧ Qd k := by
  cases e : gt g i with
  | no => rw [e] at h; exact h.elim
  | sh d =>
    rw [e] at h
    obtain ⟨v, q, r⟩ := R.slot i _ (gt_get e (fun z => nomatch z))
    obtain ⟨k, h1, h2⟩ := tru_sound R.le r h
    exact ⟨v, k, q, h1, h2⟩
  | ow o =>
    rw [e] at h
    obtain ⟨a, q, _, _, ok⟩ := R.slot i _ (gt_get e (fun z => nomatch z))
    cases o with
    | lst ds =>
      obtain ⟨vs, hv, rs⟩ := ok
      exact ⟨_, _, q, .inl ⟨vs, SqL.of hv, rfl⟩, by rw [rs.emp]; exact h⟩
    | ins => exact h.elim
  | bx n o =>
    rw [e] at h
    obtain ⟨a, q, _, _, ok⟩ := R.slot i _ (gt_get e (fun z => nomatch z))
    cases o with
    | lst ds =>
      obtain ⟨vs, hv, rs⟩ := ok
      exact ⟨_, _, q, .inl ⟨vs, SqL.of hv, rfl⟩, by rw [rs.emp]; exact h⟩
    | ins => exact h.elim
def tTruV (i : Nat) : DT := fun g Q => truS (gt g i) fun k => Q k g
theorem td_truV {i : Nat} {x : Str} (hN : X.N[i]? = some x) (hv : Vis X.env.scope x) (hd : (x == ("__debug__" : Str)) = false := by decide) (hcd : (x == ("__classdict__" : Str)) = false := by decide) : TD X (.Name x pos) (tTruV i) := by
  refine ⟨_, pt_truth (pe_var hN hv hd hcd) (fun _ => rfl), fun {b g σ S H Qd Q} R hd k => ?_⟩
  obtain ⟨v, c, h1, h2, h3⟩ := truS_sound R hd
  exact ⟨v, h1, c, h2, k c g S H h3 R .rfl⟩
/-! ### and, or, not -/
def eAnd (da db : DE) : DE := fun g Q => da g fun x g1 => match x with
  | .bl c => if c = true then db g1 Q else Q (.bl false) g1
  | _ => False
def eOr (da db : DE) : DE := fun g Q => da g fun x g1 => match x with
  | .bl c => if c = true then Q (.bl true) g1 else db g1 Q
  | _ => False
def eNot (da : DE) : DE := fun g Q => da g fun x g1 => truD x fun c => Q (.bl (!c)) g1
theorem ed_one {op} {d : DE} (h : ED X a d) : ED X (.BoolOp op [a] pos) d := by
  obtain ⟨t, pe, s⟩ := h
  exact ⟨t, pe_one pe, s⟩
theorem ed_and {da db : DE} (ha : ED X a da) (hb : ED X (.BoolOp .And (b :: rest) pos) db) : ED X (.BoolOp .And (a :: b :: rest) pos) (eAnd da db) := by
  obtain ⟨ta, pa, sa⟩ := ha
  obtain ⟨tb, pb, sb⟩ := hb
  refine ⟨_, pe_and pa pb, fun {bs g σ S H Qd Q} R hd k => sa R hd fun x g1 v S1 H1 q1 R1 x1 r1 => ?_⟩
  cases x with
  | bl c =>
    refine ⟨c, r1.bl, ?_⟩
    cases c with
    | true => exact sb R1 q1 fun y g2 w S2 H2 q2 R2 x2 r2 => k y g2 w S2 H2 q2 R2 (x1.trans x2) r2
    | false => exact k _ g1 _ S1 H1 q1 R1 x1 (Rep.ofBl (K := X.K) (S := S1) false)
  | _ => exact q1.elim
theorem ed_or {da db : DE} (ha : ED X a da) (hb : ED X (.BoolOp .Or (b :: rest) pos) db) : ED X (.BoolOp .Or (a :: b :: rest) pos) (eOr da db) := by
  obtain ⟨ta, pa, sa⟩ := ha
  obtain ⟨tb, pb, sb⟩ := hb
  refine ⟨_, pe_or pa pb, fun {bs g σ S H Qd Q} R hd k => sa R hd fun x g1 v S1 H1 q1 R1 x1 r1 => ?_⟩
  cases x with
  | bl c =>
    refine ⟨c, r1.bl, ?_⟩
    cases c with
    | false => exact sb R1 q1 fun y g2 w S2 H2 q2 R2 x2 r2 => k y g2 w S2 H2 q2 R2 (x1.trans x2) r2
    | true => exact k _ g1 _ S1 H1 q1 R1 x1 (Rep.ofBl (K := X.K) (S := S1) true)
  | _ => exact q1.elim
theorem ed_not {da : DE} (ha : ED X a da) : ED X (.UnaryOp .Not a pos) (eNot da) := by
  obtain ⟨ta, pa, sa⟩ := ha
  refine ⟨_, pe_notT pa, fun {bs g σ S H Qd Q} R hd k => sa R hd fun x g1 v S1 H1 q1 R1 x1 r1 => ?_⟩
  obtain ⟨c, h1, h2⟩ := tru_sound R1.le r1 q1
  exact ⟨c, h1, k _ g1 _ S1 H1 h2 R1 x1 (Rep.ofBl (K := X.K) (S := S1) (!c))⟩
def tAndD (ta tb : DT) : DT := fun g Q => ta g fun c g1 => if c = true then tb g1 Q else Q false g1
def tOrD (ta tb : DT) : DT := fun g Q => ta g fun c g1 => if c = true then Q true g1 else tb g1 Q
def tNotD (ta : DT) : DT := fun g Q => ta g fun c g1 => Q (!c) g1
theorem WD.t {d : DT} (h : WD X e d) : TD X e d := by
  obtain ⟨t, pe, s⟩ := h
  exact ⟨t, pe.pt, s⟩
theorem wd_and1 {d : DT} (h : TD X a d) : WD X (.BoolOp .And [a] pos) d := by
  obtain ⟨t, pe, s⟩ := h
  exact ⟨t, pw_and1 pe, s⟩
theorem wd_or1 {d : DT} (h : TD X a d) : WD X (.BoolOp .Or [a] pos) d := by
  obtain ⟨t, pe, s⟩ := h
  exact ⟨t, pw_or1 pe, s⟩
theorem wd_and {da db : DT} (ha : TD X a da) (hb : WD X (.BoolOp .And (b :: rest) pos) db) : WD X (.BoolOp .And (a :: b :: rest) pos) (tAndD da db) := by
  obtain ⟨ta, pa, sa⟩ := ha
  obtain ⟨tb, pb, sb⟩ := hb
  refine ⟨_, pw_and pa pb, fun {bs g σ S H Qd Q} R hd k => sa R hd fun c g1 S1 H1 q1 R1 x1 => ?_⟩
  cases c with
  | true => exact sb R1 q1 fun c g2 S2 H2 q2 R2 x2 => k c g2 S2 H2 q2 R2 (x1.trans x2)
  | false => exact k false g1 S1 H1 q1 R1 x1
theorem wd_or {da db : DT} (ha : TD X a da) (hb : WD X (.BoolOp .Or (b :: rest) pos) db) : WD X (.BoolOp .Or (a :: b :: rest) pos) (tOrD da db) := by
  obtain ⟨ta, pa, sa⟩ := ha
  obtain ⟨tb, pb, sb⟩ := hb
  refine ⟨_, pw_or pa pb, fun {bs g σ S H Qd Q} R hd k => sa R hd fun c g1 S1 H1 q1 R1 x1 => ?_⟩
  cases c with
  | false => exact sb R1 q1 fun c g2 S2 H2 q2 R2 x2 => k c g2 S2 H2 q2 R2 (x1.trans x2)
  | true => exact k true g1 S1 H1 q1 R1 x1
theorem td_not {da : DT} (ha : TD X a da) : TD X (.UnaryOp .Not a pos) (tNotD da) := by
  obtain ⟨ta, pa, sa⟩ := ha
  exact ⟨_, pt_not pa, fun {bs g σ S H Qd Q} R hd k => sa R hd fun c g1 S1 H1 q1 R1 x1 => k (!c) g1 S1 H1 q1 R1 x1⟩
def xIf (dt : DT) (da db : DX) : DX := fun g Q => dt g fun c g1 => if c = true then da g1 Q else db g1 Q
theorem ex_ifExp {dt : DT} {da db : DX} (ht : TD X c dt) (ha : EX X a da) (hb : EX X b db) : EX X (.IfExp c a b pos) (xIf dt da db) := by
  obtain ⟨t, pt, st⟩ := ht
  obtain ⟨ta, pa, sa⟩ := ha
  obtain ⟨tb, pb, sb⟩ := hb
  refine ⟨_, pe_ifExp pt pa pb, fun {bs g σ S H Qd Q} R hd k => st R hd fun c g1 S1 H1 q1 R1 x1 => ?_⟩
  cases c with
  | true => exact sa R1 q1 fun y g2 w S2 H2 q2 R2 x2 r2 => k y g2 w S2 H2 q2 R2 (x1.trans x2) (r2.from x1)
  | false => exact sb R1 q1 fun y g2 w S2 H2 q2 R2 x2 r2 => k y g2 w S2 H2 q2 R2 (x1.trans x2) (r2.from x1)
def eNeg (da : DE) : DE := fun g Q => da g fun x g1 => match x with
  | .int i => Q (.int (-i)) g1
  | _ => False
theorem ed_neg {da : DE} (ha : ED X a da) : ED X (.UnaryOp .USub a pos) (eNeg da) := by
  obtain ⟨ta, pa, sa⟩ := ha
  refine ⟨_, pe_un un_neg pa, fun {bs g σ S H Qd Q} R hd k => sa R hd fun x g1 v S1 H1 q1 R1 x1 r1 => ?_⟩
  cases x with
  | int i => exact ⟨i, r1.int, k _ g1 _ S1 H1 q1 R1 x1 (Rep.ofInt (K := X.K) (S := S1) (-i))⟩
  | _ => exact q1.elim
/-! ### several, displays -/
def aNil : DA := fun g Q => Q [] g
def aCons (de : DE) (da : DA) : DA := fun g Q => de g fun x g1 => da g1 fun xs g2 => Q (x :: xs) g2
theorem ad_nil : AD X [] 0 aNil := ⟨_, pa_nil, fun {b g σ S H Qd Q} R hd k => k [] g [] S H hd R .rfl .nil rfl⟩
theorem ad_cons {de : DE} {da : DA} {n : Nat} (he : ED X e de) (ha : AD X es n da) (hs : starEach (e :: es) X.env = (false, eval e X.env) :: starEach es X.env := by rfl) : AD X (e :: es) (n + 1) (aCons de da) := by
  obtain ⟨te, pe, se⟩ := he
  obtain ⟨ta, pa, sa⟩ := ha
  refine ⟨_, pa_cons pe pa hs, fun {b g σ S H Qd Q} R hd k => se R hd fun x g1 v S1 H1 q1 R1 x1 r1 => sa R1 q1 fun xs g2 vs S2 H2 q2 R2 x2 r2 l2 => ?_⟩
  exact k (x :: xs) g2 (v :: vs) S2 H2 q2 R2 (x1.trans x2) (.cons (Rep.le x2.le _ _ r1) r2) (by rw [List.length_cons, l2])
def xLst (da : DA) : DX := fun g Q => da g fun ds g1 => Q (.ow (.lst ds)) g1
def eTup (da : DA) : DE := fun g Q => da g fun ds g1 => Q (.tup ds) g1
theorem small_line {n : Nat} (h : n ≤ 100000) : n ≤ sizeLine := Nat.le_trans h (by decide)
theorem ex_lst {da : DA} {n : Nat} (ha : AD X es n da) (hn : n ≤ 100000 := by decide) : EX X (.List es pos) (xLst da) := by
  obtain ⟨ta, pa, sa⟩ := ha
  refine ⟨_, pe_lst pa, fun {b g σ S H Qd Q} R hd k => sa R hd fun ds g1 vs S1 H1 q1 R1 x1 r1 l1 => ⟨by rw [r1.len, l1]; exact small_line hn, fun p hp => ?_⟩⟩
  obtain ⟨R2, x2, r2⟩ := R1.lst hp r1
  exact k _ g1 _ _ _ q1 R2 (x1.trans x2) (r2.from x1)
theorem ed_tup {da : DA} {n : Nat} {x1} (ha : AD X es n da) (hn : n ≤ 100000 := by decide) : ED X (.Tuple es x1 pos) (eTup da) := by
  obtain ⟨ta, pa, sa⟩ := ha
  refine ⟨_, pe_tup pa, fun {b g σ S H Qd Q} R hd k => sa R hd fun ds g1 vs S1 H1 q1 R1 x1 r1 l1 => ⟨by rw [r1.len, l1]; exact small_line hn, fun p hp => ?_⟩⟩
  obtain ⟨R2, x2, r2⟩ := R1.tup hp r1
  exact k _ g1 _ _ _ q1 R2 (x1.trans x2) r2
/-! ### calls of built-ins -/
abbrev GC := List D → (R → Prop) → Prop
def SndC (K : PySem.W.Frag) (r : List V → Hp → VK → Prop) (f : GC) : Prop := ∀ {b : Bs} {g : G} {σ : St} {S H : Hp} {ds : List D} {vs : List V} {Qd : R → Prop} {Q : VK}, Rel K b g σ S H → Reps K S ds vs → f ds Qd →
  (∀ z u S' H', Qd z → Rel K b g σ S' H' → Ext g σ S H g S' H' → RRep K b g H g σ S' H' u z → Q u H') → r vs H Q
def CallD (X : Cx) (f : Value) (d : GC) : Prop := ∃ r, CallR X f r ∧ SndC X.K r d
def xCB (f : GC) (da : DA) : DX := fun g Q => da g fun ds g1 => f ds fun z => Q z g1
theorem snd_cb {r : List V → Hp → VK → Prop} {f : GC} {ta : TA} {da : DA} {n : Nat} (s : SndC K r f) (sa : SndA K n ta da) : SndX K (tCB r ta) (xCB f da) := fun {b g σ S H Qd Q} R hd k =>
  sa R hd fun ds g1 vs S1 H1 q1 R1 x1 r1 l1 => s R1 r1 q1 fun z u S2 H2 q2 R2 x2 r2 => k z g1 u S2 H2 q2 R2 (x1.trans x2) (r2.from x1)
theorem ex_callB {id : String} {x : Str} {f : GC} {da : DA} {n : Nat} (hc : CallD X (.builtin id) f) (hg : Gl X x) (hm : X.mg x = none) (hv : bootBuiltins x = some (.builtin id)) (ha : AD X (e :: es) n da) (hn : x ≠ "__name__" := by decide) (hdb : (x == ("__debug__" : Str)) = false := by decide)
    (he : starEach (e :: es) X.env = (false, eval e X.env) :: starEach es X.env := by rfl) (hpl : (backTo pos (starEach es X.env)).any (·.1) = false := by rfl) : EX X (.Call (.Name x p) (e :: es) [] pos) (xCB f da) := by
  obtain ⟨r, h1, h2⟩ := hc
  obtain ⟨ta, pa, sa⟩ := ha
  exact ⟨_, pe_callB h1 hg hm hv pa hn hdb he hpl, snd_cb h2 sa⟩
theorem ex_callTy {T : String} {x : Str} {f : GC} {da : DA} {n : Nat} (hc : CallD X (.type T) f) (hg : Gl X x) (hm : X.mg x = none) (hv : bootBuiltins x = some (.type T)) (ha : AD X (e :: es) n da) (hn : x ≠ "__name__" := by decide) (hdb : (x == ("__debug__" : Str)) = false := by decide)
    (he : starEach (e :: es) X.env = (false, eval e X.env) :: starEach es X.env := by rfl) (hpl : (backTo pos (starEach es X.env)).any (·.1) = false := by rfl) : EX X (.Call (.Name x p) (e :: es) [] pos) (xCB f da) := by
  obtain ⟨r, h1, h2⟩ := hc
  obtain ⟨ta, pa, sa⟩ := ha
  exact ⟨_, pe_callTy h1 hg hm hv pa hn hdb he hpl, snd_cb h2 sa⟩
theorem sndC_pure {r : List V → Hp → VK → Prop} {f : GC} (h : ∀ {S H : Hp} {ds : List D} {vs : List V} {Qd : R → Prop} {Q : VK}, Le S H → Reps K S ds vs → f ds Qd → (∀ z u, Qd (.sh z) → Rep K S z u → Q u H) → r vs H Q) : SndC K r f :=
  fun {b g σ S H ds vs Qd Q} R rs hd k => h R.le rs hd fun z u q rz => k (.sh z) u S H q R .rfl rz
theorem Reps.one {S : Hp} {d : D} {vs : List V} (h : Reps K S [d] vs) : ∃ v, vs = [v] ∧ Rep K S d v := by
  obtain ⟨v, r, rfl, h1, h2⟩ := h.uncons
  unfold Reps at h2
  subst h2
  exact ⟨v, rfl, h1⟩
theorem Reps.two {S : Hp} {d d' : D} {vs : List V} (h : Reps K S [d, d'] vs) : ∃ v w, vs = [v, w] ∧ Rep K S d v ∧ Rep K S d' w := by
  obtain ⟨v, r, rfl, h1, h2⟩ := h.uncons
  obtain ⟨w, rfl, h3⟩ := h2.one
  exact ⟨v, w, rfl, h1, h3⟩
def fLen : GC := fun ds Q => match ds with
  | [.lst xs] => Q (.sh (.int xs.length))
  | [.tup xs] => Q (.sh (.int xs.length))
  | [.str s] => s.length ≤ sizeLine ∧ Q (.sh (.int s.length))
  | _ => False
theorem b_len : CallD X (.builtin "len") fLen := by
  refine ⟨_, call_len, fun {b g σ S H ds vs Qd Q} R rs hd k0 => ?_⟩
  have l := R.le
  have k : ∀ z u, Qd (.sh z) → Rep X.K S z u → Q u H := fun z u q rz => k0 (.sh z) u S H q R .rfl rz
  match ds, hd with
  | [.lst xs], hd =>
    obtain ⟨v, rfl, r⟩ := rs.one
    obtain ⟨a, ws, rfl, q, rw'⟩ := r.lst
    refine ⟨_, ws.length, rfl, .inl ⟨ws, .inl (Rd.le l q), rfl⟩, ?_⟩
    rw [rw'.len]
    exact k _ _ hd (.ofInt _)
  | [.tup xs], hd =>
    obtain ⟨v, rfl, r⟩ := rs.one
    obtain ⟨a, ws, rfl, q, rw'⟩ := r.tup
    refine ⟨_, ws.length, rfl, .inr ⟨ws, SqT.le l q, rfl⟩, ?_⟩
    rw [rw'.len]
    exact k _ _ hd (.ofInt _)
  | [.str s], hd =>
    obtain ⟨v, rfl, r⟩ := rs.one
    exact ⟨_, s.length, rfl, (by rw [r.str]; exact ⟨hd.1, rfl⟩), k _ _ hd.2 (.ofInt _)⟩
def fAbs : GC := fun ds Q => match ds with
  | [.int i] => Q (.sh (.int (if i < 0 then -i else i)))
  | _ => False
theorem b_abs : CallD X (.builtin "abs") fAbs := by
  refine ⟨_, call_abs, fun {b g σ S H ds vs Qd Q} R rs hd k0 => ?_⟩
  have l := R.le
  have k : ∀ z u, Qd (.sh z) → Rep X.K S z u → Q u H := fun z u q rz => k0 (.sh z) u S H q R .rfl rz
  match ds, hd with
  | [.int i], hd =>
    obtain ⟨v, rfl, r⟩ := rs.one
    exact ⟨i, by rw [r.int], k _ _ hd (.ofInt _)⟩
def fMax2 : GC := fun ds Q => match ds with
  | [.int i, .int j] => Q (.sh (.int (max i j)))
  | _ => False
def fMin2 : GC := fun ds Q => match ds with
  | [.int i, .int j] => Q (.sh (.int (min i j)))
  | _ => False
theorem b_max2 (hc : X.calm = true) : CallD X (.builtin "max") fMax2 := by
  refine ⟨_, call_max2 hc, fun {b g σ S H ds vs Qd Q} R rs hd k0 => ?_⟩
  have l := R.le
  have k : ∀ z u, Qd (.sh z) → Rep X.K S z u → Q u H := fun z u q rz => k0 (.sh z) u S H q R .rfl rz
  match ds, hd with
  | [.int i, .int j], hd =>
    obtain ⟨v, w, rfl, r, r'⟩ := rs.two
    refine ⟨i, j, by rw [r.int, r'.int], ?_⟩
    rw [show (if j > i then j else i) = max i j by omega]
    exact k _ _ hd (.ofInt _)
theorem b_min2 (hc : X.calm = true) : CallD X (.builtin "min") fMin2 := by
  refine ⟨_, call_min2 hc, fun {b g σ S H ds vs Qd Q} R rs hd k0 => ?_⟩
  have l := R.le
  have k : ∀ z u, Qd (.sh z) → Rep X.K S z u → Q u H := fun z u q rz => k0 (.sh z) u S H q R .rfl rz
  match ds, hd with
  | [.int i, .int j], hd =>
    obtain ⟨v, w, rfl, r, r'⟩ := rs.two
    refine ⟨i, j, by rw [r.int, r'.int], ?_⟩
    rw [show (if j < i then j else i) = min i j by omega]
    exact k _ _ hd (.ofInt _)
def fInt : GC := fun ds Q => match ds with
  | [.int i] => Q (.sh (.int i))
  | [.bl c] => Q (.sh (.int (if c then 1 else 0)))
  | _ => False
theorem b_int : CallD X (.type "int") fInt := by
  refine ⟨_, call_int1, fun {b g σ S H ds vs Qd Q} R rs hd k0 => ?_⟩
  have l := R.le
  have k : ∀ z u, Qd (.sh z) → Rep X.K S z u → Q u H := fun z u q rz => k0 (.sh z) u S H q R .rfl rz
  match ds, hd with
  | [.int i], hd =>
    obtain ⟨v, rfl, r⟩ := rs.one
    exact .inl ⟨i, by rw [r.int], k _ _ hd (.ofInt _)⟩
  | [.bl c], hd =>
    obtain ⟨v, rfl, r⟩ := rs.one
    exact .inr ⟨c, by rw [r.bl], k _ _ hd (.ofInt _)⟩
def fList : GC := fun ds Q => match ds with
  | [.lst xs] => Q (.ow (.lst xs))
  | [.tup xs] => Q (.ow (.lst xs))
  | _ => False
theorem b_list : CallD X (.type "list") fList := by
  refine ⟨_, call_list_of, fun {b g σ S H ds vs Qd Q} R rs hd k => ?_⟩
  match ds, hd with
  | [.lst xs], hd =>
    obtain ⟨v, rfl, r⟩ := rs.one
    obtain ⟨a, ws, rfl, q, rw'⟩ := r.lst
    refine ⟨a, ws, rfl, .inl (.inl (Rd.le R.le q)), fun p hp => ?_⟩
    obtain ⟨R', x', rp⟩ := R.lst hp rw'
    exact k _ _ _ _ hd R' x' rp
  | [.tup xs], hd =>
    obtain ⟨v, rfl, r⟩ := rs.one
    obtain ⟨a, ws, rfl, q, rw'⟩ := r.tup
    refine ⟨a, ws, rfl, .inr (SqT.le R.le q), fun p hp => ?_⟩
    obtain ⟨R', x', rp⟩ := R.lst hp rw'
    exact k _ _ _ _ hd R' x' rp
def fTuple : GC := fun ds Q => match ds with
  | [.lst xs] => Q (.sh (.tup xs))
  | [.tup xs] => Q (.sh (.tup xs))
  | _ => False
theorem b_tuple : CallD X (.type "tuple") fTuple := by
  refine ⟨_, call_tuple_of, fun {b g σ S H ds vs Qd Q} R rs hd k => ?_⟩
  match ds, hd with
  | [.lst xs], hd =>
    obtain ⟨v, rfl, r⟩ := rs.one
    obtain ⟨a, ws, rfl, q, rw'⟩ := r.lst
    refine ⟨a, ws, rfl, .inl ⟨.inl (Rd.le R.le q), fun p hp => ?_⟩⟩
    obtain ⟨R', x', rp⟩ := R.tup hp rw'
    exact k _ _ _ _ hd R' x' rp
  | [.tup xs], hd =>
    obtain ⟨v, rfl, r⟩ := rs.one
    obtain ⟨a, ws, rfl, q, rw'⟩ := r.tup
    exact ⟨a, ws, rfl, .inr ⟨SqT.le R.le q, k _ _ S H hd R .rfl r⟩⟩
def fSum : GC := fun ds Q => match ds with
  | [.lst xs] => ∃ ns : List Int, xs = ns.map .int ∧ Q (.sh (.int ns.sum))
  | _ => False
theorem b_sum (hc : X.calm = true) : CallD X (.builtin "sum") fSum := by
  refine ⟨_, cr_sum hc, fun {b g σ S H ds vs Qd Q} R rs hd k0 => ?_⟩
  have l := R.le
  have k : ∀ z u, Qd (.sh z) → Rep X.K S z u → Q u H := fun z u q rz => k0 (.sh z) u S H q R .rfl rz
  match ds, hd with
  | [.lst xs], ⟨ns, e, hd⟩ =>
    subst e
    obtain ⟨v, rfl, r⟩ := rs.one
    obtain ⟨a, ws, rfl, q, rw'⟩ := r.lst
    rw [rw'.ints] at q
    exact ⟨a, ns, rfl, .inl (Rd.le l q), k _ _ hd (.ofInt _)⟩
theorem Reps.bls {S : Hp} : ∀ {l : List Bool} {vs : List V}, Reps K S (l.map .bl) vs → vs = l.map V.bl
  | [], vs, h => by unfold Reps at h; exact h
  | i :: l, vs, h => by
    obtain ⟨v, r, rfl, h1, q⟩ := Reps.uncons (show Reps K S (.bl i :: l.map .bl) vs from h)
    rw [h1.bl, q.bls]
    rfl
def fAll : GC := fun ds Q => match ds with
  | [.lst xs] => ∃ bs : List Bool, xs = bs.map .bl ∧ Q (.sh (.bl (bs.all id)))
  | _ => False
def fAny : GC := fun ds Q => match ds with
  | [.lst xs] => ∃ bs : List Bool, xs = bs.map .bl ∧ Q (.sh (.bl (bs.any id)))
  | _ => False
theorem b_all (hc : X.calm = true) : CallD X (.builtin "all") fAll := by
  refine ⟨_, cr_all hc, fun {b g σ S H ds vs Qd Q} R rs hd k0 => ?_⟩
  have l := R.le
  have k : ∀ z u, Qd (.sh z) → Rep X.K S z u → Q u H := fun z u q rz => k0 (.sh z) u S H q R .rfl rz
  match ds, hd with
  | [.lst xs], ⟨ns, e, hd⟩ =>
    subst e
    obtain ⟨v, rfl, r⟩ := rs.one
    obtain ⟨a, ws, rfl, q, rw'⟩ := r.lst
    rw [rw'.bls] at q
    exact ⟨a, ns, rfl, .inl (Rd.le l q), k _ _ hd (.ofBl _)⟩
theorem b_any (hc : X.calm = true) : CallD X (.builtin "any") fAny := by
  refine ⟨_, cr_any hc, fun {b g σ S H ds vs Qd Q} R rs hd k0 => ?_⟩
  have l := R.le
  have k : ∀ z u, Qd (.sh z) → Rep X.K S z u → Q u H := fun z u q rz => k0 (.sh z) u S H q R .rfl rz
  match ds, hd with
  | [.lst xs], ⟨ns, e, hd⟩ =>
    subst e
    obtain ⟨v, rfl, r⟩ := rs.one
    obtain ⟨a, ws, rfl, q, rw'⟩ := r.lst
    rw [rw'.bls] at q
    exact ⟨a, ns, rfl, .inl (Rd.le l q), k _ _ hd (.ofBl _)⟩
/-! ### len(x) of a name, x[e]: what the name owns stays its own -/
/-- the list or tuple that a slot holds -/
def seqS : Sl → Option (List D)
  | .sh (.lst ds) => some ds
  | .sh (.tup ds) => some ds
  | .ow (.lst ds) => some ds
  | .bx _ (.lst ds) => some ds
  | _ => none
theorem seqS_sound {b : Bs} {g : G} {σ : St} {S H : Hp} {i : Nat} {ds : List D} (R : Rel K b g σ S H) (h : seqS (gt g i) = some ds) : ∃ a vs, σ[i]? = some (some (.ref a)) ∧ (SqL K H a vs ∨ SqT K H a vs) ∧ Reps K S ds vs := by
  cases e : gt g i with
  | no => rw [e] at h; cases h
  | sh d =>
    rw [e] at h
    obtain ⟨v, q, r⟩ := R.slot i _ (gt_get e (fun z => nomatch z))
    cases d with
    | lst xs =>
      cases h
      obtain ⟨a, vs, rfl, q2, rs⟩ := r.lst
      exact ⟨a, vs, q, .inl (.inl (Rd.le R.le q2)), rs⟩
    | tup xs =>
      cases h
      obtain ⟨a, vs, rfl, q2, rs⟩ := r.tup
      exact ⟨a, vs, q, .inr (SqT.le R.le q2), rs⟩
    | _ => cases h
  | ow o =>
    rw [e] at h
    obtain ⟨a, q, _, _, ok⟩ := R.slot i _ (gt_get e (fun z => nomatch z))
    cases o with
    | lst ds =>
      cases h
      obtain ⟨vs, hv, rs⟩ := ok
      exact ⟨a, vs, q, .inl (SqL.of hv), rs⟩
    | ins => cases h
  | bx n o =>
    rw [e] at h
    obtain ⟨a, q, _, _, ok⟩ := R.slot i _ (gt_get e (fun z => nomatch z))
    cases o with
    | lst ds =>
      cases h
      obtain ⟨vs, hv, rs⟩ := ok
      exact ⟨a, vs, q, .inl (SqL.of hv), rs⟩
    | ins => cases h
def eLenV (i : Nat) : DE := fun g Q => match seqS (gt g i) with
  | some ds => Q (.int ds.length) g
  | none => False
theorem ed_lenV {x y : Str} {i : Nat} (hN : X.N[i]? = some y) (hvs : Vis X.env.scope y) (hg : Gl X x) (hm : X.mg x = none) (hv : bootBuiltins x = some (.builtin "len")) {p' : Pos} (hn : x ≠ "__name__" := by decide) (hdb : (x == ("__debug__" : Str)) = false := by decide)
    (hdy : (y == ("__debug__" : Str)) = false := by decide) (hcd : (y == ("__classdict__" : Str)) = false := by decide)
    (he : starEach [.Name y p'] X.env = (false, eval (.Name y p') X.env) :: starEach [] X.env := by rfl) (hpl : (backTo pos (starEach [] X.env)).any (·.1) = false := by rfl) : ED X (.Call (.Name x p) [.Name y p'] [] pos) (eLenV i) := by
  refine ⟨_, pe_callB call_len_seq hg hm hv (pa_cons (pe_var hN hvs hdy hcd) pa_nil he) hn hdb he hpl, fun {b g σ S H Qd Q} R hd k => ?_⟩
  unfold eLenV at hd
  cases es : seqS (gt g i) with
  | none => rw [es] at hd; exact hd.elim
  | some ds =>
    rw [es] at hd
    obtain ⟨a, vs, q, hq, rs⟩ := seqS_sound R es
    refine ⟨_, q, a, vs, rfl, hq, ?_⟩
    rw [rs.len]
    exact k _ g _ S H hd R .rfl (Rep.ofInt (K := X.K) (S := S) _)
theorem Reps.atI {S : Hp} {ds : List D} {vs : List V} {i : Int} {d : D} (r : Reps K S ds vs) (h : L2.atI ds i = some d) : ∃ v, L2.atI vs i = some v ∧ Rep K S d v := by
  unfold L2.atI at h ⊢
  rw [r.len]
  cases e : ixN ds.length i with
  | none => rw [e] at h; cases h
  | some j =>
    rw [e] at h
    exact r.get (i := j) h
def fIx (x y : D) (Q : D → Prop) : Prop := match x, y with
  | .lst xs, .int i => ∃ d, L2.atI xs i = some d ∧ Q d
  | .tup xs, .int i => ∃ d, L2.atI xs i = some d ∧ Q d
  | .str s, .int i => s.length ≤ sizeLine ∧ ∃ c, L2.atI s.cps.toList i = some c ∧ Q (.str ⟨#[c]⟩)
  | _, _ => False
def eIx (da db : DE) : DE := fun g Q => da g fun x g1 => db g1 fun y g2 => fIx x y fun z => Q z g2
theorem ed_ix {da db : DE} (ha : ED X a da) (hb : ED X b db) (hs : PlainIx b) : ED X (.Subscript a b pos) (eIx da db) := by
  obtain ⟨ta, pa, sa⟩ := ha
  obtain ⟨tb, pb, sb⟩ := hb
  refine ⟨_, pe_ix ix_seq pa pb hs, fun {bs g σ S H Qd Q} R hd k => sa R hd fun x g1 v S1 H1 q1 R1 x1 r1 => sb R1 q1 fun y g2 w S2 H2 q2 R2 x2 r2 => ?_⟩
  have r1' := Rep.le x2.le _ _ r1
  cases x with
  | lst xs =>
    cases y with
    | int i =>
      obtain ⟨d, h1, h2⟩ := q2
      obtain ⟨p, vs, e, q, rs⟩ := r1'.lst
      obtain ⟨u, hu, ru⟩ := rs.atI h1
      exact .inl ⟨p, vs, i, u, e, r2.int, .inl (Rd.le R2.le q), hu, k d g2 u S2 H2 h2 R2 (x1.trans x2) ru⟩
    | _ => exact q2.elim
  | tup xs =>
    cases y with
    | int i =>
      obtain ⟨d, h1, h2⟩ := q2
      obtain ⟨p, vs, e, q, rs⟩ := r1'.tup
      obtain ⟨u, hu, ru⟩ := rs.atI h1
      exact .inr (.inl ⟨p, vs, i, u, e, r2.int, SqT.le R2.le q, hu, k d g2 u S2 H2 h2 R2 (x1.trans x2) ru⟩)
    | _ => exact q2.elim
  | str s =>
    cases y with
    | int i =>
      obtain ⟨h0, d, h1, h2⟩ := q2
      exact .inr (.inr ⟨s, i, d, r1'.str, r2.int, h0, h1, k _ g2 _ S2 H2 h2 R2 (x1.trans x2) (Rep.ofStr (K := X.K) (S := S2) _)⟩)
    | _ => exact q2.elim
  | _ => cases y <;> exact q2.elim
def eIxV (i : Nat) (db : DE) : DE := fun g Q => match seqS (gt g i) with
  | some _ => db g fun y g2 => match y with
    | .int j => match seqS (gt g2 i) with
      | some ds => ∃ d, L2.atI ds j = some d ∧ Q d g2
      | none => False
    | _ => False
  | none => False
theorem ed_ixV {x : Str} {i : Nat} {db : DE} {p' : Pos} (hN : X.N[i]? = some x) (hv : Vis X.env.scope x) (hb : ED X b db) (hs : PlainIx b) (hd : (x == ("__debug__" : Str)) = false := by decide) (hcd : (x == ("__classdict__" : Str)) = false := by decide) : ED X (.Subscript (.Name x p') b pos) (eIxV i db) := by
  obtain ⟨tb, pb, sb⟩ := hb
  refine ⟨_, pe_ix ix_seq (pe_var hN hv hd hcd) pb hs, fun {bs g σ S H Qd Q} R hd k => ?_⟩
  unfold eIxV at hd
  cases e0 : seqS (gt g i) with
  | none => rw [e0] at hd; exact hd.elim
  | some ds0 =>
    rw [e0] at hd
    obtain ⟨a, vs0, q0, _, _⟩ := seqS_sound R e0
    refine ⟨_, q0, sb R hd fun y g2 w S2 H2 q2 R2 x2 r2 => ?_⟩
    cases y with
    | int j =>
      cases e : seqS (gt g2 i) with
      | none => simp only [e] at q2
      | some ds =>
        simp only [e] at q2
        obtain ⟨d, h1, h2⟩ := q2
        obtain ⟨a2, vs, q, hq, rs⟩ := seqS_sound R2 e
        rw [q0] at q
        cases q
        obtain ⟨u, hu, ru⟩ := rs.atI h1
        rcases hq with hq | hq
        · exact .inl ⟨a, vs, j, u, rfl, r2.int, hq, hu, k d g2 u S2 H2 h2 R2 x2 ru⟩
        · exact .inr (.inl ⟨a, vs, j, u, rfl, r2.int, hq, hu, k d g2 u S2 H2 h2 R2 x2 ru⟩)
    | _ => exact q2.elim
/-! ### slices -/
abbrev DO := G → (Option Int → G → Prop) → Prop
def SndP (K : PySem.W.Frag) (t : TO) (d : DO) : Prop := ∀ {b : Bs} {g : G} {σ : St} {S H : Hp} {Qd : Option Int → G → Prop} {Q : Option Int → Hp → Prop}, Rel K b g σ S H → d g Qd →
  (∀ o g' S' H', Qd o g' → Rel K b g' σ S' H' → Ext g σ S H g' S' H' → Q o H') → t σ H Q
def PD (X : Cx) (e : Option Expr) (d : DO) : Prop := ∃ t, PO X e t ∧ SndP X.K t d
def oNone : DO := fun g Q => Q none g
def oSome (d : DE) : DO := fun g Q => d g fun x g' => match x with
  | .int i => Q (some i) g'
  | _ => False
theorem pd_none : PD X none oNone := ⟨_, po_none, fun {b g σ S H Qd Q} R hd k => k none g S H hd R .rfl⟩
theorem pd_some {d : DE} (h : ED X e d) : PD X (some e) (oSome d) := by
  obtain ⟨t, pe, s⟩ := h
  refine ⟨_, po_some pe, fun {b g σ S H Qd Q} R hd k => s R hd fun x g1 v S1 H1 q1 R1 x1 r1 => ?_⟩
  cases x with
  | int i => exact ⟨i, r1.int, k _ g1 S1 H1 q1 R1 x1⟩
  | _ => exact q1.elim
def cut (xs : List D) (lo hi : Option Int) : List D := (xs.drop (HT.sIx xs.length 0 lo)).take (HT.sIx xs.length xs.length hi - HT.sIx xs.length 0 lo)
theorem Reps.cut {S : Hp} {ds : List D} {vs : List V} (lo hi : Option Int) (r : Reps K S ds vs) : Reps K S (DL.cut ds lo hi) (cutV vs lo hi) := by
  unfold DL.cut cutV
  rw [r.len]
  exact (r.drop _).take _
def fSl (x : D) (lo hi : Option Int) (Q : R → Prop) : Prop := match x with
  | .lst xs => Q (.ow (.lst (cut xs lo hi)))
  | .tup xs => Q (.sh (.tup (cut xs lo hi)))
  | .str s => s.length ≤ sizeLine ∧ Q (.sh (.str (cutS s lo hi)))
  | _ => False
def xSl (de : DE) (dl du : DO) : DX := fun g Q => de g fun x g1 => dl g1 fun lo g2 => du g2 fun hi g3 => fSl x lo hi fun z => Q z g3
theorem ex_slice {de : DE} {lo hi : Option Expr} {dl du : DO} (he : ED X e de) (hl : PD X lo dl) (hu : PD X hi du) : EX X (.Subscript e (.Slice lo hi none p2) pos) (xSl de dl du) := by
  obtain ⟨te, pe, se⟩ := he
  obtain ⟨tl, pl, sl⟩ := hl
  obtain ⟨tu, pu, su⟩ := hu
  refine ⟨_, pe_slice (SlR.or sl_list (SlR.or sl_tupA sl_str)) pe pl pu, fun {bs g σ S H Qd Q} R hd k => se R hd fun x g1 v S1 H1 q1 R1 x1 r1 => sl R1 q1 fun lo g2 S2 H2 q2 R2 x2 => su R2 q2 fun hi g3 S3 H3 q3 R3 x3 => ?_⟩
  have xx := (x1.trans x2).trans x3
  have r1' := Rep.le (x2.trans x3).le _ _ r1
  cases x with
  | lst xs =>
    obtain ⟨a, vs, e, q, rs⟩ := r1'.lst
    refine .inl ⟨a, vs, e, .inl (Rd.le R3.le q), fun p hp => ?_⟩
    obtain ⟨R', x', rp⟩ := R3.lst hp (rs.cut lo hi)
    exact k _ _ _ _ _ q3 R' (xx.trans x') (rp.from xx)
  | tup xs =>
    obtain ⟨a, vs, e, q, rs⟩ := r1'.tup
    refine .inr (.inl ⟨a, vs, e, SqT.le R3.le q, fun hw => ?_, fun _ p hp => ?_⟩)
    · refine k _ _ _ _ _ q3 R3 xx ?_
      have ec : cut xs lo hi = xs := by
        unfold cut
        rw [rs.len] at hw
        rw [hw.1, hw.2, List.drop_zero, Nat.sub_zero, List.take_length]
      show Rep X.K S3 (.tup (cut xs lo hi)) (.ref a)
      rw [ec]
      exact e ▸ r1'
    · obtain ⟨R', x', rp⟩ := R3.tup hp (rs.cut lo hi)
      exact k _ _ _ _ _ q3 R' (xx.trans x') rp
  | str s =>
    exact .inr (.inr ⟨s, r1'.str, q3.1, k _ _ _ _ _ q3.2 R3 xx (Rep.ofStr (K := X.K) (S := S3) _)⟩)
  | _ => exact q3.elim
/-- xs[::-1] of a list -/
def xRev (de : DE) : DX := fun g Q => de g fun x g1 => match x with
  | .lst xs => Q (.ow (.lst xs.reverse)) g1
  | _ => False
theorem ex_rev {de : DE} {k : Nat} {p1 p3 : Pos} (he : ED X e de) : EX X (.Subscript e (.Slice none none (some (.UnaryOp .USub (.Constant (.int 1) k p1) p2)) p3) pos) (xRev de) := by
  obtain ⟨te, pe, se⟩ := he
  refine ⟨_, pe_revL pe, fun {bs g σ S H Qd Q} R hd k => se R hd fun x g1 v S1 H1 q1 R1 x1 r1 => ?_⟩
  cases x with
  | lst xs =>
    obtain ⟨a, vs, e, q, rs⟩ := r1.lst
    refine ⟨a, vs, e, .inl (Rd.le R1.le q), fun p hp => ?_⟩
    obtain ⟨R', x', rp⟩ := R1.lst hp rs.reverse
    exact k _ _ _ _ _ q1 R' (x1.trans x') (rp.from x1)
  | _ => exact q1.elim
end
end DL

set_option maxRecDepth 100000
set_option maxHeartbeats 4000000
namespace DL
open PySem L2
/-! ### statements -/
structure DEnds where
  nx : G → Prop
  rt : R → G → Prop
  bk : G → Prop := fun _ => False
  ct : G → Prop := fun _ => False
abbrev DS := DEnds → G → Prop
/-- what a def hands back -/
def RFin (K : PySem.W.Frag) (b : Bs) (g : G) (σ : St) (S H : Hp) (v : V) : R → Prop
  | .sh d => Rep K S d v
  | .ow o => ∃ a, v = .ref a ∧ S a = none ∧ b.H0 a = none ∧ OOk K S H a o ∧ ¬ Ows g σ a
theorem RRep.fin {K : PySem.W.Frag} {b : Bs} {g0 g : G} {σ : St} {Hs S H : Hp} {v : V} {r : R} (h : RRep K b g0 Hs g σ S H v r) : RFin K b g σ S H v r := by
  cases r with
  | sh d => exact h
  | ow o => obtain ⟨a, e, z, z0, ok, n, _⟩ := h; exact ⟨a, e, z, z0, ok, n⟩
structure EndsOk (K : PySem.W.Frag) (b : Bs) (De : DEnds) (D : Ends) : Prop where
  nx : ∀ {g σ S H}, De.nx g → Rel K b g σ S H → D.nx σ H
  rt : ∀ {r g σ v S H}, De.rt r g → Rel K b g σ S H → RFin K b g σ S H v r → D.rt v H
  bk : ∀ {g σ S H}, De.bk g → Rel K b g σ S H → D.bk σ H
  ct : ∀ {g σ S H}, De.ct g → Rel K b g σ S H → D.ct σ H
def SndS (K : PySem.W.Frag) (t : TS) (d : DS) : Prop := ∀ {b : Bs} {g : G} {σ : St} {S H : Hp} {De : DEnds} {D : Ends}, Rel K b g σ S H → d De g → EndsOk K b De D → t D σ H
def SD (X : Cx) (st : Stmt) (d : DS) : Prop := ∃ t, PS X st t ∧ SndS X.K t d
def BD (X : Cx) (sts : List Stmt) (d : DS) : Prop := ∃ t, PSs X sts t ∧ SndS X.K t d
section
variable {X : Cx} {e o a b c : Expr} {es : List Expr} {st : Stmt} {rest sts : List Stmt} {pos p p2 : Pos} {K : PySem.W.Frag}
def sNext : DS := fun De g => De.nx g
def sSeq (d u : DS) : DS := fun De g => d { De with nx := u De } g
theorem bd_nil : BD X [] sNext := ⟨_, pss_nil, fun {b g σ S H De D} R hd E => E.nx hd R⟩
theorem bd_cons {d u : DS} (h1 : SD X st d) (h2 : BD X rest u) : BD X (st :: rest) (sSeq d u) := by
  obtain ⟨t, p1, s1⟩ := h1
  obtain ⟨t2, p2, s2⟩ := h2
  exact ⟨_, pss_cons p1 p2, fun {b g σ S H De D} R hd E => s1 (D := { D with nx := t2 D }) R hd ⟨fun q R' => s2 R' q E, E.rt, E.bk, E.ct⟩⟩
theorem bd_one {d : DS} (h1 : SD X st d) : BD X [st] d := by
  obtain ⟨t, p1, s1⟩ := h1
  exact ⟨_, pss_one p1, s1⟩
def sBreak : DS := fun De g => De.bk g
def sCont : DS := fun De g => De.ct g
theorem sd_pass : SD X (.Pass pos) sNext := ⟨_, ps_pass, fun {b g σ S H De D} R hd E => E.nx hd R⟩
theorem sd_break : SD X (.Break pos) sBreak := ⟨_, ps_break, fun {b g σ S H De D} R hd E => E.bk hd R⟩
theorem sd_continue : SD X (.Continue pos) sCont := ⟨_, ps_continue, fun {b g σ S H De D} R hd E => E.ct hd R⟩
theorem sd_doc {x j pos'} : SD X (.Expr (.Constant (.str x) j pos) pos') sNext := ⟨_, ps_doc, fun {b g σ S H De D} R hd E => E.nx hd R⟩
def sNever : DS := fun _ _ => False
theorem sd_never : SD X st sNever := ⟨_, ps_never, fun {b g σ S H De D} R hd E => hd.elim⟩
theorem bd_never : BD X sts sNever := ⟨_, pss_never, fun {b g σ S H De D} R hd E => hd.elim⟩
def sDrop (d : DX) : DS := fun De g => d g fun _ g1 => De.nx g1
theorem sd_expr {d : DX} (h : EX X e d) (hs : swapsWith e none pos.line X.env = pure false := by rfl) : SD X (.Expr e pos) (sDrop d) := by
  obtain ⟨t, p1, s1⟩ := h
  exact ⟨_, ps_expr p1 hs, fun {b g σ S H De D} R hd E => s1 R hd fun r g1 v S1 H1 q1 R1 x1 r1 => E.nx q1 R1⟩
def sRet (d : DX) : DS := fun De g => d g De.rt
theorem sd_ret {d : DX} (h : EX X e d) : SD X (.Return (some e) pos) (sRet d) := by
  obtain ⟨t, p1, s1⟩ := h
  exact ⟨_, ps_ret p1, fun {b g σ S H De D} R hd E => s1 R hd fun r g1 v S1 H1 q1 R1 x1 r1 => E.rt q1 R1 r1.fin⟩
def sRetN : DS := fun De g => De.rt (.sh .non) g
theorem sd_retN : SD X (.Return none pos) sRetN := ⟨_, ps_retN, fun {b g σ S H De D} R hd E => E.rt hd R (Rep.ofNon (K := X.K) (S := S))⟩
def sIf (dt : DT) (d u : DS) : DS := fun De g => dt g fun c g1 => if c = true then d De g1 else u De g1
theorem sd_if {dt : DT} {d u : DS} {xs ys : List Stmt} (ht : TD X c dt) (ha : BD X xs d) (hb : BD X ys u) : SD X (.If c xs ys pos) (sIf dt d u) := by
  obtain ⟨t, pt, st⟩ := ht
  obtain ⟨ta, pa, sa⟩ := ha
  obtain ⟨tb, pb, sb⟩ := hb
  refine ⟨_, ps_if pt pa pb, fun {b g σ S H De D} R hd E => st R hd fun c g1 S1 H1 q1 R1 x1 => ?_⟩
  cases c with
  | true => exact sa R1 q1 E
  | false => exact sb R1 q1 E
/-! ### names get values -/
def R.slot : R → Sl
  | .sh d => .sh d
  | .ow o => .ow o
theorem Rel.setR {b : Bs} {g0 g : G} {σ : St} {Hs S H : Hp} {i : Nat} {v : V} {r : R} (R : Rel K b g σ S H) (h : RRep K b g0 Hs g σ S H v r) : Rel K b (g.set i r.slot) (σ.set i (some v)) S H := by
  cases r with
  | sh d => exact R.setSh h
  | ow o =>
    obtain ⟨a, rfl, z, z0, ok, n, _⟩ := h
    exact R.set ⟨a, rfl, z, z0, ok⟩ fun _ c e => by cases e; exact n
def sSet (i : Nat) (d : DX) : DS := fun De g => d g fun r g1 => De.nx (g1.set i r.slot)
theorem sd_set {i : Nat} {x : Str} {d : DX} {pos' : Pos} (hN : X.N.Nodup) (hi : X.N[i]? = some x) (hx : Loc X.env.scope x) (he : EX X e d) (hs : swapsWith e (some (.Name x pos')) pos.line X.env = pure false := by rfl) (hf : X.fn x = true ∨ X.env.scope.names.lookup x = some .local := by first | exact .inl rfl | exact .inr rfl | assumption) :
    SD X (.Assign [.Name x pos'] e pos) (sSet i d) := by
  obtain ⟨t, p1, s1⟩ := he
  exact ⟨_, ps_set hN hi hx p1 hs hf, fun {b g σ S H De D} R hd E => s1 R hd fun r g1 v S1 H1 q1 R1 x1 r1 => E.nx q1 (R1.setR r1)⟩
/-! ### targets -/
abbrev DG := D → G → (G → Prop) → Prop
def SndG (K : PySem.W.Frag) (vs : List Nat) (t : TG) (d : DG) : Prop := ∀ {b : Bs} {g : G} {σ : St} {S H : Hp} {x : D} {v : V} {Qd : G → Prop} {Q : St → Hp → Prop}, Rel K b g σ S H → Rep K S x v → d x g Qd →
  (∀ g' σ', Qd g' → Rel K b g' σ' S H → σ'.length = σ.length → (∀ j, j ∉ vs → σ'[j]? = σ[j]?) → (∀ a, Ows g' σ' a → Ows g σ a) → Q σ' H) → t v σ H Q
abbrev DGs := List D → G → (G → Prop) → Prop
def SndGs (K : PySem.W.Frag) (vs : List Nat) (t : TGs) (d : DGs) : Prop := ∀ {b : Bs} {g : G} {σ : St} {S H : Hp} {xs : List D} {ws : List V} {Qd : G → Prop} {Q : St → Hp → Prop}, Rel K b g σ S H → Reps K S xs ws → d xs g Qd →
  (∀ g' σ', Qd g' → Rel K b g' σ' S H → σ'.length = σ.length → (∀ j, j ∉ vs → σ'[j]? = σ[j]?) → (∀ a, Ows g' σ' a → Ows g σ a) → Q σ' H) → t ws σ H Q
def GD (X : Cx) (vs : List Nat) (e : Expr) (d : DG) : Prop := ∃ t, PG X e t ∧ SndG X.K vs t d
def GsD (X : Cx) (vs : List Nat) (es : List Expr) (d : DGs) : Prop := ∃ t, PGs X es t ∧ SndGs X.K vs t d
def gN (i : Nat) : DG := fun x g Q => Q (g.set i (.sh x))
theorem snd_gN {i : Nat} : SndG K [i] (gName i) (gN i) := fun {b g σ S H x v Qd Q} R r hd k => k _ _ hd (R.setSh r) (by rw [List.length_set]) (fun j h => by
  rw [List.getElem?_set_ne]
  rintro rfl
  exact h List.mem_cons_self) fun a ⟨j, q⟩ => by
  rcases own_set q with ⟨_, w, _⟩ | ⟨_, q⟩
  · cases w
  · exact ⟨j, q⟩
theorem gd_name {i : Nat} {x : Str} (hN : X.N.Nodup) (hi : X.N[i]? = some x) (hx : Loc X.env.scope x) (hf : X.fn x = true ∨ X.env.scope.names.lookup x = some .local := by first | exact .inl rfl | exact .inr rfl | assumption) : GD X [i] (.Name x pos) (gN i) := ⟨_, pg_name hN hi hx hf, snd_gN⟩
def gsN : DGs := fun xs g Q => match xs with
  | [] => Q g
  | _ => False
def gsC (d : DG) (u : DGs) : DGs := fun xs g Q => match xs with
  | x :: r => d x g fun g1 => u r g1 Q
  | [] => False
theorem snd_gsN : SndGs K [] gNil gsN := fun {b g σ S H xs ws Qd Q} R r hd k => by
  cases xs with
  | nil => unfold Reps at r; exact ⟨r, k g σ hd R rfl (fun _ _ => rfl) fun _ h => h⟩
  | cons _ _ => exact hd.elim
theorem snd_gsC {vs ws : List Nat} {t : TG} {u : TGs} {d : DG} {du : DGs} (s1 : SndG K vs t d) (s2 : SndGs K ws u du) : SndGs K (vs ++ ws) (gCons t u) (gsC d du) := fun {b g σ S H xs us Qd Q} R r hd k => by
  cases xs with
  | nil => exact hd.elim
  | cons x xs =>
    obtain ⟨v, r', rfl, h1, h2⟩ := r.uncons
    refine ⟨v, r', rfl, s1 R h1 hd fun g1 σ1 q1 R1 l1 o1 w1 => s2 R1 h2 q1 fun g2 σ2 q2 R2 l2 o2 w2 => k g2 σ2 q2 R2 (l2.trans l1) (fun j hj => ?_) fun a h => w1 a (w2 a h)⟩
    rw [o2 j fun z => hj (List.mem_append.mpr (.inr z)), o1 j fun z => hj (List.mem_append.mpr (.inl z))]
theorem gsd_nil : GsD X [] [] gsN := ⟨_, pgs_nil, snd_gsN⟩
theorem gsd_cons {vs ws : List Nat} {d : DG} {u : DGs} (h1 : GD X vs e d) (h2 : GsD X ws es u) (hs : (assignEach (e :: es) X.env).map (·.2) = assign e X.env :: (assignEach es X.env).map (·.2) := by rfl) : GsD X (vs ++ ws) (e :: es) (gsC d u) := by
  obtain ⟨t, p1, s1⟩ := h1
  obtain ⟨t2, p2, s2⟩ := h2
  exact ⟨_, pgs_cons p1 p2 hs, snd_gsC s1 s2⟩
def gT (n : Nat) (u : DGs) : DG := fun x g Q => match x with
  | .tup xs => xs.length = n ∧ u xs g Q
  | _ => False
theorem gd_tup {vs : List Nat} {k n : Nat} {u : DGs} (hc : X.calm = true) (h : GsD X vs es u) (hn : (assignEach es X.env).length = n := by rfl) (hst : (assignEach es X.env).findIdx? (·.1) = none := by rfl) : GD X vs (.Tuple es k pos) (gT n u) := by
  obtain ⟨t, p1, s1⟩ := h
  refine ⟨_, pg_tup hc p1 hn hst, fun {b g σ S H x v Qd Q} R r hd k => ?_⟩
  cases x with
  | tup xs =>
    obtain ⟨a, ws, e, q, rs⟩ := r.tup
    exact ⟨a, ws, e, SqT.le R.le q, by rw [rs.len]; exact hd.1, s1 R rs hd.2 k⟩
  | _ => exact hd.elim
def sAsg (d : DE) (dg : DG) : DS := fun De g => d g fun x g1 => dg x g1 De.nx
theorem sd_asg {vs : List Nat} {tg : Expr} {d : DE} {dg : DG} (he : ED X e d) (hg : GD X vs tg dg) (hs : swapsWithSole [tg] e pos.line X.env = pure false := by rfl) (hw : swappedStores [tg] e X.env = pure none := by rfl)
    (h1 : (assignEach [tg] X.env).map (·.2) = [assign tg X.env] := by rfl) : SD X (.Assign [tg] e pos) (sAsg d dg) := by
  obtain ⟨t, p1, s1⟩ := he
  obtain ⟨t2, p2, s2⟩ := hg
  exact ⟨_, ps_asg p1 p2 hs hw h1, fun {b g σ S H De D} R hd E => s1 R hd fun r g1 v S1 H1 q1 R1 x1 r1 => s2 R1 r1 q1 fun g2 σ2 q2 R2 _ _ _ => E.nx q2 R2⟩
/-- a temporary result while something else is reckoned -/
theorem RRep.stay {b : Bs} {g0 g g' : G} {σ : St} {Hs S H S' H' : Hp} {v : V} {r : R} (h : RRep K b g0 Hs g σ S H v r) (x : Ext g σ S H g' S' H') : RRep K b g0 Hs g' σ S' H' v r := by
  cases r with
  | sh d => exact Rep.le x.le _ _ h
  | ow o =>
    obtain ⟨a, e, z, z0, ok, n, fr⟩ := h
    obtain ⟨u, hu⟩ := ok.some
    refine ⟨a, e, ?_, z0, (ok.le x.le).at ((x.kp a u hu n).trans hu.symm), fun q => n (x.ow a q), fr⟩
    cases q : S' a with
    | none => rfl
    | some w =>
      rcases x.nw a w q with q | q | q
      · rw [z] at q; cases q
      · rw [hu] at q; cases q
      · exact (n q).elim
theorem RRep.ne {b : Bs} {g0 g g2 : G} {σ : St} {Hs S H S2 H2 : Hp} {v w : V} {r r2 : R} (h : RRep K b g0 Hs g σ S H v r) (k : RRep K b g H g2 σ S2 H2 w r2) : ∀ o o2, r = .ow o → r2 = .ow o2 → v ≠ w := by
  rintro o o2 rfl rfl rfl
  obtain ⟨a, e, z, z0, ok, n, _⟩ := h
  obtain ⟨a2, e2, _, _, _, _, fr⟩ := k
  cases e
  cases e2
  obtain ⟨u, hu⟩ := ok.some
  rcases fr with fr | fr
  · rw [hu] at fr; cases fr
  · exact n fr
/-- a second result is stored behind a first one -/
theorem Rel.setR2 {b : Bs} {g0 g : G} {σ : St} {Hs S H : Hp} {i j : Nat} {v w : V} {r r2 : R} (R : Rel K b (g.set i r.slot) (σ.set i (some v)) S H) (ne : ∀ o o2, r = .ow o → r2 = .ow o2 → v ≠ w) (h : RRep K b g0 Hs g σ S H w r2) : Rel K b ((g.set i r.slot).set j r2.slot) ((σ.set i (some v)).set j (some w)) S H := by
  cases r2 with
  | sh d2 => exact R.setSh h
  | ow o =>
    obtain ⟨c, rfl, z, z0, ok, n, fr⟩ := h
    refine R.set ⟨c, rfl, z, z0, ok⟩ fun _ c' e ⟨k, q⟩ => ?_
    cases e
    rcases own_set q with ⟨_, w, e⟩ | ⟨_, q⟩
    · cases r with
      | sh _ => cases w
      | ow o1 => exact ne o1 o rfl rfl (Option.some.inj e)
    · exact n ⟨k, q⟩
def sPar (i j : Nat) (d u : DX) : DS := fun De g => d g fun r g1 => u g1 fun r2 g2 => De.nx ((g2.set i r.slot).set j r2.slot)
theorem sd_par {i j : Nat} {x y : Str} {d u : DX} {px py pt : Pos} {kt k2 pt2} (hc : X.calm = true) (hN : X.N.Nodup) (hi : X.N[i]? = some x) (hj : X.N[j]? = some y) (hij : i ≠ j)
    (hx : X.env.scope.names.lookup x = some .local) (hy : X.env.scope.names.lookup y = some .local) (ha : EX X a d) (hb : EX X b u)
    (hw : swappedStores [.Tuple [.Name x px, .Name y py] kt pt] (.Tuple [a, b] k2 pt2) X.env = pure (some [x, y]))
    (hs : swapsWithSole [.Tuple [.Name x px, .Name y py] kt pt] (.Tuple [a, b] k2 pt2) pos.line X.env = pure false := by rfl)
    (h1 : starEach [a, b] X.env = (false, eval a X.env) :: starEach [b] X.env := by rfl) (h2 : starEach [b] X.env = (false, eval b X.env) :: starEach [] X.env := by rfl) :
    SD X (.Assign [.Tuple [.Name x px, .Name y py] kt pt] (.Tuple [a, b] k2 pt2) pos) (sPar i j d u) := by
  obtain ⟨t, p1, s1⟩ := ha
  obtain ⟨t2, p2, s2⟩ := hb
  refine ⟨_, ps_par hc hN hi hj hij hx hy (pa_cons p1 (pa_cons p2 pa_nil h2) h1) hw hs, fun {b g σ S H De D} R hd E => s1 R hd fun r g1 v S1 H1 q1 R1 x1 r1 => s2 R1 q1 fun r2 g2 w S2 H2 q2 R2 x2 rr2 => ⟨v, w, rfl, E.nx (S := S2) q2 ?_⟩⟩
  have r1' := r1.stay x2
  exact (R2.setR (i := i) r1').setR2 (r1.ne rr2) rr2
end
end DL

set_option maxRecDepth 100000
set_option maxHeartbeats 4000000
/-! enumerate(a tuple) -/
namespace EnT
open PySem PySem.Spec PyProof.Rows L2
set_option maxHeartbeats 1000000 in
theorem meets1 {v : Value} {o : Obj} {H : Heap → Prop} (B : Begins v o H) :
    Meets (Builtin.«enumerate.__new__» ⟨[.type "enumerate", v], []⟩) (fun _ R s => H s.heap ∧
      R (.ok (.ret (.ref (s.heap.push o).objs.size)))
        { s with heap := (s.heap.push o).push { cls := .type "enumerate", data := .fields #[.none, .bool false, .ref s.heap.objs.size, rawInt 0, .none, .none] } }) :=
  .of_wp fun prog w A R s h => by
    obtain ⟨hp, g, d, tk, os⟩ := s
    obtain ⟨h1, h⟩ := h
    have hsub := sub_enumerate
    have q1 : ∀ {A' : Around} {E : Value → Shared → Prop} {Q : Value → Shared → Prop},
        Q (.ref hp.objs.size) ⟨hp.push o, g, d, tk, os⟩ → wpAny (model prog w) A' (pyIter v) Q E ⟨hp, g, d, tk, os⟩ :=
      fun q => B.iter prog w _ _ ⟨hp, g, d, tk, os⟩ _ h1 q
    wp_walk using q1
    refine wpAny_stack_any fun st => wpAny_pure ?_
    split
    · rename_i c _ _ _ _ _
      cases (c == Value.type "enumerate")
      · wp_walk using q1
        exact ⟨_, rfl, h⟩
      · wp_walk using q1
        exact ⟨_, rfl, h⟩
    · wp_walk using q1
      exact ⟨_, rfl, h⟩
section
variable {prog : Program} {w : World} {A : Around} {E : Value → Shared → Prop} {s : Shared}
theorem call1 {v : Value} {o : Obj} {H : Heap → Prop} {Q : Value → Shared → Prop} (B : Begins v o H) (h1 : H s.heap)
    (h : ∀ h', IsEnum h' (s.heap.objs.size + 1) s.heap.objs.size 0 .none → h'.get? s.heap.objs.size = some o →
      (∀ b u, s.heap.get? b = some u → h'.get? b = some u) → Q (.ref (s.heap.objs.size + 1)) { s with heap := h' }) :
    wpAny (model prog w) A (call (.type "enumerate") [v]) Q E s := by
  refine callType_new F.called_enumerate (by decide) (F.typeCall_enumerate_1 _) (F.newCall_enumerate_1 _)
    (fun obj => F.args_object_init_2 obj _) F.entry_enumerate_new (meets1 B) ⟨h1, ?_⟩
  have hz : (s.heap.push o).objs.size = s.heap.objs.size + 1 := Heap.size_push ..
  show _ ∧ _
  rw [hz]
  have he : IsEnum ((s.heap.push o).push
      { cls := .type "enumerate", data := .fields #[.none, .bool false, .ref s.heap.objs.size, rawInt 0, .none, .none] }) (s.heap.objs.size + 1) s.heap.objs.size 0 .none := by
    have q := Heap.get?_push_size (s.heap.push o)
      (o := { cls := .type "enumerate", data := .fields #[.none, .bool false, .ref s.heap.objs.size, rawInt 0, .none, .none] }) rfl
    rw [hz] at q
    exact q
  exact ⟨⟨_, he, rfl⟩, h _ he (Heap.get?_push_of_some _ (Heap.get?_push_size _ B.free))
    fun b u x => Heap.get?_push_of_some _ (Heap.get?_push_of_some _ x)⟩
end
/-- the tuple at a as it stands at each turn, each item in a new pair -/
def IteT (K : PySem.W.Frag) (a : Addr) : It :=
  ⟨fun i H => ∃ (xs : List V) (x : V), SqT K H a xs ∧ xs[i]? = some x,
    fun i H v H' => ∃ T x, v = .ref T ∧ H T = none ∧ H' = upd H T (.tup [.int (i : Nat), x]) ∧ ∀ xs, SqT K H a xs → xs[i]? = some x,
    fun i H => ∃ xs : List V, SqT K H a xs ∧ xs.length = i⟩
theorem turnT {P : Program} {w : World} {K : PySem.W.Frag} {elts : List Expr} {kk : Nat} {tpos : Pos} (a e it : Addr) :
    Turn P w K (.Tuple elts kk tpos) (IteT K a) [e, it] e
      (fun i h => (∃ old, IsEnum h e it ((i : Nat) : Int) old) ∧ h.IsTupleIter it a i ∧ e ≠ it ∧ e ≠ a ∧ a ≠ it) where
  mem := by simp
  obj := fun i h st b hb => by
    obtain ⟨⟨old, he⟩, ⟨o, ho, hc, hd⟩, _⟩ := st
    have e' : b = e ∨ b = it := by simpa using hb
    rcases e' with z | z
    · rw [z]
      exact ⟨_, he, fun v q => nomatch q⟩
    · rw [z]
      exact ⟨o, ho, fun v q => by rw [hd] at q; cases q⟩
  keep := fun i h h' st k =>
    let ⟨⟨old, he⟩, hi, hne⟩ := st
    ⟨⟨old, k e (by simp) _ he⟩, hi.at fun o q => k it (by simp) o q, hne⟩
  item := by
    intro X hP hw hK hc i pins s σ H E I hf st hg
    subst hP hw hK
    obtain ⟨⟨old, he⟩, hit, hne, hea, hai⟩ := st
    obtain ⟨xs, x, hq, hx⟩ := hg
    obtain ⟨its, rv, p, hz⟩ := I.tuple hq
    obtain ⟨u, hu, ru⟩ := rv.get hx
    have hel : e < s.heap.objs.size := Heap.lt_size he
    have hil : it < s.heap.objs.size := by
      obtain ⟨_, q, _⟩ := hit
      exact Heap.lt_size q
    have hh : X.A.in1.handled = none := I.ok.hd hc
    have D := Draws.tuple (prog := X.prog) (w := X.w) hh it a hai its.toArray
    have hlt : i < its.toArray.size := by
      have := (List.getElem?_eq_some_iff.mp hu).1
      simpa using this
    have hef : e ∉ [it, a] := by simp [hne, hea]
    refine wpAny_pyNext_enum_itemD D he ⟨hit, p⟩ hlt hne hef fun y h' tk hy ho hst hT hsz hk => ?_
    have ey : y = u := by
      have : its.toArray[i]? = some u := by simpa using hu
      exact Option.some.inj (hy.symm.trans this)
    subst ey
    refine ⟨_, rfl, wpAny_letOwnedTupleGo_enum (s := { s with heap := h', toks := tk + 1 }) ho fun h'' he' sb => ?_⟩
    have hT2 : h''.get? s.heap.objs.size = some { cls := .type "tuple", data := .seq #[.int i tk, y] } := (sb.2 _ (Nat.ne_of_gt hel)).trans hT
    have new : ObjOk X.prog X.w (upd H s.heap.objs.size (.tup [.int (i : Nat), x])) h'' s.heap.objs.size (.tup [.int (i : Nat), x]) :=
      ⟨by show 2 ≤ sizeLine; decide, [.int i tk, y], .cons ⟨_, rfl⟩ (.cons ru .nil), ⟨_, hT2, rfl, _, rfl⟩⟩
    have I1 : Inv X pins σ (upd H s.heap.objs.size (.tup [.int (i : Nat), x])) { s with heap := h'', toks := tk + 1 } :=
      I.turnedNew (t' := tk + 1) (ch := [e, it])
        (fun b ob hb q => (sb.2 b (fun z => hb (by simp [z]))).trans (hk b ob (fun z => hb (by simp [z])) (fun z => hb (by simp [z])) q))
        hf (Nat.le_refl _) new
    refine ⟨.ref s.heap.objs.size, _, I1, rfl, ⟨_, x, rfl, I.hok.fresh (Nat.le_refl _), rfl, fun ys hy => by rw [I.tuple_inj hy hq]; exact hx⟩,
      ⟨⟨y, ?_⟩, hst.1.at fun o q => (sb.2 it (Ne.symm hne)).trans q, hne, hea, hai⟩, fun b hb => ?_⟩
    · have e1 : ((i + 1 : Nat) : Int) = (i : Int) + 1 := by omega
      rw [e1]
      exact he'
    · have hb' : b < s.heap.objs.size := by
        have e' : b = e ∨ b = it := by simpa using hb
        rcases e' with z | z
        · rw [z]
          exact hel
        · rw [z]
          exact hil
      rw [upd_ne (Nat.ne_of_lt hb')]
      exact (hf b hb).1
  done := by
    intro X hP hw hK hc i pins s σ H E I hf st hg
    subst hP hw hK
    obtain ⟨⟨old, he⟩, hit, hne, hea, hai⟩ := st
    obtain ⟨xs, hq, hx⟩ := hg
    obtain ⟨its, rv, p, hz⟩ := I.tuple hq
    obtain ⟨f0, f1, f2, f3, f4, f5⟩ := hf it (by simp)
    have hl := rv.length
    have hh : X.A.in1.handled = none := I.ok.hd hc
    have D := Draws.tuple (prog := X.prog) (w := X.w) hh it a hai its.toArray
    have ei : i = its.toArray.size := by simpa using (hx.symm.trans hl)
    subst ei
    exact wpAny_pyNext_enum_endD D he ⟨hit, p⟩
      fun h' eb => ⟨rfl, I.turned (t' := s.toks) (fun b o hb q => eb b o hb q) f0 f1 f3 f4 f5⟩
  self := fun A i s Q E st h => let ⟨⟨_, he⟩, _⟩ := st; wpAny_pyIter_enum he h
def iEnumT (K : PySem.W.Frag) (ta : TA) : TI := fun σ H R => ta σ H fun vs H1 => ∃ a xs, vs = [.ref a] ∧ SqT K H1 a xs ∧ R (IteT K a) H1
theorem pi_enumT {X : Cx} {e : Expr} {ta : TA} {p pos tpos : Pos} {elts : List Expr} {kk : Nat} (hg : Gl X "enumerate") (hm : X.mg "enumerate" = none) (ha : PA X [e] ta)
    (hs : starEach [e] X.env = [(false, eval e X.env)] := by rfl) : PI X (.Tuple elts kk tpos) (.Call (.Name "enumerate" p) [e] [] pos) (iEnumT X.K ta) := by
  refine ⟨fun pins s σ H R I h => ?_⟩
  refine Call_ (ld_blt I hg hm boot_enumerate (PyProof.Rows.callWith_type1
    (thn (ha.run pos pins s σ H _ I h) fun us s1 ⟨vs, H1, I1, r1, q1⟩ => ?_) hs rfl))
  obtain ⟨a, xs, ex, hq, q⟩ := q1
  subst ex
  obtain ⟨u, rfl, ru⟩ := r1.one
  cases (show u = Value.ref a from ru)
  obtain ⟨its, rv, p', hz⟩ := I1.tuple hq
  have al : a < s1.heap.objs.size := by
    obtain ⟨o, ho, _⟩ := id p'
    exact Heap.lt_size ho
  refine call1 (begins_tuple a its.toArray) p' fun h' he hit hk => wpAny_pyIter_enum he ?_
  have I2 : Inv X pins σ H1 { s1 with heap := h' } := I1.kept (t' := s1.toks) hk
  refine ⟨s1.heap.objs.size + 1, [s1.heap.objs.size + 1, s1.heap.objs.size], _, _, H1, rfl, I2, turnT a (s1.heap.objs.size + 1) s1.heap.objs.size,
    ⟨⟨.none, he⟩, ⟨_, hit, rfl, rfl⟩, Nat.succ_ne_self _, Nat.ne_of_gt (Nat.lt_succ_of_lt al), Nat.ne_of_lt al⟩, fun b hb => ?_, q⟩
  have e' : b = s1.heap.objs.size + 1 ∨ b = s1.heap.objs.size := by simpa using hb
  have hle : s1.heap.objs.size ≤ b := by
    rcases e' with z | z
    · rw [z]
      exact Nat.le_add_right _ _
    · rw [z]
      exact Nat.le_refl _
  exact I1.fpOk hle (I1.hok.fresh hle)
/-- a loop over enumerate of a tuple -/
theorem for_enT {K : PySem.W.Frag} {a : Addr} {xs : List V} {g : TG} {tb : TS} {D : Ends} {σ : L2.St} {H : Hp} (Pv : Nat → L2.St → Hp → Prop) (h0 : Pv 0 σ H) (hq : ∀ i σ H, i ≤ xs.length → Pv i σ H → SqT K H a xs)
    (hs : ∀ (i : Nat) (x : V) (T : Addr) (σ : L2.St) (H : Hp), xs[i]? = some x → Pv i σ H → H T = none → g (.ref T) σ (upd H T (.tup [.int (i : Nat), x])) fun σ2 H2 => tb { D with nx := Pv (i + 1), ct := Pv (i + 1), bk := D.nx } σ2 H2) (hd : ∀ σ H, Pv xs.length σ H → D.nx σ H) :
    ∃ W : Nat → Nat → L2.St → Hp → Prop, (∃ m, W 0 m σ H) ∧ ∀ i m σ H, W i m σ H →
      ((IteT K a).stop i H ∧ D.nx σ H) ∨ ((IteT K a).go i H ∧ ∃ N : L2.St → Hp → Prop, (∀ σ' H', N σ' H' → ∃ m', m' < m ∧ W (i + 1) m' σ' H') ∧ ∀ v H', (IteT K a).yld i H v H' → g v σ H' fun σ2 H2 => tb { D with nx := N, ct := N, bk := D.nx } σ2 H2) := by
  refine ⟨fun i m σ H => m = xs.length - i ∧ i ≤ xs.length ∧ Pv i σ H, ⟨_, rfl, Nat.zero_le _, h0⟩, ?_⟩
  rintro i m σ H ⟨rfl, hi, p⟩
  have q := hq i σ H hi p
  by_cases hlt : i < xs.length
  · have e : xs[i]? = some xs[i] := List.getElem?_eq_getElem hlt
    refine .inr ⟨⟨xs, xs[i], q, e⟩, Pv (i + 1), fun σ' H' p' => ⟨xs.length - (i + 1), by omega, rfl, hlt, p'⟩, fun v H' y => ?_⟩
    obtain ⟨T, x, rfl, hT, rfl, hx⟩ := y
    exact hs i x T σ H (hx xs q) p hT
  · have e : i = xs.length := by omega
    subst e
    exact .inl ⟨⟨xs, q, rfl⟩, hd σ H p⟩
/-- a target of two or more names, the value a tuple or a list -/
def gAny (K : PySem.W.Frag) (n : Nat) (t : TGs) : TG := fun v σ H Q => gTup K n t v σ H Q ∨ gUnl K n t v σ H Q
theorem pg_any {X : Cx} {pos : Pos} {es : List Expr} {k : Nat} {t : TGs} {n : Nat} (hc : X.calm = true) (h : PGs X es t)
    (hn : (assignEach es X.env).length = n := by rfl) (hst : (assignEach es X.env).findIdx? (·.1) = none := by rfl) : PG X (.Tuple es k pos) (gAny X.K n t) :=
  ⟨fun pins s σ H v u Q I r hw => hw.elim ((pg_tup hc h hn hst).run pins s σ H v u Q I r) ((pg_unl hc h hn hst).run pins s σ H v u Q I r)⟩
end EnT

set_option maxRecDepth 100000
set_option maxHeartbeats 4000000
/-! zip(a list, a tuple) -/
namespace EnT
open PySem PySem.Spec PyProof.Rows L2
def ItzLT (K : PySem.W.Frag) (a b : Addr) : It :=
  ⟨fun i H => ∃ (xs ys : List V) (x y : V), SqL K H a xs ∧ SqT K H b ys ∧ xs.length = ys.length ∧ xs[i]? = some x ∧ ys[i]? = some y,
    fun i H v H' => ∃ T x y, v = .ref T ∧ H T = none ∧ H' = upd H T (.tup [x, y]) ∧ (∀ xs, SqL K H a xs → xs[i]? = some x) ∧ ∀ ys, SqT K H b ys → ys[i]? = some y,
    fun i H => ∃ xs ys : List V, SqL K H a xs ∧ SqT K H b ys ∧ xs.length = i ∧ ys.length = i⟩
theorem turnLT {P : Program} {w : World} {K : PySem.W.Frag} {elts : List Expr} {kk : Nat} {tpos : Pos} {a b z TI TO i1 i2 : Addr} (D : ZipSep2 z TI TO i1 i2 [i1, a] [i2, b]) (n1 : a ≠ i1) (n2 : b ≠ i2) :
    Turn P w K (.Tuple elts kk tpos) (ItzLT K a b) [z, TI, TO, i1, i2] z
      (fun i h => IsZip h z TI TO .none ∧ IsTupOf2 h TI (.ref i1) (.ref i2) ∧ (∃ x y, IsTupOf2 h TO x y) ∧ h.IsListIter i1 a i ∧ h.IsTupleIter i2 b i) where
  mem := by simp
  obj := fun i h st c hc => by
    obtain ⟨hz, hTI, ⟨x, y, hTO⟩, ⟨o1, e1, _, d1⟩, ⟨o2, e2, _, d2⟩⟩ := st
    have e' : c = z ∨ c = TI ∨ c = TO ∨ c = i1 ∨ c = i2 := by simpa using hc
    rcases e' with q | q | q | q | q
    · rw [q]
      exact ⟨_, hz, fun v q => nomatch q⟩
    · rw [q]
      exact ⟨_, hTI, fun v q => nomatch q⟩
    · rw [q]
      exact ⟨_, hTO, fun v q => nomatch q⟩
    · rw [q]
      exact ⟨o1, e1, fun v q => by rw [d1] at q; cases q⟩
    · rw [q]
      exact ⟨o2, e2, fun v q => by rw [d2] at q; cases q⟩
  keep := fun i h h' st k => by
    obtain ⟨hz, hTI, ⟨x, y, hTO⟩, h1, h2⟩ := st
    exact ⟨k z (by simp) _ hz, k TI (by simp) _ hTI, ⟨x, y, k TO (by simp) _ hTO⟩,
      h1.at fun o q => k i1 (by simp) o q, h2.at fun o q => k i2 (by simp) o q⟩
  item := by
    intro X hP hw hK hc i pins s σ H E I hf st hg
    subst hP hw hK
    obtain ⟨hz, hTI, ⟨x0, y0, hTO⟩, h1, h2⟩ := st
    obtain ⟨xs, ys, x, y, hqx, hqy, hll, hx, hy⟩ := hg
    obtain ⟨its, rv, p, _⟩ := I.list hqx
    obtain ⟨its2, rv2, p2, _⟩ := I.tuple hqy
    obtain ⟨u, hu, ru⟩ := rv.get hx
    obtain ⟨u2, hu2, ru2⟩ := rv2.get hy
    have hzl : z < s.heap.objs.size := Heap.lt_size hz
    have hh : X.A.in1.handled = none := I.ok.hd hc
    have D1 := Draws.list (prog := X.prog) (w := X.w) hh i1 a n1 its.toArray
    have D2 := Draws.tuple (prog := X.prog) (w := X.w) hh i2 b n2 its2.toArray
    have lt1 : i < its.toArray.size := by
      have := (List.getElem?_eq_some_iff.mp hu).1
      simpa using this
    have lt2 : i < its2.toArray.size := by
      have := (List.getElem?_eq_some_iff.mp hu2).1
      simpa using this
    refine wpAny_pyNext_zipD2_item D D1 D2 hz hTI hTO ⟨h1, p.isList⟩ ⟨h2, p2⟩ lt1 lt2
      fun v1 v2 h' tk hv1 hv2 z' TO' st1 st2 hT hsz hk => ?_
    have e1 : v1 = u := by
      have : its.toArray[i]? = some u := by simpa using hu
      exact Option.some.inj (hv1.symm.trans this)
    have e2 : v2 = u2 := by
      have : its2.toArray[i]? = some u2 := by simpa using hu2
      exact Option.some.inj (hv2.symm.trans this)
    subst e1 e2
    refine ⟨_, rfl, wpAny_letOwnedTupleGo_zip (s := { s with heap := h', toks := tk }) z' fun h'' z'' sb => ?_⟩
    have hT2 : h''.get? s.heap.objs.size = some { cls := .type "tuple", data := .seq #[v1, v2] } := (sb.2 _ (Nat.ne_of_gt hzl)).trans hT
    have new : ObjOk X.prog X.w (upd H s.heap.objs.size (.tup [x, y])) h'' s.heap.objs.size (.tup [x, y]) :=
      ⟨by show 2 ≤ sizeLine; decide, [v1, v2], .cons ru (.cons ru2 .nil), ⟨_, hT2, rfl, _, rfl⟩⟩
    have I1 : Inv X pins σ (upd H s.heap.objs.size (.tup [x, y])) { s with heap := h'', toks := tk } :=
      I.turnedNew (t' := tk) (ch := [z, TI, TO, i1, i2])
        (fun c o hb q => (sb.2 c (fun q' => hb (by simp [q']))).trans
          (hk c o (fun q' => hb (by simp [q'])) (fun q' => hb (by simp [q'])) (fun q' => hb (by simp [q'])) (fun q' => hb (by simp [q'])) q))
        hf (Nat.le_refl _) new
    have i1z : i1 ≠ z := fun q => D.zf1 (by rw [q]; exact List.mem_cons_self)
    have i2z : i2 ≠ z := fun q => D.zf2 (by rw [q]; exact List.mem_cons_self)
    refine ⟨.ref s.heap.objs.size, _, I1, rfl, ⟨_, x, y, rfl, I.hok.fresh (Nat.le_refl _), rfl,
      fun l hl => by rw [I.list_inj hl hqx]; exact hx, fun l hl => by rw [I.tuple_inj hl hqy]; exact hy⟩,
      ⟨z'', ?_, ⟨v1, v2, ?_⟩, ?_, ?_⟩, fun c hcm => ?_⟩
    · exact (sb.2 _ D.TIz).trans (hk _ _ D.TIz D.TITO D.TIi1 D.TIi2 hTI)
    · exact (sb.2 _ D.TOz).trans TO'
    · exact st1.1.at fun o q => (sb.2 _ i1z).trans q
    · exact st2.1.at fun o q => (sb.2 _ i2z).trans q
    · have hlt : c < s.heap.objs.size := by
        have e' : c = z ∨ c = TI ∨ c = TO ∨ c = i1 ∨ c = i2 := by simpa using hcm
        rcases e' with q | q | q | q | q
        · rw [q]
          exact hzl
        · rw [q]
          exact Heap.lt_size hTI
        · rw [q]
          exact Heap.lt_size hTO
        · rw [q]
          obtain ⟨_, e1, _⟩ := h1
          exact Heap.lt_size e1
        · rw [q]
          obtain ⟨_, e2, _⟩ := h2
          exact Heap.lt_size e2
      rw [upd_ne (Nat.ne_of_lt hlt)]
      exact (hf c hcm).1
  done := by
    intro X hP hw hK hc i pins s σ H E I hf st hg
    subst hP hw hK
    obtain ⟨hz, hTI, ⟨x0, y0, hTO⟩, h1, h2⟩ := st
    obtain ⟨xs, ys, hqx, hqy, l1, l2⟩ := hg
    obtain ⟨its, rv, p, _⟩ := I.list hqx
    obtain ⟨its2, rv2, p2, _⟩ := I.tuple hqy
    have m1 := rv.length
    have m2 := rv2.length
    have hh : X.A.in1.handled = none := I.ok.hd hc
    have D1 := Draws.list (prog := X.prog) (w := X.w) hh i1 a n1 its.toArray
    have D2 := Draws.tuple (prog := X.prog) (w := X.w) hh i2 b n2 its2.toArray
    have e1 : i = its.toArray.size := by simpa using (l1.symm.trans m1)
    have e2 : i ≤ its2.toArray.size := by
      have : i = its2.toArray.size := by simpa using (l2.symm.trans m2)
      exact Nat.le_of_eq this
    exact wpAny_pyNext_zipD2_end D D1 D2 hz hTI hTO ⟨h1, p.isList⟩ ⟨h2, p2⟩ (Nat.le_of_eq e1) e2 (.inl e1)
      fun h' tk hk => ⟨rfl, I.turnedL (t' := tk) (ch := [z, TI, TO, i1, i2]) (fun c o hb q =>
        hk c o (fun q' => hb (by simp [q'])) (fun q' => hb (by simp [q'])) (fun q' => hb (by simp [q'])) (fun q' => hb (by simp [q'])) q) hf⟩
  self := fun A i s Q E st h => wpAny_pyIter_zip st.1 h
def iZipLT (K : PySem.W.Frag) (ta : TA) : TI := fun σ H R => ta σ H fun vs H1 => ∃ a b xs ys, vs = [.ref a, .ref b] ∧ SqL K H1 a xs ∧ SqT K H1 b ys ∧ R (ItzLT K a b) H1
theorem pi_zipLT {X : Cx} {e e2 : Expr} {ta : TA} {p pos tpos : Pos} {elts : List Expr} {kk : Nat} (hg : Gl X "zip") (hm : X.mg "zip" = none) (ha : PA X [e, e2] ta)
    (hs : starEach [e, e2] X.env = (false, eval e X.env) :: starEach [e2] X.env := by rfl) (hpl : (backTo pos (starEach [e2] X.env)).any (·.1) = false := by rfl) :
    PI X (.Tuple elts kk tpos) (.Call (.Name "zip" p) [e, e2] [] pos) (iZipLT X.K ta) := by
  refine ⟨fun pins s σ H R I h => ?_⟩
  refine Call_ (ld_blt I hg hm PyProof.Rows.boot_zip (PyProof.Rows.callWith_type1
    (thn (ha.run pos pins s σ H _ I h) fun us s1 ⟨vs, H1, I1, r1, q1⟩ => ?_) hs hpl))
  obtain ⟨a, b, xs, ys, ex, hqx, hqy, q⟩ := q1
  subst ex
  cases r1 with
  | cons r rr =>
    cases rr with
    | cons r' rr =>
      cases rr
      cases r
      cases r'
      obtain ⟨its, rv, p1, _⟩ := I1.list hqx
      obtain ⟨its2, rv2, p2, _⟩ := I1.tuple hqy
      obtain ⟨o2, ho2, _⟩ := id p2
      have al : a < s1.heap.objs.size := p1.lt
      have bl : b < s1.heap.objs.size := Heap.lt_size ho2
      refine zip_begins2 (begins_list a its.toArray) (begins_tuple b its2.toArray) p1.isList p2
        fun h' hz hTI hTO g1 g2 hsz hk => wpAny_pyIter_zip hz ?_
      have I2 : Inv X pins σ H1 { s1 with heap := h' } := I1.kept (t' := s1.toks) hk
      have S := zip_sep2 (N := s1.heap.objs.size) (fp1 := [a]) (fp2 := [b]) (fun c hc => by rw [List.mem_singleton.mp hc]; exact al) (fun c hc => by rw [List.mem_singleton.mp hc]; exact bl)
      refine ⟨s1.heap.objs.size + 4, [s1.heap.objs.size + 4, s1.heap.objs.size + 2, s1.heap.objs.size + 3, s1.heap.objs.size, s1.heap.objs.size + 1], _, _, H1, rfl, I2,
        turnLT S (Nat.ne_of_lt al) (Nat.ne_of_lt (Nat.lt_succ_of_lt bl)), ⟨hz, hTI, ⟨_, _, hTO⟩, ⟨_, g1, rfl, rfl⟩, ⟨_, g2, rfl, rfl⟩⟩, fun c hcm => ?_, q⟩
      have e' : c = s1.heap.objs.size + 4 ∨ c = s1.heap.objs.size + 2 ∨ c = s1.heap.objs.size + 3 ∨ c = s1.heap.objs.size ∨ c = s1.heap.objs.size + 1 := by simpa using hcm
      have hle : s1.heap.objs.size ≤ c := by
        rcases e' with z | z | z | z | z <;> rw [z] <;> first | exact Nat.le_refl _ | exact Nat.le_add_right _ _
      exact I1.fpOk hle (I1.hok.fresh hle)
/-- a loop over zip of a list and a tuple of one length -/
theorem for_zipLT {K : PySem.W.Frag} {a b : Addr} {xs ys : List V} {g : TG} {tb : TS} {D : Ends} {σ : L2.St} {H : Hp} (hl : xs.length = ys.length) (Pv : Nat → L2.St → Hp → Prop) (h0 : Pv 0 σ H) (hq : ∀ i σ H, Pv i σ H → SqL K H a xs ∧ SqT K H b ys)
    (hs : ∀ (i : Nat) (x y : V) (T : Addr) (σ : L2.St) (H : Hp), xs[i]? = some x → ys[i]? = some y → Pv i σ H → H T = none → g (.ref T) σ (upd H T (.tup [x, y])) fun σ2 H2 => tb { D with nx := Pv (i + 1), ct := Pv (i + 1), bk := D.nx } σ2 H2) (hd : ∀ σ H, Pv xs.length σ H → D.nx σ H) :
    ∃ W : Nat → Nat → L2.St → Hp → Prop, (∃ m, W 0 m σ H) ∧ ∀ i m σ H, W i m σ H →
      ((ItzLT K a b).stop i H ∧ D.nx σ H) ∨ ((ItzLT K a b).go i H ∧ ∃ N : L2.St → Hp → Prop, (∀ σ' H', N σ' H' → ∃ m', m' < m ∧ W (i + 1) m' σ' H') ∧ ∀ v H', (ItzLT K a b).yld i H v H' → g v σ H' fun σ2 H2 => tb { D with nx := N, ct := N, bk := D.nx } σ2 H2) := by
  refine ⟨fun i m σ H => m = xs.length - i ∧ i ≤ xs.length ∧ Pv i σ H, ⟨_, rfl, Nat.zero_le _, h0⟩, ?_⟩
  rintro i m σ H ⟨rfl, hi, p⟩
  obtain ⟨q1, q2⟩ := hq i σ H p
  by_cases hlt : i < xs.length
  · have e : xs[i]? = some xs[i] := List.getElem?_eq_getElem hlt
    have e2 : ys[i]? = some ys[i] := List.getElem?_eq_getElem (hl ▸ hlt)
    refine .inr ⟨⟨xs, ys, _, _, q1, q2, hl, e, e2⟩, Pv (i + 1), fun σ' H' p' => ⟨xs.length - (i + 1), by omega, rfl, hlt, p'⟩, fun v H' y => ?_⟩
    obtain ⟨T, x, y, rfl, hT, rfl, hx, hy⟩ := y
    exact hs i x y T σ H (hx xs q1) (hy ys q2) p hT
  · have e : i = xs.length := by omega
    subst e
    exact .inl ⟨⟨xs, ys, q1, q2, rfl, hl.symm⟩, hd σ H p⟩
end EnT

set_option maxRecDepth 100000
set_option maxHeartbeats 4000000
namespace DL
open PySem L2
section
variable {X : Cx} {e o a b c : Expr} {es : List Expr} {st : Stmt} {rest sts : List Stmt} {pos p p2 : Pos} {K : PySem.W.Frag}
/-! ### own lists change -/
def ownL : Sl → Option (List D)
  | .ow (.lst ds) => some ds
  | .bx _ (.lst ds) => some ds
  | _ => none
def setL : Sl → List D → Sl
  | .ow _, ds => .ow (.lst ds)
  | .bx n _, ds => .bx n (.lst ds)
  | s, _ => s
theorem Rel.mut {b : Bs} {g : G} {σ : St} {S H : Hp} {i : Nat} {ds : List D} (R : Rel K b g σ S H) (h : ownL (gt g i) = some ds) : ∃ a vs, σ[i]? = some (some (.ref a)) ∧ H a = some (.lst vs) ∧ Reps K S ds vs ∧
    ∀ ds' vs', Reps K S ds' vs' → Rel K b (g.set i (setL (gt g i) ds')) σ S (upd H a (.lst vs')) ∧ Ext g σ S H (g.set i (setL (gt g i) ds')) S (upd H a (.lst vs')) := by
  cases e : gt g i with
  | no => rw [e] at h; cases h
  | sh d => rw [e] at h; cases h
  | ow o =>
    rw [e] at h
    have ge := gt_get e (fun z => nomatch z)
    obtain ⟨a, q, z, z0, ok⟩ := R.slot i _ ge
    cases o with
    | ins => cases h
    | lst ds0 =>
      cases h
      obtain ⟨vs, hv, rs⟩ := ok
      refine ⟨a, vs, q, hv, rs, fun ds' vs' r' => ⟨R.write ge rfl q ?_ rfl, .write ge rfl q⟩⟩
      rw [q]
      exact ⟨a, rfl, z, z0, vs', upd_same, r'⟩
  | bx n o =>
    rw [e] at h
    have ge := gt_get e (fun z => nomatch z)
    obtain ⟨a, q, z, z0, ok⟩ := R.slot i _ ge
    cases o with
    | ins => cases h
    | lst ds0 =>
      cases h
      obtain ⟨vs, hv, rs⟩ := ok
      refine ⟨a, vs, q, hv, rs, fun ds' vs' r' => ⟨R.write ge rfl q ?_ rfl, .write ge rfl q⟩⟩
      rw [q]
      exact ⟨a, rfl, z, z0, vs', upd_same, r'⟩
/-- x.append(e) -/
def xApp (i : Nat) (de : DE) : DX := fun g Q => match ownL (gt g i) with
  | some _ => de g fun x g1 => match ownL (gt g1 i) with
    | some ds => ds.length < sizeLine ∧ Q (.sh .non) (g1.set i (setL (gt g1 i) (ds ++ [x])))
    | none => False
  | none => False
theorem ex_app {i : Nat} {x : Str} {de : DE} {apos cpos p' : Pos} (hN : X.N[i]? = some x) (hv : Vis X.env.scope x) (he : ED X e de)
    (hbase : attributeBase (.Name x p') "append" X.env (eval (.Name x p') X.env) = eval (.Name x p') X.env := by rfl)
    (hfew : ((backTo cpos (starEach [e] X.env)).all (fun x => !x.1) && (backToKw cpos (keywordEach [] X.env)).all (fun x => x.1.isSome)
      && decide ([e].length + ([] : List Keyword).length + (if ([] : List Keyword).isEmpty then 0 else 1) < 30)) = true := by rfl)
    (hline : (apos.endLine == cpos.line) = true := by rfl) (hs : starEach [e] X.env = (false, eval e X.env) :: starEach [] X.env := by rfl) (hplain : (backTo cpos (starEach [] X.env)).any (·.1) = false := by rfl)
    (hd : (x == ("__debug__" : Str)) = false := by decide) (hcd : (x == ("__classdict__" : Str)) = false := by decide) :
    EX X (.Call (.Attribute (.Name x p') "append" apos) [e] [] cpos) (xApp i de) := by
  obtain ⟨te, pe, se⟩ := he
  refine ⟨_, pe_bm PySem.F.plainAttrs_list PySem.F.slot_list_append PySem.F.type_list_append mt_append (pe_var hN hv hd hcd) (pa_cons pe pa_nil hs) hbase hfew hline hs hplain, fun {b g σ S H Qd Q} R hd k => ?_⟩
  unfold xApp at hd
  cases e0 : ownL (gt g i) with
  | none => rw [e0] at hd; exact hd.elim
  | some ds0 =>
    rw [e0] at hd
    obtain ⟨a, vs0, q0, h0, _, _⟩ := R.mut e0
    refine ⟨_, q0, .inl ⟨rfl, _, SqL.of h0⟩, se R hd fun x g1 v S1 H1 q1 R1 x1 r1 => ?_⟩
    cases e1 : ownL (gt g1 i) with
    | none => simp only [e1] at q1
    | some ds =>
      simp only [e1] at q1
      obtain ⟨a1, vs, q, h1, rs, up⟩ := R1.mut e1
      rw [q0] at q
      cases q
      obtain ⟨R2, x2⟩ := up (ds ++ [x]) (vs ++ [v]) (rs.append (.cons r1 .nil))
      exact ⟨a, vs, v, rfl, rfl, h1, by rw [rs.len]; exact q1.1, k _ _ _ _ _ q1.2 R2 (x1.trans x2) (Rep.ofNon (K := X.K) (S := S1))⟩
/-- x.pop() -/
def xPop (i : Nat) : DX := fun g Q => match ownL (gt g i) with
  | some ds => ∃ d, ds[ds.length - 1]? = some d ∧ Q (.sh d) (g.set i (setL (gt g i) ds.dropLast))
  | none => False
theorem Reps.dropLast {S : Hp} : ∀ {ds : List D} {vs : List V}, Reps K S ds vs → Reps K S ds.dropLast vs.dropLast := fun {ds vs} r => by
  rw [List.dropLast_eq_take, List.dropLast_eq_take, r.len]
  exact r.take _
theorem ex_pop {i : Nat} {x : Str} {apos cpos p' : Pos} (hN : X.N[i]? = some x) (hv : Vis X.env.scope x)
    (hbase : attributeBase (.Name x p') "pop" X.env (eval (.Name x p') X.env) = eval (.Name x p') X.env := by rfl) (hline : (apos.endLine == cpos.line) = true := by rfl)
    (hd : (x == ("__debug__" : Str)) = false := by decide) (hcd : (x == ("__classdict__" : Str)) = false := by decide) :
    EX X (.Call (.Attribute (.Name x p') "pop" apos) [] [] cpos) (xPop i) := by
  refine ⟨_, pe_bm0 PySem.F.plainAttrs_list PySem.F.slot_list_pop PySem.F.type_list_pop mt_pop (pe_var hN hv hd hcd) hbase hline, fun {b g σ S H Qd Q} R hd k => ?_⟩
  unfold xPop at hd
  cases e0 : ownL (gt g i) with
  | none => rw [e0] at hd; exact hd.elim
  | some ds =>
    rw [e0] at hd
    obtain ⟨d, h1, h2⟩ := hd
    obtain ⟨a, vs, q0, h0, rs, up⟩ := R.mut e0
    obtain ⟨v, hv, rv⟩ := rs.get h1
    obtain ⟨R2, x2⟩ := up ds.dropLast vs.dropLast rs.dropLast
    exact ⟨_, q0, .inl ⟨rfl, _, SqL.of h0⟩, a, vs, v, rfl, rfl, h0, by rw [rs.len]; exact hv, k _ _ _ _ _ h2 R2 x2 rv⟩
/-- x[i] = e -/
def sSetIx (i : Nat) (de di : DE) : DS := fun De g => de g fun x g1 => match ownL (gt g1 i) with
  | some _ => di g1 fun y g2 => match y with
    | .int k => match ownL (gt g2 i) with
      | some ds => ∃ j, ixN ds.length k = some j ∧ De.nx (g2.set i (setL (gt g2 i) (ds.set j x)))
      | none => False
    | _ => False
  | none => False
theorem sd_setix {i : Nat} {x : Str} {de di : DE} {ix : Expr} {p' ps : Pos} (hN : X.N[i]? = some x) (hv : Vis X.env.scope x) (he : ED X e de) (hi : ED X ix di)
    (ha : ∀ v, assign (.Subscript (.Name x p') ix ps) X.env v = (do
      let ov ← holding [v] (eval (.Name x p') X.env)
      let iv ← holding [v, ov] (eval ix X.env)
      standAt ps
      holding [v, ov, iv] (setItem ov iv v)
      release [v, ov, iv] []) := by intro _; rfl)
    (hs : swapsWithSole [.Subscript (.Name x p') ix ps] e pos.line X.env = pure false := by rfl) (hw : swappedStores [.Subscript (.Name x p') ix ps] e X.env = pure none := by rfl)
    (h1 : (assignEach [.Subscript (.Name x p') ix ps] X.env).map (·.2) = [assign (.Subscript (.Name x p') ix ps) X.env] := by rfl)
    (hd : (x == ("__debug__" : Str)) = false := by decide) (hcd : (x == ("__classdict__" : Str)) = false := by decide) : SD X (.Assign [.Subscript (.Name x p') ix ps] e pos) (sSetIx i de di) := by
  obtain ⟨te, pe, se⟩ := he
  obtain ⟨ti, pi, si⟩ := hi
  refine ⟨_, ps_asg pe (pg_sub (pe_var hN hv hd hcd) pi set_list ha) hs hw h1, fun {b g σ S H De D} R hd E => se R hd fun x g1 v S1 H1 q1 R1 x1 r1 => ?_⟩
  cases e0 : ownL (gt g1 i) with
  | none => simp only [e0] at q1
  | some ds0 =>
    simp only [e0] at q1
    obtain ⟨a, vs0, hw, _⟩ := R1.mut e0
    refine ⟨_, hw, si R1 q1 fun y g2 u S2 H2 q2 R2 x2 r2 => ?_⟩
    cases y with
    | int n =>
      cases e1 : ownL (gt g2 i) with
      | none => simp only [e1] at q2
      | some ds =>
        simp only [e1] at q2
        obtain ⟨j, hj, hn⟩ := q2
        obtain ⟨a', vs, q, h1, rs, up⟩ := R2.mut e1
        rw [hw] at q
        cases q
        obtain ⟨R3, x3⟩ := up (ds.set j x) (vs.set j v) (rs.set j (Rep.le x2.le _ _ r1))
        exact ⟨a, vs, n, j, rfl, r2.int, h1, by rw [rs.len]; exact hj, E.nx (S := S2) hn R3⟩
    | _ => exact q2.elim
/-- x += e, x -= e of whole numbers -/
def sAug (i : Nat) (f : G2) (de : DE) : DS := fun De g => match gt g i with
  | .sh x => de g fun y g1 => f x y fun z => De.nx (g1.set i z.slot)
  | _ => False
theorem sd_aug {i : Nat} {x : Str} {op : Operator} {f : G2} {de : DE} {pos' : Pos} (hN : X.N.Nodup) (hi : X.N[i]? = some x) (hx : Loc X.env.scope x) (ho : OpD X (inplaceOp op) f) (he : ED X e de)
    (hf : X.fn x = true ∨ X.env.scope.names.lookup x = some .local := by first | exact .inl rfl | exact .inr rfl | assumption) : SD X (.AugAssign (.Name x pos') op e pos) (sAug i f de) := by
  obtain ⟨te, pe, se⟩ := he
  obtain ⟨r, h1, h2⟩ := ho
  refine ⟨_, ps_aug hN hi hx pe (ti := r) h1 hf, fun {b g σ S H De D} R hd E => ?_⟩
  unfold sAug at hd
  cases e0 : gt g i with
  | sh d =>
    rw [e0] at hd
    obtain ⟨v, q, r0⟩ := R.slot i _ (gt_get e0 (fun z => nomatch z))
    refine ⟨v, q, se R hd fun y g1 w S1 H1 q1 R1 x1 r1 => h2 R1 (Rep.le x1.le _ _ r0) r1 q1 fun z u S2 H2 q2 R2 x2 r2 => E.nx q2 (R2.setR r2)⟩
  | _ => rw [e0] at hd; exact hd.elim
abbrev fIAdd : G2 := f2 fun i j => .int (i + j)
abbrev fISub : G2 := f2 fun i j => .int (i - j)
theorem d_iadd : OpD X (inplaceOp .Add) fIAdd := ⟨_, ip_add, snd_f2 fun _ _ _ => .ofInt _⟩
theorem d_isub : OpD X (inplaceOp .Sub) fISub := ⟨_, ip_sub, snd_f2 fun _ _ _ => .ofInt _⟩
/-! ### what is walked: its items -/
/-- from the heap S0 on, the iterator J yields these -/
def ItOk (K : PySem.W.Frag) (J : It) (ds : List D) (S0 : Hp) : Prop := ∀ (i : Nat) {b : Bs} {g : G} {σ : St} {S H : Hp}, Rel K b g σ S H → Le S0 S →
  (i = ds.length → J.stop i H) ∧ ∀ x, ds[i]? = some x → J.go i H ∧ ∀ v H', J.yld i H v H' → ∃ S', Rel K b g σ S' H' ∧ Ext g σ S H g S' H' ∧ Rep K S' x v
abbrev DI := G → (List D → G → Prop) → Prop
def SndI (K : PySem.W.Frag) (wi : TI) (d : DI) : Prop := ∀ {b : Bs} {g : G} {σ : St} {S H : Hp} {Qd : List D → G → Prop} {Rr : It → Hp → Prop}, Rel K b g σ S H → d g Qd →
  (∀ ds g' S' H' J, Qd ds g' → Rel K b g' σ S' H' → Ext g σ S H g' S' H' → ItOk K J ds S' → Rr J H') → wi σ H Rr
def ID (X : Cx) (tg iter : Expr) (d : DI) : Prop := ∃ wi, PI X tg iter wi ∧ SndI X.K wi d
theorem pi_or {X : Cx} {tg l : Expr} {t1 t2 : TI} (h1 : PI X tg l t1) (h2 : PI X tg l t2) : PI X tg l (fun σ H R => t1 σ H R ∨ t2 σ H R) :=
  ⟨fun pins s σ H R I h => h.elim (h1.run pins s σ H R I) (h2.run pins s σ H R I)⟩
/-- x is a list, a tuple -/
def iSeq (de : DE) : DI := fun g Q => de g fun x g1 => match x with
  | .lst xs => Q xs g1
  | .tup xs => Q xs g1
  | _ => False
theorem itok_list {a : Addr} {ds : List D} {vs : List V} {S0 : Hp} (h : Rd S0 a (.lst vs)) (r : Reps K S0 ds vs) : ItOk K (Itl K a) ds S0 := fun i {b g σ S H} R l => by
  have q : SqL K H a vs := .inl (Rd.le (l.trans R.le) h)
  refine ⟨fun e => ⟨vs, q, by rw [r.len, e]; exact Nat.le_refl _⟩, fun x hx => ?_⟩
  obtain ⟨v, hv, rv⟩ := r.get hx
  refine ⟨⟨vs, v, q, hv⟩, fun w H' y => ?_⟩
  obtain ⟨rfl, y⟩ := y
  have e := y vs q
  rw [hv] at e
  cases e
  exact ⟨S, R, .rfl, Rep.le l _ _ rv⟩
theorem itok_tup {a : Addr} {ds : List D} {vs : List V} {S0 : Hp} (h : SqT K S0 a vs) (r : Reps K S0 ds vs) : ItOk K (Itt K a) ds S0 := fun i {b g σ S H} R l => by
  have q : SqT K H a vs := SqT.le (l.trans R.le) h
  refine ⟨fun e => ⟨vs, q, by rw [r.len, e]; exact Nat.le_refl _⟩, fun x hx => ?_⟩
  obtain ⟨v, hv, rv⟩ := r.get hx
  refine ⟨⟨vs, v, q, hv⟩, fun w H' y => ?_⟩
  obtain ⟨rfl, y⟩ := y
  have e := y vs q
  rw [hv] at e
  cases e
  exact ⟨S, R, .rfl, Rep.le l _ _ rv⟩
end
end DL
namespace DL
open PySem PySem.Spec PyProof.Rows L2
section
variable {X : Cx} {tg : Expr}
def iSeqT (K : PySem.W.Frag) (te : TE) : TI := fun σ H R => te σ H fun v H1 => ∃ a, v = .ref a ∧ (((∃ xs, SqL K H1 a xs) ∧ R (Itl K a) H1) ∨ ((∃ xs, SqT K H1 a xs) ∧ R (Itt K a) H1))
theorem pi_seq {l : Expr} {tl : TE} (hl : PE X l tl) : PI X tg l (iSeqT X.K tl) := by
  refine ⟨fun pins s σ H R I h => ?_⟩
  refine thn (hl.run pins s σ H _ I h) fun v s1 ⟨x, H1, I1, r1, q1⟩ => ?_
  obtain ⟨a, e, q⟩ := q1
  subst e
  cases r1
  have fr : ∀ b ∈ [s1.heap.objs.size], FpOk X pins H1 b := fun b hb => by
    have e : b = s1.heap.objs.size := by simpa using hb
    subst e
    exact I1.fpOk (Nat.le_refl _) (I1.hok.fresh (Nat.le_refl _))
  rcases q with ⟨⟨xs, hq⟩, q⟩ | ⟨⟨xs, hq⟩, q⟩
  · obtain ⟨its, rv, p, hz⟩ := I1.list hq
    refine wpAny_pyIter_list p.isList ?_
    exact ⟨s1.heap.objs.size, [s1.heap.objs.size], _, _, H1, rfl, I1.kept (t' := s1.toks) fun b o e => Heap.get?_push_of_some _ e, turn_list a _, ⟨_, Heap.get?_push_size _ rfl, rfl, rfl⟩, fr, q⟩
  · obtain ⟨its, rv, p, hz⟩ := I1.tuple hq
    refine wpAny_pyIter_tuple (show s1.heap.IsTuple a its.toArray from p) ?_
    exact ⟨s1.heap.objs.size, [s1.heap.objs.size], _, _, H1, rfl, I1.kept (t' := s1.toks) fun b o e => Heap.get?_push_of_some _ e, turn_tuple a _, ⟨_, Heap.get?_push_size _ rfl, rfl, rfl⟩, fr, q⟩
def iEnumA (K : PySem.W.Frag) (ta : TA) : TI := fun σ H R => ta σ H fun vs H1 => ∃ a xs, vs = [.ref a] ∧ ((SqL K H1 a xs ∧ R (Ite K a) H1) ∨ (SqT K H1 a xs ∧ R (EnT.IteT K a) H1))
theorem pi_enumA {e : Expr} {ta : TA} {p pos tpos : Pos} {elts : List Expr} {kk : Nat} (hg : Gl X "enumerate") (hm : X.mg "enumerate" = none) (ha : PA X [e] ta) (hs : starEach [e] X.env = [(false, eval e X.env)] := by rfl) :
    PI X (.Tuple elts kk tpos) (.Call (.Name "enumerate" p) [e] [] pos) (iEnumA X.K ta) := by
  refine ⟨fun pins s σ H R I h => ?_⟩
  refine Call_ (ld_blt I hg hm boot_enumerate (PyProof.Rows.callWith_type1 (thn (ha.run pos pins s σ H _ I h) fun us s1 ⟨vs, H1, I1, r1, q1⟩ => ?_) hs rfl))
  obtain ⟨a, xs, ex, q⟩ := q1
  subst ex
  obtain ⟨u, rfl, ru⟩ := r1.one
  cases (show u = Value.ref a from ru)
  have fr : ∀ b ∈ [s1.heap.objs.size + 1, s1.heap.objs.size], FpOk X pins H1 b := fun b hb => by
    have e' : b = s1.heap.objs.size + 1 ∨ b = s1.heap.objs.size := by simpa using hb
    have hle : s1.heap.objs.size ≤ b := by
      rcases e' with z | z
      · rw [z]; exact Nat.le_add_right _ _
      · rw [z]; exact Nat.le_refl _
    exact I1.fpOk hle (I1.hok.fresh hle)
  rcases q with ⟨hq, q⟩ | ⟨hq, q⟩
  · obtain ⟨its, rv, p', hz⟩ := I1.list hq
    refine call_enumerate_list p'.isList fun h' he hit hsz hk => wpAny_pyIter_enum he ?_
    have I2 : Inv X pins σ H1 { s1 with heap := h' } := I1.kept (t' := s1.toks) hk
    exact ⟨s1.heap.objs.size + 1, [s1.heap.objs.size + 1, s1.heap.objs.size], _, _, H1, rfl, I2, turn_enum a (s1.heap.objs.size + 1) s1.heap.objs.size, ⟨⟨.none, he⟩, hit, Nat.succ_ne_self _⟩, fr, q⟩
  · obtain ⟨its, rv, p', hz⟩ := I1.tuple hq
    have al : a < s1.heap.objs.size := by
      obtain ⟨o, ho, _⟩ := id p'
      exact Heap.lt_size ho
    refine EnT.call1 (begins_tuple a its.toArray) p' fun h' he hit hk => wpAny_pyIter_enum he ?_
    have I2 : Inv X pins σ H1 { s1 with heap := h' } := I1.kept (t' := s1.toks) hk
    exact ⟨s1.heap.objs.size + 1, [s1.heap.objs.size + 1, s1.heap.objs.size], _, _, H1, rfl, I2, EnT.turnT a (s1.heap.objs.size + 1) s1.heap.objs.size,
      ⟨⟨.none, he⟩, ⟨_, hit, rfl, rfl⟩, Nat.succ_ne_self _, Nat.ne_of_gt (Nat.lt_succ_of_lt al), Nat.ne_of_lt al⟩, fr, q⟩
def iZip3 (K : PySem.W.Frag) (ta : TA) : TI := fun σ H R => ta σ H fun vs H1 => ∃ a b xs ys, vs = [.ref a, .ref b] ∧ ((SqL K H1 a xs ∧ SqL K H1 b ys ∧ R (Itz K a b) H1) ∨ (SqT K H1 a xs ∧ SqT K H1 b ys ∧ R (RZ.ItzT K a b) H1) ∨ (SqL K H1 a xs ∧ SqT K H1 b ys ∧ R (EnT.ItzLT K a b) H1))
theorem pi_zip3 {e e2 : Expr} {ta : TA} {p pos tpos : Pos} {elts : List Expr} {kk : Nat} (hg : Gl X "zip") (hm : X.mg "zip" = none) (ha : PA X [e, e2] ta)
    (hs : starEach [e, e2] X.env = (false, eval e X.env) :: starEach [e2] X.env := by rfl) (hpl : (backTo pos (starEach [e2] X.env)).any (·.1) = false := by rfl) :
    PI X (.Tuple elts kk tpos) (.Call (.Name "zip" p) [e, e2] [] pos) (iZip3 X.K ta) := by
  refine ⟨fun pins s σ H R I h => ?_⟩
  refine Call_ (ld_blt I hg hm PyProof.Rows.boot_zip (PyProof.Rows.callWith_type1 (thn (ha.run pos pins s σ H _ I h) fun us s1 ⟨vs, H1, I1, r1, q1⟩ => ?_) hs hpl))
  obtain ⟨a, b, xs, ys, ex, q1⟩ := q1
  subst ex
  cases r1 with
  | cons r rr =>
    cases rr with
    | cons r' rr =>
      cases rr
      cases r
      cases r'
      have fresh5 : ∀ c, c ∈ [s1.heap.objs.size + 4, s1.heap.objs.size + 2, s1.heap.objs.size + 3, s1.heap.objs.size, s1.heap.objs.size + 1] → FpOk X pins H1 c := fun c hcm => by
        have e' : c = s1.heap.objs.size + 4 ∨ c = s1.heap.objs.size + 2 ∨ c = s1.heap.objs.size + 3 ∨ c = s1.heap.objs.size ∨ c = s1.heap.objs.size + 1 := by simpa using hcm
        have hle : s1.heap.objs.size ≤ c := by
          rcases e' with z | z | z | z | z
          · rw [z]; exact Nat.le_add_right _ _
          · rw [z]; exact Nat.le_add_right _ _
          · rw [z]; exact Nat.le_add_right _ _
          · rw [z]; exact Nat.le_refl _
          · rw [z]; exact Nat.le_add_right _ _
        exact I1.fpOk hle (I1.hok.fresh hle)
      rcases q1 with ⟨hqx, hqy, q⟩ | ⟨hqx, hqy, q⟩ | ⟨hqx, hqy, q⟩
      · obtain ⟨its, rv, p1, _⟩ := I1.list hqx
        obtain ⟨its2, rv2, p2, _⟩ := I1.list hqy
        refine call_zip_2 p1.isList p2.isList fun h' hz hTI hTO h1 h2 hsz hk => wpAny_pyIter_zip hz ?_
        have I2 : Inv X pins σ H1 { s1 with heap := h' } := I1.kept (t' := s1.toks) hk
        exact ⟨s1.heap.objs.size + 4, [s1.heap.objs.size + 4, s1.heap.objs.size + 2, s1.heap.objs.size + 3, s1.heap.objs.size, s1.heap.objs.size + 1], _, _, H1, rfl, I2, turn_zip (PySem.W.ktu_apart s1.heap.objs.size a b p1.lt p2.lt), ⟨hz, hTI, ⟨_, _, hTO⟩, h1, h2⟩, fresh5, q⟩
      · obtain ⟨its, rv, p1, _⟩ := I1.tuple hqx
        obtain ⟨its2, rv2, p2, _⟩ := I1.tuple hqy
        obtain ⟨o1, ho1, _⟩ := id p1
        obtain ⟨o2, ho2, _⟩ := id p2
        refine RZ.call_zipT (show s1.heap.IsTuple a its.toArray from p1) (show s1.heap.IsTuple b its2.toArray from p2) fun h' hz hTI hTO h1 h2 hsz hk => wpAny_pyIter_zip hz ?_
        have I2 : Inv X pins σ H1 { s1 with heap := h' } := I1.kept (t' := s1.toks) hk
        exact ⟨s1.heap.objs.size + 4, [s1.heap.objs.size + 4, s1.heap.objs.size + 2, s1.heap.objs.size + 3, s1.heap.objs.size, s1.heap.objs.size + 1], _, _, H1, rfl, I2, RZ.turn_zipT (PySem.W.ktu_apart s1.heap.objs.size a b (Heap.lt_size ho1) (Heap.lt_size ho2)), ⟨hz, hTI, ⟨_, _, hTO⟩, h1, h2⟩, fresh5, q⟩
      · obtain ⟨its, rv, p1, _⟩ := I1.list hqx
        obtain ⟨its2, rv2, p2, _⟩ := I1.tuple hqy
        obtain ⟨o2, ho2, _⟩ := id p2
        have al : a < s1.heap.objs.size := p1.lt
        have bl : b < s1.heap.objs.size := Heap.lt_size ho2
        refine zip_begins2 (begins_list a its.toArray) (begins_tuple b its2.toArray) p1.isList p2
          fun h' hz hTI hTO g1 g2 hsz hk => wpAny_pyIter_zip hz ?_
        have I2 : Inv X pins σ H1 { s1 with heap := h' } := I1.kept (t' := s1.toks) hk
        have S := zip_sep2 (N := s1.heap.objs.size) (fp1 := [a]) (fp2 := [b]) (fun c hc => by rw [List.mem_singleton.mp hc]; exact al) (fun c hc => by rw [List.mem_singleton.mp hc]; exact bl)
        exact ⟨s1.heap.objs.size + 4, [s1.heap.objs.size + 4, s1.heap.objs.size + 2, s1.heap.objs.size + 3, s1.heap.objs.size, s1.heap.objs.size + 1], _, _, H1, rfl, I2,
          EnT.turnLT S (Nat.ne_of_lt al) (Nat.ne_of_lt (Nat.lt_succ_of_lt bl)), ⟨hz, hTI, ⟨_, _, hTO⟩, ⟨_, g1, rfl, rfl⟩, ⟨_, g2, rfl, rfl⟩⟩, fresh5, q⟩
end
end DL
namespace DL
open PySem L2
section
variable {X : Cx} {e o a b c tg : Expr} {es : List Expr} {st : Stmt} {rest sts : List Stmt} {pos p p2 : Pos} {K : PySem.W.Frag}
theorem id_seq {de : DE} (he : ED X e de) : ID X tg e (iSeq de) := by
  obtain ⟨te, pe, se⟩ := he
  refine ⟨_, pi_seq pe, fun {b g σ S H Qd Rr} R hd k => se R hd fun x g1 v S1 H1 q1 R1 x1 r1 => ?_⟩
  cases x with
  | lst xs =>
    obtain ⟨a, vs, rfl, q, rs⟩ := r1.lst
    exact ⟨a, rfl, .inl ⟨⟨vs, .inl (Rd.le R1.le q)⟩, k xs g1 S1 H1 _ q1 R1 x1 (itok_list q rs)⟩⟩
  | tup xs =>
    obtain ⟨a, vs, rfl, q, rs⟩ := r1.tup
    exact ⟨a, rfl, .inr ⟨⟨vs, SqT.le R1.le q⟩, k xs g1 S1 H1 _ q1 R1 x1 (itok_tup q rs)⟩⟩
  | _ => exact q1.elim
/-- lo, lo + 1, .. -/
def rngD (lo : Int) (n : Nat) : List D := (List.range n).map fun (i : Nat) => D.int (lo + (i : Int))
theorem itok_range {lo : Int} {n : Nat} {S0 : Hp} : ItOk K (Itr lo n) (rngD lo n) S0 := fun i {b g σ S H} R l => by
  have el : (rngD lo n).length = n := by unfold rngD; simp
  refine ⟨fun e => by rw [e, el]; exact Nat.le_refl n, fun x hx => ?_⟩
  have hi : i < n := by
    have := (List.getElem?_eq_some_iff.mp hx).1
    omega
  have ex : x = .int (lo + i) := by
    unfold rngD at hx
    rw [List.getElem?_map, List.getElem?_range hi] at hx
    exact (Option.some.inj hx).symm
  subst ex
  refine ⟨hi, fun w H' y => ?_⟩
  obtain ⟨rfl, rfl⟩ := y
  exact ⟨S, R, .rfl, Rep.ofInt (K := K) (S := S) _⟩
def iRange1 (da : DA) : DI := fun g Q => da g fun ds g1 => match ds with
  | [.int j] => (-(2 ^ 62) ≤ j ∧ j < 2 ^ 62) ∧ Q (rngD 0 j.toNat) g1
  | _ => False
theorem id_range1 {da : DA} {n : Nat} (hg : Gl X "range") (hm : X.mg "range" = none) (ha : AD X [a] n da)
    (hs : starEach [a] X.env = [(false, eval a X.env)] := by rfl) :
    ID X tg (.Call (.Name "range" p) [a] [] pos) (iRange1 da) := by
  obtain ⟨ta, pa, sa⟩ := ha
  refine ⟨_, pi_range1 hg hm pa hs, fun {b g σ S H Qd Rr} R hd k => sa R hd fun ds g1 vs S1 H1 q1 R1 x1 r1 l1 => ?_⟩
  match ds, q1 with
  | [.int j], ⟨⟨h1, h2⟩, q1⟩ =>
    obtain ⟨v, rfl, r⟩ := r1.one
    exact ⟨j, by rw [r.int], h1, h2, k _ g1 S1 H1 _ q1 R1 x1 itok_range⟩
def iRange2 (da : DA) : DI := fun g Q => da g fun ds g1 => match ds with
  | [.int i, .int j] => (-(2 ^ 62) ≤ i ∧ i < 2 ^ 62 ∧ -(2 ^ 62) ≤ j ∧ j < 2 ^ 62) ∧ Q (rngD i (j - i).toNat) g1
  | _ => False
theorem id_range2 {da : DA} {n : Nat} (hg : Gl X "range") (hm : X.mg "range" = none) (ha : AD X [a, b] n da)
    (hs : starEach [a, b] X.env = [(false, eval a X.env), (false, eval b X.env)] := by rfl) (hs2 : starEach [b] X.env = [(false, eval b X.env)] := by rfl) :
    ID X tg (.Call (.Name "range" p) [a, b] [] pos) (iRange2 da) := by
  obtain ⟨ta, pa, sa⟩ := ha
  refine ⟨_, pi_range2 hg hm pa hs hs2, fun {b g σ S H Qd Rr} R hd k => sa R hd fun ds g1 vs S1 H1 q1 R1 x1 r1 l1 => ?_⟩
  match ds, q1 with
  | [.int i, .int j], ⟨hh, q1⟩ =>
    obtain ⟨v, w, rfl, r, r'⟩ := r1.two
    exact ⟨i, j, by rw [r.int, r'.int], hh, k _ g1 S1 H1 _ q1 R1 x1 itok_range⟩
/-- the pairs (i, x) -/
def enumD (xs : List D) : List D := xs.zipIdx.map fun p => .tup [.int p.2, p.1]
theorem enumD_get {xs : List D} {i : Nat} {x : D} (h : (enumD xs)[i]? = some x) : ∃ y, xs[i]? = some y ∧ x = .tup [.int i, y] := by
  unfold enumD at h
  rw [List.getElem?_map, List.getElem?_zipIdx] at h
  cases e : xs[i]? with
  | none => rw [e] at h; cases h
  | some y => rw [e] at h; simp at h; exact ⟨y, rfl, h.symm⟩
theorem enumD_len (xs : List D) : (enumD xs).length = xs.length := by unfold enumD; simp
theorem itok_enum {a : Addr} {ds : List D} {vs : List V} {S0 : Hp} (h : Rd S0 a (.lst vs)) (r : Reps K S0 ds vs) : ItOk K (Ite K a) (enumD ds) S0 := fun i {b g σ S H} R l => by
  have q : SqL K H a vs := .inl (Rd.le (l.trans R.le) h)
  refine ⟨fun e => ⟨vs, q, by rw [r.len, e, enumD_len]; exact Nat.le_refl _⟩, fun x hx => ?_⟩
  obtain ⟨y, hy, rfl⟩ := enumD_get hx
  obtain ⟨v, hv, rv⟩ := r.get hy
  refine ⟨⟨vs, v, q, hv⟩, fun w H' z => ?_⟩
  obtain ⟨T, x', rfl, hT, rfl, z⟩ := z
  have e := z vs q
  rw [hv] at e
  cases e
  obtain ⟨R', x', rp⟩ := R.tup hT (ds := [.int i, y]) (.cons (Rep.ofInt _) (.cons (Rep.le l _ _ rv) .nil))
  exact ⟨_, R', x', rp⟩
theorem itok_enumT {a : Addr} {ds : List D} {vs : List V} {S0 : Hp} (h : SqT K S0 a vs) (r : Reps K S0 ds vs) : ItOk K (EnT.IteT K a) (enumD ds) S0 := fun i {b g σ S H} R l => by
  have q : SqT K H a vs := SqT.le (l.trans R.le) h
  refine ⟨fun e => ⟨vs, q, by rw [r.len, e, enumD_len]⟩, fun x hx => ?_⟩
  obtain ⟨y, hy, rfl⟩ := enumD_get hx
  obtain ⟨v, hv, rv⟩ := r.get hy
  refine ⟨⟨vs, v, q, hv⟩, fun w H' z => ?_⟩
  obtain ⟨T, x', rfl, hT, rfl, z⟩ := z
  have e := z vs q
  rw [hv] at e
  cases e
  obtain ⟨R', x', rp⟩ := R.tup hT (ds := [.int i, y]) (.cons (Rep.ofInt _) (.cons (Rep.le l _ _ rv) .nil))
  exact ⟨_, R', x', rp⟩
def iEnumD (da : DA) : DI := fun g Q => da g fun ds g1 => match ds with
  | [.lst xs] => Q (enumD xs) g1
  | [.tup xs] => Q (enumD xs) g1
  | _ => False
theorem id_enum {da : DA} {n kk : Nat} {elts : List Expr} {tpos : Pos} (hg : Gl X "enumerate") (hm : X.mg "enumerate" = none) (ha : AD X [a] n da) (hs : starEach [a] X.env = [(false, eval a X.env)] := by rfl) :
    ID X (.Tuple elts kk tpos) (.Call (.Name "enumerate" p) [a] [] pos) (iEnumD da) := by
  obtain ⟨ta, pa, sa⟩ := ha
  refine ⟨_, pi_enumA hg hm pa hs, fun {b g σ S H Qd Rr} R hd k => sa R hd fun ds g1 vs S1 H1 q1 R1 x1 r1 l1 => ?_⟩
  match ds, q1 with
  | [.lst xs], q1 =>
    obtain ⟨v, rfl, r⟩ := r1.one
    obtain ⟨a, ws, rfl, q, rs⟩ := r.lst
    exact ⟨a, ws, rfl, .inl ⟨.inl (Rd.le R1.le q), k _ g1 S1 H1 _ q1 R1 x1 (itok_enum q rs)⟩⟩
  | [.tup xs], q1 =>
    obtain ⟨v, rfl, r⟩ := r1.one
    obtain ⟨a, ws, rfl, q, rs⟩ := r.tup
    exact ⟨a, ws, rfl, .inr ⟨SqT.le R1.le q, k _ g1 S1 H1 _ q1 R1 x1 (itok_enumT q rs)⟩⟩
/-- the pairs (x, y) -/
def zipD (xs ys : List D) : List D := List.zipWith (fun x y => .tup [x, y]) xs ys
theorem zipD_get {xs ys : List D} {i : Nat} {z : D} (h : (zipD xs ys)[i]? = some z) : ∃ x y, xs[i]? = some x ∧ ys[i]? = some y ∧ z = .tup [x, y] := by
  unfold zipD at h
  rw [List.getElem?_zipWith] at h
  cases e : xs[i]? with
  | none => rw [e] at h; cases h
  | some x =>
    cases e2 : ys[i]? with
    | none => rw [e, e2] at h; cases h
    | some y => rw [e, e2] at h; exact ⟨x, y, rfl, rfl, (Option.some.inj h).symm⟩
theorem zipD_len (xs ys : List D) : (zipD xs ys).length = min xs.length ys.length := by unfold zipD; simp
def iZipD (da : DA) : DI := fun g Q => da g fun ds g1 => match ds with
  | [.lst xs, .lst ys] => Q (zipD xs ys) g1
  | [.tup xs, .tup ys] => Q (zipD xs ys) g1
  | [.lst xs, .tup ys] => xs.length = ys.length ∧ Q (zipD xs ys) g1
  | _ => False
theorem id_zip {da : DA} {n kk : Nat} {elts : List Expr} {tpos : Pos} (hg : Gl X "zip") (hm : X.mg "zip" = none) (ha : AD X [a, b] n da)
    (hs : starEach [a, b] X.env = (false, eval a X.env) :: starEach [b] X.env := by rfl) (hpl : (backTo pos (starEach [b] X.env)).any (·.1) = false := by rfl) :
    ID X (.Tuple elts kk tpos) (.Call (.Name "zip" p) [a, b] [] pos) (iZipD da) := by
  obtain ⟨ta, pa, sa⟩ := ha
  refine ⟨_, pi_zip3 hg hm pa hs hpl, fun {b g σ S H Qd Rr} R hd k => sa R hd fun ds g1 vs S1 H1 q1 R1 x1 r1 l1 => ?_⟩
  match ds, q1 with
  | [.lst xs, .lst ys], q1 =>
    obtain ⟨v, w, rfl, r, r'⟩ := r1.two
    obtain ⟨a, ws, rfl, q, rs⟩ := r.lst
    obtain ⟨a', ws', rfl, q', rs'⟩ := r'.lst
    refine ⟨a, a', ws, ws', rfl, .inl ⟨.inl (Rd.le R1.le q), .inl (Rd.le R1.le q'), k _ g1 S1 H1 _ q1 R1 x1 fun i {b g σ S H} R l => ?_⟩⟩
    have h1 : SqL X.K H a ws := .inl (Rd.le (l.trans R.le) q)
    have h2 : SqL X.K H a' ws' := .inl (Rd.le (l.trans R.le) q')
    refine ⟨fun e => ⟨ws, ws', h1, h2, by rw [rs.len, rs'.len]; rw [zipD_len] at e; omega⟩, fun z hz => ?_⟩
    obtain ⟨x, y, hx, hy, rfl⟩ := zipD_get hz
    obtain ⟨v, hv, rv⟩ := rs.get hx
    obtain ⟨v', hv', rv'⟩ := rs'.get hy
    refine ⟨⟨ws, ws', v, v', h1, h2, hv, hv'⟩, fun w H' z => ?_⟩
    obtain ⟨T, x', y', rfl, hT, rfl, z1, z2⟩ := z
    have e := z1 ws h1
    rw [hv] at e; cases e
    have e := z2 ws' h2
    rw [hv'] at e; cases e
    obtain ⟨R', x', rp⟩ := R.tup hT (ds := [x, y]) (.cons (Rep.le l _ _ rv) (.cons (Rep.le l _ _ rv') .nil))
    exact ⟨_, R', x', rp⟩
  | [.tup xs, .tup ys], q1 =>
    obtain ⟨v, w, rfl, r, r'⟩ := r1.two
    obtain ⟨a, ws, rfl, q, rs⟩ := r.tup
    obtain ⟨a', ws', rfl, q', rs'⟩ := r'.tup
    refine ⟨a, a', ws, ws', rfl, .inr (.inl ⟨SqT.le R1.le q, SqT.le R1.le q', k _ g1 S1 H1 _ q1 R1 x1 fun i {b g σ S H} R l => ?_⟩)⟩
    have h1 : SqT X.K H a ws := SqT.le (l.trans R.le) q
    have h2 : SqT X.K H a' ws' := SqT.le (l.trans R.le) q'
    refine ⟨fun e => ⟨ws, ws', h1, h2, by rw [rs.len, rs'.len]; rw [zipD_len] at e; omega⟩, fun z hz => ?_⟩
    obtain ⟨x, y, hx, hy, rfl⟩ := zipD_get hz
    obtain ⟨v, hv, rv⟩ := rs.get hx
    obtain ⟨v', hv', rv'⟩ := rs'.get hy
    refine ⟨⟨ws, ws', v, v', h1, h2, hv, hv'⟩, fun w H' z => ?_⟩
    obtain ⟨T, x', y', rfl, hT, rfl, z1, z2⟩ := z
    have e := z1 ws h1
    rw [hv] at e; cases e
    have e := z2 ws' h2
    rw [hv'] at e; cases e
    obtain ⟨R', x', rp⟩ := R.tup hT (ds := [x, y]) (.cons (Rep.le l _ _ rv) (.cons (Rep.le l _ _ rv') .nil))
    exact ⟨_, R', x', rp⟩
  | [.lst xs, .tup ys], ⟨el, q1⟩ =>
    obtain ⟨v, w, rfl, r, r'⟩ := r1.two
    obtain ⟨a, ws, rfl, q, rs⟩ := r.lst
    obtain ⟨a', ws', rfl, q', rs'⟩ := r'.tup
    have ll : ws.length = ws'.length := by rw [rs.len, rs'.len, el]
    refine ⟨a, a', ws, ws', rfl, .inr (.inr ⟨.inl (Rd.le R1.le q), SqT.le R1.le q', k _ g1 S1 H1 _ q1 R1 x1 fun i {b g σ S H} R l => ?_⟩)⟩
    have h1 : SqL X.K H a ws := .inl (Rd.le (l.trans R.le) q)
    have h2 : SqT X.K H a' ws' := SqT.le (l.trans R.le) q'
    refine ⟨fun e => ⟨ws, ws', h1, h2, by rw [rs.len]; rw [zipD_len] at e; omega, by rw [rs'.len]; rw [zipD_len] at e; omega⟩, fun z hz => ?_⟩
    obtain ⟨x, y, hx, hy, rfl⟩ := zipD_get hz
    obtain ⟨v, hv, rv⟩ := rs.get hx
    obtain ⟨v', hv', rv'⟩ := rs'.get hy
    refine ⟨⟨ws, ws', v, v', h1, h2, ll, hv, hv'⟩, fun w H' z => ?_⟩
    obtain ⟨T, x', y', rfl, hT, rfl, z1, z2⟩ := z
    have e := z1 ws h1
    rw [hv] at e; cases e
    have e := z2 ws' h2
    rw [hv'] at e; cases e
    obtain ⟨R', x', rp⟩ := R.tup hT (ds := [x, y]) (.cons (Rep.le l _ _ rv) (.cons (Rep.le l _ _ rv') .nil))
    exact ⟨_, R', x', rp⟩
def iRevD (de : DE) : DI := fun g Q => de g fun x g1 => match x with
  | .lst xs => Q xs.reverse g1
  | .tup xs => Q xs.reverse g1
  | _ => False
theorem id_rev {de : DE} (hg : Gl X "reversed") (hm : X.mg "reversed" = none) (he : ED X e de) (hs : starEach [e] X.env = (false, eval e X.env) :: starEach [] X.env := by rfl) : ID X tg (.Call (.Name "reversed" p) [e] [] pos) (iRevD de) := by
  obtain ⟨te, pe, se⟩ := he
  refine ⟨_, RT.pi_revA hg hm pe hs, fun {b g σ S H Qd Rr} R hd k => se R hd fun x g1 v S1 H1 q1 R1 x1 r1 => ?_⟩
  cases x with
  | lst xs =>
    obtain ⟨a, vs, rfl, q, rs⟩ := r1.lst
    refine ⟨a, vs, rfl, .inl ⟨.inl (Rd.le R1.le q), k _ g1 S1 H1 _ q1 R1 x1 fun i {b g σ S H} R l => ?_⟩⟩
    have h1 : SqL X.K H a vs := .inl (Rd.le (l.trans R.le) q)
    refine ⟨fun e => by rw [List.length_reverse] at e; show vs.length ≤ i; rw [rs.len]; omega, fun x hx => ?_⟩
    have hi : i < xs.length := by have := (List.getElem?_eq_some_iff.mp hx).1; rw [List.length_reverse] at this; exact this
    rw [List.getElem?_reverse hi] at hx
    obtain ⟨v, hv, rv⟩ := rs.get hx
    rw [← rs.len] at hv
    refine ⟨⟨by rw [rs.len]; exact hi, vs, v, h1, hv⟩, fun w H' z => ?_⟩
    obtain ⟨rfl, z⟩ := z
    have e := z vs h1
    rw [hv] at e; cases e
    exact ⟨S, R, .rfl, Rep.le l _ _ rv⟩
  | tup xs =>
    obtain ⟨a, vs, rfl, q, rs⟩ := r1.tup
    refine ⟨a, vs, rfl, .inr ⟨SqT.le R1.le q, k _ g1 S1 H1 _ q1 R1 x1 fun i {b g σ S H} R l => ?_⟩⟩
    have h1 : SqT X.K H a vs := SqT.le (l.trans R.le) q
    refine ⟨fun e => by rw [List.length_reverse] at e; show vs.length ≤ i; rw [rs.len]; omega, fun x hx => ?_⟩
    have hi : i < xs.length := by have := (List.getElem?_eq_some_iff.mp hx).1; rw [List.length_reverse] at this; exact this
    rw [List.getElem?_reverse hi] at hx
    obtain ⟨v, hv, rv⟩ := rs.get hx
    rw [← rs.len] at hv
    refine ⟨⟨by rw [rs.len]; exact hi, vs, v, h1, hv⟩, fun w H' z => ?_⟩
    obtain ⟨rfl, z⟩ := z
    have e := z vs h1
    rw [hv] at e; cases e
    exact ⟨S, R, .rfl, Rep.le l _ _ rv⟩
  | _ => exact q1.elim
end
end DL

set_option maxRecDepth 100000
set_option maxHeartbeats 4000000
namespace DL
open PySem L2
section
variable {X : Cx} {e o a b c tg iter elt : Expr} {es ifs : List Expr} {st : Stmt} {rest sts body : List Stmt} {pos p p2 : Pos} {K : PySem.W.Frag}
def Bs.at (b : Bs) (S : Hp) : Bs := ⟨b.H0, S, b.O0⟩
theorem SlOk.re {b : Bs} {S S1 H : Hp} {x : Option (Option V)} {s : Sl} (h : SlOk K b S H x s) : SlOk K (b.at S1) S H x s := by
  cases s <;> exact h
theorem SlOk.un {b : Bs} {S S1 H : Hp} {x : Option (Option V)} {s : Sl} (h : SlOk K (b.at S1) S H x s) : SlOk K b S H x s := by
  cases s <;> exact h
theorem Rel.re {b : Bs} {g : G} {σ : St} {S H : Hp} (R : Rel K b g σ S H) : Rel K (b.at S) g σ S H :=
  ⟨R.len, R.le, R.dom, R.keep, fun a o h => .inl h, Le.rfl, fun i s h => (R.slot i s h).re, R.dis⟩
theorem Rel.un {b : Bs} {g g1 : G} {σ σ1 : St} {S S1 H H1 : Hp} (R1 : Rel K b g1 σ1 S1 H1) (R : Rel K (b.at S1) g σ S H) : Rel K b g σ S H :=
  ⟨R.len, R.le, R.dom, R.keep, fun a o h => by
    rcases R.grow a o h with h | h
    · exact R1.grow a o h
    · exact .inr h, R1.base.trans R.base, fun i s h => (R.slot i s h).un, R.dis⟩
theorem RFin.un {b : Bs} {g : G} {σ : St} {S S1 H : Hp} {v : V} {r : R} (h : RFin K (b.at S1) g σ S H v r) : RFin K b g σ S H v r := by
  cases r <;> exact h
/-! ### for -/
def sFor (di : DI) (dg : DG) (d : DS) : DS := fun De g => di g fun items g1 => ∃ W : Nat → G → Prop, W 0 g1 ∧ (∀ i x g2, items[i]? = some x → W i g2 → dg x g2 fun g3 => d { De with nx := W (i + 1), ct := W (i + 1), bk := De.nx } g3) ∧ ∀ g2, W items.length g2 → De.nx g2
theorem sd_for {di : DI} {dg : DG} {d : DS} {vs : List Nat} (hp : PassesOwn (model X.prog X.w) X.A X.env X.xe) (hc : X.calm = true) (hi : ID X tg iter di) (hg : GD X vs tg dg) (hb : BD X body d) (hs : ∀ x, foldedSetIterable iter X.env x = pure x := by intro _; rfl) : SD X (.For tg iter body [] pos) (sFor di dg d) := by
  obtain ⟨wi, pi, si⟩ := hi
  obtain ⟨t, pg, sg⟩ := hg
  obtain ⟨tb, pb, sb⟩ := hb
  refine ⟨_, ps_for hp hc pi pg pb hs, fun {b g σ S H De D} R hd E => si R hd fun items g1 S1 H1 J q1 R1 x1 ok => ?_⟩
  obtain ⟨W, w0, step, fin⟩ := q1
  refine ⟨fun i m σ H => m = items.length - i ∧ i ≤ items.length ∧ ∃ g S, W i g ∧ Rel X.K (b.at S1) g σ S H, ⟨items.length, rfl, Nat.zero_le _, g1, S1, w0, R1.re⟩, ?_⟩
  rintro i m σ2 H2 ⟨rfl, hi, g2, S2, w2, R2⟩
  obtain ⟨o1, o2⟩ := ok i R2 R2.base
  by_cases hlt : i < items.length
  · have hx : items[i]? = some items[i] := List.getElem?_eq_getElem hlt
    obtain ⟨hgo, hy⟩ := o2 _ hx
    refine .inr ⟨hgo, fun σ' H' => ∃ g S, W (i + 1) g ∧ Rel X.K (b.at S1) g σ' S H', fun σ' H' h => ⟨items.length - (i + 1), by omega, rfl, hlt, h⟩, fun v H' y => ?_⟩
    obtain ⟨S', R', _, rp⟩ := hy v H' y
    refine sg R' rp (step i _ g2 hx w2) fun g3 σ3 q3 R3 _ _ _ => sb R3 q3 ⟨fun q Rq => ⟨_, _, q, Rq⟩, fun q Rq rf => E.rt q (R1.un Rq) rf.un, fun q Rq => E.nx q (R1.un Rq), fun q Rq => ⟨_, _, q, Rq⟩⟩
  · have e : i = items.length := by omega
    subst e
    exact .inl ⟨o1 rfl, E.nx (fin g2 w2) (R1.un R2)⟩
/-! ### while -/
def sWhile (dt : DT) (d : DS) : DS := fun De g => ∃ W : Nat → G → Prop, (∃ m, W m g) ∧ ∀ m g, W m g → dt g fun c g1 => if c = true then d { De with nx := fun g2 => ∃ m', m' < m ∧ W m' g2, ct := fun g2 => ∃ m', m' < m ∧ W m' g2, bk := De.nx } g1 else De.nx g1
theorem sd_while {dt : DT} {d : DS} (hp : PassesOwn (model X.prog X.w) X.A X.env X.xe) (ht : TD X c dt) (hb : BD X body d) : SD X (.While c body [] pos) (sWhile dt d) := by
  obtain ⟨t, pt, st⟩ := ht
  obtain ⟨tb, pb, sb⟩ := hb
  refine ⟨_, ps_while hp pt pb, fun {b g σ S H De D} R hd E => ?_⟩
  obtain ⟨W, ⟨m0, w0⟩, step⟩ := hd
  refine ⟨fun m σ H => ∃ g S, W m g ∧ Rel X.K b g σ S H, ⟨m0, g, S, w0, R⟩, ?_⟩
  rintro m σ2 H2 ⟨g2, S2, w2, R2⟩
  refine st R2 (step m g2 w2) fun cc g3 S3 H3 q3 R3 x3 => ?_
  cases cc with
  | true =>
    refine ⟨fun σ' H' => ∃ g S, (∃ m', m' < m ∧ W m' g) ∧ Rel X.K b g σ' S H', fun σ' H' ⟨g, S, ⟨m', hm, w⟩, Rq⟩ => ⟨m', hm, g, S, w, Rq⟩, sb R3 q3 ⟨fun q Rq => ⟨_, _, q, Rq⟩, E.rt, E.nx, fun q Rq => ⟨_, _, q, Rq⟩⟩⟩
  | false => exact E.nx q3 R3
/-! ### comprehensions -/
def wipeG (g : G) : List Nat → G
  | [] => g
  | v :: vs => (wipeG g vs).set v .no
theorem wipeG_get {g : G} {i : Nat} {s : Sl} : ∀ {vs : List Nat}, (wipeG g vs)[i]? = some s → s ≠ .no → i ∉ vs ∧ g[i]? = some s
  | [], h, _ => ⟨by simp, h⟩
  | v :: vs, h, n => by
    unfold wipeG at h
    by_cases z : i = v
    · subst z
      rw [List.getElem?_set] at h
      simp at h
      exact absurd h.2.symm n
    · rw [List.getElem?_set_ne (Ne.symm z)] at h
      obtain ⟨h1, h2⟩ := wipeG_get h n
      exact ⟨by simp [z, h1], h2⟩
theorem wipe_get {σ : St} {i : Nat} : ∀ {vs : List Nat}, i ∉ vs → (wipe σ vs)[i]? = σ[i]?
  | [], _ => rfl
  | v :: vs, h => by
    have h1 : i ≠ v := fun z => h (by simp [z])
    have h2 : i ∉ vs := fun z => h (by simp [z])
    unfold wipe
    rw [List.getElem?_set_ne (Ne.symm h1)]
    exact wipe_get h2
theorem wipe_ext {σ σ2 : St} : ∀ {vs : List Nat}, σ2.length = σ.length → (∀ j, j ∉ vs → σ2[j]? = (wipe σ vs)[j]?) → wipe σ2 vs = wipe σ vs := fun {vs} l h => by
  apply List.ext_getElem?
  intro i
  have key : ∀ {τ : St} {ws : List Nat}, i ∈ ws → i < τ.length → (wipe τ ws)[i]? = some none := by
    intro τ ws
    induction ws with
    | nil => intro h; cases h
    | cons w ws ih =>
      intro hm hl
      unfold wipe
      by_cases z : i = w
      · subst z
        rw [List.getElem?_set]
        simp [wipe_length, hl]
      · rw [List.getElem?_set_ne (Ne.symm z)]
        exact ih (by simpa [z] using hm) hl
  by_cases hv : i ∈ vs
  · by_cases hl : i < σ.length
    · rw [key hv hl, key hv (by rw [l]; exact hl)]
    · rw [List.getElem?_eq_none (by rw [wipe_length, l]; omega), List.getElem?_eq_none (by rw [wipe_length]; omega)]
  · rw [wipe_get hv, h i hv]
theorem Rel.wipeG {b : Bs} {g : G} {σ : St} {S H : Hp} (R : Rel K b g σ S H) : ∀ vs, Rel K b (DL.wipeG g vs) σ S H
  | [] => R
  | v :: vs => (R.wipeG vs).forget
theorem Rel.wiped {b : Bs} {g : G} {σ σ' : St} {S H : Hp} {vs : List Nat} (R : Rel K b g σ S H) (l : σ'.length = σ.length) (h : ∀ j, j ∉ vs → σ'[j]? = σ[j]?) : Rel K b (DL.wipeG g vs) σ' S H :=
  (R.wipeG vs).congr l fun i s e n => h i (wipeG_get e n).1
theorem ows_wipe {g : G} {σ σ' : St} {vs : List Nat} (h : ∀ j, j ∉ vs → σ'[j]? = σ[j]?) {a : Addr} (q : Ows (DL.wipeG g vs) σ' a) : Ows g σ a := by
  obtain ⟨i, s, e, w, x⟩ := q
  obtain ⟨h1, h2⟩ := wipeG_get e (by rintro rfl; cases w)
  exact ⟨i, s, h2, w, (h i h1).symm.trans x⟩
def xLc (di : DI) (dg : DG) (dt : DT) (de : DE) (vs : List Nat) : DX := fun g Q => di g fun items g1 => items.length ≤ sizeLine ∧ ∃ W : Nat → List D → G → Prop, W 0 [] (wipeG g1 vs) ∧
  (∀ i x acc g2, items[i]? = some x → acc.length ≤ i → W i acc g2 → dg x g2 fun g3 => dt g3 fun c g4 => if c = true then de g4 fun y g5 => W (i + 1) (acc ++ [y]) (wipeG g5 vs) else W (i + 1) acc (wipeG g4 vs)) ∧
  ∀ acc g2, acc.length ≤ items.length → W items.length acc g2 → Q (.ow (.lst acc)) g2
theorem snd_lc {wi : TI} {t : TG} {tt : TT} {te : TE} {di : DI} {dg : DG} {dt : DT} {de : DE} {vs ws : List Nat} (si : SndI K wi di) (sg : SndG K ws t dg) (st : SndT K tt dt) (se : SndE K te de) (hsub : ∀ j ∈ ws, j ∈ vs) :
    SndX K (tLc wi t tt te vs) (xLc di dg dt de vs) := fun {b g σ S H Qd Q} R hd k => si R hd fun items g1 S1 H1 J q1 R1 x1 ok Dd hD => by
  obtain ⟨hz, W, w0, step, fin⟩ := q1
  have hw : ∀ j, j ∉ vs → (wipe σ vs)[j]? = σ[j]? := fun j hj => wipe_get hj
  have hS : S1 Dd = none := R1.S0 hD
  have Rw1 : Rel K b (wipeG g1 vs) (wipe σ vs) S1 H1 := R1.wiped (wipe_length σ vs) hw
  -- the invariant: W by the items taken; what was there is there
  let I : Nat → Hp → Prop := fun i H => ∃ acc g2 S ys, W i acc g2 ∧ (∃ g0, g2 = wipeG g0 vs) ∧ acc.length ≤ i ∧ Rel K (b.at S1) g2 (wipe σ vs) S H ∧ ExtH (Ows g1 σ) S1 H1 (Ows g2 (wipe σ vs)) S H ∧ H Dd = some (.lst ys) ∧ S Dd = none ∧ Reps K S acc ys
  have i0 : I 0 (upd H1 Dd (.lst [])) := by
    refine ⟨[], _, S1, [], w0, ⟨g1, rfl⟩, Nat.le_refl _, (Rw1.newOw hD).re, ?_, upd_same, hS, .nil⟩
    exact ⟨Le.rfl, fun _ _ e _ => Le.up hD _ _ e, fun _ u e => ⟨u, Le.up hD _ _ e⟩, fun _ _ e => .inl e, fun a h => ows_wipe hw h⟩
  refine ⟨fun i m H => m = items.length - i ∧ i ≤ items.length ∧ I i H, ⟨items.length, rfl, Nat.zero_le _, i0⟩, ?_⟩
  rintro i m H2 ⟨rfl, hi, acc, g2, S2, ys, w2, ⟨g0, eg⟩, la, R2, X2, hDd, hSd, rs⟩
  have D0 : b.H0 Dd = none := R1.H00 hD
  have nO : ¬ Ows g1 σ Dd := R1.notOwn hD
  obtain ⟨o1, o2⟩ := ok i R2 R2.base
  by_cases hlt : i < items.length
  · have hx : items[i]? = some items[i] := List.getElem?_eq_getElem hlt
    obtain ⟨hgo, hy⟩ := o2 _ hx
    refine .inr ⟨hgo, I (i + 1), fun H' h => ⟨items.length - (i + 1), by omega, rfl, hlt, h⟩, fun v H' y => ?_⟩
    obtain ⟨S', R', X', rp⟩ := hy v H' y
    have X3 := X2.trans X'
    refine sg R' rp (step i _ acc g2 hx la w2) fun g3 σ3 q3 R3 l3 o3 ow3 => ⟨?_, st R3 q3 fun cc g4 S4 H4 q4 R4 x4 => ?_⟩
    · refine wipe_ext (l3.trans (wipe_length σ vs)) fun j hj => o3 j fun z => hj (hsub j z)
    have X4 : ExtH (Ows g1 σ) S1 H1 (Ows g4 σ3) S4 H4 := (X3.trans ⟨Le.rfl, fun _ _ e _ => e, fun _ u e => ⟨u, e⟩, fun _ _ e => .inl e, ow3⟩).trans x4
    have nD2 : ¬ Ows g2 (wipe σ vs) Dd := fun z => nO (X2.ow _ z)
    have h4D : H4 Dd = some (.lst ys) := by
      have h' := X'.kp Dd _ hDd nD2
      exact x4.kp Dd _ h' fun z => nD2 (X'.ow _ (ow3 _ z))
    have s4D : S4 Dd = none := by
      cases q : S4 Dd with
      | none => rfl
      | some u =>
        rcases (ExtH.trans (ExtH.trans X' ⟨Le.rfl, fun _ _ e _ => e, fun _ u e => ⟨u, e⟩, fun _ _ e => .inl e, ow3⟩) x4).nw Dd u q with z | z | z
        · rw [hSd] at z; cases z
        · rw [hDd] at z; cases z
        · exact (nD2 z).elim
    have le24 : Le S2 S4 := (X'.le).trans x4.le
    have out3 : ∀ j, j ∉ vs → (wipe σ vs)[j]? = σ3[j]? := fun j hj => (o3 j fun z => hj (hsub j z)).symm
    have len3 : (wipe σ vs).length = σ3.length := l3.symm
    cases cc with
    | false =>
      refine ⟨acc, _, S4, ys, q4, ⟨g4, rfl⟩, Nat.le_succ_of_le la, R4.wiped len3 out3, ?_, h4D, s4D, Reps.le le24 _ _ rs⟩
      exact ⟨X4.le, X4.kp, X4.dom, X4.nw, fun a h => X4.ow a (ows_wipe out3 h)⟩
    | true =>
      refine se R4 q4 fun y g5 u S5 H5 q5 R5 x5 r5 => ?_
      have X5 := X4.trans x5
      have nD4 : ¬ Ows g4 σ3 Dd := fun z => nO (X4.ow _ z)
      have h5D := x5.kp Dd _ h4D nD4
      have s5D : S5 Dd = none := by
        cases q : S5 Dd with
        | none => rfl
        | some u =>
          rcases x5.nw Dd u q with z | z | z
          · rw [s4D] at z; cases z
          · rw [h4D] at z; cases z
          · exact (nD4 z).elim
      have rs5 := Reps.le (le24.trans x5.le) _ _ rs
      refine ⟨ys, h5D, by rw [rs5.len]; exact Nat.lt_of_lt_of_le (Nat.lt_of_le_of_lt la hlt) hz, acc ++ [y], wipeG g5 vs, S5, ys ++ [u], q5, ⟨g5, rfl⟩, by rw [List.length_append]; exact Nat.succ_le_succ la, ?_, ?_, upd_same, s5D, rs5.append (.cons r5 .nil)⟩
      · have R6 := R5.wiped (vs := vs) len3 out3
        refine ⟨R6.len, fun a o h => ?_, fun a o h => ?_, fun a o h n => ?_, R6.grow, R6.base, fun j s h => (R6.slot j s h).at fun a w e => ?_, R6.dis⟩
        · rw [upd_ne (by rintro rfl; rw [s5D] at h; cases h)]; exact R6.le a o h
        · by_cases z : a = Dd
          · subst z; exact ⟨_, upd_same⟩
          · rw [upd_ne z]; exact R6.dom a o h
        · rw [upd_ne (by rintro rfl; rw [show (b.at S1).H0 a = none from D0] at h; cases h)]; exact R6.keep a o h n
        · rw [upd_ne]
          rintro rfl
          exact nO (X5.ow _ (ows_wipe out3 ⟨j, s, h, w, e⟩))
      · refine ⟨X5.le, fun a o h n => ?_, fun a o h => ?_, X5.nw, fun a h => X5.ow a (ows_wipe out3 h)⟩
        · rw [upd_ne (by rintro rfl; rw [hD] at h; cases h)]; exact X5.kp a o h n
        · by_cases z : a = Dd
          · subst z; exact ⟨_, upd_same⟩
          · rw [upd_ne z]; exact X5.dom a o h
  · have e : i = items.length := by omega
    subst e
    refine .inl ⟨o1 rfl, ?_⟩
    have out : ∀ (j : Nat) (s : Sl), g2[j]? = some s → s ≠ .no → σ[j]? = (wipe σ vs)[j]? := fun j s h n => by
      rw [eg] at h
      exact (hw j (wipeG_get h n).1).symm
    have Rf := (R1.un R2).congr (wipe_length σ vs).symm out
    have owf : ∀ a, Ows g2 σ a → Ows g2 (wipe σ vs) a := fun a ⟨j, s, h, w, x⟩ => ⟨j, s, h, w, (out j s h (by rintro rfl; cases w)).symm.trans x⟩
    have Xf : Ext g1 σ S1 H1 g2 S2 H2 := ⟨X2.le, X2.kp, X2.dom, X2.nw, fun a h => X2.ow a (owf a h)⟩
    exact k _ _ _ _ _ (fin acc g2 la w2) Rf (x1.trans Xf) ⟨Dd, rfl, hSd, D0, ⟨ys, hDd, rs⟩, fun h => nO (Xf.ow _ h), .inl (x1.none hD)⟩
/-! the machine's reading that a reading over data means -/
def downE (K : PySem.W.Frag) (d : DE) : TE := fun σ H Q => ∃ b g S Qd, Rel K b g σ S H ∧ d g Qd ∧ ∀ r g' v S' H', Qd r g' → Rel K b g' σ S' H' → Ext g σ S H g' S' H' → Rep K S' r v → Q v H'
theorem ED.down {d : DE} (h : ED X e d) : PE X e (downE X.K d) := by
  obtain ⟨t, pe, s⟩ := h
  exact ⟨fun pins sh σ H Q I ⟨b, g, S, Qd, R, hd, k⟩ => pe.run pins sh σ H Q I (s R hd k)⟩
theorem snd_downE {d : DE} : SndE K (downE K d) d := fun {b g σ S H Qd Q} R hd k => ⟨b, g, S, Qd, R, hd, k⟩
def downT (K : PySem.W.Frag) (d : DT) : TT := fun σ H Q => ∃ b g S Qd, Rel K b g σ S H ∧ d g Qd ∧ ∀ c g' S' H', Qd c g' → Rel K b g' σ S' H' → Ext g σ S H g' S' H' → Q c H'
theorem snd_downT {d : DT} : SndT K (downT K d) d := fun {b g σ S H Qd Q} R hd k => ⟨b, g, S, Qd, R, hd, k⟩
def downG (K : PySem.W.Frag) (vs : List Nat) (d : DG) : TG := fun v σ H Q => ∃ b g S x Qd, Rel K b g σ S H ∧ Rep K S x v ∧ d x g Qd ∧ ∀ g' σ', Qd g' → Rel K b g' σ' S H → σ'.length = σ.length → (∀ j, j ∉ vs → σ'[j]? = σ[j]?) → (∀ a, Ows g' σ' a → Ows g σ a) → Q σ' H
theorem GD.down {vs : List Nat} {d : DG} (h : GD X vs e d) : PG X e (downG X.K vs d) := by
  obtain ⟨t, pe, s⟩ := h
  exact ⟨fun pins sh σ H v u Q I r ⟨b, g, S, x, Qd, R, rp, hd, k⟩ => pe.run pins sh σ H v u Q I r (s R rp hd k)⟩
theorem snd_downG {vs : List Nat} {d : DG} : SndG K vs (downG K vs d) d := fun {b g σ S H x v Qd Q} R r hd k => ⟨b, g, S, x, Qd, R, r, hd, k⟩
/-- tests of a comprehension -/
def TsD (X : Cx) (ifs : List Expr) (d : DT) : Prop := ∃ t, PTs X ifs t ∧ SndT X.K t d
theorem TsD.down {d : DT} (h : TsD X ifs d) : PTs X ifs (downT X.K d) := by
  obtain ⟨t, pe, s⟩ := h
  exact ⟨fun pins sh σ H Q I ⟨b, g, S, Qd, R, hd, k⟩ => pe.run pins sh σ H Q I (s R hd k)⟩
def tYesD : DT := fun g Q => Q true g
theorem tsd_nil : TsD X [] tYesD := ⟨_, pts_nil, fun {b g σ S H Qd Q} R hd k => k true g S H hd R .rfl⟩
theorem tsd_one {d : DT} (h : TD X c d) : TsD X [c] d := by
  obtain ⟨t, pe, s⟩ := h
  exact ⟨_, pts_one pe, s⟩
theorem ex_lc {scope : Scope} {own : List (Str × Nat)} {vs ws : List Nat} {di : DI} {dg : DG} {dt : DT} {de : DE} (hc : X.calm = true) (hN : X.N.Nodup) (hi : ID X tg iter di) (ok : BlkOk X.N X.env.scope scope own)
    (hg : ∀ (s : Shared) (H : Hp) (C : Addr) (cl : List (Str × Addr)) (fp : List Addr), GD (X.blk s H scope (compEnvC scope cl C X.env) fp) ws tg dg) (ht : ∀ (s : Shared) (H : Hp) (C : Addr) (cl : List (Str × Addr)) (fp : List Addr), TsD (X.blk s H scope (compEnvC scope cl C X.env) fp) ifs dt)
    (he : ∀ (s : Shared) (H : Hp) (C : Addr) (cl : List (Str × Addr)) (fp : List Addr), ED (X.blk s H scope (compEnvC scope cl C X.env) fp) elt de) (hv : own.map (·.2) = vs := by rfl) (hsub : ∀ j ∈ ws, j ∈ vs := by decide) (hs : ∀ x, foldedSetIterable iter X.env x = pure x := by intro _; rfl) :
    EX X (.ListComp elt [⟨tg, iter, ifs, 0⟩] scope pos) (xLc di dg dt de vs) := by
  obtain ⟨wi, pi, si⟩ := hi
  subst hv
  exact ⟨_, pe_lc (g := downG X.K ws dg) (tt := downT X.K dt) (te := downE X.K de) hc hN pi ok (fun s H C cl fp => (hg s H C cl fp).down) (fun s H C cl fp => (ht s H C cl fp).down) (fun s H C cl fp => (he s H C cl fp).down) hs, snd_lc si snd_downG snd_downT snd_downE hsub⟩
theorem sd_setLc {i : Nat} {y : Str} {py spos : Pos} {scope : Scope} {own : List (Str × Nat)} {vs ws : List Nat} {di : DI} {dg : DG} {dt : DT} {de : DE} (hc : X.calm = true) (hN : X.N.Nodup) (hy : X.N[i]? = some y) (hyl : X.env.scope.names.lookup y = some .local)
    (hsw : swapsWith (.ListComp elt [⟨tg, iter, ifs, 0⟩] scope pos) (some (.Name y py)) spos.line X.env = pure true) (hi : ID X tg iter di) (ok : BlkOk X.N X.env.scope scope own)
    (hg : ∀ (s : Shared) (H : Hp) (C : Addr) (cl : List (Str × Addr)) (fp : List Addr), GD (X.blk s H scope (compEnvC scope cl C X.env) fp) ws tg dg) (ht : ∀ (s : Shared) (H : Hp) (C : Addr) (cl : List (Str × Addr)) (fp : List Addr), TsD (X.blk s H scope (compEnvC scope cl C X.env) fp) ifs dt)
    (he : ∀ (s : Shared) (H : Hp) (C : Addr) (cl : List (Str × Addr)) (fp : List Addr), ED (X.blk s H scope (compEnvC scope cl C X.env) fp) elt de) (hv : own.map (·.2) = vs := by rfl) (hsub : ∀ j ∈ ws, j ∈ vs := by decide) (hs : ∀ x, foldedSetIterable iter X.env x = pure x := by intro _; rfl) :
    SD X (.Assign [.Name y py] (.ListComp elt [⟨tg, iter, ifs, 0⟩] scope pos) spos) (sSet i (xLc di dg dt de vs)) := by
  obtain ⟨wi, pi, si⟩ := hi
  subst hv
  refine ⟨_, ps_setLc (g := downG X.K ws dg) (tt := downT X.K dt) (te := downE X.K de) hc hN hy hyl hsw pi ok (fun s H C cl fp => (hg s H C cl fp).down) (fun s H C cl fp => (ht s H C cl fp).down) (fun s H C cl fp => (he s H C cl fp).down) hs, fun {b g σ S H De D} R hd E => ?_⟩
  exact snd_lc si snd_downG snd_downT snd_downE hsub R hd fun r g1 v S1 H1 q1 R1 x1 r1 => E.nx (S := S1) q1 (R1.setR r1)
end
end DL

set_option maxRecDepth 100000
set_option maxHeartbeats 4000000
namespace DL
open PySem L2
/-! ### what a def promises -/
abbrev Xd := Value → Option (List Str × List D) → List O → Prop
/-- a promise over data: the arguments' slots; what is wanted of the result and of the callers' own things behind it; what is wanted of an exception -/
abbrev DSp := G → (R → List O → Prop) → Xd → Prop
/-- the world behind a call that began at b -/
structure Wd (b : Bs) (S H : Hp) : Prop where
  le : Le S H
  dom : ∀ a o, b.H0 a = some o → ∃ o', H a = some o'
  keep : ∀ a o, b.H0 a = some o → a ∉ b.O0 → H a = some o
  grow : ∀ a o, S a = some o → b.S0 a = some o ∨ b.H0 a = none
  base : Le b.S0 S
theorem Rel.wd {K : PySem.W.Frag} {b : Bs} {g : G} {σ : St} {S H : Hp} (R : Rel K b g σ S H) : Wd b S H := ⟨R.le, R.dom, R.keep, R.grow, R.base⟩
/-- the callers' own things behind a call -/
def OutOk (K : PySem.W.Frag) (b : Bs) (S H : Hp) (os : List O) : Prop := os.length = b.O0.length ∧ ∀ (k : Nat) (a : Addr), b.O0[k]? = some a → ∃ o, os[k]? = some o ∧ S a = none ∧ OOk K S H a o
def RVal (K : PySem.W.Frag) (b : Bs) (S H : Hp) (v : V) : R → Prop
  | .sh d => Rep K S d v
  | .ow o => ∃ a, v = .ref a ∧ S a = none ∧ b.H0 a = none ∧ OOk K S H a o
def XVal (K : PySem.W.Frag) (S : Hp) : Option Addr → Option (List Str × List D) → Prop
  | none, none => True
  | some a, some (ns, ds) => ∃ vs, S a = some (.xd (ns.zip vs)) ∧ ns.length = ds.length ∧ Reps K S ds vs
  | _, _ => False
/-- the own things among arguments, numbered from the left -/
def bxN : Nat → G → Option Nat
  | k, [] => some k
  | k, .bx j _ :: g => if j = k then bxN (k + 1) g else none
  | _, .ow _ :: _ => none
  | k, _ :: g => bxN k g
/-- what they are at the end -/
def outs : Nat → G → G → Option (List O)
  | _, [], _ => some []
  | k, .bx _ _ :: g, .bx j o :: g' => if j = k then (outs (k + 1) g g').map (o :: ·) else none
  | _, .bx _ _ :: _, _ => none
  | k, _ :: g, _ :: g' => outs k g g'
  | _, _ :: _, [] => none
def spD (K : PySem.W.Frag) (n : Nat) (f : DSp) : Sp := fun vs H Q E => ∃ S g O0 Qd Ed, vs.length = n ∧ Rel K ⟨H, S, O0⟩ g (vs.map some) S H ∧ bxN 0 g = some O0.length ∧ f g Qd Ed ∧
  (∀ r os v S' H', Qd r os → Wd ⟨H, S, O0⟩ S' H' → OutOk K ⟨H, S, O0⟩ S' H' os → RVal K ⟨H, S, O0⟩ S' H' v r → Q v H') ∧
  (∀ c xd os d S' H', Ed c xd os → Wd ⟨H, S, O0⟩ S' H' → OutOk K ⟨H, S, O0⟩ S' H' os → XVal K S' d xd → E c d H')
section
variable {K : PySem.W.Frag}
theorem outs_ok {b : Bs} {σ : St} {S H : Hp} : ∀ (k : Nat) (g g' : G) (q : Nat) (os : List O), (∀ (i : Nat) (s : Sl), g'[i]? = some s → SlOk K b S H (σ[i + q]?) s) → bxN k g = some b.O0.length → outs k g g' = some os →
    os.length + k = b.O0.length ∧ ∀ (j : Nat) (a : Addr), k ≤ j → b.O0[j]? = some a → ∃ o, os[j - k]? = some o ∧ S a = none ∧ OOk K S H a o
  | k, [], g', q, os, hs, hb, ho => by
    simp only [outs, Option.some.injEq] at ho
    subst ho
    simp only [bxN, Option.some.injEq] at hb
    refine ⟨by simp [hb], fun j a hj e => ?_⟩
    have := (List.getElem?_eq_some_iff.mp e).1
    omega
  | k, .bx j o :: g, [], q, os, hs, hb, ho => by simp [outs] at ho
  | k, .bx j o :: g, s :: g', q, os, hs, hb, ho => by
    cases s with
    | bx j' o' =>
      simp only [outs] at ho
      by_cases hj : j' = k
      · rw [if_pos hj] at ho
        subst hj
        simp only [bxN] at hb
        by_cases hjj : j = j'
        · rw [if_pos hjj] at hb
          cases e : outs (j' + 1) g g' with
          | none => rw [e] at ho; cases ho
          | some os' =>
            rw [e] at ho
            cases ho
            obtain ⟨l, h⟩ := outs_ok (j' + 1) g g' (q + 1) os' (fun i s hi => by have := hs (i + 1) s (by simpa using hi); rw [show i + (q + 1) = i + 1 + q by omega]; exact this) hb e
            refine ⟨by rw [List.length_cons]; omega, fun m a hm ea => ?_⟩
            by_cases hmk : m = j'
            · subst hmk
              obtain ⟨a', _, z, ea', ok⟩ := hs 0 _ rfl
              rw [ea] at ea'
              cases ea'
              exact ⟨o', by simp, z, ok⟩
            · obtain ⟨o2, h1, h2, h3⟩ := h m a (by omega) ea
              refine ⟨o2, ?_, h2, h3⟩
              rw [show m - j' = (m - (j' + 1)) + 1 by omega, List.getElem?_cons_succ]
              exact h1
        · rw [if_neg hjj] at hb; cases hb
      · rw [if_neg hj] at ho; cases ho
    | no => simp [outs] at ho
    | sh d => simp [outs] at ho
    | ow o' => simp [outs] at ho
  | k, .ow o :: g, g', q, os, hs, hb, ho => by simp [bxN] at hb
  | k, .no :: g, [], q, os, hs, hb, ho => by simp [outs] at ho
  | k, .sh d :: g, [], q, os, hs, hb, ho => by simp [outs] at ho
  | k, .no :: g, s :: g', q, os, hs, hb, ho => outs_ok k g g' (q + 1) os (fun i s hi => by have := hs (i + 1) s (by simpa using hi); rw [show i + (q + 1) = i + 1 + q by omega]; exact this) (by simpa [bxN] using hb) (by simpa [outs] using ho)
  | k, .sh d :: g, s :: g', q, os, hs, hb, ho => outs_ok k g g' (q + 1) os (fun i s hi => by have := hs (i + 1) s (by simpa using hi); rw [show i + (q + 1) = i + 1 + q by omega]; exact this) (by simpa [bxN] using hb) (by simpa [outs] using ho)
theorem Rel.outs {b : Bs} {g g' : G} {σ : St} {S H : Hp} {os : List O} (R : Rel K b g' σ S H) (hb : bxN 0 g = some b.O0.length) (ho : DL.outs 0 g g' = some os) : OutOk K b S H os := by
  obtain ⟨l, h⟩ := outs_ok 0 g g' 0 os (fun i s hi => R.slot i s hi) hb ho
  exact ⟨by omega, fun k a e => by simpa using h k a (Nat.zero_le _) e⟩
theorem RFin.val {b : Bs} {g : G} {σ : St} {S H : Hp} {v : V} {r : R} (h : RFin K b g σ S H v r) : RVal K b S H v r := by
  cases r with
  | sh d => exact h
  | ow o => obtain ⟨a, e, z, z0, ok, _⟩ := h; exact ⟨a, e, z, z0, ok⟩
/-- what is wanted of a body -/
def bodyEnds (g : G) (Qd : R → List O → Prop) : DEnds where
  nx := fun g' => match outs 0 g g' with
    | some os => Qd (.sh .non) os
    | none => False
  rt := fun r g' => match outs 0 g g' with
    | some os => Qd r os
    | none => False
theorem bodyEnds_ok {b : Bs} {g : G} {Qd : R → List O → Prop} {Q : VK} {nx : St → Hp → Prop} (hb : bxN 0 g = some b.O0.length) (hnx : ∀ σ H, Q .non H → nx σ H)
    (k : ∀ r os v S' H', Qd r os → Wd b S' H' → OutOk K b S' H' os → RVal K b S' H' v r → Q v H') : EndsOk K b (bodyEnds g Qd) { nx := nx, rt := Q } where
  nx := fun {g' σ S H} h R => hnx σ H (by
    unfold bodyEnds at h
    simp only at h
    cases e : outs 0 g g' with
    | none => rw [e] at h; exact h.elim
    | some os => rw [e] at h; exact k (.sh .non) os .non S H h R.wd (R.outs hb e) (Rep.ofNon (K := K) (S := S)))
  rt := fun {r g' σ v S H} h R rf => by
    unfold bodyEnds at h
    simp only at h
    cases e : outs 0 g g' with
    | none => rw [e] at h; exact h.elim
    | some os => rw [e] at h; exact k r os v S H h R.wd (R.outs hb e) rf.val
  bk := fun h _ => h.elim
  ct := fun h _ => h.elim
/-- the slots at the start -/
def startG (n : Nat) (g : G) : G := g ++ List.replicate (n - g.length) .no
theorem Rel.start {N : List Str} {vs : List V} {b : Bs} {g : G} {S H : Hp} (R : Rel K b g (vs.map some) S H) (hl : vs.length ≤ N.length) : Rel K b (startG N.length g) (start N vs) S H := by
  have lg : g.length = vs.length := by rw [R.len, List.length_map]
  have ge : ∀ (i : Nat) (s : Sl), (startG N.length g)[i]? = some s → s ≠ .no → g[i]? = some s ∧ i < vs.length := fun i s e n => by
    unfold startG at e
    by_cases hi : i < g.length
    · rw [List.getElem?_append_left hi] at e
      exact ⟨e, by omega⟩
    · rw [List.getElem?_append_right (by omega), List.getElem?_replicate] at e
      split at e
      · exact absurd (Option.some.inj e).symm n
      · cases e
  have se : ∀ i, i < vs.length → (L2.start N vs)[i]? = (vs.map some)[i]? := fun i hi => by
    unfold L2.start
    rw [List.getElem?_append_left (by rw [List.length_map]; exact hi)]
  refine ⟨?_, R.le, R.dom, R.keep, R.grow, R.base, fun i s e => ?_, fun i j a x y => ?_⟩
  · unfold startG L2.start
    rw [List.length_append, List.length_append, List.length_replicate, List.length_replicate, List.length_map, lg]
  · cases s with
    | no => trivial
    | sh d => obtain ⟨h1, h2⟩ := ge i _ e (fun z => nomatch z); rw [se i h2]; exact R.slot i _ h1
    | ow d => obtain ⟨h1, h2⟩ := ge i _ e (fun z => nomatch z); rw [se i h2]; exact R.slot i _ h1
    | bx n d => obtain ⟨h1, h2⟩ := ge i _ e (fun z => nomatch z); rw [se i h2]; exact R.slot i _ h1
  · have f : ∀ {i : Nat}, Own (startG N.length g) (L2.start N vs) i a → Own g (vs.map some) i a := fun {i} ⟨s, e, w, q⟩ => by
      obtain ⟨h1, h2⟩ := ge i s e (by rintro rfl; cases w)
      exact ⟨s, h1, w, (se i h2).symm.trans q⟩
    exact R.dis i j a (f x) (f y)
section
variable {P : Program} {w : World} {mg : Str → Option Value} {base : Heap}
/-- THE RULE for a def that raises nothing -/
theorem fnD {x qual : Str} {st : Stmt} {f : Addr} {fd : FuncData} {N ps : List Str} {k n : Nat} {ds : DSp} (F : Fun K x qual st f fd) (Sc : FnScope N ps (defScope st)) (hn : ps.length = n)
    (hb : ∀ (cdv : Value) (A : Around) (outer : List Env) (s : Shared) (H : Hp) (E : XK), Room k (A.deeper (PyProof.Rows.envOfC qual (defScope st) s.heap.objs.size f cdv)) →
      ∃ d, BD (cxOf CX0 P w K mg base N qual (defScope st) f cdv A outer s H E).nox (defBody st) d ∧ ∀ g Qd Ed, ds g Qd Ed → d (bodyEnds g Qd) (startG N.length g)) : FnOk P w K mg base CX0 (k + 1) f fd ps (spD K n ds) := by
  refine F.ok Sc (fun vs H Q E h => ?_) (fun cdv A outer s H vs Q E hr h => ?_)
  · obtain ⟨S, g, O0, Qd, Ed, l, _⟩ := h
    rw [l, hn]
  · obtain ⟨S, g, O0, Qd, Ed, l, R, bn, hd, kk, _⟩ := h
    obtain ⟨d, ⟨t, hp, hs⟩, hq⟩ := hb cdv A outer s H E hr
    have hl : vs.length ≤ N.length := by
      have := congrArg List.length Sc.pre
      rw [List.length_take] at this
      omega
    exact ⟨t, hp, hs (R.start hl) (hq g Qd Ed hd) (bodyEnds_ok bn (fun _ _ q => q) kk)⟩
end
/-! ### arguments -/
inductive Ar where
  | sh (d : D) | va (i : Nat)
abbrev DQ := G → (List Ar → G → Prop) → Prop
def ArOk (K : PySem.W.Frag) (σ : St) (S : Hp) : List Ar → List V → Prop
  | [], vs => vs = []
  | .sh d :: as, vs => ∃ v r, vs = v :: r ∧ Rep K S d v ∧ ArOk K σ S as r
  | .va i :: as, vs => ∃ v r, vs = v :: r ∧ σ[i]? = some (some v) ∧ ArOk K σ S as r
theorem ArOk.le {σ : St} {S S' : Hp} (l : Le S S') : ∀ {as : List Ar} {vs : List V}, ArOk K σ S as vs → ArOk K σ S' as vs
  | [], _, h => h
  | .sh d :: as, _, ⟨v, r, e, h1, h2⟩ => ⟨v, r, e, Rep.le l _ _ h1, ArOk.le l h2⟩
  | .va i :: as, _, ⟨v, r, e, h1, h2⟩ => ⟨v, r, e, h1, ArOk.le l h2⟩
theorem ArOk.ofReps {σ : St} {S : Hp} : ∀ {ds : List D} {vs : List V}, Reps K S ds vs → ArOk K σ S (ds.map .sh) vs
  | [], vs, h => by unfold Reps at h; exact h
  | d :: ds, vs, h => by
    obtain ⟨v, r, e, h1, h2⟩ := h.uncons
    exact ⟨v, r, e, h1, ArOk.ofReps h2⟩
theorem ArOk.append {σ : St} {S : Hp} : ∀ {as bs : List Ar} {vs ws : List V}, ArOk K σ S as vs → ArOk K σ S bs ws → ArOk K σ S (as ++ bs) (vs ++ ws)
  | [], _, _, _, h, k => by
    have h : _ = [] := h
    subst h
    exact k
  | .sh d :: as, _, _, _, ⟨v, r, e, h1, h2⟩, k => by
    subst e
    exact ⟨v, _, rfl, h1, h2.append k⟩
  | .va i :: as, _, _, _, ⟨v, r, e, h1, h2⟩, k => by
    subst e
    exact ⟨v, _, rfl, h1, h2.append k⟩
theorem ArOk.len {σ : St} {S : Hp} : ∀ {as : List Ar} {vs : List V}, ArOk K σ S as vs → vs.length = as.length
  | [], _, h => by
    have h : _ = [] := h
    subst h
    rfl
  | .sh d :: as, _, ⟨v, r, e, h1, h2⟩ => by subst e; simp [h2.len]
  | .va i :: as, _, ⟨v, r, e, h1, h2⟩ => by subst e; simp [h2.len]
def SndQ (K : PySem.W.Frag) (n : Nat) (t : TA) (d : DQ) : Prop := ∀ {b : Bs} {g : G} {σ : St} {S H : Hp} {Qd : List Ar → G → Prop} {Q : List V → Hp → Prop}, Rel K b g σ S H → d g Qd →
  (∀ as g' vs S' H', Qd as g' → Rel K b g' σ S' H' → Ext g σ S H g' S' H' → ArOk K σ S' as vs → as.length = n → Q vs H') → t σ H Q
def QD (X : Cx) (es : List Expr) (n : Nat) (d : DQ) : Prop := ∃ t, PA X es t ∧ SndQ X.K n t d
def qNil : DQ := fun g Q => Q [] g
def qCons (de : DE) (dq : DQ) : DQ := fun g Q => de g fun x g1 => dq g1 fun as g2 => Q (.sh x :: as) g2
/-- an own thing is handed over for the call -/
def qVar (i : Nat) (dq : DQ) : DQ := fun g Q => match gt g i with
  | .ow _ => dq g fun as g2 => Q (.va i :: as) g2
  | .bx _ _ => dq g fun as g2 => Q (.va i :: as) g2
  | _ => False
section
variable {X : Cx} {e : Expr} {es : List Expr} {pos : Pos}
theorem qd_nil : QD X [] 0 qNil := ⟨_, pa_nil, fun {b g σ S H Qd Q} R hd k => k [] g [] S H hd R .rfl rfl rfl⟩
theorem qd_cons {de : DE} {dq : DQ} {n : Nat} (he : ED X e de) (hq : QD X es n dq) (hs : starEach (e :: es) X.env = (false, eval e X.env) :: starEach es X.env := by rfl) : QD X (e :: es) (n + 1) (qCons de dq) := by
  obtain ⟨te, pe, se⟩ := he
  obtain ⟨tq, pq, sq⟩ := hq
  exact ⟨_, pa_cons pe pq hs, fun {b g σ S H Qd Q} R hd k => se R hd fun x g1 v S1 H1 q1 R1 x1 r1 => sq R1 q1 fun as g2 vs S2 H2 q2 R2 x2 ok ln => k _ g2 _ S2 H2 q2 R2 (x1.trans x2) ⟨v, vs, rfl, Rep.le x2.le _ _ r1, ok⟩ (by rw [List.length_cons, ln])⟩
theorem qd_var {i n : Nat} {x : Str} {dq : DQ} (hN : X.N[i]? = some x) (hv : Vis X.env.scope x) (hq : QD X es n dq) (hs : starEach (.Name x pos :: es) X.env = (false, eval (.Name x pos) X.env) :: starEach es X.env := by rfl)
    (hd : (x == ("__debug__" : Str)) = false := by decide) (hcd : (x == ("__classdict__" : Str)) = false := by decide) : QD X (.Name x pos :: es) (n + 1) (qVar i dq) := by
  obtain ⟨tq, pq, sq⟩ := hq
  refine ⟨_, pa_cons (pe_var hN hv hd hcd) pq hs, fun {b g σ S H Qd Q} R hd k => ?_⟩
  unfold qVar at hd
  cases e0 : gt g i with
  | no => rw [e0] at hd; exact hd.elim
  | sh d => rw [e0] at hd; exact hd.elim
  | ow o =>
    rw [e0] at hd
    obtain ⟨a, q, _⟩ := R.slot i _ (gt_get e0 (fun z => nomatch z))
    exact ⟨_, q, sq R hd fun as g2 vs S2 H2 q2 R2 x2 ok ln => k _ g2 _ S2 H2 q2 R2 x2 ⟨_, vs, rfl, q, ok⟩ (by rw [List.length_cons, ln])⟩
  | bx m o =>
    rw [e0] at hd
    obtain ⟨a, q, _⟩ := R.slot i _ (gt_get e0 (fun z => nomatch z))
    exact ⟨_, q, sq R hd fun as g2 vs S2 H2 q2 R2 x2 ok ln => k _ g2 _ S2 H2 q2 R2 x2 ⟨_, vs, rfl, q, ok⟩ (by rw [List.length_cons, ln])⟩
end
def Sl.obj : Sl → Option O
  | .ow o => some o
  | .bx _ o => some o
  | _ => none
/-- the callee's slots; the caller's places of what is handed over -/
def argG (g : G) : List Ar → Nat → G × List Nat
  | [], _ => ([], [])
  | .sh d :: as, k => (.sh d :: (argG g as k).1, (argG g as k).2)
  | .va i :: as, k => match (gt g i).obj with
    | some o => (.bx k o :: (argG g as (k + 1)).1, i :: (argG g as (k + 1)).2)
    | none => (.no :: (argG g as k).1, (argG g as k).2)
def withO : Sl → O → Sl
  | .ow _, o => .ow o
  | .bx n _, o => .bx n o
  | s, _ => s
/-- the own slot i is behind a call what o says -/
def putO (g : G) (i : Nat) (o : O) : G := g.set i (withO (gt g i) o)
end
end DL

set_option maxRecDepth 100000
set_option maxHeartbeats 4000000
namespace DL
open PySem L2
section
variable {K : PySem.W.Frag}
theorem argG_ok {g : G} {σ : St} {S : Hp} : ∀ (as : List Ar) (vs : List V) (k : Nat), ArOk K σ S as vs → (argG g as k).1.length = vs.length ∧
    (∀ (p : Nat) (s : Sl), (argG g as k).1[p]? = some s → match s with
      | .no => True
      | .sh d => ∃ v, vs[p]? = some v ∧ Rep K S d v
      | .ow _ => False
      | .bx j o => k ≤ j ∧ ∃ i v, (argG g as k).2[j - k]? = some i ∧ (gt g i).obj = some o ∧ vs[p]? = some v ∧ σ[i]? = some (some v)) ∧
    bxN k (argG g as k).1 = some (k + (argG g as k).2.length) ∧
    (∀ (p q j : Nat) (o o' : O), (argG g as k).1[p]? = some (.bx j o) → (argG g as k).1[q]? = some (.bx j o') → p = q)
  | [], vs, k, h => by
    have h : vs = [] := h
    subst h
    refine ⟨rfl, fun p s e => by simp [argG] at e, by simp [argG, bxN], fun p q j o o' e => by simp [argG] at e⟩
  | .sh d :: as, vs, k, h => by
    obtain ⟨v, r, rfl, h1, h2⟩ := h
    obtain ⟨a1, a2, a3, a4⟩ := argG_ok (g := g) as r k h2
    refine ⟨by simp [argG, a1], fun p s e => ?_, by simpa [argG, bxN] using a3, fun p q j o o' e e' => ?_⟩
    · cases p with
      | zero => simp [argG] at e; subst e; exact ⟨v, by simp, h1⟩
      | succ p =>
        have := a2 p s (by simpa [argG] using e)
        cases s with
        | no => trivial
        | sh d' => obtain ⟨w, q1, q2⟩ := this; exact ⟨w, by simpa using q1, q2⟩
        | ow _ => exact this
        | bx j o => obtain ⟨q0, i, w, q1, q2, q3, q4⟩ := this; exact ⟨q0, i, w, by simpa [argG] using q1, q2, by simpa using q3, q4⟩
    · cases p with
      | zero => simp [argG] at e
      | succ p =>
        cases q with
        | zero => simp [argG] at e'
        | succ q => rw [a4 p q j o o' (by simpa [argG] using e) (by simpa [argG] using e')]
  | .va i :: as, vs, k, h => by
    obtain ⟨v, r, rfl, h1, h2⟩ := h
    cases ho : (gt g i).obj with
    | none =>
      obtain ⟨a1, a2, a3, a4⟩ := argG_ok (g := g) as r k h2
      refine ⟨by simp [argG, ho, a1], fun p s e => ?_, by simpa [argG, ho, bxN] using a3, fun p q j o o' e e' => ?_⟩
      · cases p with
        | zero => simp [argG, ho] at e; subst e; trivial
        | succ p =>
          have := a2 p s (by simpa [argG, ho] using e)
          cases s with
          | no => trivial
          | sh d' => obtain ⟨w, q1, q2⟩ := this; exact ⟨w, by simpa using q1, q2⟩
          | ow _ => exact this
          | bx j o => obtain ⟨q0, i', w, q1, q2, q3, q4⟩ := this; exact ⟨q0, i', w, by simpa [argG, ho] using q1, q2, by simpa using q3, q4⟩
      · cases p with
        | zero => simp [argG, ho] at e
        | succ p =>
          cases q with
          | zero => simp [argG, ho] at e'
          | succ q => rw [a4 p q j o o' (by simpa [argG, ho] using e) (by simpa [argG, ho] using e')]
    | some ob =>
      obtain ⟨a1, a2, a3, a4⟩ := argG_ok (g := g) as r (k + 1) h2
      refine ⟨by simp [argG, ho, a1], fun p s e => ?_, ?_, fun p q j o o' e e' => ?_⟩
      · cases p with
        | zero => simp [argG, ho] at e; subst e; exact ⟨Nat.le_refl _, i, v, by simp [argG, ho], ho, by simp, h1⟩
        | succ p =>
          have := a2 p s (by simpa [argG, ho] using e)
          cases s with
          | no => trivial
          | sh d' => obtain ⟨w, q1, q2⟩ := this; exact ⟨w, by simpa using q1, q2⟩
          | ow _ => exact this
          | bx j o =>
            obtain ⟨q0, i', w, q1, q2, q3, q4⟩ := this
            refine ⟨by omega, i', w, ?_, q2, by simpa using q3, q4⟩
            simp only [argG, ho]
            rw [show j - k = (j - (k + 1)) + 1 by omega, List.getElem?_cons_succ]
            exact q1
      · simp only [argG, ho, bxN, if_true, List.length_cons]
        rw [a3]
        congr 1
        omega
      · cases p with
        | zero =>
          simp [argG, ho] at e
          cases q with
          | zero => rfl
          | succ q =>
            have := a2 q _ (by simpa [argG, ho] using e')
            obtain ⟨h, _⟩ := e
            omega
        | succ p =>
          cases q with
          | zero =>
            have := a2 p _ (by simpa [argG, ho] using e)
            simp [argG, ho] at e'
            obtain ⟨h, _⟩ := e'
            omega
          | succ q => rw [a4 p q j o o' (by simpa [argG, ho] using e) (by simpa [argG, ho] using e')]
theorem obj_ok {b : Bs} {g : G} {σ : St} {S H : Hp} {i : Nat} {o : O} (R : Rel K b g σ S H) (h : (gt g i).obj = some o) : ∃ a, σ[i]? = some (some (.ref a)) ∧ S a = none ∧ OOk K S H a o ∧ Own g σ i a := by
  cases e : gt g i with
  | no => rw [e] at h; cases h
  | sh d => rw [e] at h; cases h
  | ow o' =>
    rw [e] at h; cases h
    obtain ⟨a, q, z, z0, ok⟩ := R.slot i _ (gt_get e (fun z => nomatch z))
    exact ⟨a, q, z, ok, _, gt_get e (fun z => nomatch z), rfl, q⟩
  | bx n o' =>
    rw [e] at h; cases h
    obtain ⟨a, q, z, z0, ok⟩ := R.slot i _ (gt_get e (fun z => nomatch z))
    exact ⟨a, q, z, ok, _, gt_get e (fun z => nomatch z), rfl, q⟩
/-- the callee's start -/
theorem Rel.callee {b : Bs} {g : G} {σ : St} {S H : Hp} {as : List Ar} {vs : List V} {O0 : List Addr} (R : Rel K b g σ S H) (ok : ArOk K σ S as vs) (hl : O0.length = (argG g as 0).2.length) (h1 : (argG g as 0).2.length ≤ 1)
    (hO : ∀ (j i : Nat), (argG g as 0).2[j]? = some i → ∃ a, O0[j]? = some a ∧ σ[i]? = some (some (.ref a))) : Rel K ⟨H, S, O0⟩ (argG g as 0).1 (vs.map some) S H ∧ bxN 0 (argG g as 0).1 = some O0.length := by
  obtain ⟨a1, a2, a3, a4⟩ := argG_ok (g := g) as vs 0 ok
  have sl : ∀ (p : Nat) (s : Sl), (argG g as 0).1[p]? = some s → SlOk K ⟨H, S, O0⟩ S H ((vs.map some)[p]?) s := fun p s e => by
    have := a2 p s e
    cases s with
    | no => trivial
    | sh d => obtain ⟨v, q1, q2⟩ := this; exact ⟨v, by rw [List.getElem?_map, q1]; rfl, q2⟩
    | ow _ => exact this.elim
    | bx j o =>
      obtain ⟨_, i, v, q1, q2, q3, q4⟩ := this
      obtain ⟨a, q5, z, okk, _⟩ := obj_ok R q2
      rw [q4] at q5
      cases q5
      obtain ⟨a', q6, q7⟩ := hO j i q1
      rw [q4] at q7
      cases q7
      exact ⟨a, by rw [List.getElem?_map, q3]; rfl, z, q6, okk⟩
  refine ⟨⟨by rw [a1, List.length_map], R.le, fun a o h => ⟨o, h⟩, fun a o h _ => h, fun a o h => .inl h, Le.rfl, sl, fun p q a x y => ?_⟩, by rw [a3, Nat.zero_add, hl]⟩
  obtain ⟨s, e, w, x⟩ := x
  obtain ⟨s', e', w', y⟩ := y
  have h1 := a2 p s e
  have h2 := a2 q s' e'
  cases s with
  | no => cases w
  | sh d => cases w
  | ow _ => exact h1.elim
  | bx j o =>
    cases s' with
    | no => cases w'
    | sh d => cases w'
    | ow _ => exact h2.elim
    | bx j' o' =>
      obtain ⟨_, i, v, q1, q2, q3, q4⟩ := h1
      obtain ⟨_, i', v', q1', q2', q3', q4'⟩ := h2
      have j0 : j = 0 := by have := (List.getElem?_eq_some_iff.mp q1).1; omega
      have j0' : j' = 0 := by have := (List.getElem?_eq_some_iff.mp q1').1; omega
      subst j0
      subst j0'
      exact a4 p q 0 o o' e e'
/-- behind a call that has nothing of the caller's own -/
theorem Rel.back0 {b : Bs} {g : G} {σ : St} {S H S' H' : Hp} {O0 : List Addr} (R : Rel K b g σ S H) (W : Wd ⟨H, S, O0⟩ S' H') (n : ∀ a ∈ O0, ¬ Ows g σ a) (n2 : ∀ a ∈ O0, b.H0 a = none ∨ a ∈ b.O0) : Rel K b g σ S' H' where
  len := R.len
  le := W.le
  dom := fun a o h => by
    obtain ⟨o1, h1⟩ := R.dom a o h
    exact W.dom a o1 h1
  keep := fun a o h hn => W.keep a o (R.keep a o h hn) fun z => by
    rcases n2 a z with z | z
    · rw [h] at z; cases z
    · exact hn z
  grow := fun a o h => by
    rcases W.grow a o h with h | h
    · exact R.grow a o h
    · exact .inr (R.H00 h)
  base := R.base.trans W.base
  slot := fun i s e => by
    have q := R.slot i s e
    have nS : ∀ a, s.own = true → σ[i]? = some (some (.ref a)) → S' a = none := fun a w x => by
      obtain ⟨z, u, hu⟩ := R.ownS (i := i) ⟨s, e, w, x⟩
      cases h : S' a with
      | none => rfl
      | some v =>
        rcases W.grow a v h with h | h
        · have h : S a = some v := h
          rw [z] at h; cases h
        · have h : H a = none := h
          rw [hu] at h; cases h
    refine (q.le W.base nS).at fun a w x => ?_
    obtain ⟨_, u, hu⟩ := R.ownS (i := i) ⟨s, e, w, x⟩
    rw [hu]
    exact W.keep a u hu fun z => n a z ⟨i, s, e, w, x⟩
  dis := R.dis
theorem Wd.ext {g : G} {σ : St} {S H S' H' : Hp} {O0 : List Addr} (W : Wd ⟨H, S, O0⟩ S' H') (n : ∀ a ∈ O0, Ows g σ a) : Ext g σ S H g S' H' :=
  ⟨W.base, fun a o h hn => W.keep a o h fun z => hn (n a z), W.dom, fun a o h => by
    rcases W.grow a o h with h | h
    · exact .inl h
    · exact .inr (.inl h), fun _ h => h⟩
/-- an own slot gets back what it owns -/
theorem Rel.reown {b : Bs} {g : G} {σ : St} {S H : Hp} {i : Nat} {a : Addr} {s : Sl} (R : Rel K b (g.set i .no) σ S H) (x : σ[i]? = some (some (.ref a))) (h : SlOk K b S H (some (some (.ref a))) s) (n : ¬ Ows (g.set i .no) σ a) : Rel K b (g.set i s) σ S H := by
  have R2 := R.set (i := i) (s := s) (v := .ref a) h fun _ c e => by cases e; exact n
  rw [List.set_set] at R2
  have il : i < σ.length := by
    rcases Nat.lt_or_ge i σ.length with h | h
    · exact h
    · rw [List.getElem?_eq_none h] at x; cases x
  have es : σ.set i (some (V.ref a)) = σ := by
    apply List.ext_getElem?
    intro j
    rw [List.getElem?_set]
    split
    · rename_i hij; subst hij; exact x.symm
    · rfl
  rw [es] at R2
  exact R2
/-- a call: with no own thing, with one -/
def callK (f : DSp) (as : List Ar) (g : G) (Q : R → G → Prop) (Ed : Xd) : Prop := match (argG g as 0).2 with
  | [] => f (argG g as 0).1 (fun r _ => Q r g) Ed
  | [i] => f (argG g as 0).1 (fun r os => match os with
    | [o] => Q r (putO g i o)
    | _ => False) Ed
  | _ => False
theorem call_sound {b : Bs} {g : G} {σ : St} {S H : Hp} {as : List Ar} {vs : List V} {n : Nat} {f : DSp} {Qd : R → G → Prop} {Q : VK} {E : XK} (R : Rel K b g σ S H) (ok : ArOk K σ S as vs) (hn : as.length = n) (h : callK f as g Qd fun _ _ _ => False)
    (k : ∀ r g' v S' H', Qd r g' → Rel K b g' σ S' H' → Ext g σ S H g' S' H' → RRep K b g H g' σ S' H' v r → Q v H') : spD K n f vs H Q E := by
  have res : ∀ {O0 : List Addr} {S' H' : Hp} {v : V} {r : DL.R} {g' : G}, Wd ⟨H, S, O0⟩ S' H' → (∀ a, Ows g' σ a → Ows g σ a) → RVal K ⟨H, S, O0⟩ S' H' v r → RRep K b g H g' σ S' H' v r := fun {O0 S' H' v r g'} W ow h => by
    cases r with
    | sh d => exact h
    | ow o =>
      obtain ⟨a, e, z, z0, okk⟩ := h
      have z0 : H a = none := z0
      exact ⟨a, e, z, R.H00 z0, okk, fun q => R.notOwn z0 (ow a q), .inl z0⟩
  unfold callK at h
  cases hi : (argG g as 0).2 with
  | nil =>
    rw [hi] at h
    obtain ⟨R1, bn⟩ := R.callee (O0 := []) ok (by rw [hi]) (by rw [hi]; decide) (fun j i e => by rw [hi] at e; simp at e)
    refine ⟨S, _, [], _, _, by rw [ok.len, hn], R1, bn, h, fun r os v S' H' q W oo rv => ?_, fun c xd os d S' H' q => q.elim⟩
    exact k r g v S' H' q (R.back0 W (fun a z => by cases z) fun a z => by cases z) (W.ext fun a z => by cases z) (res W (fun _ h => h) rv)
  | cons i is =>
    cases is with
    | cons _ _ => rw [hi] at h; exact h.elim
    | nil =>
      rw [hi] at h
      obtain ⟨a1, a2, a3, a4⟩ := argG_ok (g := g) as vs 0 ok
      -- the own thing's address
      have hob : ∃ o, (gt g i).obj = some o := by
        have key : ∀ (as : List Ar) (k : Nat), i ∈ (argG g as k).2 → ∃ o, (gt g i).obj = some o := by
          intro as
          induction as with
          | nil => intro k hm; simp [argG] at hm
          | cons x as ih =>
            intro k hm
            cases x with
            | sh d => exact ih k (by simpa [argG] using hm)
            | va j =>
              cases hj : (gt g j).obj with
              | none => exact ih k (by simpa [argG, hj] using hm)
              | some o =>
                simp only [argG, hj, List.mem_cons] at hm
                rcases hm with rfl | hm
                · exact ⟨o, hj⟩
                · exact ih (k + 1) hm
        exact key as 0 (by rw [hi]; exact List.mem_cons_self)
      obtain ⟨o0, ho0⟩ := hob
      obtain ⟨a, x, z, ok0, own⟩ := obj_ok R ho0
      obtain ⟨R1, bn⟩ := R.callee (O0 := [a]) ok (by rw [hi]; rfl) (by rw [hi]; exact Nat.le_refl 1) (fun j i' e => by
        rw [hi] at e
        cases j with
        | zero => simp at e; subst e; exact ⟨a, rfl, x⟩
        | succ j => simp at e)
      refine ⟨S, _, [a], _, _, by rw [ok.len, hn], R1, bn, h, fun r os v S' H' q W oo rv => ?_, fun c xd os d S' H' q => q.elim⟩
      obtain ⟨lo, ho⟩ := oo
      match os, q, lo with
      | [o], q, _ =>
        obtain ⟨o', e', z', ok'⟩ := ho 0 a rfl
        cases e'
        have nO : ¬ Ows (g.set i .no) σ a := fun ⟨j, y⟩ => by
          rcases own_setg y with ⟨_, w, _⟩ | ⟨ne, y⟩
          · cases w
          · exact ne (R.dis _ _ _ y own)
        have n2 : ∀ c ∈ [a], b.H0 c = none ∨ c ∈ b.O0 := fun c hc => by rw [List.mem_singleton.mp hc]; exact R.ownH own
        have Rb := (R.forget (i := i)).back0 W (fun c hc => by rw [List.mem_singleton.mp hc]; exact nO) n2
        have sl := R.slot i _ (show g[i]? = some (gt g i) from gt_get rfl (by intro e; rw [e] at ho0; cases ho0))
        have R' : Rel K b (putO g i o) σ S' H' := by
          unfold putO
          refine Rb.reown x ?_ nO
          cases eg : gt g i with
          | no => rw [eg] at ho0; cases ho0
          | sh d => rw [eg] at ho0; cases ho0
          | ow o1 =>
            rw [eg, x] at sl
            obtain ⟨c, ec, _, y0, _⟩ := sl
            cases ec
            exact ⟨a, rfl, z', y0, ok'⟩
          | bx m o1 =>
            rw [eg, x] at sl
            obtain ⟨c, ec, _, y0, _⟩ := sl
            cases ec
            exact ⟨a, rfl, z', y0, ok'⟩
        have ow : ∀ c, Ows (putO g i o) σ c → Ows g σ c := fun c ⟨j, y⟩ => by
          rcases own_setg y with ⟨ej, _, y⟩ | ⟨_, y⟩
          · subst ej
            rw [x] at y
            cases y
            exact ⟨_, own⟩
          · exact ⟨j, y⟩
        have X := W.ext (g := g) (σ := σ) fun c hc => by rw [List.mem_singleton.mp hc]; exact ⟨i, own⟩
        exact k r _ v S' H' q R' ⟨X.le, X.kp, X.dom, X.nw, ow⟩ (res W ow rv)
end
/-! ### f(..) -/
section
variable {X : Cx} {e o : Expr} {es : List Expr} {pos p apos : Pos} {x : Str}
def xCall (f : DSp) (q : DQ) (dd : List D) : DX := fun g Q => q g fun as g1 => callK f (as ++ dd.map .sh) g1 Q fun _ _ _ => False
theorem snd_call {K : PySem.W.Frag} {t : TA} {q : DQ} {n m : Nat} {f : DSp} {dd : List D} {dvs : List V} {E : XK} (s : SndQ K n t q) (hd : ∀ S, Reps K S dd dvs) (hm : n + dd.length = m) : SndX K (tCall (spD K m f) dvs E t) (xCall f q dd) := fun {b g σ S H Qd Q} R h k =>
  s R h fun as g1 vs S1 H1 q1 R1 x1 ok ln => call_sound R1 (ok.append (ArOk.ofReps (hd S1))) (by rw [List.length_append, List.length_map, ln, hm]) q1 fun r g2 v S2 H2 q2 R2 x2 rr => k r g2 v S2 H2 q2 R2 (x1.trans x2) (rr.from x1)
theorem ex_call {f : Addr} {fd : FuncData} {ps : List Str} {k n m : Nat} {sp : DSp} {q : DQ} {dd : List D} {dvs : List V} {ds : List Value} (F : FnOk X.prog X.w X.K X.mg X.base CX0 k f fd ps (spD X.K m sp)) (hr : Room k X.A) (hg : Gl X x) (hm : X.mg x = some (.ref f)) (hk : PySem.W.keepIn X.K (.ref f) = true) (hb : Binds X.K fd ps ds) (hd : Vals dvs ds)
    (hdd : ∀ S, Reps X.K S dd dvs) (hq : QD X (e :: es) n q) (hnm : n + dd.length = m) (hdb : (x == ("__debug__" : Str)) = false := by decide) (he : starEach (e :: es) X.env = (false, eval e X.env) :: starEach es X.env := by rfl) (hpl : (backTo pos (starEach es X.env)).any (·.1) = false := by rfl) :
    EX X (.Call (.Name x p) (e :: es) [] pos) (xCall sp q dd) := by
  obtain ⟨t, pq, sq⟩ := hq
  exact ⟨_, pe_call F hr hg hm hk hb hd pass0 pq hdb he hpl, snd_call sq hdd hnm⟩
theorem ex_call0 {f : Addr} {fd : FuncData} {ps : List Str} {k m : Nat} {sp : DSp} {dd : List D} {dvs : List V} {ds : List Value} (F : FnOk X.prog X.w X.K X.mg X.base CX0 k f fd ps (spD X.K m sp)) (hr : Room k X.A) (hg : Gl X x) (hm : X.mg x = some (.ref f)) (hk : PySem.W.keepIn X.K (.ref f) = true) (hb : Binds X.K fd ps ds) (hd : Vals dvs ds)
    (hdd : ∀ S, Reps X.K S dd dvs) (hnm : 0 + dd.length = m) (hdb : (x == ("__debug__" : Str)) = false := by decide) :
    EX X (.Call (.Name x p) [] [] pos) (xCall sp qNil dd) := by
  obtain ⟨t, pq, sq⟩ := (qd_nil : QD X [] 0 qNil)
  exact ⟨_, pe_call0 F hr hg hm hk hb hd pass0 hdb, snd_call (t := tNil) (fun {b g σ S H Qd Q} R hd k => k [] g [] S H hd R .rfl rfl rfl) hdd hnm⟩
end
end DL

set_option maxRecDepth 100000
set_option maxHeartbeats 4000000
/-! operators, ==, !=, repr of instances whose class has a def for them -/
namespace OV
open PySem PySem.Spec PyProof.Rows L2
section
variable {X : Cx} {CX : CXT} {C g : Addr} {n : Nat} {sp : Sp} {E : XK}
/-- x op y, both instances of C -/
def rBin (C : Addr) (sp : Sp) (E : XK) : R2 := fun x y H Q => ∃ (a b dx dy : Addr) (fs gs : List (Str × V)), x = .ref a ∧ y = .ref b ∧ H a = some (.ins C dx fs) ∧ H b = some (.ins C dy gs) ∧ sp [x, y] H Q E
theorem op_bin {op : Operator} (hc : PySem.W.selfFirst X.K C = true) (hs : PySem.W.findIn X.K (.ref C) (PySem.dunder op.info.2) = some (some (.ref g))) (hf : PySem.W.isFn X.K (.ref g) = true) (F : FnR X.prog X.w X.K X.mg X.base CX n g sp)
    (hr : Room n X.A) (hx : Passes CX X E) : OpR X (binaryOp op) (rBin C sp E) := by
  intro pins s σ H x y v u Q I rx ry h
  obtain ⟨a, b, dx, dy, fs, gs, rfl, rfl, ha, hb, q⟩ := h
  cases (show v = Value.ref a from rx)
  cases (show u = Value.ref b from ry)
  obtain ⟨ox, od, J, _⟩ := StX.insC_at I (.inr ⟨dx, fs, ha⟩)
  obtain ⟨oy, oe, J', _⟩ := StX.insC_at I (.inr ⟨dy, gs, hb⟩)
  obtain ⟨m, hF⟩ := I.fr
  refine PySem.W.binop_K hF I.ok.mod.kin J J'.type hc hs hf ?_
  refine wpAny_mono (wpAny_call (run_fnR (us := [.ref a, .ref b]) (vs := [.ref a, .ref b]) F hr hx I (.cons rfl (.cons rfl .nil)) q)) (fun w s' z => ?_) fun _ _ x => x
  obtain ⟨z', H', I', rz, qz⟩ := z
  exact SlX.cmpback rz ⟨z', H', I', rz, qz⟩
/-- x == y, x an instance of C, y anything that is no instance of a class below -/
def rEqO (K : PySem.W.Frag) (C : Addr) (sp : Sp) (E : XK) : R2 := fun x y H Q => ∃ (a dx : Addr) (fs : List (Str × V)) (t : Value), x = .ref a ∧ H a = some (.ins C dx fs) ∧ TyX K H y t ∧ PySem.W.notFirst K C t = true ∧ sp [x, y] H Q E
theorem op_eqO {op : CmpOp} (hop : ∀ a b, compareOp op a b = richCompare op a b) (hs : PySem.W.findIn X.K (.ref C) (cmpInfo op).2.1 = some (some (.ref g))) (hf : PySem.W.isFn X.K (.ref g) = true) (F : FnR X.prog X.w X.K X.mg X.base CX n g sp)
    (hr : Room n X.A) (hx : Passes CX X E) : OpR X (compareOp op) (rEqO X.K C sp E) := by
  intro pins s σ H x y v u Q I rx ry h
  obtain ⟨a, dx, fs, t, rfl, ha, ty, hn, q⟩ := h
  cases (show v = Value.ref a from rx)
  obtain ⟨ox, od, J, _⟩ := StX.insC_at I (.inr ⟨dx, fs, ha⟩)
  obtain ⟨PH, kx, ph, _⟩ := kit_of I ry ty
  obtain ⟨m, hF⟩ := I.fr
  rw [hop]
  refine PySem.W.cmp_K (op := op) (tb := t) hr.units0 hF I.ok.mod.kin J (kx.ty _ _ I.kIn ph) hn hs hf ?_
  refine wpAny_mono (wpAny_call (run_fnR (us := [.ref a, u]) (vs := [.ref a, y]) F hr hx I (.cons rfl (.cons ry .nil)) q)) (fun w s' z => ?_) fun _ _ x => x
  obtain ⟨z', H', I', rz, qz⟩ := z
  exact SlX.cmpback rz ⟨z', H', I', rz, qz⟩
/-- repr(x) -/
def rRepr (C : Addr) (sp : Sp) (E : XK) : List V → Hp → VK → Prop := fun xs H Q => ∃ (a dx : Addr) (fs : List (Str × V)), xs = [.ref a] ∧ H a = some (.ins C dx fs) ∧ sp [.ref a] H (fun z H' => ∃ t, z = .str t ∧ Q z H') E
theorem call_repr (hs : PySem.W.findIn X.K (.ref C) "__repr__" = some (some (.ref g))) (hf : PySem.W.isFn X.K (.ref g) = true) (F : FnR X.prog X.w X.K X.mg X.base CX n g sp)
    (hr : Room (n + 1) X.A) (hx : Passes CX X E) : CallR X (.builtin "repr") (rRepr C sp E) := by
  intro pins s σ H xs us Q I r h
  obtain ⟨a, dx, fs, rfl, ha, q⟩ := h
  obtain ⟨u, rfl, ru⟩ := r.one
  cases (show u = Value.ref a from ru)
  obtain ⟨ox, od, J, _⟩ := StX.insC_at I (.inr ⟨dx, fs, ha⟩)
  obtain ⟨m, hF⟩ := I.fr
  have hr2 : Room n X.A.in1 := Room.in1 hr
  refine PySem.W.repr_K hr2.units0 hF I.ok.mod.kin J hs hf ?_
  refine wpAny_mono (wpAny_call (SlX.run_at (us := [.ref a]) (ws := [.ref a]) F hr2 I.env0.in1 hx I (.cons rfl .nil) q)) (fun w s' z => ?_) fun _ _ x => x
  obtain ⟨z', H', I', rz, t, ez, qz⟩ := z
  subst ez
  obtain ⟨tk, e⟩ := (show ∃ tk, w = Value.str t tk from rz)
  cases e
  exact ⟨.str t, H', I', ⟨tk, rfl⟩, qz⟩
end
end OV

set_option maxRecDepth 100000
set_option maxHeartbeats 4000000
/-! x != y where the class has its own == and no own != -/
namespace OV
open PySem PySem.Spec PyProof.Rows L2
section
variable {prog : Program} {w : World} {A : Around} {E : Value → Shared → Prop} {s : Shared} {K : PySem.W.Frag} {x C f L : Addr} {ox : Obj} {od : Option Obj} {h₀ : Heap} {m : Str → Option Value}
theorem bound_ne {M : Model} {args : List Value} {Q : Option Value → Shared → Prop} (X : K.In s.heap) (I : PySem.W.InstAt s.heap x ox C od) (hn : PySem.W.findIn K (.ref C) "__ne__" = some (some (.builtin "object.__ne__")))
    (h : wpAny M A (call (.builtin "object.__ne__") (.ref x :: args)) (fun v => Q (some v)) E s) : wpAny M A (callSpecialIfBound? (.ref x) "__ne__" args) Q E s := by
  have fin : wpAny M A (call (.builtin "object.__ne__") ([.ref x] ++ args) >>= fun v => pure (some v)) Q E s :=
    wpAny_bind (wpAny_mono h (fun v s' z => wpAny_pure z) fun _ _ z => z)
  simp only [callSpecialIfBound?, bindSpecialIfBound?]
  refine wpAny_holding (wpAny_bind (wpAny_bind (wpAny_bind (I.type.here
    ((PySem.W.looks_findIn X hn).here ?_)))))
  refine wpAny_bind (wpAny_askSetting
    (wpAny_ite ?_))
  split
  · exact wpAny_bind (wpAny_of_eq (F.cmp_object.ne.bind _)
      (wpAny_pure (by exact fin)))
  · exact wpAny_tryCatch (wpAny_bind (wpAny_of_eq (F.cmp_object.ne.bind _)
      (wpAny_pure (by exact fin))))
theorem entry_ne {b : Value} {Q : Fin → Shared → Prop} (hu : A.units < cLine) (X : K.In s.heap) (I : PySem.W.InstAt s.heap x ox C od) (hs : PySem.W.findIn K (.ref C) "__eq__" = some (some (.ref f))) (hf : PySem.W.isFn K (.ref f) = true)
    (h : wpAny (model prog w) A (call (.ref f) [.ref x, b]) (fun v s' => ∃ r, v = .bool r ∧ Q (.done (.ret (.bool (!r)))) s') E s) :
    wpAny (model prog w) A (Builtin.«object.__ne__» ⟨[.ref x, b], []⟩) Q E s := by
  have step : wpAny (model prog w) A (callSpecialIfBound? (.ref x) "__eq__" [b]) (fun o s' => ∃ r, o = some (.bool r) ∧ Q (.done (.ret (.bool (!r)))) s') E s :=
    PySem.W.ifBound_K X I hs hf (wpAny_mono h (fun v s' ⟨r, e, q⟩ => ⟨r, by rw [e], q⟩) fun _ _ z => z)
  unfold Builtin.«object.__ne__»
  repeat (first
    | with_reducible refine wpAny_cRoomFor hu ?_
    | (refine wpAny_bind (m := callSpecialIfBound? (.ref x) (Str.ofString "__eq__") [b]) (wpAny_mono step (fun o s' z => ?_) fun _ _ z => z); obtain ⟨r, rfl, q⟩ := z)
    | exact wpAny_bind (wpAny_truthy_bool (wpAny_pure q))
    | exact wpAny_pure q
    | wp_step)
theorem rc_ne {b tb : Value} {Q : Value → Shared → Prop} (hu : A.units + 1 < cLine) (F₀ : Fr h₀ L s.heap m) (X₀ : K.In h₀) (I : PySem.W.InstAt s.heap x ox C od) (hb : PySem.W.Looks (model prog w) s.heap (typeOf b) tb) (hn : PySem.W.notFirst K C tb = true)
    (hm : PySem.W.mroIn K C (.type "object") = some true) (hne : PySem.W.findIn K (.ref C) "__ne__" = some (some (.builtin "object.__ne__"))) (hs : PySem.W.findIn K (.ref C) "__eq__" = some (some (.ref f))) (hf : PySem.W.isFn K (.ref f) = true)
    (h : wpAny (model prog w) A.in1 (call (.ref f) [.ref x, b]) (fun v s' => ∃ r, v = .bool r ∧ Q (.bool (!r)) s') E s) : wpAny (model prog w) A (richCompare .NotEq (.ref x) b) Q E s := by
  have X := X₀.keeps F₀.keep
  have hu1 : A.in1.units < cLine := hu
  have one : wpAny (model prog w) A (tryCompare (.ref x) "__ne__" b) (fun r s' => ∃ v, r = some v ∧ Q v s') E s := by
    unfold tryCompare
    refine wpAny_bind (bound_ne X I hne ?_)
    refine wpAny_call (codeAny_call_builtin F.cmp_object.ne.plain F.cmpEntry_ne
      (PySem.W.check_slot F.cmpKind_ne F.cmpSplit_ne (I.type.andThen (PySem.W.looks_mroIn X hm)) (F.cmpArgs_ne _ _) ?_))
    refine entry_ne (A := A.in1) hu1 X I hs hf (wpAny_mono h (fun v s' ⟨r, e, q⟩ => ⟨r, e, ?_⟩) fun _ _ z => z)
    exact wpAny_pure ⟨_, rfl, q⟩
  have e1 : (cmpInfo CmpOp.NotEq) = ("!=", Str.ofString "__ne__", Str.ofString "__ne__") := rfl
  unfold richCompare
  rw [e1]
  simp only [oneThing_ref]
  refine wpAny_holding (wpAny_bind (wpAny_cRoomFor (Nat.lt_of_succ_lt hu) ?_))
  refine wpAny_bind (I.type.here (wpAny_bind
    (hb.here ?_)))
  split
  · rename_i q
    have e : PySem.W.subIn K tb (.ref C) = some false := by
      rcases Bool.or_eq_true_iff.mp hn with e | e
      · rw [beq_iff_eq.mp e] at q
        simp at q
      · exact beq_iff_eq.mp e
    refine wpAny_bind ((PySem.W.looks_subIn X e).here ?_)
    simp only [Bool.false_eq_true, if_false]
    refine wpAny_bind (m := tryCompare (.ref x) (Str.ofString "__ne__") b) (wpAny_mono one (fun r s' z => ?_) fun _ _ z => z)
    obtain ⟨v, rfl, hq⟩ := z
    exact wpAny_pure hq
  · refine wpAny_bind (wpAny_pure ?_)
    simp only [Bool.false_eq_true, if_false]
    refine wpAny_bind (m := tryCompare (.ref x) (Str.ofString "__ne__") b) (wpAny_mono one (fun r s' z => ?_) fun _ _ z => z)
    obtain ⟨v, rfl, hq⟩ := z
    exact wpAny_pure hq
end
section
variable {X : Cx} {CX : CXT} {C g : Addr} {n : Nat} {sp : Sp} {E : XK}
def rNeO (K : PySem.W.Frag) (C : Addr) (sp : Sp) (E : XK) : R2 := fun x y H Q => ∃ (a dx : Addr) (fs : List (Str × V)) (t : Value), x = .ref a ∧ H a = some (.ins C dx fs) ∧ TyX K H y t ∧ PySem.W.notFirst K C t = true ∧ sp [x, y] H (fun z H' => ∃ r, z = .bl r ∧ Q (.bl (!r)) H') E
theorem op_neO (hm : PySem.W.mroIn X.K C (.type "object") = some true) (hne : PySem.W.findIn X.K (.ref C) "__ne__" = some (some (.builtin "object.__ne__"))) (hs : PySem.W.findIn X.K (.ref C) "__eq__" = some (some (.ref g))) (hf : PySem.W.isFn X.K (.ref g) = true)
    (F : FnR X.prog X.w X.K X.mg X.base CX n g sp) (hr : Room (n + 1) X.A) (hx : Passes CX X E) : OpR X (compareOp .NotEq) (rNeO X.K C sp E) := by
  intro pins s σ H x y v u Q I rx ry h
  obtain ⟨a, dx, fs, t, rfl, ha, ty, hn, q⟩ := h
  cases (show v = Value.ref a from rx)
  obtain ⟨ox, od, J, _⟩ := StX.insC_at I (.inr ⟨dx, fs, ha⟩)
  obtain ⟨PH, kx, ph, _⟩ := kit_of I ry ty
  obtain ⟨m, hF⟩ := I.fr
  have hr2 : Room n X.A.in1 := Room.in1 hr
  have h0 : X.A.units + 1 < cLine := hr2.units0
  show wpAny _ _ (richCompare .NotEq (.ref a) u) _ _ _
  refine rc_ne h0 hF I.ok.mod.kin J (kx.ty _ _ I.kIn ph) hn hm hne hs hf ?_
  refine wpAny_mono (wpAny_call (SlX.run_at (us := [.ref a, u]) (ws := [.ref a, y]) F hr2 I.env0.in1 hx I (.cons rfl (.cons ry .nil)) q)) (fun w s' z => ?_) fun _ _ x => x
  obtain ⟨z', H', I', rz, r, ez, qz⟩ := z
  subst ez
  cases (show w = Value.bool r from rz)
  exact ⟨r, rfl, .bl (!r), H', I', rfl, qz⟩
end
end OV

set_option maxRecDepth 100000
set_option maxHeartbeats 4000000
/-! o.m(k = v, ..) of an instance; C.m(..) where m is a staticmethod of the class C -/
namespace OV
open PySem PySem.Spec PyProof.Rows L2
/-- C.m is a staticmethod: its record at p, its def at g -/
structure SMet (K : PySem.W.Frag) (C : Addr) (mc : Value) (m : Str) (p g : Addr) : Prop where
  ty : PySem.W.typeIn K (.ref C) = some mc
  rd : PySem.W.readsIn K C mc = true
  ga : PySem.W.specialIn K (.ref C) "__getattribute__" = some (some (.builtin "type.__getattribute__"))
  at_ : PySem.W.findCls K (.ref C) mc m = some (.get (.builtin "staticmethod.__get__") (.ref p) .none (.ref C))
  rc : ∃ rest, PySem.W.recIn K p "staticmethod" = some (.ref g :: rest)
  kp : PySem.W.keepIn K (.ref g) = true
/-- o.m(k = v, ..) -/
def tMethK (C : Addr) (m : Str) (j : Nat) (sp : Sp) (gV : List V → List V → List V) (E : XK) (ta : TE) (tk : TA) : TE := fun σ H Q => ta σ H fun x H1 => ∃ (a dx : Addr) (fs : List (Str × V)), x = .ref a ∧ H1 a = some (.ins C dx fs) ∧ fs.lookup m = none ∧
  tk σ H1 fun zs H2 => zs.length = j ∧ sp (gV [.ref a] zs) H2 Q E
/-- C.m(e, .., k = v, ..) -/
def tSt (C : Addr) (n j : Nat) (sp : Sp) (gV : List V → List V → List V) (E : XK) (ta : TE) (t tk : TA) : TE := fun σ H Q => ta σ H fun x H1 => x = .ref C ∧ t σ H1 fun vs H2 => tk σ H2 fun zs H3 => vs.length = n ∧ zs.length = j ∧ sp (gV vs zs) H3 Q E
section
variable {X : Cx} {CX : CXT} {k n : Nat} {C f p : Addr} {fd : FuncData} {ps ks : List Str} {sp : Sp} {E : XK} {o e : Expr} {es : List Expr} {m : Str} {pos apos : Pos} {kws : List Keyword} {ta : TE} {t tk : TA} {g : List Value → List Value → List Value} {gV : List V → List V → List V} {mc : Value}
theorem pe_methK {pl : Sem Bool} (he : PE X o ta) (c : Cls X.K C) (hm : Meth X.K C m f) (F : FnOk X.prog X.w X.K X.mg X.base CX k f fd ps sp) (hr : Room k X.A) (hb : KBn X.K fd ps 1 ks g gV) (hx : Passes CX X E) (hkw : PK X kws tk)
    (hall : (backToKw pos (keywordEach kws X.env)).all (·.1.isSome) = true := by rfl) (hks : (backToKw pos (keywordEach kws X.env)).filterMap (·.1) = ks := by rfl)
    (hpl : ((backTo pos (starEach [] X.env)).any (·.1) || (backToKw pos (keywordEach kws X.env)).any (·.1.isNone)) = false := by rfl)
    (ht : eval (.Call (.Attribute o m apos) [] kws pos) X.env = (do
      let ov ← eval o X.env
      standAt apos.atName
      let (f, first) ← holding [ov] (getMethod ov m pl)
      callWith pos f first (backTo pos (starEach [] X.env)) (backToKw pos (keywordEach kws X.env))) := by rfl) :
    PE X (.Call (.Attribute o m apos) [] kws pos) (tMethK C m ks.length sp gV E ta tk) := by
  refine ⟨fun pins s σ H Q I h => ?_⟩
  refine PySem.W.methodCall_KW (pl := pl) (thn (he.run pins s σ H _ I h)
    fun u s1 ⟨x, H1, I1, rx, a, dx, fs, ex, ea, l, q⟩ => ?_) ht
  subst ex
  obtain rfl : u = Value.ref a := rx
  refine getmeth_ok I1 ea c hm l ?_
  refine PySem.W.callWith_KW0 (first := [.ref a]) (h₀ := X.base) I.ok.mod.kin hm.kp hall ?_ hpl
  refine thn (hkw.run pos pins s1 σ H1 _ I1 q) fun ws s2 ⟨zs, H2, I2, rz, l2, q2⟩ => ⟨I2.kIn, ?_⟩
  rw [hks]
  exact run_fnN (us := [.ref a]) (vs := [.ref a]) F hr hb hx I2 (.cons rfl .nil) rz rfl l2 q2
theorem getst {pl : Sem Bool} {A : Around} {E' : Value → Shared → Prop} {pins : List (Addr × Obj)} {σ : L2.St} {H : Hp} {s : Shared} {g : Addr} {Q : Value × List Value → Shared → Prop} (I : Inv X pins σ H s) (c : SMet X.K C mc m p g)
    (h : ∀ s', Inv X pins σ H s' → Q (.ref g, []) s') : wpAny (model X.prog X.w) A (getMethod (.ref C) m pl) Q E' s := by
  obtain ⟨mm, hF⟩ := I.fr
  obtain ⟨rest, hp⟩ := c.rc
  refine PySem.W.method_of_cls hF I.ok.mod.kin c.ga ?_
  exact PySem.W.cls_sm hF I.ok.mod.kin c.ty c.rd c.at_ hp rfl (h _ (I.tok _))
theorem pe_st {pl : Sem Bool} {q : Addr} (he : PE X o ta) (c : SMet X.K C mc m p q) (F : FnOk X.prog X.w X.K X.mg X.base CX k q fd ps sp) (hr : Room k X.A) (hb : KBn X.K fd ps n ks g gV) (hx : Passes CX X E) (ha : PA X (e :: es) t) (hkw : PK X kws tk)
    (hall : (backToKw pos (keywordEach kws X.env)).all (·.1.isSome) = true := by rfl) (hks : (backToKw pos (keywordEach kws X.env)).filterMap (·.1) = ks := by rfl)
    (hst : starEach (e :: es) X.env = (false, eval e X.env) :: starEach es X.env := by rfl)
    (hpl : ((backTo pos (starEach (e :: es) X.env)).any (·.1) || (backToKw pos (keywordEach kws X.env)).any (·.1.isNone)) = false := by rfl)
    (ht : eval (.Call (.Attribute o m apos) (e :: es) kws pos) X.env = (do
      let ov ← eval o X.env
      standAt apos.atName
      let (f, first) ← holding [ov] (getMethod ov m pl)
      callWith pos f first (backTo pos (starEach (e :: es) X.env)) (backToKw pos (keywordEach kws X.env))) := by rfl) :
    PE X (.Call (.Attribute o m apos) (e :: es) kws pos) (tSt C n ks.length sp gV E ta t tk) := by
  refine ⟨fun pins s σ H Q I h => ?_⟩
  refine PySem.W.methodCall_KW (pl := pl) (thn (he.run pins s σ H _ I h)
    fun u s1 ⟨x, H1, I1, rx, ex, y⟩ => ?_) ht
  subst ex
  obtain rfl : u = Value.ref C := rx
  refine getst I1 c fun s2 I2 => ?_
  refine PySem.W.callWith_KW (first := []) (h₀ := X.base) I.ok.mod.kin c.kp hall (thn (ha.run pos pins s2 σ H1 _ I2 y)
    fun us s3 ⟨vs, H2, I3, r, y2⟩ => ?_) hpl hst
  refine thn (hkw.run pos pins s3 σ H2 _ I3 y2) fun ws s4 ⟨zs, H3, I4, rz, l1, l2, y3⟩ => ⟨I4.kIn, ?_⟩
  rw [hks]
  exact run_fnN F hr hb hx I4 r rz l1 l2 y3
theorem pe_st0 {pl : Sem Bool} {q : Addr} (he : PE X o ta) (c : SMet X.K C mc m p q) (F : FnOk X.prog X.w X.K X.mg X.base CX k q fd ps sp) (hr : Room k X.A) (hb : KBn X.K fd ps 0 ks g gV) (hx : Passes CX X E) (hkw : PK X kws tk)
    (hall : (backToKw pos (keywordEach kws X.env)).all (·.1.isSome) = true := by rfl) (hks : (backToKw pos (keywordEach kws X.env)).filterMap (·.1) = ks := by rfl)
    (hpl : ((backTo pos (starEach [] X.env)).any (·.1) || (backToKw pos (keywordEach kws X.env)).any (·.1.isNone)) = false := by rfl)
    (ht : eval (.Call (.Attribute o m apos) [] kws pos) X.env = (do
      let ov ← eval o X.env
      standAt apos.atName
      let (f, first) ← holding [ov] (getMethod ov m pl)
      callWith pos f first (backTo pos (starEach [] X.env)) (backToKw pos (keywordEach kws X.env))) := by rfl) :
    PE X (.Call (.Attribute o m apos) [] kws pos) (tSt C 0 ks.length sp gV E ta tNil tk) := by
  refine ⟨fun pins s σ H Q I h => ?_⟩
  refine PySem.W.methodCall_KW (pl := pl) (thn (he.run pins s σ H _ I h)
    fun u s1 ⟨x, H1, I1, rx, ex, y⟩ => ?_) ht
  subst ex
  obtain rfl : u = Value.ref C := rx
  refine getst I1 c fun s2 I2 => ?_
  refine PySem.W.callWith_KW0 (first := []) (h₀ := X.base) I.ok.mod.kin c.kp hall ?_ hpl
  refine thn (hkw.run pos pins s2 σ H1 _ I2 y) fun ws s4 ⟨zs, H3, I4, rz, l1, l2, y3⟩ => ⟨I4.kIn, ?_⟩
  rw [hks]
  exact run_fnN (us := []) (vs := []) F hr hb hx I4 .nil rz rfl l2 y3
end
end OV

set_option maxRecDepth 100000
set_option maxHeartbeats 4000000
/-! o.m(e, .., k = v, ..) of an instance -/
namespace OV
open PySem PySem.Spec PyProof.Rows L2
def tMethKA (C : Addr) (m : Str) (n j : Nat) (sp : Sp) (gV : List V → List V → List V) (E : XK) (ta : TE) (t tk : TA) : TE := fun σ H Q => ta σ H fun x H1 => ∃ (a dx : Addr) (fs : List (Str × V)), x = .ref a ∧ H1 a = some (.ins C dx fs) ∧ fs.lookup m = none ∧
  t σ H1 fun vs H2 => tk σ H2 fun zs H3 => vs.length = n ∧ zs.length = j ∧ sp (gV (.ref a :: vs) zs) H3 Q E
section
variable {X : Cx} {CX : CXT} {k n : Nat} {C f p : Addr} {fd : FuncData} {ps ks : List Str} {sp : Sp} {E : XK} {o e : Expr} {es : List Expr} {m : Str} {pos apos : Pos} {kws : List Keyword} {ta : TE} {t tk : TA} {g : List Value → List Value → List Value} {gV : List V → List V → List V}
theorem pe_methKA {pl : Sem Bool} (he : PE X o ta) (c : Cls X.K C) (hm : Meth X.K C m f) (F : FnOk X.prog X.w X.K X.mg X.base CX k f fd ps sp) (hr : Room k X.A) (hb : KBn X.K fd ps (n + 1) ks g gV) (hx : Passes CX X E) (ha : PA X (e :: es) t) (hkw : PK X kws tk)
    (hall : (backToKw pos (keywordEach kws X.env)).all (·.1.isSome) = true := by rfl) (hks : (backToKw pos (keywordEach kws X.env)).filterMap (·.1) = ks := by rfl)
    (hst : starEach (e :: es) X.env = (false, eval e X.env) :: starEach es X.env := by rfl)
    (hpl : ((backTo pos (starEach (e :: es) X.env)).any (·.1) || (backToKw pos (keywordEach kws X.env)).any (·.1.isNone)) = false := by rfl)
    (ht : eval (.Call (.Attribute o m apos) (e :: es) kws pos) X.env = (do
      let ov ← eval o X.env
      standAt apos.atName
      let (f, first) ← holding [ov] (getMethod ov m pl)
      callWith pos f first (backTo pos (starEach (e :: es) X.env)) (backToKw pos (keywordEach kws X.env))) := by rfl) :
    PE X (.Call (.Attribute o m apos) (e :: es) kws pos) (tMethKA C m n ks.length sp gV E ta t tk) := by
  refine ⟨fun pins s σ H Q I h => ?_⟩
  refine PySem.W.methodCall_KW (pl := pl) (thn (he.run pins s σ H _ I h)
    fun u s1 ⟨x, H1, I1, rx, a, dx, fs, ex, ea, l, q⟩ => ?_) ht
  subst ex
  obtain rfl : u = Value.ref a := rx
  refine getmeth_ok I1 ea c hm l ?_
  refine PySem.W.callWith_KW (first := [.ref a]) (h₀ := X.base) I.ok.mod.kin hm.kp hall (thn (ha.run pos pins s1 σ H1 _ I1 q)
    fun us s3 ⟨vs, H2, I3, r, y2⟩ => ?_) hpl hst
  refine thn (hkw.run pos pins s3 σ H2 _ I3 y2) fun ws s4 ⟨zs, H3, I4, rz, l1, l2, y3⟩ => ⟨I4.kIn, ?_⟩
  rw [hks]
  exact run_fnN (us := .ref a :: us) (vs := .ref a :: vs) F hr hb hx I4 (.cons rfl r) rz (by rw [List.length_cons, l1]) l2 y3
end
end OV

set_option maxRecDepth 100000
set_option maxHeartbeats 4000000
namespace DL
open PySem L2
section
variable {K : PySem.W.Frag}
/-! ### attributes -/
def fget : List Str → List D → Str → Option D
  | n :: ns, d :: ds, f => if n = f then some d else fget ns ds f
  | _, _, _ => none
theorem fget_ok {S : Hp} {f : Str} {d : D} : ∀ {ns : List Str} {ds : List D} {vs : List V}, fget ns ds f = some d → Reps K S ds vs → f ∈ ns ∧ ∃ v, (ns.zip vs).lookup f = some v ∧ Rep K S d v
  | [], _, _, h, _ => by simp [fget] at h
  | n :: ns, [], _, h, _ => by simp [fget] at h
  | n :: ns, x :: ds, vs, h, r => by
    obtain ⟨v, r', rfl, h1, h2⟩ := r.uncons
    simp only [fget] at h
    by_cases e : n = f
    · rw [if_pos e] at h
      cases h
      subst e
      exact ⟨List.mem_cons_self, v, by simp [List.lookup], h1⟩
    · rw [if_neg e] at h
      obtain ⟨m, w, q1, q2⟩ := fget_ok h h2
      refine ⟨List.mem_cons_of_mem _ m, w, ?_, q2⟩
      rw [List.zip_cons_cons, List.lookup_cons]
      rw [show (f == n) = false from beq_eq_false_iff_ne.mpr (Ne.symm e)]
      exact q1
theorem zip_lookup_none {f : Str} : ∀ {ns : List Str} {vs : List V}, f ∉ ns → (ns.zip vs).lookup f = none
  | [], _, _ => by simp
  | _ :: _, [], _ => by simp
  | n :: ns, v :: vs, h => by
    rw [List.zip_cons_cons, List.lookup_cons, show (f == n) = false from beq_eq_false_iff_ne.mpr (by rintro rfl; exact h List.mem_cons_self)]
    exact zip_lookup_none fun q => h (List.mem_cons_of_mem _ q)
/-- the attribute f set -/
def fput : List Str → List D → Str → D → List Str × List D
  | n :: ns, x :: ds, f, d => if n = f then (n :: ns, d :: ds) else (n :: (fput ns ds f d).1, x :: (fput ns ds f d).2)
  | ns, _, f, d => (f :: ns.take 0, [d])
theorem fput_ok {S : Hp} {f : Str} {d : D} {w : V} (rw' : Rep K S d w) : ∀ {ns : List Str} {ds : List D} {vs : List V}, ns.length = ds.length → Reps K S ds vs → ∃ vs', putF f w (ns.zip vs) = (fput ns ds f d).1.zip vs' ∧ (fput ns ds f d).1.length = (fput ns ds f d).2.length ∧ Reps K S (fput ns ds f d).2 vs' ∧
    (∀ n ∈ (fput ns ds f d).1, n = f ∨ n ∈ ns) ∧ (fput ns ds f d).1.length ≤ ns.length + 1
  | [], [], vs, _, r => by
    unfold Reps at r
    subst r
    exact ⟨[w], rfl, rfl, .cons rw' .nil, fun n h => .inl (by simpa [fput] using h), by simp [fput]⟩
  | n :: ns, x :: ds, vs, l, r => by
    obtain ⟨v, r', rfl, h1, h2⟩ := r.uncons
    simp only [fput]
    by_cases e : n = f
    · rw [if_pos e]
      refine ⟨w :: r', ?_, l, .cons rw' h2, fun m h => .inr h, Nat.le_succ _⟩
      rw [List.zip_cons_cons]
      simp [putF, e]
    · rw [if_neg e]
      obtain ⟨vs', q1, q2, q3, q4, q5⟩ := fput_ok rw' (ns := ns) (ds := ds) (by simpa using l) h2
      refine ⟨v :: vs', ?_, by simp [q2], .cons h1 q3, fun m h => ?_, by simp only [List.length_cons]; omega⟩
      · rw [List.zip_cons_cons]
        simp only [putF]
        rw [if_neg e, q1]
        rfl
      · rcases List.mem_cons.mp h with rfl | h
        · exact .inr List.mem_cons_self
        · rcases q4 m h with h | h
          · exact .inl h
          · exact .inr (List.mem_cons_of_mem _ h)
  | [], _ :: _, vs, l, r => by simp at l
  | _ :: _, [], vs, l, r => by simp at l
end
section
variable {X : Cx} {K : PySem.W.Frag} {e o value : Expr} {es : List Expr} {kws : List Keyword} {pos p apos kpos : Pos} {x m f : Str} {nm : Option Str}
def eFld (f : Str) (de : DE) : DE := fun g Q => de g fun x g1 => match x with
  | .ins _ ns ds => match fget ns ds f with
    | some d => Q d g1
    | none => False
  | _ => False
theorem ed_fld {de : DE} (he : ED X e de) (hb : attributeBase e f X.env (eval e X.env) = eval e X.env) : ED X (.Attribute e f pos) (eFld f de) := by
  obtain ⟨t, pe, s⟩ := he
  refine ⟨_, pe_fld pe hb, fun {b g σ S H Qd Q} R hd k => s R hd fun x g1 v S1 H1 q1 R1 x1 r1 => ?_⟩
  cases x with
  | ins C ns ds =>
    obtain ⟨a, dx, vs, rfl, h, l, io, rs⟩ := r1.ins
    simp only at q1
    cases e : fget ns ds f with
    | none => rw [e] at q1; exact q1.elim
    | some d =>
      rw [e] at q1
      obtain ⟨hm, w, h1, h2⟩ := fget_ok e rs
      exact ⟨a, C, dx, _, w, rfl, R1.le _ _ h, io.1, io.2 f hm, h1, k d g1 w S1 H1 q1 R1 x1 h2⟩
  | _ => exact q1.elim
/-- x.f, x an own object -/
def eFldV (f : Str) (i : Nat) : DE := fun g Q => match (gt g i).obj with
  | some (.ins _ ns ds) => match fget ns ds f with
    | some d => Q d g
    | none => False
  | _ => False
theorem ed_fldV {i : Nat} {p' : Pos} (hN : X.N[i]? = some x) (hv : Vis X.env.scope x) (hb : attributeBase (.Name x p') f X.env (eval (.Name x p') X.env) = eval (.Name x p') X.env)
    (hd : (x == ("__debug__" : Str)) = false := by decide) (hcd : (x == ("__classdict__" : Str)) = false := by decide) : ED X (.Attribute (.Name x p') f pos) (eFldV f i) := by
  refine ⟨_, pe_fld (pe_var hN hv hd hcd) hb, fun {b g σ S H Qd Q} R hq k => ?_⟩
  unfold eFldV at hq
  cases eo : (gt g i).obj with
  | none => rw [eo] at hq; exact hq.elim
  | some ob =>
    rw [eo] at hq
    cases ob with
    | lst => exact hq.elim
    | ins C ns ds =>
      simp only at hq
      cases e : fget ns ds f with
      | none => rw [e] at hq; exact hq.elim
      | some d =>
        rw [e] at hq
        obtain ⟨a, q, z, ⟨dx, vs, h, l, io, rs⟩, _⟩ := obj_ok R eo
        obtain ⟨hm, w, h1, h2⟩ := fget_ok e rs
        exact ⟨_, q, a, C, dx, _, w, rfl, h, io.1, io.2 f hm, h1, k d g w S H hq R .rfl h2⟩
/-- x.f = e, x an own object of the class C -/
def sFldSet (C : Addr) (f : Str) (i : Nat) (de : DE) : DS := fun De g => de g fun y g1 => match (gt g1 i).obj with
  | some (.ins C' ns ds) => C' = C ∧ ns.length < 900 ∧ De.nx (g1.set i (withO (gt g1 i) (.ins C' (fput ns ds f y).1 (fput ns ds f y).2)))
  | _ => False
theorem sd_fld {i : Nat} {C : Addr} {de : DE} {p' pos' : Pos} (cl : Cls X.K C) (na : NoAttr X.K C f) (hN : X.N[i]? = some x) (hv : Vis X.env.scope x) (he : ED X value de)
    (hs : swapsWith value (some (.Attribute (.Name x p') f pos')) pos.line X.env = pure false := by rfl)
    (hd : (x == ("__debug__" : Str)) = false := by decide) (hcd : (x == ("__classdict__" : Str)) = false := by decide) : SD X (.Assign [.Attribute (.Name x p') f pos'] value pos) (sFldSet C f i de) := by
  obtain ⟨t, pe, s⟩ := he
  refine ⟨_, ps_fld (pe_var hN hv hd hcd) pe hs, fun {b g σ S H De D} R hq E => s R hq fun y g1 v S1 H1 q1 R1 x1 r1 => ?_⟩
  cases eo : (gt g1 i).obj with
  | none => rw [eo] at q1; exact q1.elim
  | some ob =>
    rw [eo] at q1
    cases ob with
    | lst => exact q1.elim
    | ins C' ns ds =>
      obtain ⟨ec, ln, q1⟩ := q1
      subst ec
      obtain ⟨a, q, z, ⟨dx, vs, h, l, io, rs⟩, own⟩ := obj_ok R1 eo
      obtain ⟨vs', p1, p2, p3, p4, p5⟩ := fput_ok (f := f) r1 l rs
      have lz : (ns.zip vs).length < 1000 := by rw [List.length_zip]; omega
      refine ⟨_, q, a, C', dx, _, rfl, h, cl, na, lz, E.nx (S := S1) q1 ?_⟩
      have io' : InsOk X.K C' (fput ns ds f y).1 := ⟨cl, fun n hn => by
        rcases p4 n hn with h | h
        · rw [h]; exact na
        · exact io.2 n h⟩
      have okk : OOk X.K S1 (upd H1 a (.ins C' dx (putF f v (ns.zip vs)))) a (.ins C' (fput ns ds f y).1 (fput ns ds f y).2) := ⟨dx, vs', by rw [upd_same, p1], p2, io', p3⟩
      have ge := gt_get (g := g1) (i := i) rfl (by intro e; rw [e] at eo; cases eo)
      have sl := R1.slot i _ ge
      refine R1.write ge ?_ q ?_ ?_
      · cases eg : gt g1 i with
        | no => rw [eg] at eo; cases eo
        | sh d => rw [eg] at eo; cases eo
        | ow o => rfl
        | bx n o => rfl
      · rw [q]
        cases eg : gt g1 i with
        | no => rw [eg] at eo; cases eo
        | sh d => rw [eg] at eo; cases eo
        | ow o1 =>
          rw [eg, q] at sl
          obtain ⟨c, ec, y1, y0, _⟩ := sl
          cases ec
          exact ⟨a, rfl, y1, y0, okk⟩
        | bx n o1 =>
          rw [eg, q] at sl
          obtain ⟨c, ec, y1, y0, _⟩ := sl
          cases ec
          exact ⟨a, rfl, y1, y0, okk⟩
      · cases eg : gt g1 i with
        | no => rw [eg] at eo; cases eo
        | sh d => rw [eg] at eo; cases eo
        | ow o => rfl
        | bx n o => rfl
/-! ### methods, properties -/
theorem meth_not {C fa : Addr} {ns : List Str} (io : InsOk K C ns) (hm : Meth K C m fa) : m ∉ ns := fun h => by
  have h1 : PySem.W.findIn K (.ref C) m = some none := io.2 m h
  have h2 := hm.at_
  rw [h1] at h2
  cases h2
def xMeth (C : Addr) (sp : DSp) (de : DE) (q : DQ) (dd : List D) : DX := fun g Q => de g fun x g1 => match x with
  | .ins C' _ _ => C' = C ∧ q g1 fun as g2 => callK sp (.sh x :: (as ++ dd.map .sh)) g2 Q fun _ _ _ => False
  | _ => False
theorem snd_meth {C fa : Addr} {t : TA} {te : TE} {q : DQ} {de : DE} {n j : Nat} {sp : DSp} {dd : List D} {dvs : List V} {E : XK} (hm : Meth K C m fa) (se : SndE K te de) (s : SndQ K n t q) (hd : ∀ S, Reps K S dd dvs) (hj : n + dd.length + 1 = j) :
    SndX K (tMeth C m (spD K j sp) dvs E te t) (xMeth C sp de q dd) := fun {b g σ S H Qd Q} R h k => se R h fun x g1 v S1 H1 q1 R1 x1 r1 => by
  cases x with
  | ins C' ns ds =>
    obtain ⟨ec, q1⟩ := q1
    subst ec
    obtain ⟨a, dx, vs, rfl, h, l, io, rs⟩ := id r1.ins
    refine ⟨a, dx, _, rfl, R1.le _ _ h, zip_lookup_none (meth_not io hm), s R1 q1 fun as g2 ws S2 H2 q2 R2 x2 ok ln => ?_⟩
    exact call_sound R2 (as := .sh (.ins C' ns ds) :: (as ++ dd.map .sh)) ⟨_, _, rfl, Rep.le x2.le _ _ r1, ok.append (ArOk.ofReps (hd S2))⟩ (by simp only [List.length_cons, List.length_append, List.length_map, ln]; omega) q2
      fun r g3 v S3 H3 q3 R3 x3 rr => k r g3 v S3 H3 q3 R3 ((x1.trans x2).trans x3) (rr.from (x1.trans x2))
  | _ => exact q1.elim
theorem ex_meth {C fa : Addr} {fd : FuncData} {ps : List Str} {k n j : Nat} {sp : DSp} {q : DQ} {de : DE} {dd : List D} {dvs : List V} {ds : List Value} {pl : Sem Bool} (he : ED X o de) (c : Cls X.K C) (hm : Meth X.K C m fa) (F : FnOk X.prog X.w X.K X.mg X.base CX0 k fa fd ps (spD X.K j sp)) (hr : Room k X.A) (hb : Binds X.K fd ps ds) (hd : Vals dvs ds)
    (hdd : ∀ S, Reps X.K S dd dvs) (hq : QD X (e :: es) n q) (hj : n + dd.length + 1 = j)
    (hst : starEach (e :: es) X.env = (false, eval e X.env) :: starEach es X.env := by rfl) (hpl : (backTo pos (starEach es X.env)).any (·.1) = false := by rfl)
    (ht : eval (.Call (.Attribute o m apos) (e :: es) [] pos) X.env = (do
      let ov ← eval o X.env
      standAt apos.atName
      let (f, first) ← holding [ov] (getMethod ov m pl)
      callWith pos f first (backTo pos (starEach (e :: es) X.env)) (backToKw pos (keywordEach [] X.env))) := by rfl) : EX X (.Call (.Attribute o m apos) (e :: es) [] pos) (xMeth C sp de q dd) := by
  obtain ⟨te, pe, se⟩ := he
  obtain ⟨t, pq, sq⟩ := hq
  exact ⟨_, pe_meth pe c hm F hr hb hd pass0 pq hst hpl ht, snd_meth hm se sq hdd hj⟩
theorem ex_meth0 {C fa : Addr} {fd : FuncData} {ps : List Str} {k j : Nat} {sp : DSp} {de : DE} {dd : List D} {dvs : List V} {ds : List Value} {pl : Sem Bool} (he : ED X o de) (c : Cls X.K C) (hm : Meth X.K C m fa) (F : FnOk X.prog X.w X.K X.mg X.base CX0 k fa fd ps (spD X.K j sp)) (hr : Room k X.A) (hb : Binds X.K fd ps ds) (hd : Vals dvs ds)
    (hdd : ∀ S, Reps X.K S dd dvs) (hj : 0 + dd.length + 1 = j)
    (ht : eval (.Call (.Attribute o m apos) [] [] pos) X.env = (do
      let ov ← eval o X.env
      standAt apos.atName
      let (f, first) ← holding [ov] (getMethod ov m pl)
      callWith pos f first (backTo pos (starEach [] X.env)) (backToKw pos (keywordEach [] X.env))) := by rfl) : EX X (.Call (.Attribute o m apos) [] [] pos) (xMeth C sp de qNil dd) := by
  obtain ⟨te, pe, se⟩ := he
  exact ⟨_, pe_meth0 pe c hm F hr hb hd pass0 ht, snd_meth (n := 0) (t := tNil) hm se (fun {b g σ S H Qd Q} R hd k => k [] g [] S H hd R .rfl rfl rfl) hdd hj⟩
def xProp (C : Addr) (sp : DSp) (de : DE) : DX := fun g Q => de g fun x g1 => match x with
  | .ins C' _ _ => C' = C ∧ callK sp [.sh x] g1 Q fun _ _ _ => False
  | _ => False
theorem ex_prop {C pa fa : Addr} {fd : FuncData} {ps : List Str} {k : Nat} {sp : DSp} {de : DE} (he : ED X e de) (c : Cls X.K C) (hp : PropOf X.K C f pa fa) (F : FnOk X.prog X.w X.K X.mg X.base CX0 k fa fd ps (spD X.K 1 sp)) (hr : Room (k + 1) X.A) (hb : Binds X.K fd ps [])
    (hab : attributeBase e f X.env (eval e X.env) = eval e X.env) : EX X (.Attribute e f pos) (xProp C sp de) := by
  obtain ⟨te, pe, se⟩ := he
  refine ⟨_, pe_prop (E := E0) pe c hp F hr hb (.nil : Vals [] []) (fun _ _ _ _ _ _ _ h => h.elim) hab, fun {b g σ S H Qd Q} R h k => se R h fun x g1 v S1 H1 q1 R1 x1 r1 => ?_⟩
  cases x with
  | ins C' ns ds =>
    obtain ⟨ec, q1⟩ := q1
    subst ec
    obtain ⟨a, dx, vs, rfl, h, l, io, rs⟩ := id r1.ins
    refine ⟨a, dx, _, rfl, R1.le _ _ h, ?_⟩
    exact call_sound R1 (as := [.sh (.ins C' ns ds)]) ⟨_, _, rfl, r1, rfl⟩ rfl q1 fun r g3 v S3 H3 q3 R3 x3 rr => k r g3 v S3 H3 q3 R3 (x1.trans x3) (rr.from x1)
  | _ => exact q1.elim
/-! ### keywords -/
def KD (X : Cx) (kws : List Keyword) (n : Nat) (d : DA) : Prop := ∃ t, PK X kws t ∧ SndA X.K n t d
theorem kd_nil : KD X [] 0 aNil := ⟨_, pk_nil, fun {b g σ S H Qd Q} R hd k => k [] g [] S H hd R .rfl .nil rfl⟩
theorem kd_cons {de : DE} {da : DA} {n : Nat} (he : ED X e de) (ha : KD X kws n da) : KD X (⟨nm, e, kpos⟩ :: kws) (n + 1) (aCons de da) := by
  obtain ⟨te, pe, se⟩ := he
  obtain ⟨ta, pa, sa⟩ := ha
  refine ⟨_, pk_cons pe pa, fun {b g σ S H Qd Q} R hd k => se R hd fun x g1 v S1 H1 q1 R1 x1 r1 => sa R1 q1 fun xs g2 vs S2 H2 q2 R2 x2 r2 l2 => ?_⟩
  exact k (x :: xs) g2 (v :: vs) S2 H2 q2 R2 (x1.trans x2) (.cons (Rep.le x2.le _ _ r1) r2) (by rw [List.length_cons, l2])
/-- the arguments in the parameters' order: positional, then by keyword -/
structure KwD (gV : List V → List V → List V) (gD : List D → List D → List D) (n j m : Nat) : Prop where
  rep : ∀ {K : PySem.W.Frag} {S : Hp} {ds es : List D} {vs ws : List V}, Reps K S ds vs → Reps K S es ws → Reps K S (gD ds es) (gV vs ws)
  len : ∀ {ds es : List D}, ds.length = n → es.length = j → (gD ds es).length = m
theorem kwd_app {n j m : Nat} (h : n + j = m) : KwD (fun vs zs => vs ++ zs) (fun vs zs => vs ++ zs) n j m := ⟨fun r s => r.append s, fun a b => by rw [List.length_append, a, b, h]⟩
theorem kwd_rev {n j m : Nat} (h : n + j = m) : KwD (fun vs zs => vs ++ zs.reverse) (fun vs zs => vs ++ zs.reverse) n j m := ⟨fun r s => r.append s.reverse, fun a b => by rw [List.length_append, List.length_reverse, a, b, h]⟩
def xCallK (sp : DSp) (gD : List D → List D → List D) (da dk : DA) : DX := fun g Q => da g fun ds g1 => dk g1 fun es g2 => callK sp ((gD ds es).map .sh) g2 Q fun _ _ _ => False
theorem ex_callK {fa : Addr} {fd : FuncData} {ps ks : List Str} {k n j m' : Nat} {sp : DSp} {da dk : DA} {gg : List Value → List Value → List Value} {gV : List V → List V → List V} {gD : List D → List D → List D} (F : FnOk X.prog X.w X.K X.mg X.base CX0 k fa fd ps (spD X.K m' sp)) (hr : Room k X.A) (hg : Gl X x) (hm : X.mg x = some (.ref fa)) (hk : PySem.W.keepIn X.K (.ref fa) = true) (hb : KBn X.K fd ps n ks gg gV)
    (kw : KwD gV gD n j m') (ha : AD X (e :: es) n da) (hkw : KD X kws j dk) (hj : ks.length = j)
    (hall : (backToKw pos (keywordEach kws X.env)).all (·.1.isSome) = true := by rfl) (hks : (backToKw pos (keywordEach kws X.env)).filterMap (·.1) = ks := by rfl)
    (hdb : (x == ("__debug__" : Str)) = false := by decide) (he : starEach (e :: es) X.env = (false, eval e X.env) :: starEach es X.env := by rfl)
    (hpl : ((backTo pos (starEach (e :: es) X.env)).any (·.1) || (backToKw pos (keywordEach kws X.env)).any (·.1.isNone)) = false := by rfl) :
    EX X (.Call (.Name x p) (e :: es) kws pos) (xCallK sp gD da dk) := by
  obtain ⟨ta, pa, sa⟩ := ha
  obtain ⟨tk, pk, sk⟩ := hkw
  refine ⟨_, pe_callN F hr hg hm hk hb pass0 pa pk hall hks hdb he hpl, fun {b g σ S H Qd Q} R h kk => sa R h fun ds g1 vs S1 H1 q1 R1 x1 r1 l1 => sk R1 q1 fun es g2 ws S2 H2 q2 R2 x2 r2 l2 => ⟨by rw [r1.len, l1], by rw [r2.len, l2, hj], ?_⟩⟩
  exact call_sound R2 (ArOk.ofReps (kw.rep (Reps.le x2.le _ _ r1) r2)) (by rw [List.length_map, kw.len l1 l2]) q2 fun r g3 v S3 H3 q3 R3 x3 rr => kk r g3 v S3 H3 q3 R3 ((x1.trans x2).trans x3) (rr.from (x1.trans x2))
def xMethK (C : Addr) (sp : DSp) (gD : List D → List D → List D) (de : DE) (da dk : DA) : DX := fun g Q => de g fun x g1 => match x with
  | .ins C' _ _ => C' = C ∧ da g1 fun ds g2 => dk g2 fun es g3 => callK sp ((gD (x :: ds) es).map .sh) g3 Q fun _ _ _ => False
  | _ => False
theorem ex_methKA {C fa : Addr} {fd : FuncData} {ps ks : List Str} {k n j m' : Nat} {sp : DSp} {de : DE} {da dk : DA} {gg : List Value → List Value → List Value} {gV : List V → List V → List V} {gD : List D → List D → List D} {pl : Sem Bool} (he : ED X o de) (c : Cls X.K C) (hm : Meth X.K C m fa) (F : FnOk X.prog X.w X.K X.mg X.base CX0 k fa fd ps (spD X.K m' sp)) (hr : Room k X.A) (hb : KBn X.K fd ps (n + 1) ks gg gV)
    (kw : KwD gV gD (n + 1) j m') (ha : AD X (e :: es) n da) (hkw : KD X kws j dk) (hj : ks.length = j)
    (hall : (backToKw pos (keywordEach kws X.env)).all (·.1.isSome) = true := by rfl) (hks : (backToKw pos (keywordEach kws X.env)).filterMap (·.1) = ks := by rfl)
    (hst : starEach (e :: es) X.env = (false, eval e X.env) :: starEach es X.env := by rfl)
    (hpl : ((backTo pos (starEach (e :: es) X.env)).any (·.1) || (backToKw pos (keywordEach kws X.env)).any (·.1.isNone)) = false := by rfl)
    (ht : eval (.Call (.Attribute o m apos) (e :: es) kws pos) X.env = (do
      let ov ← eval o X.env
      standAt apos.atName
      let (f, first) ← holding [ov] (getMethod ov m pl)
      callWith pos f first (backTo pos (starEach (e :: es) X.env)) (backToKw pos (keywordEach kws X.env))) := by rfl) :
    EX X (.Call (.Attribute o m apos) (e :: es) kws pos) (xMethK C sp gD de da dk) := by
  obtain ⟨te, pe, se⟩ := he
  obtain ⟨ta, pa, sa⟩ := ha
  obtain ⟨tk, pk, sk⟩ := hkw
  refine ⟨_, OV.pe_methKA pe c hm F hr hb pass0 pa pk hall hks hst hpl ht, fun {b g σ S H Qd Q} R h kk => se R h fun x g0 v S0 H0 q0 R0 x0 r0 => ?_⟩
  cases x with
  | ins C' ns dss =>
    obtain ⟨ec, q0⟩ := q0
    subst ec
    obtain ⟨a, dx, us, rfl, h, l, io, rs⟩ := id r0.ins
    refine ⟨a, dx, _, rfl, R0.le _ _ h, zip_lookup_none (meth_not io hm), sa R0 q0 fun ds g1 vs S1 H1 q1 R1 x1 r1 l1 => sk R1 q1 fun es g2 ws S2 H2 q2 R2 x2 r2 l2 => ⟨by rw [r1.len, l1], by rw [r2.len, l2, hj], ?_⟩⟩
    exact call_sound R2 (ArOk.ofReps (kw.rep (.cons (Rep.le (x1.trans x2).le _ _ r0) (Reps.le x2.le _ _ r1)) r2)) (by rw [List.length_map, kw.len (by rw [List.length_cons, l1]) l2]) q2
      fun r g3 v S3 H3 q3 R3 x3 rr => kk r g3 v S3 H3 q3 R3 ((x0.trans (x1.trans x2)).trans x3) (rr.from (x0.trans (x1.trans x2)))
  | _ => exact q0.elim
theorem ex_methK {C fa : Addr} {fd : FuncData} {ps ks : List Str} {k j m' : Nat} {sp : DSp} {de : DE} {dk : DA} {gg : List Value → List Value → List Value} {gV : List V → List V → List V} {gD : List D → List D → List D} {pl : Sem Bool} (he : ED X o de) (c : Cls X.K C) (hm : Meth X.K C m fa) (F : FnOk X.prog X.w X.K X.mg X.base CX0 k fa fd ps (spD X.K m' sp)) (hr : Room k X.A) (hb : KBn X.K fd ps 1 ks gg gV)
    (kw : KwD gV gD 1 j m') (hkw : KD X kws j dk) (hj : ks.length = j)
    (hall : (backToKw pos (keywordEach kws X.env)).all (·.1.isSome) = true := by rfl) (hks : (backToKw pos (keywordEach kws X.env)).filterMap (·.1) = ks := by rfl)
    (hpl : ((backTo pos (starEach [] X.env)).any (·.1) || (backToKw pos (keywordEach kws X.env)).any (·.1.isNone)) = false := by rfl)
    (ht : eval (.Call (.Attribute o m apos) [] kws pos) X.env = (do
      let ov ← eval o X.env
      standAt apos.atName
      let (f, first) ← holding [ov] (getMethod ov m pl)
      callWith pos f first (backTo pos (starEach [] X.env)) (backToKw pos (keywordEach kws X.env))) := by rfl) :
    EX X (.Call (.Attribute o m apos) [] kws pos) (xMethK C sp gD de aNil dk) := by
  obtain ⟨te, pe, se⟩ := he
  obtain ⟨tk, pk, sk⟩ := hkw
  refine ⟨_, OV.pe_methK pe c hm F hr hb pass0 pk hall hks hpl ht, fun {b g σ S H Qd Q} R h kk => se R h fun x g0 v S0 H0 q0 R0 x0 r0 => ?_⟩
  cases x with
  | ins C' ns dss =>
    obtain ⟨ec, q0⟩ := q0
    subst ec
    obtain ⟨a, dx, us, rfl, h, l, io, rs⟩ := id r0.ins
    refine ⟨a, dx, _, rfl, R0.le _ _ h, zip_lookup_none (meth_not io hm), sk R0 q0 fun es g2 ws S2 H2 q2 R2 x2 r2 l2 => ⟨by rw [r2.len, l2, hj], ?_⟩⟩
    exact call_sound R2 (ArOk.ofReps (kw.rep (Reps.of1 (Rep.le x2.le _ _ r0)) r2)) (by rw [List.length_map, kw.len rfl l2]) q2
      fun r g3 v S3 H3 q3 R3 x3 rr => kk r g3 v S3 H3 q3 R3 ((x0.trans x2).trans x3) (rr.from (x0.trans x2))
  | _ => exact q0.elim
end
end DL

set_option maxRecDepth 100000
set_option maxHeartbeats 4000000
namespace DL
open PySem L2
section
variable {X : Cx} {K : PySem.W.Frag} {e o a c c1 c2 value : Expr} {es : List Expr} {kws : List Keyword} {pos p apos kpos p2 : Pos} {x m f : Str}
/-! ### C(..) -/
theorem make_sound {b : Bs} {g : G} {σ : St} {S H : Hp} {C : Addr} {ds : List D} {vs : List V} {n : Nat} {sp : DSp} {Qd : R → G → Prop} {Q : VK} {E : XK} (R : Rel K b g σ S H) (cl : Cls K C) (rs : Reps K S ds vs) (hn : ds.length + 1 = n)
    (h : sp (.bx 0 (.ins C [] []) :: ds.map .sh) (fun r os => match r, os with
      | .sh .non, [ob] => Qd (.ow ob) g
      | _, _ => False) fun _ _ _ => False)
    (k : ∀ r g' v S' H', Qd r g' → Rel K b g' σ S' H' → Ext g σ S H g' S' H' → RRep K b g H g' σ S' H' v r → Q v H') {x dx : Addr} (hx : H x = none) (hdx : H dx = none) (ne : dx ≠ x) :
    spD K n sp (.ref x :: vs) (upd (upd H dx (.own x)) x (.ins C dx [])) (fun v H2 => v = .non ∧ Q (.ref x) H2) E := by
  have hx1 : upd H dx (.own x) x = none := by rw [upd_ne (Ne.symm ne)]; exact hx
  have R1 : Rel K b g σ S (upd (upd H dx (.own x)) x (.ins C dx [])) := (R.newOw hdx).newOw hx1
  generalize hH : upd (upd H dx (.own x)) x (.ins C dx []) = H3 at R1 ⊢
  have h3x : H3 x = some (.ins C dx []) := by rw [← hH]; exact upd_same
  have up : ∀ a u, H a = some u → H3 a = some u := fun a u e => by
    rw [← hH]
    exact Le.up hx1 _ _ (Le.up hdx _ _ e)
  have Sx : S x = none := R.S0 hx
  have sl : ∀ (i : Nat) (s : Sl), (Sl.bx 0 (.ins C [] []) :: ds.map .sh)[i]? = some s → SlOk K ⟨H3, S, [x]⟩ S H3 (((V.ref x :: vs).map some)[i]?) s := fun i s e => by
    cases i with
    | zero => simp at e; subst e; exact ⟨x, rfl, Sx, rfl, dx, [], h3x, rfl, ⟨cl, fun f h => by cases h⟩, .nil⟩
    | succ i =>
      simp only [List.getElem?_cons_succ, List.getElem?_map] at e
      cases ed : ds[i]? with
      | none => rw [ed] at e; cases e
      | some d =>
        rw [ed] at e
        cases e
        obtain ⟨v, hv, rv⟩ := rs.get ed
        exact ⟨v, by simp [hv], rv⟩
  have R3 : Rel K ⟨H3, S, [x]⟩ (Sl.bx 0 (.ins C [] []) :: ds.map .sh) ((V.ref x :: vs).map some) S H3 := by
    refine ⟨by simp [rs.len], R1.le, fun a o h => ⟨o, h⟩, fun a o h _ => h, fun a o h => .inl h, Le.rfl, sl, fun i j a hi hj => ?_⟩
    have z : ∀ {i : Nat}, Own (Sl.bx 0 (.ins C [] []) :: ds.map .sh) ((V.ref x :: vs).map some) i a → i = 0 := fun {i} ⟨s, e, w, _⟩ => by
      cases i with
      | zero => rfl
      | succ i =>
        simp only [List.getElem?_cons_succ, List.getElem?_map] at e
        cases ed : ds[i]? with
        | none => rw [ed] at e; cases e
        | some d => rw [ed] at e; cases e; cases w
    rw [z hi, z hj]
  have bn : bxN 0 (Sl.bx 0 (.ins C [] []) :: ds.map .sh) = some 1 := by
    have key : ∀ ds : List D, bxN 1 (ds.map .sh) = some 1 := by
      intro ds
      induction ds with
      | nil => rfl
      | cons d ds ih => simpa [bxN] using ih
    simp [bxN, key]
  refine ⟨S, _, [x], _, _, by rw [List.length_cons, rs.len, hn], R3, bn, h, fun r os v S' H' q W oo rv => ?_, fun _ _ _ _ _ _ q => q.elim⟩
  match r, os, q with
  | .sh .non, [ob], q =>
    refine ⟨Rep.non (K := K) (S := S') rv, ?_⟩
    obtain ⟨o', e', z', ok'⟩ := oo.2 0 x rfl
    cases e'
    have nO : ¬ Ows g σ x := R.notOwn hx
    have R' := R1.back0 W (fun c hc => by rw [List.mem_singleton.mp hc]; exact nO) fun c hc => by rw [List.mem_singleton.mp hc]; exact .inl (R.H00 hx)
    have nx : ∀ a u, H a = some u → a ∉ [x] := fun a u e hc => by
      rw [List.mem_singleton.mp hc, hx] at e
      cases e
    have nw : ∀ a u, S' a = some u → S a = some u ∨ H a = none ∨ Ows g σ a := fun a u e => by
      rcases W.grow a u e with h | h
      · exact .inl h
      · refine .inr (.inl ?_)
        cases q : H a with
        | none => rfl
        | some w =>
          have h : H3 a = none := h
          rw [up a w q] at h
          cases h
    have X' : Ext g σ S H g S' H' := ⟨W.base, fun a u e _ => W.keep a u (up a u e) (nx a u e), fun a u e => W.dom a u (up a u e), nw, fun _ h => h⟩
    exact k _ g _ S' H' q R' X' ⟨x, rfl, z', R.H00 hx, ok', nO, .inl hx⟩
def xMake (C : Addr) (sp : DSp) (da : DA) (dd : List D) : DX := fun g Q => da g fun ds g1 => sp (.bx 0 (.ins C [] []) :: (ds ++ dd).map .sh) (fun r os => match r, os with
  | .sh .non, [ob] => Q (.ow ob) g1
  | _, _ => False) fun _ _ _ => False
theorem ex_make {C fa : Addr} {fd : FuncData} {ps : List Str} {k n j : Nat} {sp : DSp} {da : DA} {dd : List D} {dvs : List V} {dss : List Value} (cl : Cls X.K C) (M : Mk X.K C fa) (F : FnOk X.prog X.w X.K X.mg X.base CX0 k fa fd ps (spD X.K j sp)) (hr : Room (k + 1) X.A) (hg : Gl X x) (hm : X.mg x = some (.ref C)) (hb : Binds X.K fd ps dss) (hd : Vals dvs dss)
    (hdd : ∀ S, Reps X.K S dd dvs) (ha : AD X (e :: es) n da) (hj : n + dd.length + 1 = j) (hdb : (x == ("__debug__" : Str)) = false := by decide) (he : starEach (e :: es) X.env = (false, eval e X.env) :: starEach es X.env := by rfl) (hpl : (backTo pos (starEach es X.env)).any (·.1) = false := by rfl) :
    EX X (.Call (.Name x p) (e :: es) [] pos) (xMake C sp da dd) := by
  obtain ⟨ta, pa, sa⟩ := ha
  refine ⟨_, pe_make M F hr hg hm hb hd pass0 pa hdb he hpl, fun {b g σ S H Qd Q} R h kk => sa R h fun ds g1 vs S1 H1 q1 R1 x1 r1 l1 x' dx hx hdx ne => ?_⟩
  exact make_sound R1 cl (r1.append (hdd S1)) (by rw [List.length_append, l1]; omega) q1 (fun r g2 v S2 H2 q2 R2 x2 rr => kk r g2 v S2 H2 q2 R2 (x1.trans x2) (rr.from x1)) hx hdx ne
def xMakeK (C : Addr) (sp : DSp) (gD : List D → List D → List D) (da dk : DA) : DX := fun g Q => da g fun ds g1 => dk g1 fun es g2 => sp (.bx 0 (.ins C [] []) :: (gD ds es).map .sh) (fun r os => match r, os with
  | .sh .non, [ob] => Q (.ow ob) g2
  | _, _ => False) fun _ _ _ => False
theorem ex_makeK {C fa : Addr} {fd : FuncData} {ps ks : List Str} {k n j m' j' : Nat} {sp : DSp} {da dk : DA} {gg : List Value → List Value → List Value} {gV : List V → List V → List V} {gD : List D → List D → List D} (cl : Cls X.K C) (M : Mk X.K C fa) (F : FnOk X.prog X.w X.K X.mg X.base CX0 k fa fd ps (spD X.K j' sp)) (hr : Room (k + 1) X.A) (hg : Gl X x) (hm : X.mg x = some (.ref C)) (hb : KBn X.K fd ps (n + 1) ks gg gV)
    (hs : ∀ v vs zs, gV (v :: vs) zs = v :: gV vs zs) (kw : KwD gV gD n j m') (hj' : m' + 1 = j') (ha : AD X (e :: es) n da) (hkw : KD X kws j dk) (hj : ks.length = j)
    (hall : (backToKw pos (keywordEach kws X.env)).all (·.1.isSome) = true := by rfl) (hks : (backToKw pos (keywordEach kws X.env)).filterMap (·.1) = ks := by rfl) (hdb : (x == ("__debug__" : Str)) = false := by decide)
    (he : starEach (e :: es) X.env = (false, eval e X.env) :: starEach es X.env := by rfl) (hpl : ((backTo pos (starEach (e :: es) X.env)).any (·.1) || (backToKw pos (keywordEach kws X.env)).any (·.1.isNone)) = false := by rfl) :
    EX X (.Call (.Name x p) (e :: es) kws pos) (xMakeK C sp gD da dk) := by
  obtain ⟨ta, pa, sa⟩ := ha
  obtain ⟨tk, pk, sk⟩ := hkw
  refine ⟨_, pe_makeK M F hr hg hm hb pass0 pa pk hall hks hdb he hpl, fun {b g σ S H Qd Q} R h kk => sa R h fun ds g1 vs S1 H1 q1 R1 x1 r1 l1 => sk R1 q1 fun es g2 ws S2 H2 q2 R2 x2 r2 l2 => ⟨by rw [r1.len, l1], by rw [r2.len, l2, hj], fun x' dx hx hdx ne => ?_⟩⟩
  rw [hs]
  exact make_sound R2 cl (kw.rep (Reps.le x2.le _ _ r1) r2) (by rw [kw.len l1 l2, hj']) q2 (fun r g3 v S3 H3 q3 R3 x3 rr => kk r g3 v S3 H3 q3 R3 ((x1.trans x2).trans x3) (rr.from (x1.trans x2))) hx hdx ne
theorem ex_makeK0 {C fa : Addr} {fd : FuncData} {ps ks : List Str} {k j m' j' : Nat} {sp : DSp} {dk : DA} {gg : List Value → List Value → List Value} {gV : List V → List V → List V} {gD : List D → List D → List D} (cl : Cls X.K C) (M : Mk X.K C fa) (F : FnOk X.prog X.w X.K X.mg X.base CX0 k fa fd ps (spD X.K j' sp)) (hr : Room (k + 1) X.A) (hg : Gl X x) (hm : X.mg x = some (.ref C)) (hb : KBn X.K fd ps 1 ks gg gV)
    (hs : ∀ v vs zs, gV (v :: vs) zs = v :: gV vs zs) (kw : KwD gV gD 0 j m') (hj' : m' + 1 = j') (hkw : KD X kws j dk) (hj : ks.length = j)
    (hall : (backToKw pos (keywordEach kws X.env)).all (·.1.isSome) = true := by rfl) (hks : (backToKw pos (keywordEach kws X.env)).filterMap (·.1) = ks := by rfl) (hdb : (x == ("__debug__" : Str)) = false := by decide)
    (hpl : ((backTo pos (starEach [] X.env)).any (·.1) || (backToKw pos (keywordEach kws X.env)).any (·.1.isNone)) = false := by rfl) :
    EX X (.Call (.Name x p) [] kws pos) (xMakeK C sp gD aNil dk) := by
  obtain ⟨tk, pk, sk⟩ := hkw
  refine ⟨_, pe_makeK0 M F hr hg hm hb pass0 pk hall hks hdb hpl, fun {b g σ S H Qd Q} R h kk => sk R h fun es g2 ws S2 H2 q2 R2 x2 r2 l2 => ⟨rfl, by rw [r2.len, l2, hj], fun x' dx hx hdx ne => ?_⟩⟩
  rw [hs]
  exact make_sound R2 cl (kw.rep .nil r2) (by rw [kw.len rfl l2, hj']) q2 (fun r g3 v S3 H3 q3 R3 x3 rr => kk r g3 v S3 H3 q3 R3 (x2.trans x3) (rr.from x2)) hx hdx ne
/-! ### isinstance -/
def tyN : D → Option String
  | .non => some "NoneType"
  | .bl _ => some "bool"
  | .int _ => some "int"
  | .str _ => some "str"
  | .lst _ => some "list"
  | .tup _ => some "tuple"
  | _ => none
theorem tyN_ok {S H : Hp} {d : D} {v : V} {t : String} (l : Le S H) (r : Rep K S d v) (h : tyN d = some t) : TyX K H v (.type t) := by
  cases d with
  | non => cases h; rw [r.non]; exact .base .non
  | bl b => cases h; rw [r.bl]; exact .base (.bl b)
  | int b => cases h; rw [r.int]; exact .base (.int b)
  | str b => cases h; rw [r.str]; exact .base (.str b)
  | lst xs =>
    cases h
    obtain ⟨a, vs, rfl, q, _⟩ := r.lst
    rcases Rd.le l q with q | ⟨ob, q⟩
    · exact .base (.lst q)
    · exact .base (.frz q)
  | tup xs =>
    cases h
    obtain ⟨a, vs, rfl, q, _⟩ := r.tup
    rcases SqT.le l q with q | ⟨ob, its, n, h1, h2, _⟩
    · rcases q with q | ⟨ob, q⟩
      · exact .base (.tup q)
      · exact .fTuple q
    · exact .kTuple h1 h2
  | _ => cases h
/-- what stands of a class for isinstance -/
structure ClsT (K : PySem.W.Frag) (C : Addr) : Prop where
  ha : PySem.W.findIn K (.ref C) "__class__" = some (some (.builtin "object.__class__"))
  hn : PySem.W.specialIn K (.builtin "object.__class__") "__get__" = some (some (.builtin "getset_descriptor.__get__"))
  ht : PySem.W.takesIn K (.builtin "object.__class__") = some true
  hm : PySem.W.mroIn K C (.type "object") = some true
theorem tyI_ok {S H : Hp} {C : Addr} {ns : List Str} {ds : List D} {v : V} (l : Le S H) (r : Rep K S (.ins C ns ds) v) (t : ClsT K C) : TyX K H v (.ref C) := by
  obtain ⟨a, dx, vs, rfl, h, _, io, _⟩ := r.ins
  exact .base (.ins (l _ _ h) io.1 t.ha t.hn t.ht t.hm)
/-- the answers of isinstance(.., one class) -/
def IsiOk (K : PySem.W.Frag) (u : Value) (f : D → Option Bool) : Prop := ∀ {S H : Hp} {d : D} {v : V} {cc : Bool}, Le S H → Rep K S d v → f d = some cc → ∃ t, TyX K H v t ∧ PySem.W.kitOne K t u = some cc
def xIsi (f : D → Option Bool) (de : DE) : DX := fun g Q => de g fun x g1 => match f x with
  | some c => Q (.sh (.bl c)) g1
  | none => False
theorem ex_isi {de : DE} {u : V} {uu : Value} {f : D → Option Bool} (he : ED X e de) (hc : PE X c (tC u)) (k : ClsV u uu) (hf : IsiOk X.K uu f) (hg : Gl X "isinstance") (hm : X.mg "isinstance" = none)
    (h1 : starEach [e, c] X.env = (false, eval e X.env) :: starEach [c] X.env := by rfl) (h2 : starEach [c] X.env = (false, eval c X.env) :: starEach [] X.env := by rfl) (hpl : (backTo pos (starEach [c] X.env)).any (·.1) = false := by rfl) :
    EX X (.Call (.Name "isinstance" p) [e, c] [] pos) (xIsi f de) := by
  obtain ⟨te, pe, se⟩ := he
  refine ⟨_, pe_callB call_isi hg hm (by decide +kernel) (pa_cons pe (pa_cons hc pa_nil h2) h1) (by decide) (by decide) h1 hpl, fun {b g σ S H Qd Q} R h kk => se R h fun x g1 v S1 H1 q1 R1 x1 r1 => ?_⟩
  cases ef : f x with
  | none => simp only [ef] at q1
  | some cc =>
    simp only [ef] at q1
    obtain ⟨t, ty, ki⟩ := hf R1.le r1 ef
    exact ⟨v, u, t, uu, cc, rfl, k, ty, ki, kk _ g1 _ S1 H1 q1 R1 x1 (Rep.ofBl (K := X.K) (S := S1) cc)⟩
/-- isinstance(x, (c1, c2)) -/
def IsiOk2 (K : PySem.W.Frag) (u1 u2 : Value) (f : D → Option Bool) : Prop := ∀ {S H : Hp} {d : D} {v : V} {cc : Bool}, Le S H → Rep K S d v → f d = some cc → ∃ t, TyX K H v t ∧ PySem.W.kitAny K t [u1, u2] = some cc
theorem ex_isi2 {de : DE} {u1 u2 : V} {w1 w2 : Value} {f : D → Option Bool} {n : Nat} (he : ED X e de) (hc1 : PE X c1 (tC u1)) (hc2 : PE X c2 (tC u2)) (k1 : ClsV u1 w1) (k2 : ClsV u2 w2) (hf : IsiOk2 X.K w1 w2 f) (hg : Gl X "isinstance") (hm : X.mg "isinstance" = none)
    (h1 : starEach [e, .Tuple [c1, c2] n p2] X.env = (false, eval e X.env) :: starEach [.Tuple [c1, c2] n p2] X.env := by rfl) (h2 : starEach [.Tuple [c1, c2] n p2] X.env = (false, eval (.Tuple [c1, c2] n p2) X.env) :: starEach [] X.env := by rfl) (hpl : (backTo pos (starEach [.Tuple [c1, c2] n p2] X.env)).any (·.1) = false := by rfl)
    (h3 : starEach [c1, c2] X.env = (false, eval c1 X.env) :: starEach [c2] X.env := by rfl) (h4 : starEach [c2] X.env = (false, eval c2 X.env) :: starEach [] X.env := by rfl) :
    EX X (.Call (.Name "isinstance" p) [e, .Tuple [c1, c2] n p2] [] pos) (xIsi f de) := by
  obtain ⟨te, pe, se⟩ := he
  refine ⟨_, pe_callB call_isiT hg hm (by decide +kernel) (pa_cons pe (pa_cons (pe_tup (pa_cons hc1 (pa_cons hc2 pa_nil h4) h3)) pa_nil h2) h1) (by decide) (by decide) h1 hpl, fun {b g σ S H Qd Q} R h kk => se R h fun x g1 v S1 H1 q1 R1 x1 r1 => ⟨by show 2 ≤ sizeLine; decide, fun tp htp => ?_⟩⟩
  cases ef : f x with
  | none => simp only [ef] at q1
  | some cc =>
    simp only [ef] at q1
    have l2 := R1.le.trans (Le.up (o := .tup [u1, u2]) htp)
    obtain ⟨t, ty, ki⟩ := hf l2 r1 ef
    have R2 := R1.newOw (o := .tup [u1, u2]) htp
    exact ⟨v, tp, [u1, u2], t, [w1, w2], cc, rfl, upd_same, .cons k1 (.cons k2 .nil), ty, ki, kk _ g1 _ S1 _ q1 R2 (x1.trans (.newOw htp)) (Rep.ofBl (K := X.K) (S := S1) cc)⟩
def isT (t : String) (d : D) : Option Bool := match tyN d with
  | some "bool" => some (t == "bool" || t == "int")
  | some s => some (s == t)
  | none => none
def isInt : D → Option Bool
  | .int _ => some true | .bl _ => some true | .non => some false | .str _ => some false | .lst _ => some false | .tup _ => some false | _ => none
def isBool : D → Option Bool
  | .int _ => some false | .bl _ => some true | .non => some false | .str _ => some false | .lst _ => some false | .tup _ => some false | _ => none
def isStr : D → Option Bool
  | .int _ => some false | .bl _ => some false | .non => some false | .str _ => some true | .lst _ => some false | .tup _ => some false | _ => none
def isList : D → Option Bool
  | .int _ => some false | .bl _ => some false | .non => some false | .str _ => some false | .lst _ => some true | .tup _ => some false | _ => none
def isTup : D → Option Bool
  | .int _ => some false | .bl _ => some false | .non => some false | .str _ => some false | .lst _ => some false | .tup _ => some true | _ => none
def isSeq : D → Option Bool
  | .int _ => some false | .bl _ => some false | .non => some false | .str _ => some false | .lst _ => some true | .tup _ => some true | _ => none
theorem isi_int : IsiOk K (.type "int") isInt := fun {S H d v cc} l r h => by
  cases d <;> simp only [isInt] at h <;> first | cases h; done | (cases h; exact ⟨_, tyN_ok l r rfl, kit_ty (by decide +kernel)⟩)
theorem isi_bool : IsiOk K (.type "bool") isBool := fun {S H d v cc} l r h => by
  cases d <;> simp only [isBool] at h <;> first | cases h; done | (cases h; exact ⟨_, tyN_ok l r rfl, kit_ty (by decide +kernel)⟩)
theorem isi_str : IsiOk K (.type "str") isStr := fun {S H d v cc} l r h => by
  cases d <;> simp only [isStr] at h <;> first | cases h; done | (cases h; exact ⟨_, tyN_ok l r rfl, kit_ty (by decide +kernel)⟩)
theorem isi_list : IsiOk K (.type "list") isList := fun {S H d v cc} l r h => by
  cases d <;> simp only [isList] at h <;> first | cases h; done | (cases h; exact ⟨_, tyN_ok l r rfl, kit_ty (by decide +kernel)⟩)
theorem isi_tup : IsiOk K (.type "tuple") isTup := fun {S H d v cc} l r h => by
  cases d <;> simp only [isTup] at h <;> first | cases h; done | (cases h; exact ⟨_, tyN_ok l r rfl, kit_ty (by decide +kernel)⟩)
theorem kit2 {a b c : String} {r1 r2 : Bool} (h1 : kitB a b = some r1) (h2 : kitB a c = some r2) : PySem.W.kitAny K (.type a) [.type b, .type c] = some (r1 || r2) := by
  refine kitAny_cons (kit_ty h1) (fun e => ?_) (fun e => by rw [e]; rfl)
  subst e
  refine kitAny_cons (kit_ty h2) (fun e => by rw [e]; rfl) (fun e => by rw [e]; rfl)
theorem isi_seq : IsiOk2 K (.type "list") (.type "tuple") isSeq := fun {S H d v cc} l r h => by
  cases d with
  | non => cases h; exact ⟨_, tyN_ok l r rfl, kit2 (a := "NoneType") (r1 := false) (r2 := false) (by decide +kernel) (by decide +kernel)⟩
  | bl _ => cases h; exact ⟨_, tyN_ok l r rfl, kit2 (a := "bool") (r1 := false) (r2 := false) (by decide +kernel) (by decide +kernel)⟩
  | int _ => cases h; exact ⟨_, tyN_ok l r rfl, kit2 (a := "int") (r1 := false) (r2 := false) (by decide +kernel) (by decide +kernel)⟩
  | str _ => cases h; exact ⟨_, tyN_ok l r rfl, kit2 (a := "str") (r1 := false) (r2 := false) (by decide +kernel) (by decide +kernel)⟩
  | lst _ => cases h; exact ⟨_, tyN_ok l r rfl, kit2 (a := "list") (r1 := true) (r2 := false) (by decide +kernel) (by decide +kernel)⟩
  | tup _ => cases h; exact ⟨_, tyN_ok l r rfl, kit2 (a := "tuple") (r1 := false) (r2 := true) (by decide +kernel) (by decide +kernel)⟩
  | _ => cases h
/-- isinstance(x, C) of an own class: an object must be one of it; ks: the built-in types that it is known not to be -/
def xIsiC (C : Addr) (ks : List String) (de : DE) : DX := fun g Q => de g fun x g1 => match x with
  | .ins C' _ _ => C' = C ∧ Q (.sh (.bl true)) g1
  | d => match tyN d with
    | some t => ks.contains t = true ∧ Q (.sh (.bl false)) g1
    | none => False
theorem ex_isiC {de : DE} {C : Addr} {ks : List String} (he : ED X e de) (hc : PE X c (tC (.ref C))) (ct : ClsT X.K C) (kk : PySem.W.kitOne X.K (.ref C) (.ref C) = some true) (kf : ∀ t, ks.contains t = true → PySem.W.kitOne X.K (.type t) (.ref C) = some false) (hg : Gl X "isinstance") (hm : X.mg "isinstance" = none)
    (h1 : starEach [e, c] X.env = (false, eval e X.env) :: starEach [c] X.env := by rfl) (h2 : starEach [c] X.env = (false, eval c X.env) :: starEach [] X.env := by rfl) (hpl : (backTo pos (starEach [c] X.env)).any (·.1) = false := by rfl) :
    EX X (.Call (.Name "isinstance" p) [e, c] [] pos) (xIsiC C ks de) := by
  obtain ⟨te, pe, se⟩ := he
  refine ⟨_, pe_callB call_isi hg hm (by decide +kernel) (pa_cons pe (pa_cons hc pa_nil h2) h1) (by decide) (by decide) h1 hpl, fun {b g σ S H Qd Q} R h kk2 => se R h fun x g1 v S1 H1 q1 R1 x1 r1 => ?_⟩
  have other : ∀ t, tyN x = some t → (ks.contains t = true ∧ Qd (.sh (.bl false)) g1) → tCB (rIsi X.K) (fun _ H Q => Q [v, .ref C] H) σ H1 Q := fun t ht ⟨h1, h2⟩ =>
    ⟨v, .ref C, _, .ref C, false, rfl, .own C, tyN_ok R1.le r1 ht, kf t h1, kk2 _ g1 _ S1 H1 h2 R1 x1 (Rep.ofBl (K := X.K) (S := S1) false)⟩
  cases x with
  | ins C' ns ds =>
    obtain ⟨ec, q1⟩ := q1
    subst ec
    exact ⟨v, .ref C', _, .ref C', true, rfl, .own C', tyI_ok R1.le r1 ct, kk, kk2 _ g1 _ S1 H1 q1 R1 x1 (Rep.ofBl (K := X.K) (S := S1) true)⟩
  | raw u => exact q1.elim
  | non => exact other _ rfl q1
  | bl _ => exact other _ rfl q1
  | int _ => exact other _ rfl q1
  | str _ => exact other _ rfl q1
  | lst _ => exact other _ rfl q1
  | tup _ => exact other _ rfl q1
/-! ### x in xs of flat things -/
def flatD : D → Bool
  | .non => true | .bl _ => true | .int _ => true | .str _ => true | _ => false
def eqF : D → D → Bool
  | .non, .non => true
  | .bl a, .bl b => a == b
  | .bl a, .int b => (if a then 1 else 0) == b
  | .int a, .bl b => a == (if b then 1 else 0)
  | .int a, .int b => a == b
  | .str a, .str b => a == b
  | _, _ => false
theorem eqF_ok {S : Hp} {d e : D} {v w : V} (r : Rep K S d v) (s : Rep K S e w) (fd : flatD d = true) (fe : flatD e = true) : flatV v = true ∧ flatV w = true ∧ eqV v w = eqF d e := by
  cases d <;> cases e <;> first
    | (cases fd; done)
    | (cases fe; done)
    | (simp only [Rep] at r s; subst r; subst s; exact ⟨rfl, rfl, rfl⟩)
theorem inV_ok {S : Hp} {x : D} {v : V} (r : Rep K S x v) (fx : flatD x = true) : ∀ {ds : List D} {vs : List V}, Reps K S ds vs → ds.all flatD = true → vs.all flatV = true ∧ inV v vs = ds.any fun y => eqF y x
  | [], vs, h, _ => by unfold Reps at h; subst h; exact ⟨rfl, rfl⟩
  | d :: ds, vs, h, f => by
    obtain ⟨w, r', rfl, h1, h2⟩ := h.uncons
    rw [List.all_cons, Bool.and_eq_true] at f
    obtain ⟨a1, a2, a3⟩ := eqF_ok h1 r f.1 fx
    obtain ⟨b1, b2⟩ := inV_ok r fx h2 f.2
    refine ⟨by rw [List.all_cons, a1, b1]; rfl, ?_⟩
    unfold inV at b2 ⊢
    rw [List.any_cons, List.any_cons, a3, b2]
def fIn : G2 := fun x y Q => match y with
  | .lst ys => flatD x = true ∧ ys.all flatD = true ∧ Q (.sh (.bl (ys.any fun y => eqF y x)))
  | .tup ys => flatD x = true ∧ ys.all flatD = true ∧ Q (.sh (.bl (ys.any fun y => eqF y x)))
  | _ => False
def fNotIn : G2 := fun x y Q => match y with
  | .lst ys => flatD x = true ∧ ys.all flatD = true ∧ Q (.sh (.bl (!ys.any fun y => eqF y x)))
  | .tup ys => flatD x = true ∧ ys.all flatD = true ∧ Q (.sh (.bl (!ys.any fun y => eqF y x)))
  | _ => False
theorem d_in : OpD X (compareOp .In) fIn := by
  refine ⟨_, op_in_seq, fun {b g σ S H x y v w Qd Q} R rx ry hd k => ?_⟩
  cases y with
  | lst ys =>
    obtain ⟨f1, f2, q⟩ := hd
    obtain ⟨a, vs, rfl, h, rs⟩ := ry.lst
    obtain ⟨i1, i2⟩ := inV_ok rx f1 rs f2
    have fv : flatV v = true := (eqF_ok rx rx f1 f1).1
    exact ⟨a, vs, rfl, .inl (.inl (Rd.le R.le h)), fv, i1, k _ _ S H q R .rfl (by rw [← i2]; exact Rep.ofBl (K := X.K) (S := S) _)⟩
  | tup ys =>
    obtain ⟨f1, f2, q⟩ := hd
    obtain ⟨a, vs, rfl, h, rs⟩ := ry.tup
    obtain ⟨i1, i2⟩ := inV_ok rx f1 rs f2
    have fv : flatV v = true := (eqF_ok rx rx f1 f1).1
    exact ⟨a, vs, rfl, .inr (SqT.le R.le h), fv, i1, k _ _ S H q R .rfl (by rw [← i2]; exact Rep.ofBl (K := X.K) (S := S) _)⟩
  | _ => exact hd.elim
theorem d_notIn : OpD X (compareOp .NotIn) fNotIn := by
  refine ⟨_, op_notIn_seq, fun {b g σ S H x y v w Qd Q} R rx ry hd k => ?_⟩
  cases y with
  | lst ys =>
    obtain ⟨f1, f2, q⟩ := hd
    obtain ⟨a, vs, rfl, h, rs⟩ := ry.lst
    obtain ⟨i1, i2⟩ := inV_ok rx f1 rs f2
    have fv : flatV v = true := (eqF_ok rx rx f1 f1).1
    exact ⟨a, vs, rfl, .inl (.inl (Rd.le R.le h)), fv, i1, k _ _ S H q R .rfl (by rw [← i2]; exact Rep.ofBl (K := X.K) (S := S) _)⟩
  | tup ys =>
    obtain ⟨f1, f2, q⟩ := hd
    obtain ⟨a, vs, rfl, h, rs⟩ := ry.tup
    obtain ⟨i1, i2⟩ := inV_ok rx f1 rs f2
    have fv : flatV v = true := (eqF_ok rx rx f1 f1).1
    exact ⟨a, vs, rfl, .inr (SqT.le R.le h), fv, i1, k _ _ S H q R .rfl (by rw [← i2]; exact Rep.ofBl (K := X.K) (S := S) _)⟩
  | _ => exact hd.elim
/-- is None, is not None -/
def isNon : D → Bool
  | .non => true
  | _ => false
def fIsN : G2 := fun x y Q => match y with
  | .non => Q (.sh (.bl (isNon x)))
  | _ => False
def fNotN : G2 := fun x y Q => match y with
  | .non => Q (.sh (.bl (!isNon x)))
  | _ => False
theorem isNon_ok {S : Hp} {x : D} {v : V} (r : Rep K S x v) (h : ∀ u, x ≠ .raw u) : decide (v = .non) = isNon x := by
  cases x with
  | non => rw [r.non]; rfl
  | bl _ => rw [r.bl]; rfl
  | int _ => rw [r.int]; rfl
  | str _ => rw [r.str]; rfl
  | lst _ => obtain ⟨_, _, rfl, _⟩ := r.lst; rfl
  | tup _ => obtain ⟨_, _, rfl, _⟩ := r.tup; rfl
  | ins _ _ _ => obtain ⟨_, _, _, rfl, _⟩ := r.ins; rfl
  | raw u => exact absurd rfl (h u)
/-! ### sorted(xs) of whole numbers -/
def fSorted : GC := fun ds Q => match ds with
  | [.lst xs] => ∃ ns : List Int, xs = ns.map .int ∧ ∀ ns' : List Int, ns'.Perm ns → ns'.Pairwise (· ≤ ·) → Q (.ow (.lst (ns'.map .int)))
  | _ => False
theorem b_sorted : CallD X (.builtin "sorted") fSorted := by
  refine ⟨_, cr_sortedI, fun {b g σ S H ds vs Qd Q} R rs hd k => ?_⟩
  match ds, hd with
  | [.lst xs], ⟨ns, e, hd⟩ =>
    subst e
    obtain ⟨v, rfl, r⟩ := rs.one
    obtain ⟨a, ws, rfl, q, rw'⟩ := r.lst
    rw [rw'.ints] at q
    refine ⟨a, ns, rfl, .inl (Rd.le R.le q), fun ns' p hp hs hn => ?_⟩
    obtain ⟨R', x', rp⟩ := R.lst hn (Reps.ofInts (K := X.K) (S := S) ns')
    exact k _ _ _ _ (hd ns' hp hs) R' x' rp
end
end DL

set_option maxRecDepth 100000
set_option maxHeartbeats 4000000
/-! short words -/
namespace DL
open PySem L2
section
variable {X : Cx} {K : PySem.W.Frag} {x f : Str} {e a b c ix value : Expr} {es : List Expr} {pos p' pos' ps apos cpos : Pos}
theorem dv (i : Nat) (hN : X.N[i]? = some x := by rfl) (hv : Vis X.env.scope x := by first | exact Or.inl rfl | exact Or.inr (Or.inl rfl) | exact Or.inr (Or.inr rfl)) (hd : (x == ("__debug__" : Str)) = false := by decide) (hcd : (x == ("__classdict__" : Str)) = false := by decide) :
    ED X (.Name x pos) (eVar i) := ed_var hN hv hd hcd
theorem xv (i : Nat) (hN : X.N[i]? = some x := by rfl) (hv : Vis X.env.scope x := by first | exact Or.inl rfl | exact Or.inr (Or.inl rfl) | exact Or.inr (Or.inr rfl)) (hd : (x == ("__debug__" : Str)) = false := by decide) (hcd : (x == ("__classdict__" : Str)) = false := by decide) :
    EX X (.Name x pos) (xVar i) := ex_var hN hv hd hcd
theorem tv (i : Nat) (hN : X.N[i]? = some x := by rfl) (hv : Vis X.env.scope x := by first | exact Or.inl rfl | exact Or.inr (Or.inl rfl) | exact Or.inr (Or.inr rfl)) (hd : (x == ("__debug__" : Str)) = false := by decide) (hcd : (x == ("__classdict__" : Str)) = false := by decide) :
    TD X (.Name x pos) (tTruV i) := td_truV hN hv hd hcd
theorem ixv (i : Nat) {db : DE} (hb : ED X b db) (hs : PlainIx b := by exact fun _ _ => rfl) (hN : X.N[i]? = some x := by rfl) (hv : Vis X.env.scope x := by first | exact Or.inl rfl | exact Or.inr (Or.inl rfl) | exact Or.inr (Or.inr rfl)) (hd : (x == ("__debug__" : Str)) = false := by decide) (hcd : (x == ("__classdict__" : Str)) = false := by decide) :
    ED X (.Subscript (.Name x p') b pos) (eIxV i db) := ed_ixV hN hv hb hs hd hcd
theorem lenv (i : Nat) {y : Str} {p : Pos} (hm : X.mg "len" = none) (hg : Gl X "len" := by rfl) (hN : X.N[i]? = some y := by rfl) (hv : Vis X.env.scope y := by first | exact Or.inl rfl | exact Or.inr (Or.inl rfl) | exact Or.inr (Or.inr rfl)) (hd : (y == ("__debug__" : Str)) = false := by decide) (hcd : (y == ("__classdict__" : Str)) = false := by decide)
    (he : starEach [.Name y p'] X.env = (false, eval (.Name y p') X.env) :: starEach [] X.env := by rfl) (hpl : (backTo pos (starEach [] X.env)).any (·.1) = false := by rfl) :
    ED X (.Call (.Name "len" p) [.Name y p'] [] pos) (eLenV i) := ed_lenV hN hv hg hm PySem.boot_len (by decide) (by decide) hd hcd he hpl
theorem fldv (i : Nat) (hb : attributeBase (.Name x p') f X.env (eval (.Name x p') X.env) = eval (.Name x p') X.env := by rfl) (hN : X.N[i]? = some x := by rfl) (hv : Vis X.env.scope x := by first | exact Or.inl rfl | exact Or.inr (Or.inl rfl) | exact Or.inr (Or.inr rfl)) (hd : (x == ("__debug__" : Str)) = false := by decide) (hcd : (x == ("__classdict__" : Str)) = false := by decide) :
    ED X (.Attribute (.Name x p') f pos) (eFldV f i) := ed_fldV hN hv hb hd hcd
theorem fld (i : Nat) {C : Addr} {de : DE} (cl : Cls X.K C) (na : NoAttr X.K C f) (he : ED X value de) (hN : X.N[i]? = some x := by rfl) (hv : Vis X.env.scope x := by first | exact Or.inl rfl | exact Or.inr (Or.inl rfl) | exact Or.inr (Or.inr rfl))
    (hs : swapsWith value (some (.Attribute (.Name x p') f pos')) pos.line X.env = pure false := by rfl) (hd : (x == ("__debug__" : Str)) = false := by decide) (hcd : (x == ("__classdict__" : Str)) = false := by decide) :
    SD X (.Assign [.Attribute (.Name x p') f pos'] value pos) (sFldSet C f i de) := sd_fld cl na hN hv he hs hd hcd
theorem setix (i : Nat) {de di : DE} (he : ED X e de) (hi : ED X ix di) (hN : X.N[i]? = some x := by rfl) (hv : Vis X.env.scope x := by first | exact Or.inl rfl | exact Or.inr (Or.inl rfl) | exact Or.inr (Or.inr rfl))
    (ha : ∀ v, assign (.Subscript (.Name x p') ix ps) X.env v = (do
      let ov ← holding [v] (eval (.Name x p') X.env)
      let iv ← holding [v, ov] (eval ix X.env)
      standAt ps
      holding [v, ov, iv] (setItem ov iv v)
      release [v, ov, iv] []) := by intro _; rfl)
    (hs : swapsWithSole [.Subscript (.Name x p') ix ps] e pos.line X.env = pure false := by rfl) (hw : swappedStores [.Subscript (.Name x p') ix ps] e X.env = pure none := by rfl)
    (h1 : (assignEach [.Subscript (.Name x p') ix ps] X.env).map (·.2) = [assign (.Subscript (.Name x p') ix ps) X.env] := by rfl)
    (hd : (x == ("__debug__" : Str)) = false := by decide) (hcd : (x == ("__classdict__" : Str)) = false := by decide) : SD X (.Assign [.Subscript (.Name x p') ix ps] e pos) (sSetIx i de di) := sd_setix hN hv he hi ha hs hw h1 hd hcd
theorem qv (i : Nat) {n : Nat} {dq : DQ} (hq : QD X es n dq) (hN : X.N[i]? = some x := by rfl) (hv : Vis X.env.scope x := by first | exact Or.inl rfl | exact Or.inr (Or.inl rfl) | exact Or.inr (Or.inr rfl)) (hs : starEach (.Name x pos :: es) X.env = (false, eval (.Name x pos) X.env) :: starEach es X.env := by rfl)
    (hd : (x == ("__debug__" : Str)) = false := by decide) (hcd : (x == ("__classdict__" : Str)) = false := by decide) : QD X (.Name x pos :: es) (n + 1) (qVar i dq) := qd_var hN hv hq hs hd hcd
theorem app (i : Nat) {de : DE} (he : ED X e de) (hN : X.N[i]? = some x := by rfl) (hv : Vis X.env.scope x := by first | exact Or.inl rfl | exact Or.inr (Or.inl rfl) | exact Or.inr (Or.inr rfl))
    (hbase : attributeBase (.Name x p') "append" X.env (eval (.Name x p') X.env) = eval (.Name x p') X.env := by rfl)
    (hfew : ((backTo cpos (starEach [e] X.env)).all (fun x => !x.1) && (backToKw cpos (keywordEach [] X.env)).all (fun x => x.1.isSome)
      && decide ([e].length + ([] : List Keyword).length + (if ([] : List Keyword).isEmpty then 0 else 1) < 30)) = true := by rfl)
    (hline : (apos.endLine == cpos.line) = true := by rfl) (hs : starEach [e] X.env = (false, eval e X.env) :: starEach [] X.env := by rfl) (hplain : (backTo cpos (starEach [] X.env)).any (·.1) = false := by rfl)
    (hd : (x == ("__debug__" : Str)) = false := by decide) (hcd : (x == ("__classdict__" : Str)) = false := by decide) :
    EX X (.Call (.Attribute (.Name x p') "append" apos) [e] [] cpos) (xApp i de) := ex_app hN hv he hbase hfew hline hs hplain hd hcd
theorem popv (i : Nat) (hN : X.N[i]? = some x := by rfl) (hv : Vis X.env.scope x := by first | exact Or.inl rfl | exact Or.inr (Or.inl rfl) | exact Or.inr (Or.inr rfl))
    (hbase : attributeBase (.Name x p') "pop" X.env (eval (.Name x p') X.env) = eval (.Name x p') X.env := by rfl) (hline : (apos.endLine == cpos.line) = true := by rfl)
    (hd : (x == ("__debug__" : Str)) = false := by decide) (hcd : (x == ("__classdict__" : Str)) = false := by decide) :
    EX X (.Call (.Attribute (.Name x p') "pop" apos) [] [] cpos) (xPop i) := ex_pop hN hv hbase hline hd hcd
end
end DL

set_option maxRecDepth 100000
set_option maxHeartbeats 4000000
namespace DL
open PySem L2
section
variable {X : Cx} {K : PySem.W.Frag} {e a b c fe : Expr} {es : List Expr} {pos p' p ps : Pos} {x y z : Str}
/-! ### is None -/
def nRaw : D → Bool
  | .raw _ => false
  | _ => true
def fIsN' : G2 := fun x y Q => match y with
  | .non => nRaw x = true ∧ Q (.sh (.bl (isNon x)))
  | _ => False
def fNotN' : G2 := fun x y Q => match y with
  | .non => nRaw x = true ∧ Q (.sh (.bl (!isNon x)))
  | _ => False
theorem nRaw_ok {x : D} (h : nRaw x = true) : ∀ u, x ≠ .raw u := by rintro u rfl; cases h
theorem d_isN : OpD X (compareOp .Is) fIsN' := by
  refine ⟨_, op_isN, fun {b g σ S H x y v w Qd Q} R rx ry hd k => ?_⟩
  cases y with
  | non =>
    obtain ⟨n, hd⟩ := hd
    have hw := ry.non
    refine ⟨hw, ?_⟩
    have e := isNon_ok rx (nRaw_ok n)
    exact k _ _ S H hd R .rfl (by rw [← e]; exact Rep.ofBl (K := X.K) (S := S) _)
  | _ => exact hd.elim
theorem d_notN : OpD X (compareOp .IsNot) fNotN' := by
  refine ⟨_, op_notN, fun {b g σ S H x y v w Qd Q} R rx ry hd k => ?_⟩
  cases y with
  | non =>
    obtain ⟨n, hd⟩ := hd
    have hw := ry.non
    refine ⟨hw, ?_⟩
    have e := isNon_ok rx (nRaw_ok n)
    exact k _ _ S H hd R .rfl (by rw [← e]; exact Rep.ofBl (K := X.K) (S := S) _)
  | _ => exact hd.elim
/-! ### x, y, z = a, b, c -/
theorem Rel.setR3 {bs : Bs} {g0 g : G} {σ : St} {Hs S H : Hp} {i j l : Nat} {v w u : V} {r r2 r3 : R} (R : Rel K bs ((g.set i r.slot).set j r2.slot) ((σ.set i (some v)).set j (some w)) S H)
    (ne : ∀ o o2, r = .ow o → r3 = .ow o2 → v ≠ u) (ne2 : ∀ o o2, r2 = .ow o → r3 = .ow o2 → w ≠ u) (h : RRep K bs g0 Hs g σ S H u r3) :
    Rel K bs (((g.set i r.slot).set j r2.slot).set l r3.slot) (((σ.set i (some v)).set j (some w)).set l (some u)) S H := by
  cases r3 with
  | sh d2 => exact R.setSh h
  | ow o =>
    obtain ⟨c, rfl, z, z0, ok, n, fr⟩ := h
    refine R.set ⟨c, rfl, z, z0, ok⟩ fun _ c' e ⟨k, q⟩ => ?_
    cases e
    rcases own_set q with ⟨_, w, e⟩ | ⟨_, q⟩
    · cases r2 with
      | sh _ => cases w
      | ow o1 => exact ne2 o1 o rfl rfl (Option.some.inj e)
    · rcases own_set q with ⟨_, w, e⟩ | ⟨_, q⟩
      · cases r with
        | sh _ => cases w
        | ow o1 => exact ne o1 o rfl rfl (Option.some.inj e)
      · exact n ⟨k, q⟩
def sPar3 (i j l : Nat) (d u t : DX) : DS := fun De g => d g fun r g1 => u g1 fun r2 g2 => t g2 fun r3 g3 => De.nx (((g3.set i r.slot).set j r2.slot).set l r3.slot)
theorem sd_par3 {i j l : Nat} {d u t : DX} {px py pz pt : Pos} {kt k2 pt2} (hc : X.calm = true) (hN : X.N.Nodup) (hi : X.N[i]? = some x) (hj : X.N[j]? = some y) (hl : X.N[l]? = some z) (hij : i ≠ j) (hil : i ≠ l) (hjl : j ≠ l)
    (hx : X.env.scope.names.lookup x = some .local) (hy : X.env.scope.names.lookup y = some .local) (hz : X.env.scope.names.lookup z = some .local) (ha : EX X a d) (hb : EX X b u) (hc' : EX X c t)
    (hw : swappedStores [.Tuple [.Name x px, .Name y py, .Name z pz] kt pt] (.Tuple [a, b, c] k2 pt2) X.env = pure (some [x, y, z]))
    (hs : swapsWithSole [.Tuple [.Name x px, .Name y py, .Name z pz] kt pt] (.Tuple [a, b, c] k2 pt2) pos.line X.env = pure false := by rfl)
    (h1 : starEach [a, b, c] X.env = (false, eval a X.env) :: starEach [b, c] X.env := by rfl) (h2 : starEach [b, c] X.env = (false, eval b X.env) :: starEach [c] X.env := by rfl) (h3 : starEach [c] X.env = (false, eval c X.env) :: starEach [] X.env := by rfl) :
    SD X (.Assign [.Tuple [.Name x px, .Name y py, .Name z pz] kt pt] (.Tuple [a, b, c] k2 pt2) pos) (sPar3 i j l d u t) := by
  obtain ⟨t1, p1, s1⟩ := ha
  obtain ⟨t2, p2, s2⟩ := hb
  obtain ⟨t3, p3, s3⟩ := hc'
  refine ⟨_, ps_par3 hc hN hi hj hl hij hil hjl hx hy hz (pa_cons p1 (pa_cons p2 (pa_cons p3 pa_nil h3) h2) h1) hw hs, fun {b g σ S H De D} R hd E => s1 R hd fun r g1 v S1 H1 q1 R1 x1 r1 => s2 R1 q1 fun r2 g2 w S2 H2 q2 R2 x2 rr2 => s3 R2 q2 fun r3 g3 u S3 H3 q3 R3 x3 rr3 => ⟨v, w, u, rfl, E.nx (S := S3) q3 ?_⟩⟩
  have r1' := r1.stay x2
  have r1'' := r1'.stay x3
  have r2' := rr2.stay x3
  exact ((R3.setR (i := i) r1'').setR2 (r1.ne rr2) r2').setR3 (r1'.ne rr3) (rr2.ne rr3) rr3
/-! ### o(..) of an object -/
def xCallO (C : Addr) (sp : DSp) (de : DE) (da : DA) : DX := fun g Q => de g fun x g1 => match x with
  | .ins C' ns ds => C' = C ∧ da g1 fun as g2 => callK sp (.sh x :: as.map .sh) g2 Q fun _ _ _ => False
  | _ => False
theorem ex_callO {C fa : Addr} {fd : FuncData} {pss : List Str} {k n j : Nat} {sp : DSp} {de : DE} {da : DA} (he : ED X fe de) (cO : StX.CallO X.K C fa) (F : FnOk X.prog X.w X.K X.mg X.base CX0 k fa fd pss (spD X.K j sp)) (hb : Binds X.K fd pss []) (hr : Room k X.A)
    (ha : AD X (e :: es) n da) (hj : n + 1 = j) (hev : eval (.Call fe (e :: es) [] pos) X.env = (do
      let f ← eval fe X.env
      callWith pos f [] (backTo pos (starEach (e :: es) X.env)) (backToKw pos (keywordEach [] X.env))) := by rfl)
    (he2 : starEach (e :: es) X.env = (false, eval e X.env) :: starEach es X.env := by rfl) (hpl : (backTo pos (starEach es X.env)).any (·.1) = false := by rfl) : EX X (.Call fe (e :: es) [] pos) (xCallO C sp de da) := by
  obtain ⟨te, pe, se⟩ := he
  obtain ⟨ta, pa, sa⟩ := ha
  refine ⟨_, StX.pe_callO pe cO (F.raw hb .nil) hr pass0 pa hev he2 hpl, fun {b g σ S H Qd Q} R h k => se R h fun x g1 v S1 H1 q1 R1 x1 r1 => ?_⟩
  cases x with
  | ins C' ns ds =>
    obtain ⟨ec, q1⟩ := q1
    subst ec
    obtain ⟨a, dx, vs, rfl, h, l, io, rs⟩ := id r1.ins
    refine ⟨a, rfl, sa R1 q1 fun ds2 g2 us S2 H2 q2 R2 x2 r2 l2 => ?_⟩
    refine ⟨.inr ⟨dx, _, R2.le _ _ (x2.le _ _ h)⟩, ?_⟩
    show spD X.K j sp ((V.ref a :: us) ++ []) H2 Q E0
    rw [List.append_nil]
    exact call_sound R2 (as := .sh (.ins C' ns ds) :: ds2.map .sh) ⟨_, _, rfl, Rep.le x2.le _ _ r1, ArOk.ofReps r2⟩ (by rw [List.length_cons, List.length_map, l2, hj]) q2 fun r g3 v S3 H3 q3 R3 x3 rr => k r g3 v S3 H3 q3 R3 ((x1.trans x2).trans x3) (rr.from (x1.trans x2))
  | _ => exact q1.elim
/-! ### list(range(n)) -/
def xListRg1 (de : DE) : DX := fun g Q => de g fun x g1 => match x with
  | .int n => (0 ≤ n ∧ n < 2 ^ 24) ∧ Q (.ow (.lst (rngD 0 n.toNat))) g1
  | _ => False
theorem rgV_reps {S : Hp} {n : Int} : Reps K S (rngD 0 n.toNat) (rgV 0 n) := by
  unfold rngD rgV
  rw [Int.sub_zero]
  generalize List.range n.toNat = l
  induction l with
  | nil => exact .nil
  | cons i l ih => exact .cons (Rep.ofInt _) ih
theorem ex_listRg1 {de : DE} (hc : X.calm = true) (hl : X.mg "list" = none) (hm : X.mg "range" = none) (he : ED X a de) (h1 : starEach [a] X.env = (false, eval a X.env) :: starEach [] X.env := by rfl) (hgl : Gl X "list" := by rfl) (hgr : Gl X "range" := by rfl)
    (h2 : starEach [.Call (.Name "range" p) [a] [] p'] X.env = (false, eval (.Call (.Name "range" p) [a] [] p') X.env) :: starEach [] X.env := by rfl) : EX X (.Call (.Name "list" ps) [.Call (.Name "range" p) [a] [] p'] [] pos) (xListRg1 de) := by
  obtain ⟨te, pe, se⟩ := he
  refine ⟨_, pe_listRg hc hgl hl (prg_1 hgr hm pe h1) h2, fun {b g σ S H Qd Q} R h k => se R h fun x g1 v S1 H1 q1 R1 x1 r1 => ?_⟩
  cases x with
  | int n =>
    obtain ⟨hn, q1⟩ := q1
    have := r1.int
    subst this
    refine ⟨n, rfl, ⟨by decide, by decide, ?_, ?_, ?_⟩, fun q hq => ?_⟩
    · omega
    · omega
    · omega
    · obtain ⟨R', x', rp⟩ := R1.lst hq (rgV_reps (K := X.K) (S := S1) (n := n))
      exact k _ _ _ _ _ q1 R' (x1.trans x') (rp.from x1)
  | _ => exact q1.elim
end
section
variable {K : PySem.W.Frag} {P : Program} {w : World} {mg : Str → Option Value} {base : Heap}
/-- a def with defaults -/
theorem fnDD {x qual : Str} {params : Arguments} {body : List Stmt} {scope : Scope} {dvs : List V} {kws : List (Str × V)} {f : Addr} {fd : FuncData} {N ps : List Str} {k n : Nat} {ds : DSp} (F : FunD K x qual params body scope dvs kws f fd) (Sc : FnScope N ps scope) (hn : ps.length = n)
    (hb : ∀ (cdv : Value) (A : Around) (outer : List Env) (s : Shared) (H : Hp) (E : XK), Room k (A.deeper (PyProof.Rows.envOfC qual scope s.heap.objs.size f cdv)) →
      ∃ d, BD (cxOf CX0 P w K mg base N qual scope f cdv A outer s H E) body d ∧ ∀ g Qd Ed, ds g Qd Ed → d (bodyEnds g Qd) (startG N.length g)) : FnOk P w K mg base CX0 (k + 1) f fd ps (spD K n ds) := by
  refine F.ok Sc (fun vs H Q E h => ?_) (fun cdv A outer s H vs Q E hr h => ?_)
  · obtain ⟨S, g, O0, Qd, Ed, l, _⟩ := h
    rw [l, hn]
  · obtain ⟨S, g, O0, Qd, Ed, l, R, bn, hd, kk, _⟩ := h
    obtain ⟨d, ⟨t, hp, hs⟩, hq⟩ := hb cdv A outer s H E hr
    have hl : vs.length ≤ N.length := by
      have := congrArg List.length Sc.pre
      rw [List.length_take] at this
      omega
    exact ⟨t, hp, hs (R.start hl) (hq g Qd Ed hd) (bodyEnds_ok bn (fun _ _ q => q) kk)⟩
end
end DL

set_option maxRecDepth 100000
set_option maxHeartbeats 4000000
namespace DL
open PySem L2
section
variable {X : Cx} {K : PySem.W.Frag} {st : Stmt} {rest : List Stmt}
/-- what stands behind a statement is done from all that a wish I tells -/
def sCut (d u : DS) : DS := fun De g => ∃ I : G → Prop, d { De with nx := I } g ∧ ∀ g', I g' → u De g'
theorem bd_cut {d u : DS} (h1 : SD X st d) (h2 : BD X rest u) : BD X (st :: rest) (sCut d u) := by
  obtain ⟨t, p1, s1⟩ := h1
  obtain ⟨t2, p2, s2⟩ := h2
  exact ⟨_, pss_cons p1 p2, fun {b g σ S H De D} R ⟨I, hd, hk⟩ E => s1 R hd ⟨fun q R1 => s2 R1 (hk _ q) E, E.rt, E.bk, E.ct⟩⟩
end
/-- a law's box of draws: its cells, how many are taken, what is left of a great one, the seed, how often -/
def IsBox (bs : List D) : Prop := ∃ (cs : List Int) (p a c n : Int), bs = [.lst (cs.map .int), .int p, .int a, .int c, .int n] ∧ cs.length ≤ 63 ∧ 0 ≤ p ∧ 0 ≤ a ∧ 0 ≤ c ∧ c < 2147483648
def spBoxD : DSp := fun g Q _ => ∃ cs : List Int, g = [.sh (.lst (cs.map .int))] ∧ cs.length ≤ 63 ∧ ∀ bs, IsBox bs → Q (.ow (.lst bs)) []
def spDrawD : DSp := fun g Q _ => ∃ bs m, g = [.bx 0 (.lst bs), .sh (.int m)] ∧ IsBox bs ∧ (0 < m ∧ m < 2 ^ 64) ∧ ∀ bs' n, IsBox bs' → 0 ≤ n → n < m → Q (.sh (.int n)) [.lst bs']
/-- one of a list or a tuple -/
def spOfD : DSp := fun g Q _ => ∃ bs x xs, g = [.bx 0 (.lst bs), .sh x] ∧ (x = .lst xs ∨ x = .tup xs) ∧ IsBox bs ∧ (xs ≠ [] ∧ xs.length < 2 ^ 63) ∧ ∀ bs' (i : Nat) d, IsBox bs' → xs[i]? = some d → Q (.sh d) [.lst bs']
theorem atI_some {xs : List D} {n : Int} (h0 : 0 ≤ n) (h1 : n < xs.length) : ∃ d, L2.atI xs n = some d ∧ xs[n.toNat]? = some d := by
  have q : xs[n.toNat]? = some xs[n.toNat] := List.getElem?_eq_getElem (by omega)
  refine ⟨_, ?_, q⟩
  have z := atI_nat q
  rw [show ((n.toNat : Nat) : Int) = n by omega] at z
  exact z
theorem at_intD {ns : List Int} {i : Nat} {v : D} (h : (ns.map D.int)[i]? = some v) : ∃ n, ns[i]? = some n ∧ v = .int n := by
  rw [List.getElem?_map] at h
  cases e : ns[i]? with
  | none => rw [e] at h; cases h
  | some n => rw [e] at h; exact ⟨n, rfl, (Option.some.inj h).symm⟩
/-- plain data, so deep -/
def PlainD : Nat → D → Prop
  | _, .non => True
  | _, .bl _ => True
  | _, .int _ => True
  | _, .str _ => True
  | n + 1, .lst xs => xs.length ≤ sizeLine ∧ ∀ x ∈ xs, PlainD n x
  | n + 1, .tup xs => xs.length ≤ sizeLine ∧ ∀ x ∈ xs, PlainD n x
  | _, _ => False
def spNever : DSp := fun _ _ _ => False
theorem neverD {P : Program} {w : World} {K : PySem.W.Frag} {mg : Str → Option Value} {base : Heap} {k n : Nat} {f : Addr} {fd : FuncData} {ps : List Str} : FnOk P w K mg base CX0 k f fd ps (spD K n spNever) :=
  ⟨fun _ _ _ _ h => by obtain ⟨_, _, _, _, _, _, _, _, h, _⟩ := h; exact h.elim, fun _ _ _ _ _ _ _ _ _ _ _ _ _ h => by obtain ⟨_, _, _, _, _, _, _, _, h, _⟩ := h; exact h.elim⟩
/-- the same plain thing twice: told to be the same -/
def spSameD (n : Nat) : DSp := fun g Q _ => ∃ d, g = [.sh d, .sh d] ∧ PlainD n d ∧ Q (.sh (.bl true)) []
def spSameP : Nat → DSp
  | 0 => spNever
  | n + 1 => spSameD n
end DL

set_option maxRecDepth 100000
set_option maxHeartbeats 4000000
namespace DL
open PySem L2
section
variable {X : Cx} {K : PySem.W.Frag} {e1 e2 e3 e4 : Expr} {pos pt pt2 p1 p2 p3 p4 : Pos} {x1 x2 x3 x4 : Str}
/-- a result is stored; what other results own stays apart -/
theorem Rel.setRn {bs : Bs} {g0 g gg : G} {σ τ : St} {Hs S H : Hp} {l : Nat} {u : V} {r : R} (R : Rel K bs gg τ S H) (h : RRep K bs g0 Hs g σ S H u r) (no : ∀ o a, r = .ow o → u = .ref a → Ows gg τ a → Ows g σ a) : Rel K bs (gg.set l r.slot) (τ.set l (some u)) S H := by
  cases r with
  | sh d2 => exact R.setSh h
  | ow o =>
    obtain ⟨c, rfl, z, z0, ok, n, fr⟩ := h
    exact R.set ⟨c, rfl, z, z0, ok⟩ fun _ c' e y => by
      cases e
      exact n (no o c rfl rfl y)
theorem ows_set {g : G} {τ : St} {l : Nat} {u : V} {r : R} {a : Addr} (h : Ows (g.set l r.slot) (τ.set l (some u)) a) : (u = .ref a ∧ ∃ o, r = .ow o) ∨ Ows g τ a := by
  obtain ⟨k, q⟩ := h
  rcases own_set q with ⟨_, w, e⟩ | ⟨_, q⟩
  · cases r with
    | sh _ => cases w
    | ow o => exact .inl ⟨Option.some.inj e, o, rfl⟩
  · exact .inr ⟨k, q⟩
def sPar4 (i j l m : Nat) (d1 d2 d3 d4 : DX) : DS := fun De g => d1 g fun r1 g1 => d2 g1 fun r2 g2 => d3 g2 fun r3 g3 => d4 g3 fun r4 g4 => De.nx ((((g4.set i r1.slot).set j r2.slot).set l r3.slot).set m r4.slot)
theorem sd_par4 {i j l m : Nat} {d1 d2 d3 d4 : DX} {kt k2 : Nat} (hc : X.calm = true) (hN : X.N.Nodup) (hi : X.N[i]? = some x1) (hj : X.N[j]? = some x2) (hl : X.N[l]? = some x3) (hm : X.N[m]? = some x4)
    (h1 : Loc X.env.scope x1) (h2 : Loc X.env.scope x2) (h3 : Loc X.env.scope x3) (h4 : Loc X.env.scope x4) (he1 : EX X e1 d1) (he2 : EX X e2 d2) (he3 : EX X e3 d3) (he4 : EX X e4 d4)
    (hfn : ∀ x, X.fn x = true := by intro _; rfl)
    (ha1 : starEach [e1, e2, e3, e4] X.env = (false, eval e1 X.env) :: starEach [e2, e3, e4] X.env := by rfl) (ha2 : starEach [e2, e3, e4] X.env = (false, eval e2 X.env) :: starEach [e3, e4] X.env := by rfl)
    (ha3 : starEach [e3, e4] X.env = (false, eval e3 X.env) :: starEach [e4] X.env := by rfl) (ha4 : starEach [e4] X.env = (false, eval e4 X.env) :: starEach [] X.env := by rfl)
    (hs : swapsWithSole [.Tuple [.Name x1 p1, .Name x2 p2, .Name x3 p3, .Name x4 p4] kt pt] (.Tuple [e1, e2, e3, e4] k2 pt2) pos.line X.env = pure false := by rfl)
    (hw : swappedStores [.Tuple [.Name x1 p1, .Name x2 p2, .Name x3 p3, .Name x4 p4] kt pt] (.Tuple [e1, e2, e3, e4] k2 pt2) X.env = pure none := by rfl)
    (hn : (assignEach [.Name x1 p1, .Name x2 p2, .Name x3 p3, .Name x4 p4] X.env).length = 4 := by rfl) (hst : (assignEach [.Name x1 p1, .Name x2 p2, .Name x3 p3, .Name x4 p4] X.env).findIdx? (·.1) = none := by rfl)
    (hA : (assignEach [.Tuple [.Name x1 p1, .Name x2 p2, .Name x3 p3, .Name x4 p4] kt pt] X.env).map (·.2) = [assign (.Tuple [.Name x1 p1, .Name x2 p2, .Name x3 p3, .Name x4 p4] kt pt) X.env] := by rfl)
    (hg1 : (assignEach [.Name x1 p1, .Name x2 p2, .Name x3 p3, .Name x4 p4] X.env).map (·.2) = assign (.Name x1 p1) X.env :: (assignEach [.Name x2 p2, .Name x3 p3, .Name x4 p4] X.env).map (·.2) := by rfl)
    (hg2 : (assignEach [.Name x2 p2, .Name x3 p3, .Name x4 p4] X.env).map (·.2) = assign (.Name x2 p2) X.env :: (assignEach [.Name x3 p3, .Name x4 p4] X.env).map (·.2) := by rfl)
    (hg3 : (assignEach [.Name x3 p3, .Name x4 p4] X.env).map (·.2) = assign (.Name x3 p3) X.env :: (assignEach [.Name x4 p4] X.env).map (·.2) := by rfl)
    (hg4 : (assignEach [.Name x4 p4] X.env).map (·.2) = assign (.Name x4 p4) X.env :: (assignEach [] X.env).map (·.2) := by rfl) :
    SD X (.Assign [.Tuple [.Name x1 p1, .Name x2 p2, .Name x3 p3, .Name x4 p4] kt pt] (.Tuple [e1, e2, e3, e4] k2 pt2) pos) (sPar4 i j l m d1 d2 d3 d4) := by
  obtain ⟨t1, q1, s1⟩ := he1
  obtain ⟨t2, q2, s2⟩ := he2
  obtain ⟨t3, q3, s3⟩ := he3
  obtain ⟨t4, q4, s4⟩ := he4
  refine ⟨_, ps_asg (pe_tup (pa_cons q1 (pa_cons q2 (pa_cons q3 (pa_cons q4 pa_nil ha4) ha3) ha2) ha1))
    (pg_tup hc (pgs_cons (pg_name (i := i) hN hi h1 (.inl (hfn _))) (pgs_cons (pg_name (i := j) hN hj h2 (.inl (hfn _))) (pgs_cons (pg_name (i := l) hN hl h3 (.inl (hfn _))) (pgs_cons (pg_name (i := m) hN hm h4 (.inl (hfn _))) pgs_nil hg4) hg3) hg2) hg1) hn hst) hs hw hA, ?_⟩
  refine fun {b g σ S H De D} R hd E => s1 R hd fun r1 g1 v1 S1 H1 w1 R1 x1 rr1 => s2 R1 w1 fun r2 g2 v2 S2 H2 w2 R2 x2 rr2 => s3 R2 w2 fun r3 g3 v3 S3 H3 w3 R3 x3 rr3 => s4 R3 w3 fun r4 g4 v4 S4 H4 w4 R4 x4 rr4 => ⟨small_line (show 4 ≤ 100000 by decide), fun tp htp => ?_⟩
  refine ⟨tp, _, rfl, SqT.of upd_same, rfl, _, _, rfl, _, _, rfl, _, _, rfl, _, _, rfl, rfl, E.nx (S := S4) w4 ?_⟩
  have RT := R4.newOw (o := .tup [v1, v2, v3, v4]) htp
  have XT : Ext g4 σ S4 H4 g4 S4 (upd H4 tp (.tup [v1, v2, v3, v4])) := .newOw htp
  have a2 := rr1.stay x2
  have a3 := a2.stay x3
  have a4 := (a3.stay x4).stay XT
  have b3 := rr2.stay x3
  have b4 := (b3.stay x4).stay XT
  have c4 := (rr3.stay x4).stay XT
  have d4' := rr4.stay XT
  have n12 := rr1.ne rr2
  have n13 := a2.ne rr3
  have n14 := a3.ne rr4
  have n23 := rr2.ne rr3
  have n24 := b3.ne rr4
  have n34 := rr3.ne rr4
  refine ((((RT.setR (i := i) a4).setRn b4 fun o a e eu y => ?_).setRn c4 fun o a e eu y => ?_).setRn d4' fun o a e eu y => ?_)
  · rcases ows_set y with ⟨e1, o1, h⟩ | y
    · exact absurd (e1.trans eu.symm) (n12 o1 o h e)
    · exact y
  · rcases ows_set y with ⟨e1, o1, h⟩ | y
    · exact absurd (e1.trans eu.symm) (n23 o1 o h e)
    rcases ows_set y with ⟨e1, o1, h⟩ | y
    · exact absurd (e1.trans eu.symm) (n13 o1 o h e)
    · exact y
  · rcases ows_set y with ⟨e1, o1, h⟩ | y
    · exact absurd (e1.trans eu.symm) (n34 o1 o h e)
    rcases ows_set y with ⟨e1, o1, h⟩ | y
    · exact absurd (e1.trans eu.symm) (n24 o1 o h e)
    rcases ows_set y with ⟨e1, o1, h⟩ | y
    · exact absurd (e1.trans eu.symm) (n14 o1 o h e)
    · exact y
end
end DL

set_option maxRecDepth 100000
set_option maxHeartbeats 4000000
/-! between promises over data and over the machine, where all arguments are whole numbers -/
namespace DL
open PySem L2
abbrev intG (is : List Int) : G := is.map fun i => .sh (.int i)
theorem ints_get {is : List Int} {i : Nat} {s : Sl} (h : (intG is)[i]? = some s) : ∃ n, is[i]? = some n ∧ s = .sh (.int n) := by
  rw [List.getElem?_map] at h
  cases e : is[i]? with
  | none => rw [e] at h; cases h
  | some n => rw [e] at h; exact ⟨n, rfl, (Option.some.inj h).symm⟩
theorem ints_bx : ∀ (is : List Int) (k : Nat), bxN k (intG is) = some k
  | [], _ => rfl
  | _ :: is, k => ints_bx is k
theorem ints_own {is : List Int} {σ : St} {i : Nat} {a : Addr} (h : Own (intG is) σ i a) : False := by
  obtain ⟨s, e, w, _⟩ := h
  obtain ⟨n, _, rfl⟩ := ints_get e
  cases w
theorem rel_ints {K : PySem.W.Frag} {H : Hp} (is : List Int) : Rel K ⟨H, H, []⟩ (intG is) ((is.map V.int).map some) H H where
  len := by simp
  le := Le.rfl
  dom := fun a o h => ⟨o, h⟩
  keep := fun a o h _ => h
  grow := fun a o h => .inl h
  base := Le.rfl
  slot := fun i s e => by
    obtain ⟨n, h, rfl⟩ := ints_get e
    exact ⟨.int n, by rw [List.getElem?_map, List.getElem?_map, h]; rfl, Rep.ofInt n⟩
  dis := fun i j a x _ => (ints_own x).elim
theorem spD_ints {K : PySem.W.Frag} {f : DSp} {is : List Int} {n : Nat} {H : Hp} {Q : VK} {E : XK} {Qd : R → List O → Prop} (hn : is.length = n) (h : f (intG is) Qd fun _ _ _ => False)
    (k : ∀ r os v S' H', Qd r os → Same H H' → Le S' H' → RVal K ⟨H, H, []⟩ S' H' v r → Q v H') : spD K n f (is.map V.int) H Q E :=
  ⟨H, _, [], Qd, _, by rw [List.length_map, hn], rel_ints is, ints_bx is 0, h, fun r os v S' H' q W _ rv => k r os v S' H' q (W.base.trans W.le) W.le rv, fun _ _ _ _ _ _ h => h.elim⟩
theorem ints_of_rel {K : PySem.W.Frag} {b : Bs} {is : List Int} {vs : List V} {S H : Hp} (R : Rel K b (intG is) (vs.map some) S H) : vs = is.map V.int := by
  have l := R.len
  rw [List.length_map, List.length_map] at l
  apply List.ext_getElem?
  intro i
  rw [List.getElem?_map]
  cases e : is[i]? with
  | none =>
    have := List.getElem?_eq_none_iff.mp e
    rw [List.getElem?_eq_none (by omega)]
    rfl
  | some n =>
    obtain ⟨v, q, r⟩ := R.slot i (.sh (.int n)) (by rw [List.getElem?_map, e]; rfl)
    rw [List.getElem?_map] at q
    have r := r.int
    subst r
    cases e2 : vs[i]? with
    | none => rw [e2] at q; cases q
    | some u => rw [e2] at q; cases q; rfl
/-- a promise over the machine that tells a shared result keeps one over data -/
theorem FnOk.ofInts {P : Program} {w : World} {K : PySem.W.Frag} {mg : Str → Option Value} {base : Heap} {k n : Nat} {f : Addr} {fd : FuncData} {ps : List Str} {sp : Sp} {ds : DSp} (F : FnOk P w K mg base CX0 k f fd ps sp)
    (hi : ∀ {g Qd Ed}, ds g Qd Ed → ∃ is d v, g = intG is ∧ (∀ S, Rep K S d v) ∧ Qd (.sh d) [] ∧ ∀ H (Q : VK) E, (∀ H', Same H H' → Q v H') → sp (is.map V.int) H Q E) : FnOk P w K mg base CX0 k f fd ps (spD K n ds) := by
  have key : ∀ (vs : List V) (H : Hp) (Q : VK) (E : XK), spD K n ds vs H Q E → sp vs H Q E := by
    rintro vs H Q E ⟨S, g, O0, Qd, Ed, l, R, bn, hd, kk, _⟩
    obtain ⟨is, d, v, rfl, rp, q, h⟩ := hi hd
    have e := ints_of_rel R
    subst e
    rw [ints_bx] at bn
    have o0 : O0 = [] := List.eq_nil_of_length_eq_zero (Option.some.inj bn).symm
    subst o0
    exact h H Q E fun H' g => kk (.sh d) [] v S H' q ⟨fun a o x => g a o (R.le a o x), fun a o x => ⟨o, g a o x⟩, fun a o x _ => g a o x, fun a o x => .inl x, Le.rfl⟩ ⟨rfl, fun k a e => by simp at e⟩ (rp S)
  exact ⟨fun vs H Q E h => F.len vs H Q E (key vs H Q E h), fun A outer s H args us vs Q E r e b v h => F.run A outer s H args us vs Q E r e b v (key vs H Q E h)⟩
/-! ### dict(t), t a tuple of pairs that the top wrote -/
def SqTP (K : PySem.W.Frag) (a : Addr) (xs : List V) : Prop := ∃ (o : Obj) (its : Array Value) (n : Nat), K.lookup a = some o ∧ o.cls = .type "tuple" ∧ o.dict = none ∧ o.data = .seq its n ∧ its.size ≤ sizeLine ∧ Vals xs its.toList
theorem SqTP.sq {K : PySem.W.Frag} {a : Addr} {xs : List V} {H : Hp} (h : SqTP K a xs) : SqT K H a xs := by
  obtain ⟨o, its, n, h1, h2, _, h3, h4, h5⟩ := h
  exact .inr ⟨o, its, n, h1, h2, h3, h4, h5⟩
section
variable {X : Cx}
theorem pairs_of2 {pins : List (Addr × Obj)} {σ : L2.St} {H : Hp} {s : Shared} (I : Inv X pins σ H s) : ∀ {ps : List Addr} {kvs : List (Key × V)}, Paired (fun p kv => SqT X.K H p [kV kv.1, kv.2]) ps kvs →
    ∃ (prs : List (Key × Value)) (uvs : List (Value × Value)), KV kvs prs ∧ prs.length = ps.length ∧ uvs.length = ps.length ∧ ∀ (j : Nat) (u v : Value), uvs[j]? = some (u, v) → ∃ (b : Addr) (k : Key), ps[j]? = some b ∧ prs[j]? = some (k, v) ∧ s.heap.IsTuple b #[u, v] ∧ keyIs k u = true
  | _, _, .nil => ⟨[], [], .nil, rfl, rfl, fun j u v e => by simp at e⟩
  | _, _, .cons (a := p) (b := kv) h t => by
    obtain ⟨prs, uvs, r, hl, hl2, hp⟩ := pairs_of2 I t
    obtain ⟨its, rv, ht, _⟩ := I.tuple h
    obtain ⟨u, y, ei, ru, ry⟩ := vals2 rv
    subst ei
    refine ⟨(kv.1, y) :: prs, (u, y) :: uvs, .cons ⟨rfl, ry⟩ r, by rw [List.length_cons, List.length_cons, hl], by rw [List.length_cons, List.length_cons, hl2], fun j u' v' e => ?_⟩
    cases j with
    | zero =>
      have e' : (u, y) = (u', v') := Option.some.inj e
      cases e'
      exact ⟨p, kv.1, rfl, rfl, ht, kV_is (P := X.prog) (w := X.w) ru⟩
    | succ j =>
      obtain ⟨b, k, e1, e2, e3⟩ := hp j u' v' (by simpa using e)
      exact ⟨b, k, by simpa using e1, by simpa using e2, e3⟩
theorem call_dictKT (hcalm : X.calm = true) : CallR X (.type "dict") (fun xs H Q => ∃ (a : Addr) (ps : List Addr) (kvs : List (Key × V)), xs = [.ref a] ∧ SqTP X.K a (ps.map V.ref) ∧ Paired (fun p kv => SqT X.K H p [kV kv.1, kv.2]) ps kvs ∧
    ∀ p, H p = none → Q (.ref p) (upd H p (.dK (mergeK [] kvs)))) := by
  intro pins s σ H xs us Q I r q
  obtain ⟨a, ps, kvs, ex, ⟨o, its, n, hk, hc, hd, hdat, hsz, hv⟩, hp, q⟩ := q
  subst ex
  obtain ⟨u, eu, rx⟩ := vals1 r
  subst eu
  cases rx
  have ei := refs_at hv
  obtain ⟨prs, uvs, rel, hl, hl2, hpr⟩ := pairs_of2 I hp
  have hzl : its.size = ps.length := by
    have := congrArg List.length ei
    rw [List.length_map] at this
    simpa using this
  refine PySem.call_dict_pairs (knd := mixKind X.prog X.w) (kvs := prs) (PairArg.tuple a its (fun j => (ps[j]?).getD 0) uvs) (I.ok.hd hcalm) ⟨⟨o, n, I.kIn _ _ hk, hc, hd, hdat⟩, ⟨by rw [hzl, hl2], fun j u v e => ?_⟩⟩ ⟨by rw [hl, hl2], fun j u v e => ?_⟩ (by rw [hl2, ← hzl]; exact hsz) fun h' tk hd' k => ?_
  · obtain ⟨b, k, e1, e2, e3, e4⟩ := hpr j u v e
    refine ⟨?_, .inl ?_⟩
    · have z : its.toList[j]? = some (.ref ((ps[j]?).getD 0)) := by rw [ei, List.getElem?_map, e1]; rfl
      simpa using z
    · show s.heap.IsTuple ((ps[j]?).getD 0) _
      rw [e1]
      exact e3
  · obtain ⟨b, k, e1, e2, e3, e4⟩ := hpr j u v e
    exact ⟨k, e2, e4⟩
  · have hm : (s.heap.objs.size == sysModules) = false := beq_eq_false_iff_ne.mpr (Nat.ne_of_gt I.big)
    have hlen : (mergeK [] kvs).length ≤ sizeLine := by
      refine Nat.le_trans (length_mergeK kvs []) ?_
      rw [List.length_nil, Nat.zero_add, rel.length, hl, ← hzl]
      exact hsz
    exact ⟨.ref s.heap.objs.size, upd H s.heap.objs.size (.dK (mergeK [] kvs)), I.laid (t' := tk) (fun b o e => k b o (by simp) e) (Nat.le_refl _) (show ObjOk X.prog X.w _ _ _ (.dK (mergeK [] kvs)) from ⟨hlen, hm, merged [] prs, KV.merge rel .nil, hd'⟩), rfl, q _ (I.hok.fresh (Nat.le_refl _))⟩
end
end DL

set_option maxRecDepth 100000
set_option maxHeartbeats 4000000
namespace DL
open PySem L2
/-- a list of whole numbers that stands fast -/
def KL (K : PySem.W.Frag) (a : Addr) (xs : List V) : Prop := ∃ (o : Obj) (its : Array Value) (n : Nat), K.lookup a = some o ∧ o.cls = .type "list" ∧ o.dict = none ∧ o.data = .seq its n ∧ its.size ≤ sizeLine ∧ Vals xs its.toList
def IsScr (K : PySem.W.Frag) (d : D) (cs : List Int) : Prop := d = .lst (cs.map .int) ∨ ∃ a, d = .raw (.ref a) ∧ KL K a (cs.map V.int)
section
variable {X : Cx} {x : Str} {p' p1 p2 pos : Pos} {k : Nat}
def xSlK (K : PySem.W.Frag) (i : Nat) (n : Int) : DX := fun g Q => match gt g i with
  | .sh d => ∃ cs, IsScr K d cs ∧ Q (.ow (.lst (cut (cs.map .int) none (some n)))) g
  | _ => False
/-- the script's first so many numbers -/
theorem ex_slK {n : Int} (i : Nat) (hN : X.N[i]? = some x := by rfl) (hv : Vis X.env.scope x := by first | exact Or.inl rfl | exact Or.inr (Or.inl rfl) | exact Or.inr (Or.inr rfl)) (hd : (x == ("__debug__" : Str)) = false := by decide) (hcd : (x == ("__classdict__" : Str)) = false := by decide) :
    EX X (.Subscript (.Name x p') (.Slice none (some (.Constant (.int n) k p1)) none p2) pos) (xSlK X.K i n) := by
  obtain ⟨tl, pl, sl⟩ := pd_none (X := X)
  obtain ⟨tu, pu, su⟩ := pd_some (X := X) (ed_int (X := X) (i := n) (j := k) (pos := p1))
  refine ⟨_, pe_slice sl_list (pe_var hN hv hd hcd) pl pu, fun {bs g σ S H Qd Q} R hq k => ?_⟩
  unfold xSlK at hq
  cases e : gt g i with
  | no => rw [e] at hq; exact hq.elim
  | ow _ => rw [e] at hq; exact hq.elim
  | bx _ _ => rw [e] at hq; exact hq.elim
  | sh d =>
    rw [e] at hq
    obtain ⟨cs, hs, q⟩ := hq
    obtain ⟨v, qs, rp⟩ := R.slot i _ (gt_get e (fun z => nomatch z))
    refine ⟨v, qs, sl (Qd := fun o g' => o = none ∧ g' = g) R ⟨rfl, rfl⟩ fun o g1 S1 H1 ho R1 x1 => ?_⟩
    obtain ⟨rfl, rfl⟩ := ho
    refine su (Qd := fun o g' => o = some n ∧ g' = g1) R1 ⟨rfl, rfl⟩ fun o g2 S2 H2 ho R2 x2 => ?_
    obtain ⟨rfl, rfl⟩ := ho
    have xx := x1.trans x2
    have fin : ∀ (a : Addr) (vs : List V), v = .ref a → SqL X.K H2 a vs → Reps X.K S2 (cs.map .int) vs → rSlL X.K v none (some n) H2 Q := fun a vs ev hq rs => by
      refine ⟨a, vs, ev, hq, fun p hp => ?_⟩
      obtain ⟨R', x', rr⟩ := R2.lst hp (rs.cut none (some n))
      exact k _ _ _ _ _ q R' (xx.trans x') (rr.from xx)
    rcases hs with rfl | ⟨a, rfl, hk⟩
    · obtain ⟨a, vs, ev, q2, rs⟩ := (Rep.le xx.le _ _ rp).lst
      exact fin a vs ev (.inl (Rd.le R2.le q2)) rs
    · exact fin a _ rp.raw (.inr hk) (Reps.ofInts (K := X.K) (S := S2) cs)
end
def spBoxR (K : PySem.W.Frag) : DSp := fun g Q _ => ∃ (d : D) (cs : List Int), g = [.sh d] ∧ IsScr K d cs ∧ cs.length ≤ 63 ∧ ∀ bs, IsBox bs → Q (.ow (.lst bs)) []
/-- the law holds -/
def spLawD (K : PySem.W.Frag) : DSp := fun g Q _ => ∃ (d : D) (cs : List Int), g = [.sh d] ∧ IsScr K d cs ∧ cs.length ≤ 63 ∧ Q (.sh (.bl true)) []
def spLaw (K : PySem.W.Frag) : Sp := fun vs H Q _ => ∃ (a : Addr) (ns : List Int), vs = [.ref a] ∧ SqL K H a (ns.map V.int) ∧ ns.length ≤ 63 ∧ ∀ H', Q (.bl true) H'
theorem rel_one {K : PySem.W.Frag} {H : Hp} {d : D} {v : V} (r : Rep K H d v) : Rel K ⟨H, H, []⟩ [.sh d] [some v] H H where
  len := rfl
  le := Le.rfl
  dom := fun a o h => ⟨o, h⟩
  keep := fun a o h _ => h
  grow := fun a o h => .inl h
  base := Le.rfl
  slot := fun i s e => by
    cases i with
    | zero => cases e; exact ⟨v, rfl, r⟩
    | succ i => simp at e
  dis := fun i j a x _ => by
    obtain ⟨s, e, w, _⟩ := x
    cases i with
    | zero => cases e; cases w
    | succ i => simp at e
theorem FnOk.ofLaw {P : Program} {w : World} {K : PySem.W.Frag} {mg : Str → Option Value} {base : Heap} {k : Nat} {f : Addr} {fd : FuncData} {ps : List Str} (F : FnOk P w K mg base CX0 k f fd ps (spD K 1 (spLawD K))) : FnOk P w K mg base CX0 k f fd ps (spLaw K) := by
  have key : ∀ (vs : List V) (H : Hp) (Q : VK) (E : XK), spLaw K vs H Q E → spD K 1 (spLawD K) vs H Q E := by
    rintro vs H Q E ⟨a, ns, rfl, hs, hl, q⟩
    have fin : ∀ d, Rep K H d (.ref a) → IsScr K d ns → spD K 1 (spLawD K) [.ref a] H Q E := fun d r hd =>
      ⟨H, _, [], fun r _ => r = .sh (.bl true), fun _ _ _ => False, rfl, rel_one r, rfl, ⟨d, ns, rfl, hd, hl, rfl⟩, fun r os v S' H' e _ _ rv => by
        subst e
        have := Rep.bl (K := K) (S := S') (i := true) rv
        subst this
        exact q H', fun _ _ _ _ _ _ h => h.elim⟩
    rcases hs with hs | hs
    · exact fin (.lst (ns.map .int)) (by unfold Rep; exact ⟨a, _, rfl, hs, Reps.ofInts (K := K) (S := H) ns⟩) (.inl rfl)
    · exact fin (.raw (.ref a)) (Rep.ofRaw _) (.inr ⟨a, rfl, hs⟩)
  exact ⟨fun vs H Q E h => F.len vs H Q E (key vs H Q E h), fun A outer s H args us vs Q E r e b v h => F.run A outer s H args us vs Q E r e b v (key vs H Q E h)⟩
end DL

set_option maxRecDepth 100000
set_option maxHeartbeats 4000000
namespace PySem
namespace XG
open PySem.W PySem.Calls PyProof.Rows PySem.HandSPX
/-! ### exceptions of the program's own classes, over any base, made with values and keywords -/
section
variable {M : Model} {A : Around} {E : Value → Shared → Prop} {h : Heap} {g : Array GenState} {d : Drawn} {t : Nat} {os : OsState}
variable {nm q : Str} {C N : Addr} {bs bm bmB : List Value} {hdct : Bool} {sn : List Str} {sub : List Value} {ab : Bool} {col : Option Bool} {dd : Option Addr} {k0 k1 k2 k3 k5 : Option Value} {B newId initId : String}
theorem check_new_kw (F : ExcBaseFacts B newId initId bmB) (hT : ∀ X : String, bm.contains (.type X) = bmB.contains (.type X)) {rest : List Value} {kw : List (Str × Value)} {Q : Unit → Shared → Prop}
    (hC : h.get? C = some (excClassObj nm q C N bs bm hdct sn sub ab col dd k0 k1 k2 k3 k5 newId)) (hq : Q () ⟨h, g, d, t, os⟩) : wpAny M A (checkBuiltinCall newId ⟨.ref C :: rest, kw⟩) Q E ⟨h, g, d, t, os⟩ := by
  have hcont : (Value.ref C :: bm).contains (.type B) = true := by rw [List.contains_cons, hT, F.hasB, Bool.or_true]
  have hstar := F.noStar
  simp only [checkBuiltinCall, F.newKind, F.newSplit, F.newRow]
  repeat (first | refine wpAny_loadPart_at hC ?_ | (refine wpAny_isSubtype_exc hC ?_; rw [hcont]) | refine wpAny_staticBase_exc hC ?_ | refine wpAny_madeBy_exc hC ?_ | simp only [bne_self_eq_false, Bool.false_eq_true, if_false] | wp_step)
  exact hq
end
section
variable {prog : Program} {w : World} {A : Around} {E : Value → Shared → Prop} {R : Result → Shared → Prop} {h : Heap} {g : Array GenState} {d : Drawn} {t : Nat} {os : OsState}
variable {nm q : Str} {C N : Addr} {bs bm bmB : List Value} {hdct : Bool} {sn : List Str} {sub : List Value} {ab : Bool} {col : Option Bool} {dd : Option Addr} {k0 k1 k2 k3 k5 : Option Value} {B newId initId : String}
theorem new_kw (F : ExcBaseFacts B newId initId bmB) (hT : ∀ X : String, bm.contains (.type X) = bmB.contains (.type X)) {rest : List Value} {kw : List (Str × Value)}
    (hC : h.get? C = some (excClassObj nm q C N bs bm hdct sn sub ab col dd k0 k1 k2 k3 k5 newId))
    (hq : R (.ok (.ret (.ref (h.objs.size + 1)))) ⟨(h.push { cls := .type "tuple", data := .seq rest.toArray }).push
      { cls := .ref C, data := .fields #[.ref h.objs.size, .none, .none, .none, .bool false, .none] }, g, d, t, os⟩) (hrest : rest.length ≤ sizeLine) :
    codeAny (model prog w) A (.builtin newId ⟨.ref C :: rest, kw⟩) R ⟨h, g, d, t, os⟩ := by
  have hends := F.ends
  have hcB : (Value.ref C :: bm).contains (.type B) = true := by rw [List.contains_cons, hT, F.hasB, Bool.or_true]
  have hcA : (Value.ref C :: bm).contains (.type "AttributeError") = false := by rw [List.contains_cons, hT, F.noAttr]; rfl
  have hcN : (Value.ref C :: bm).contains (.type "NameError") = false := by rw [List.contains_cons, hT, F.noName]; rfl
  refine codeAny_builtinAt F.entry ?_
  unfold Builtin.«BaseException.__new__»
  refine wpAt_bind ?_
  show wpAt _ _ _ (stack >>= _) _ _ _
  refine wpAt_bind (wpAt_stack fun p below => wpAt_of_wpAny ?_)
  wp_walk
  refine wpAt_of_wpAny ?_
  rw [F.owner]
  repeat (first | with_reducible refine wpAny_madeHere_exc F.canon hC ?_ | with_reducible refine wpAny_loadPart_at hC ?_ | (with_reducible refine wpAny_isSubtype_exc hC ?_; first | rw [hcB] | rw [hcA] | rw [hcN]) | wp_step)
  show R _ _
  rw [Heap.size_push]
  exact hq
theorem type_call_kw (F : ExcBaseFacts B newId initId bmB) (hT : ∀ X : String, bm.contains (.type X) = bmB.contains (.type X)) {rest : List Value} {kw : List (Str × Value)} {fI : Addr} {Q : Fin → Shared → Prop}
    (hC : h.get? C = some (excClassObj nm q C N bs bm hdct sn sub ab col dd k0 k1 k2 k3 k5 newId))
    (hi : W.Looks (model prog w) h (typeLookup (.ref C) "__init__") (some (.ref fI))) (hb : ∀ self, W.Looks (model prog w) h (bindSpecial (.ref fI) self) (.ref fI, [self])) (hrest : rest.length ≤ sizeLine)
    (hq : codeAny (model prog w) A (.call (.ref fI) ⟨.ref (h.objs.size + 1) :: rest, kw⟩)
      (fun r s' => match r with | .ok (.ret v) => v = .none ∧ Q (.done (.ret (.ref (h.objs.size + 1)))) s' | .ok _ => False | .error e => E e s')
      ⟨(h.push (W.kdv_tup rest)).push (excO C h.objs.size), g, d, t, os⟩) :
    wpAny (model prog w) A (Builtin.«type.__call__» ⟨.ref C :: rest, kw⟩) Q E ⟨h, g, d, t, os⟩ := by
  repeat (first | with_reducible refine wpAny_loadPart_at hC ?_ | with_reducible refine wpAny_madeBy_exc hC ?_ | wp_step)
  refine codeAny_call_builtin_code (Code.quiet_builtin _ F.quiet) (check_new_kw F hT hC ?_)
  refine new_kw F hT hC ?_ hrest
  show wpAny _ _ _ _ _ _
  have k : ∀ b o, h.get? b = some o → ((h.push (W.kdv_tup rest)).push (excO C h.objs.size)).get? b = some o := fun b o e => Heap.get?_push_of_some _ (Heap.get?_push_of_some _ e)
  have hC₁ := k _ _ hC
  have hget : ((h.push (W.kdv_tup rest)).push (excO C h.objs.size)).get? (h.objs.size + 1) = some (excO C h.objs.size) := by heap_get
  have hcC : (Value.ref C :: bm).contains (.ref C) = true := by simp
  have i1 := hi.keeps k
  have b1 := (hb (.ref (h.objs.size + 1))).keeps k
  unfold isInstance
  repeat (first | with_reducible refine wpAny_loadPart_at hget ?_ | (with_reducible refine wpAny_isSubtype_exc hC₁ ?_; rw [hcC]) | wp_step)
  show wpAny _ _ (typeLookup (.ref C) _) _ _ _
  refine i1.at ?_
  refine wpAny_holding (wpAny_bind (b1.at ?_))
  refine wpAny_bind (wpAny_call (codeAny_mono hq fun r s' z => ?_))
  rcases r with e | (v | _ | _ | _) <;> first | exact z | exact z.elim | skip
  obtain ⟨rfl, z⟩ := z
  first
    | exact wpAny_pure (wpAny_pure z)
    | (wp_walk; exact z)
theorem check_tc_kw {M : Model} {A : Around} {E : Value → Shared → Prop} {h : Heap} {g : Array GenState} {d : Drawn} {t : Nat} {os : OsState} {nm q : Str} {C N : Addr} {bs bm : List Value} {hdct : Bool} {sn : List Str} {sub : List Value} {ab : Bool} {col : Option Bool} {dd : Option Addr} {k0 k1 k2 k3 k5 : Option Value} {newId : String} {rest : List Value} {kw : List (Str × Value)} {Q : Unit → Shared → Prop} (hC : h.get? C = some (excClassObj nm q C N bs bm hdct sn sub ab col dd k0 k1 k2 k3 k5 newId))
    (hq : Q () ⟨h, g, d, t, os⟩) : wpAny M A (checkBuiltinCall "type.__call__" ⟨.ref C :: rest, kw⟩) Q E ⟨h, g, d, t, os⟩ := by
  have f3 := tc_sub
  have hT : (⟨h, g, d, t, os⟩ : Shared).TypeIs (.ref C) "type" := ⟨_, hC, rfl⟩
  simp only [checkBuiltinCall, tc_kind, tc_split]
  repeat (any_goals (first | assumption | with_reducible refine wpAny_loadPart_at hC ?_ | with_reducible refine wpAny_onRaise ?_ | with_reducible refine wpAny_map ?_ | wp_step))
theorem call_kw (F : ExcBaseFacts B newId initId bmB) (hT : ∀ X : String, bm.contains (.type X) = bmB.contains (.type X)) {rest : List Value} {kw : List (Str × Value)} {fI : Addr}
    (hC : h.get? C = some (excClassObj nm q C N bs bm hdct sn sub ab col dd k0 k1 k2 k3 k5 newId))
    (hi : W.Looks (model prog w) h (typeLookup (.ref C) "__init__") (some (.ref fI))) (hb : ∀ self, W.Looks (model prog w) h (bindSpecial (.ref fI) self) (.ref fI, [self])) (hrest : rest.length ≤ sizeLine)
    (hq : codeAny (model prog w) (A.under (.builtin "type.__call__" ⟨.ref C :: rest, kw⟩)) (.call (.ref fI) ⟨.ref (h.objs.size + 1) :: rest, kw⟩) (W.InitBack (h.objs.size + 1) R)
      ⟨(h.push (W.kdv_tup rest)).push (excO C h.objs.size), g, d, t, os⟩) :
    codeAny (model prog w) A (.call (.ref C) ⟨rest, kw⟩) R ⟨h, g, d, t, os⟩ := by
  have f1 := tc_lookup
  have f2 := tc_bind (.ref C)
  have hTy : (⟨h, g, d, t, os⟩ : Shared).TypeIs (.ref C) "type" := ⟨_, hC, rfl⟩
  refine codeAny_of_tree ?_
  show wpAny _ _ (callAny (.ref C) _) _ _ _
  repeat (any_goals (first | assumption | with_reducible refine wpAny_loadPart_at hC ?_ | wp_step))
  refine ⟨rfl, ?_⟩
  refine codeAny_call_builtin_at (Code.quiet_builtin _ (by decide +kernel)) entry_typeCall (check_tc_kw hC (type_call_kw F hT hC hi hb hrest ?_))
  refine codeAny_mono hq fun r s' z => ?_
  rcases r with e | (v | _ | _ | _) <;> exact z
end
section
open Builtin Builtin.ObjectAttr
variable {prog : Program} {w : World} {A : Around} {E : Value → Shared → Prop} {R : Result → Shared → Prop} {hp : Heap} {g : Array GenState} {d : Drawn} {t : Nat} {os : OsState}
/-- self.f = v on an exception: the walk to its own dict -/
theorem osa_g {K : W.Frag} {name : Str} {tk : Tok} {v : Value} {x C : Addr} {ox : Obj} {od : Option Obj} {cd : ClassData}
    (X : K.In hp) (I : W.InstAt hp x ox C od) (hcd : W.clsIn K C = some cd) (hne : cd.mro.isEmpty = false) (hob : cd.mro.contains (.type "object") = true) (hpass : ∀ self, refuseLoop self "__setattr__" cd.mro = pure ()) (ha : W.findIn K (.ref C) name = some none)
    (hq : wpAny (model prog w) A.in1 (storeInOwnDict (.ref x) (.ref C) (.str name tk) name v false)
      (fun fin s' => match fin with | .done f => R (.ok f) s' | .again c' => c'.quiet = true ∧ codeAny (model prog w) A c' R s') (fun e s' => R (.error e) s') ⟨hp, g, d, t, os⟩) :
    codeAny (model prog w) A (.call (.builtin "object.__setattr__") ⟨[.ref x, .str name tk, v], []⟩) R ⟨hp, g, d, t, os⟩ := by
  have SF := F.store_object
  have sub : W.Looks (model prog w) hp (isInstance (.ref x) (.type "object")) true := I.type.andThen (W.looks_mroIn X (by unfold W.mroIn; rw [hcd, Option.bind_some, if_neg (by rw [hne]; decide), hob]))
  refine codeAny_call_builtin SF.slot.plain SF.entry (@W.check_slot (model prog w) _ _ ⟨hp, g, d, t, os⟩ "object.__setattr__" "object" "__setattr__" (.ref x) [.str name tk, v] [] _ SF.kind SF.split sub (SF.args (.ref x) (.str name tk) v) ?_)
  have hmr : W.Looks (model prog w) hp (mroOf (.ref C)) cd.mro := (W.looks_clsIn X hcd).andThen .now
  have L3 : W.Looks (model prog w) hp (storeTaker? none) none := .now
  rw [W.osa_eq, refuse_eq]
  refine wpAny_bind (wpAny_bind (I.type.at (wpAny_bind (hmr.at ?_))))
  rw [hpass]
  refine wpAny_pure (wpAny_bind (I.type.at (wpAny_bind ((W.looks_findIn X ha).at (wpAny_bind (L3.at ?_))))))
  exact hq
theorem osa_gnew {K : W.Frag} {name : Str} {tk : Tok} {v : Value} {x C : Addr} {fv : Array Value} {cd : ClassData}
    (X : K.In hp) (hx : hp.get? x = some { cls := .ref C, data := .fields fv }) (hcd : W.clsIn K C = some cd) (hne : cd.mro.isEmpty = false) (hob : cd.mro.contains (.type "object") = true) (hpass : ∀ self, refuseLoop self "__setattr__" cd.mro = pure ()) (hh : cd.hasDict = true) (ha : W.findIn K (.ref C) name = some none)
    (hq : ∀ h' tk' dx, (∀ b o, b ≠ x → hp.get? b = some o → h'.get? b = some o) → hp.objs.size ≤ dx → dx ≠ x → h'.get? x = some { cls := .ref C, dict := some dx, data := .fields fv } →
      h'.Ns1 dx (fun y => if y = name then some v else none) → R (.ok (.ret .none)) ⟨h', g, d, tk', os⟩) :
    codeAny (model prog w) A (.call (.builtin "object.__setattr__") ⟨[.ref x, .str name tk, v], []⟩) R ⟨hp, g, d, t, os⟩ := by
  have I : W.InstAt hp x { cls := .ref C, data := .fields fv } C none := ⟨hx, rfl, rfl, trivial⟩
  have hxs : x ≠ hp.objs.size := Nat.ne_of_lt (Heap.lt_size hx)
  refine osa_g X I hcd hne hob hpass ha ?_
  have hcls : W.Looks (model prog w) hp (classData C) cd := W.looks_clsIn X hcd
  obtain ⟨nm, bs, mro, ns, qn, hd, sn, sb, ab, col, del⟩ := cd
  dsimp only at hh
  subst hh
  unfold storeInOwnDict ownDictForStores
  repeat (first | with_reducible refine HandSPX.store_in_new ?_ ?_ | with_reducible refine wpAny_loadPart_at hx ?_ | with_reducible refine hcls.at ?_ | wp_step)
  · exact ⟨_, #[], _, (Heap.get?_update_ne _ _ _ _ hxs.symm).trans (Heap.get?_push_at rfl rfl), rfl, fun e he => absurd he (by simp), fun _ => rfl⟩
  · intro h' tk' hn' hs
    have hx₁ : (hp.push { cls := .type "dict", data := .dict #[] }).get? x = some { cls := .ref C, data := .fields fv } := Heap.get?_push_of_some _ hx
    refine hq h' tk' hp.objs.size (fun b o hb ho => ?_) (Nat.le_refl _) hxs.symm ?_ hn'
    · exact (hs.2 b (Nat.ne_of_lt (Heap.lt_size ho))).trans ((Heap.get?_update_ne _ _ _ _ hb).trans (Heap.get?_push_of_some _ ho))
    · exact (hs.2 x hxs).trans (Heap.get?_update_self _ hx₁ rfl)
theorem osa_gold {K : W.Frag} {name : Str} {tk : Tok} {v : Value} {x C dx : Addr} {fv : Array Value} {cd : ClassData} {m0 : Str → Option Value} {nl : List Str}
    (X : K.In hp) (hx : hp.get? x = some { cls := .ref C, dict := some dx, data := .fields fv }) (hns : hp.Ns1 dx m0) (hw : Within m0 nl) (hz : nl.length ≤ 1000) (hcd : W.clsIn K C = some cd) (hne : cd.mro.isEmpty = false) (hob : cd.mro.contains (.type "object") = true) (hpass : ∀ self, refuseLoop self "__setattr__" cd.mro = pure ()) (hh : cd.hasDict = true)
    (ha : W.findIn K (.ref C) name = some none)
    (hq : ∀ h' tk', (∀ b o, b ≠ dx → hp.get? b = some o → h'.get? b = some o) → h'.Ns1 dx (fun y => if y = name then some v else m0 y) → R (.ok (.ret .none)) ⟨h', g, d, tk', os⟩) :
    codeAny (model prog w) A (.call (.builtin "object.__setattr__") ⟨[.ref x, .str name tk, v], []⟩) R ⟨hp, g, d, t, os⟩ := by
  obtain ⟨oD, esD, epD, hoD, hdD, _⟩ := hns.count hw
  have I : W.InstAt hp x { cls := .ref C, dict := some dx, data := .fields fv } C (some oD) := ⟨hx, rfl, rfl, hoD⟩
  refine osa_g X I hcd hne hob hpass ha ?_
  have hcls : W.Looks (model prog w) hp (classData C) cd := W.looks_clsIn X hcd
  obtain ⟨nm, bs, mro, ns, qn, hd, sn, sb, ab, col, del⟩ := cd
  dsimp only at hh
  subst hh
  unfold storeInOwnDict ownDictForStores
  repeat (first | with_reducible refine PySem.OEX.store_in_old hns hw hz ?_ | with_reducible refine wpAny_loadPart_at hx ?_ | with_reducible refine hcls.at ?_ | wp_step)
  intro h' tk' hn' hs
  exact hq h' tk' (fun b o hb ho => (hs.2 b hb).trans ho) hn'
end
end XG
end PySem
namespace L2
open PySem PySem.Spec PyProof.Rows
/-- what the written part says of an own exception class at C, whatever its base -/
structure XgC (K : PySem.W.Frag) (C : Addr) : Prop where
  cls : ∃ (nm q : Str) (N : Addr) (bs bm : List Value) (sn : List Str) (sub : List Value) (ab : Bool) (col : Option Bool) (dd : Option Addr) (k0 k1 k2 k3 k5 : Option Value) (B newId initId : String) (bmB : List Value),
    PySem.ExcBaseFacts B newId initId bmB ∧ (∀ X : String, bm.contains (.type X) = bmB.contains (.type X)) ∧ bm.contains (.type "object") = true ∧ (∀ self, refuseLoop self "__setattr__" (.ref C :: bm) = pure ()) ∧
    K.lookup C = some (excClassObj nm q C N bs bm true sn sub ab col dd k0 k1 k2 k3 k5 newId)
  sa : PySem.W.findIn K (.ref C) "__setattr__" = some (some (.builtin "object.__setattr__"))
  exC : PySem.W.subIn K (.ref C) (.type "BaseException") = some true
  tyC : PySem.W.typeIn K (.ref C) = some (.type "type")
  kC : PySem.W.keepIn K (.ref C) = true
  ga : PySem.W.findIn K (.ref C) "__getattribute__" = some (some (.builtin "BaseException.__getattribute__"))
  gg : PySem.W.findIn K (.ref C) "__getattr__" = some none
  hd : PySem.W.hasDictIn K C = true
  ha : PySem.W.findIn K (.ref C) "__class__" = some (some (.builtin "object.__class__"))
  hn : PySem.W.specialIn K (.builtin "object.__class__") "__get__" = some (some (.builtin "getset_descriptor.__get__"))
  ht : PySem.W.takesIn K (.builtin "object.__class__") = some true
  hm : PySem.W.mroIn K C (.type "object") = some true
section
variable {X : Cx} {pins : List (Addr × Obj)} {σ : St} {H : Hp} {s : Shared} {a C dx : Addr} {f : Str} {y : V} {u : Value} {fs : List (Str × V)} {Q : Unit → Shared → Prop} {E : Value → Shared → Prop} {A : Around}
theorem xst_new (T : XgC X.K C) (I : Inv X pins σ H s) (e : H a = some (exo a C none)) (hno : PySem.W.findIn X.K (.ref C) f = some none) (ry : RelV y u)
    (h : ∀ dx s', H dx = none → dx ≠ a → Inv X pins σ (upd (upd H dx (exd dx [(f, y)])) a (exo a C (some dx))) s' → Q () s') : wpAny (model X.prog X.w) A (setAttr (.ref a) f u) Q E s := by
  obtain ⟨nm, q, N, bs, bm, sn, sub, ab, col, dd, k0, k1, k2, k3, k5, B, newId, initId, bmB, FB, hT, hob, hpass, hC⟩ := T.cls
  have hcl : PySem.W.clsIn X.K C = some { name := nm, bases := bs, mro := .ref C :: bm, ns := N, qualname := q, hasDict := true, slotNames := sn, subclasses := sub, abstract := ab, collection := col, hasDel := false } := by unfold PySem.W.clsIn; rw [hC] <;> rfl
  obtain ⟨t1, ho⟩ := exo_at I.hok e
  obtain ⟨hp, g, d, t, os⟩ := s
  refine PySem.W.set_plain I.kIn (ox := { cls := .ref C, dict := none, data := .fields #[.ref t1, .none, .none, .none, .bool false, .none] }) (od := none) ⟨ho, rfl, rfl, trivial⟩ T.sa ?_
  refine PySem.XG.osa_gnew I.kIn ho hcl rfl (by show List.contains (Value.ref C :: bm) _ = true; rw [List.contains_cons, hob, Bool.or_true]) hpass rfl hno (fun h' tk' dx k dn dne hx hn => ?_)
  have hnd : H dx = none := I.hok.fresh dn
  have nd : ∀ {b : Addr} {o : Obj}, hp.get? b = some o → b ≠ dx := fun {b o} q => Nat.ne_of_lt (Nat.lt_of_lt_of_le (Heap.lt_size q) dn)
  have na : ∀ {b : Addr}, H b = none → b ≠ a := fun {b} n z => by
    rw [z, e] at n
    cases n
  have Un1 : Un X.fs [] H (upd (upd H dx (exd dx [(f, y)])) a (exo a C (some dx))) hp h' := {
    keep := fun b o q n _ _ => k b o (na n) q
    slot := fun b o q n _ _ => ⟨o.slots, k b o (na n) q⟩
    free := fun b o q n _ => by rw [upd_ne (na n), upd_ne (nd q)]; exact n
    there := fun b o q _ => by
      by_cases hb : b = a
      · exact ⟨_, by rw [hb]; exact hx⟩
      · exact ⟨o, k b o hb q⟩
    tups := fun b xs q => by rw [upd_ne (at_ne e q exo_tup), upd_ne (ne_of_none q hnd)]; exact q
    frzs := fun b o v q => by rw [upd_ne (at_ne e q exo_frz), upd_ne (ne_of_none q hnd)]; exact q
    tbls := fun b ps q => ⟨#[], by rw [upd_ne (at_ne e q exo_tbl), upd_ne (ne_of_none q hnd), q]; simp⟩ }
  refine h dx _ hnd dne (I.un (t' := tk') Un1 fun b o q => ?_)
  by_cases hb : b = a
  · subst hb
    rw [upd_same] at q
    cases q
    exact exo_ok hx
  · rw [upd_ne hb] at q
    by_cases hd : b = dx
    · subst hd
      rw [upd_same] at q
      cases q
      exact exd_ok hn (relO_put (fs := []) ry fun g => True.intro)
    · rw [upd_ne hd] at q
      exact (I.hok b o q).stay (fun c v hc z => k c v (by
          rcases hc with hc | hc
          · rw [hc]
            exact hb
          · exact at_ne e hc exo_own) z)
        (fun c hc => by rw [upd_ne (at_ne e hc exo_own), upd_ne (ne_of_none hc hnd)]; exact hc) (fun c xs hc => by rw [upd_ne (at_ne e hc exo_tup), upd_ne (ne_of_none hc hnd)]; exact hc)
theorem xst_old (T : XgC X.K C) (I : Inv X pins σ H s) (e : H a = some (exo a C (some dx))) (ed : H dx = some (exd dx fs)) (hl : fs.length ≤ 900) (hno : PySem.W.findIn X.K (.ref C) f = some none) (ry : RelV y u)
    (h : ∀ s', Inv X pins σ (upd H dx (exd dx ((f, y) :: fs))) s' → Q () s') : wpAny (model X.prog X.w) A (setAttr (.ref a) f u) Q E s := by
  obtain ⟨nm, q, N, bs, bm, sn, sub, ab, col, dd, k0, k1, k2, k3, k5, B, newId, initId, bmB, FB, hT, hob, hpass, hC⟩ := T.cls
  have hcl : PySem.W.clsIn X.K C = some { name := nm, bases := bs, mro := .ref C :: bm, ns := N, qualname := q, hasDict := true, slotNames := sn, subclasses := sub, abstract := ab, collection := col, hasDel := false } := by unfold PySem.W.clsIn; rw [hC] <;> rfl
  obtain ⟨t1, ho⟩ := exo_at I.hok e
  obtain ⟨mA, hns, rel⟩ := exd_at I.hok ed
  have hw := within_of rel
  obtain ⟨hp, g, d, t, os⟩ := s
  obtain ⟨oD, _, _, hoD, _, _⟩ := hns.count hw
  refine PySem.W.set_plain I.kIn (ox := { cls := .ref C, dict := some dx, data := .fields #[.ref t1, .none, .none, .none, .bool false, .none] }) (od := some oD) ⟨ho, rfl, rfl, hoD⟩ T.sa ?_
  refine PySem.XG.osa_gold I.kIn ho hns hw (by rw [List.length_map]; omega) hcl rfl (by show List.contains (Value.ref C :: bm) _ = true; rw [List.contains_cons, hob, Bool.or_true]) hpass rfl hno (fun h' tk' k hn => ?_)
  have hd : ∃ o, h'.get? dx = some o := by
    obtain ⟨o, _, _, e', _⟩ := hn
    exact ⟨o, e'⟩
  exact h _ (I.write (t' := tk') (x := dx) (e := dx) (o := exd dx ((f, y) :: fs)) (by rw [ed]; exact True.intro) (.inl rfl) k hd (exd_ok hn (relO_put ry rel)))
end
/-- self.f = e in such an __init__ -/
def tXst (K : PySem.W.Frag) (f : Str) (to te : TE) : TS := fun D σ H => te σ H fun y H1 => to σ H1 fun x H2 => ∃ a C : Addr, x = .ref a ∧ XgC K C ∧ PySem.W.findIn K (.ref C) f = some none ∧
  ((H2 a = some (exo a C none) ∧ ∀ dx, H2 dx = none → dx ≠ a → D.nx σ (upd (upd H2 dx (exd dx [(f, y)])) a (exo a C (some dx)))) ∨
    ∃ (dx : Addr) (fs : List (Str × V)), H2 a = some (exo a C (some dx)) ∧ H2 dx = some (exd dx fs) ∧ fs.length ≤ 900 ∧ D.nx σ (upd H2 dx (exd dx ((f, y) :: fs))))
/-- C(..): the made exception, tracked -/
def rMkX (C : Addr) (sp : Sp) (Q : VK) : List V → Hp → Prop := fun zs H1 => ∀ a, H1 a = none → sp (.ref a :: zs) (upd H1 a (exo a C none)) (fun v H2 => v = .non ∧ Q (.ref a) H2) (fun _ _ _ => False)
def tMkX (C : Addr) (sp : Sp) (ta : TA) : TE := fun σ H Q => ta σ H fun vs H1 => vs.length ≤ 1000 ∧ rMkX C sp Q vs H1
def tMkXK (C : Addr) (n : Nat) (sp : Sp) (gV : List V → List V) (tk : TA) : TE := fun σ H Q => tk σ H fun zs H1 => zs.length = n ∧ rMkX C sp Q (gV zs) H1
/-- e.f of a tracked exception -/
def tXat (K : PySem.W.Frag) (f : Str) (te : TE) : TE := fun σ H Q => te σ H fun x H1 => ∃ (a C dx : Addr) (fs : List (Str × V)) (v : V), x = .ref a ∧ XgC K C ∧ PySem.W.findIn K (.ref C) f = some none ∧ H1 a = some (exo a C (some dx)) ∧ H1 dx = some (exd dx fs) ∧ fs.lookup f = some v ∧ Q v H1
/-- isinstance(e, c), e such an exception -/
def rIsX (K : PySem.W.Frag) : List V → Hp → VK → Prop := fun xs H Q => ∃ (a C : Addr) (d : Option Addr) (c : V) (cv : Value) (b : Bool), xs = [.ref a, c] ∧ XgC K C ∧ H a = some (exo a C d) ∧ (∀ dx, d = some dx → ∃ fs, H dx = some (exd dx fs)) ∧ (∀ u, RelV c u → u = cv) ∧ PySem.W.kitOne K (.ref C) cv = some b ∧ Q (.bl b) H
section
variable {X : Cx} {o e : Expr} {es : List Expr} {to te : TE} {ta tk : TA} {f : Str} {p p' p1 p2 pos : Pos}
theorem ps_xst (ho : PE X o to) (he : PE X e te) (hs : swapsWith e (some (.Attribute o f p')) pos.line X.env = pure false := by rfl) : PS X (.Assign [.Attribute o f p'] e pos) (tXst X.K f to te) := by
  refine ⟨fun pins s σ H D I h => ?_⟩
  refine plainObj_wpAny_Assign_Attribute (thn (he.run pins s σ H _ I h) fun v s1 ⟨y, H1, I1, r1, q1⟩ => thn (ho.run pins s1 σ H1 _ I1 q1) fun u s2 ⟨x, H2, I2, r2, a, C, ex, T, hno, q⟩ => ?_) hs
  subst ex
  obtain rfl : u = Value.ref a := r2
  rcases q with ⟨ea, q⟩ | ⟨dx, fs, ea, ed, hl, q⟩
  · exact xst_new T I2 ea hno r1 fun dx s' n ne J => ⟨σ, _, J, q dx n ne⟩
  · exact xst_old T I2 ea ed hl hno r1 fun s' J => ⟨σ, _, J, q⟩
theorem exo_inst {pins : List (Addr × Obj)} {σ : St} {H : Hp} {s : Shared} {a C : Addr} {d : Option Addr} (I : Inv X pins σ H s) (e : H a = some (exo a C d)) (hd : ∀ dx, d = some dx → ∃ fs, H dx = some (exd dx fs)) :
    ∃ ox od, PySem.W.InstAt s.heap a ox C od := by
  obtain ⟨t1, ho⟩ := exo_at I.hok e
  cases d with
  | none => exact ⟨_, none, ho, rfl, rfl, trivial⟩
  | some dx =>
    obtain ⟨fs, ed⟩ := hd dx rfl
    obtain ⟨mA, hns, rel⟩ := exd_at I.hok ed
    obtain ⟨oD, _, _, hoD, _, _⟩ := hns.count (within_of rel)
    exact ⟨_, some oD, ho, rfl, rfl, hoD⟩
theorem pe_xat {n : Str} (he : PE X e te) (hb : attributeBase e n X.env (eval e X.env) = eval e X.env := by rfl) : PE X (.Attribute e n pos) (tXat X.K n te) := by
  refine ⟨fun pins s σ H Q I h => ?_⟩
  refine attr_of hb (thn (he.run pins s σ H _ I h) fun u s1 hh => ?_)
  obtain ⟨x, H1, I1, rx, a, C, dd, fs, v, ex, T, hno, ea, ed, l, q⟩ := hh
  subst ex
  obtain rfl : u = Value.ref a := rx
  obtain ⟨t1, ho⟩ := exo_at I1.hok ea
  obtain ⟨mA, hns, hr⟩ := exd_at I1.hok ed
  obtain ⟨od, hod, hl⟩ := lookIn_ns hns
  obtain ⟨u, hu, ru⟩ := RelO.some_of (v := v) (o := mA n) (by rw [← l]; exact hr n)
  have J : PySem.W.InstAt s1.heap a _ C (some od) := ⟨ho, rfl, rfl, hod⟩
  exact HandSPX.exc_get I1.kIn J T.ga T.gg T.exC (PySem.W.findObj_own T.hd hno rfl (by rw [hl, hu])) (handed_of ru) ⟨v, H1, I1.tok _, ru, q⟩
theorem call_isX : CallR X (.builtin "isinstance") (rIsX X.K) := by
  intro pins s σ H xs us Q I r h
  obtain ⟨a, C, d, c, cv, b, rfl, T, ea, hd, hcv, e, q⟩ := h
  obtain ⟨u1, u2, rfl, r1, r2⟩ := vals2 r
  cases (show u1 = Value.ref a from r1)
  have ec := hcv _ r2
  subst ec
  obtain ⟨ox, od, J⟩ := exo_inst I ea hd
  have hcl : (PySem.W.clsIn X.K C).isSome = true := by
    obtain ⟨cd, hc, _⟩ := PySem.W.any_some T.hd
    rw [hc]; rfl
  exact PySem.W.kia_one (PySem.W.kitx_exc hcl T.ga T.gg T.exC T.ha T.hn T.ht T.hm) I.kIn J e (fun z => nomatch z) fun tk => ⟨.bl b, H, I.tok tk, rfl, q⟩
/-- the run of C(..) -/
theorem run_mkX {pins : List (Addr × Obj)} {σ : St} {H1 : Hp} {s1 : Shared} {Q : VK} {C fI : Addr} {k : Nat} {fd : FuncData} {ps : List Str} {sp : Sp} (T : XgC X.K C) (iC : PySem.W.findIn X.K (.ref C) "__init__" = some (some (.ref fI))) (tI : PySem.W.typeIn X.K (.ref fI) = some (.type "function"))
    (F1 : FnOk X.prog X.w X.K X.mg X.base CX0 k fI fd ps sp) (hr : Room (k + 1) X.A) {us : List Value} {kw : List (Str × Value)} {gs : List Value} {zs : List V} (I1 : Inv X pins σ H1 s1) (hus : us.length ≤ sizeLine)
    (hb : ∀ (s : Shared) (a : Addr), X.K.In s.heap → BindsTo s fd ⟨.ref a :: us, kw⟩ (ps.zip (.ref a :: gs))) (hv : Vals zs gs) (q1 : rMkX C sp Q zs H1) :
    wpAny (model X.prog X.w) X.A (call (.ref C) us kw) (EP X pins σ Q) X.xe s1 := by
  obtain ⟨nm, q, N, bs, bm, sn, sub, ab, col, dd, k0, k1, k2, k3, k5, B, newId, initId, bmB, FB, hT, hob, hpass, hC⟩ := T.cls
  obtain ⟨hp, g, dr, tk, os⟩ := s1
  have hsz : hp.objs.size ≤ hp.objs.size + 1 := Nat.le_succ _
  have hn : H1 (hp.objs.size + 1) = none := I1.hok.fresh hsz
  have hq := q1 (hp.objs.size + 1) hn
  have kk : ∀ b o, hp.get? b = some o → ((hp.push (PySem.W.kdv_tup us)).push (PySem.HandSPX.excO C hp.objs.size)).get? b = some o := fun b o e => Heap.get?_push_of_some _ (Heap.get?_push_of_some _ e)
  have hget : ((hp.push (PySem.W.kdv_tup us)).push (PySem.HandSPX.excO C hp.objs.size)).get? (hp.objs.size + 1) = some (PySem.HandSPX.excO C hp.objs.size) := by heap_get
  have I2 : Inv X pins σ (upd H1 (hp.objs.size + 1) (exo (hp.objs.size + 1) C none)) ⟨(hp.push (PySem.W.kdv_tup us)).push (PySem.HandSPX.excO C hp.objs.size), g, dr, tk, os⟩ :=
    I1.laid (t' := tk) (a := hp.objs.size + 1) (o := exo (hp.objs.size + 1) C none) (h' := (hp.push (PySem.W.kdv_tup us)).push (PySem.HandSPX.excO C hp.objs.size)) kk hsz (exo_ok hget)
  refine wpAny_call (PySem.XG.call_kw FB hT (I1.kIn _ _ hC) (PySem.W.looks_findIn I1.kIn iC) (fun self => PySem.W.bind_fn I1.kIn self tI) hus
    (codeAny_mono (F1.run _ X.stack _ _ ⟨Value.ref (hp.objs.size + 1) :: us, kw⟩ (Value.ref (hp.objs.size + 1) :: gs) _ _ (fun _ _ _ => False) (hr.make C us kw) (I2.env0.make C us kw) (hb _ _ I2.kIn) (show Vals (V.ref (hp.objs.size + 1) :: zs) (Value.ref (hp.objs.size + 1) :: gs) from .cons rfl hv) hq) fun r s' hq' => ?_))
  cases r with
  | error er => exact hq'.elim
  | ok fl =>
    cases fl with
    | ret u =>
      obtain ⟨v, H', I3, rv, ev, q3⟩ := I2.after hq'
      subst ev
      exact ⟨rv, ⟨V.ref (hp.objs.size + 1), H', I3, rfl, q3⟩⟩
    | next => exact False.elim hq'
    | brk => exact False.elim hq'
    | cont => exact False.elim hq'
/-- C(e, ..) as a value -/
theorem pe_mkX {x : Str} {C fI : Addr} {k : Nat} {fd : FuncData} {ps : List Str} {sp : Sp} (T : XgC X.K C) (iC : PySem.W.findIn X.K (.ref C) "__init__" = some (some (.ref fI))) (tI : PySem.W.typeIn X.K (.ref fI) = some (.type "function"))
    (F1 : FnOk X.prog X.w X.K X.mg X.base CX0 k fI fd ps sp) (hr : Room (k + 1) X.A) (hb : Binds X.K fd ps []) (hg : Gl X x) (hm : X.mg x = some (.ref C)) (ha : PA X (e :: es) ta)
    (hdb : (x == ("__debug__" : Str)) = false := by decide) (he : starEach (e :: es) X.env = (false, eval e X.env) :: starEach es X.env := by rfl) (hpl : (backTo pos (starEach es X.env)).any (·.1) = false := by rfl) :
    PE X (.Call (.Name x p) (e :: es) [] pos) (tMkX C sp ta) := by
  refine ⟨fun pins s σ H Q I h => ?_⟩
  refine wpAny_Call_Name_kw (ld_glob I hg hm ?_ hdb)
  refine PySem.W.callWith_K (h₀ := X.base) I.ok.mod.kin T.kC (thn (ha.run pos pins s σ H _ I h) fun us s1 ⟨vs, H1, I1, r1, hz, q1⟩ => ⟨I1.kIn, ?_⟩) he hpl
  have hl : (Value.ref 0 :: us).length = ps.length := by
    obtain ⟨l0, n0⟩ : ∃ a, H1 a = none := ⟨s1.heap.objs.size, I1.hok.fresh (Nat.le_refl _)⟩
    have e := F1.len _ _ _ _ (q1 l0 n0)
    rw [← e, List.length_cons, List.length_cons, Paired.length r1]
  show wpAny _ _ (call (.ref C) us) _ _ _
  refine run_mkX T iC tI F1 hr (gs := us) (zs := vs) I1 (by rw [← Paired.length r1, sizeLine_eq]; omega) (fun s a k => ?_) r1 q1
  have q := hb s (Value.ref a :: us) k (by rw [List.append_nil]; exact hl)
  rw [List.append_nil] at q
  exact q
/-- C(k = v, ..) as a value -/
theorem pe_mkXK {x : Str} {C fI : Addr} {k n : Nat} {fd : FuncData} {ps ks : List Str} {sp : Sp} {kws : List Keyword} {g : List Value → List Value} {gV : List V → List V} (T : XgC X.K C) (iC : PySem.W.findIn X.K (.ref C) "__init__" = some (some (.ref fI))) (tI : PySem.W.typeIn X.K (.ref fI) = some (.type "function"))
    (F1 : FnOk X.prog X.w X.K X.mg X.base CX0 k fI fd ps sp) (hr : Room (k + 1) X.A) (hg : Gl X x) (hm : X.mg x = some (.ref C)) (hn : ks.length = n)
    (hb : ∀ (s : Shared) (a : Addr) (ws : List Value), X.K.In s.heap → ws.length = n → BindsTo s fd ⟨[.ref a], ks.zip ws⟩ (ps.zip (.ref a :: g ws))) (hrel : ∀ {zs : List V} {ws : List Value}, zs.length = n → Vals zs ws → Vals (gV zs) (g ws)) (hkw : PK X kws tk)
    (hall : (backToKw pos (keywordEach kws X.env)).all (·.1.isSome) = true := by rfl) (hks : (backToKw pos (keywordEach kws X.env)).filterMap (·.1) = ks := by rfl) (hdb : (x == ("__debug__" : Str)) = false := by decide)
    (hpl : ((backTo pos (starEach [] X.env)).any (·.1) || (backToKw pos (keywordEach kws X.env)).any (·.1.isNone)) = false := by rfl) :
    PE X (.Call (.Name x p) [] kws pos) (tMkXK C n sp gV tk) := by
  refine ⟨fun pins s σ H Q I h => ?_⟩
  refine wpAny_Call_Name_kw (ld_glob I hg hm ?_ hdb)
  refine PySem.W.callWith_KW0 (h₀ := X.base) I.ok.mod.kin T.kC hall ?_ hpl
  refine thn (hkw.run pos pins s σ H _ I h) fun ws s2 ⟨zs, H2, I2, rz, l2, q2⟩ => ⟨I2.kIn, ?_⟩
  rw [hks]
  exact run_mkX T iC tI F1 hr (us := []) (gs := g ws) (zs := gV zs) I2 (Nat.zero_le _) (fun s a k => hb s a ws k (rz.length.symm.trans l2)) (hrel l2 rz) q2
/-- f(k = v, ..), no value by position -/
theorem pe_callN0 {CX : CXT} {x : Str} {f : Addr} {k : Nat} {fd : FuncData} {ps ks : List Str} {sp : Sp} {E : XK} {kws : List Keyword} {g : List Value → List Value → List Value} {gV : List V → List V → List V} (F : FnOk X.prog X.w X.K X.mg X.base CX k f fd ps sp) (hr : Room k X.A) (hg : Gl X x) (hm : X.mg x = some (.ref f)) (hk : PySem.W.keepIn X.K (.ref f) = true) (hb : KBn X.K fd ps 0 ks g gV) (hx : Passes CX X E)
    (hkw : PK X kws tk) (hall : (backToKw pos (keywordEach kws X.env)).all (·.1.isSome) = true := by rfl) (hks : (backToKw pos (keywordEach kws X.env)).filterMap (·.1) = ks := by rfl)
    (hdb : (x == ("__debug__" : Str)) = false := by decide)
    (hpl : ((backTo pos (starEach [] X.env)).any (·.1) || (backToKw pos (keywordEach kws X.env)).any (·.1.isNone)) = false := by rfl) :
    PE X (.Call (.Name x p) [] kws pos) (tCallN 0 ks.length sp gV E tNil tk) := by
  refine ⟨fun pins s σ H Q I h => ?_⟩
  refine wpAny_Call_Name_kw (ld_glob I hg hm ?_ hdb)
  refine PySem.W.callWith_KW0 (h₀ := X.base) I.ok.mod.kin hk hall ?_ hpl
  refine thn (hkw.run pos pins s σ H _ I h) fun ws s2 ⟨zs, H2, I2, rz, l1, l2, q2⟩ => ⟨I2.kIn, ?_⟩
  rw [hks]
  exact run_fnN (us := []) (vs := []) F hr hb hx I2 .nil rz l1 l2 q2
/-- raise of such an exception: C(e, ..) -/
theorem pmk_x {x : Str} {C fI : Addr} {k : Nat} {fd : FuncData} {ps : List Str} {sp : Sp} (T : XgC X.K C) (iC : PySem.W.findIn X.K (.ref C) "__init__" = some (some (.ref fI))) (tI : PySem.W.typeIn X.K (.ref fI) = some (.type "function"))
    (F1 : FnOk X.prog X.w X.K X.mg X.base CX0 k fI fd ps sp) (hr : Room (k + 1) X.A) (hb : Binds X.K fd ps []) (hg : Gl X x) (hm : X.mg x = some (.ref C)) (ha : PA X (e :: es) ta)
    (hdb : (x == ("__debug__" : Str)) = false := by decide) (he : starEach (e :: es) X.env = (false, eval e X.env) :: starEach es X.env := by rfl) (hpl : (backTo pos (starEach es X.env)).any (·.1) = false := by rfl) :
    PMk X (.Call (.Name x p) (e :: es) [] pos) (tMkO C sp [] ta) := by
  intro pins s σ H Q I h
  obtain ⟨nm, q, N, bs, bm, sn, sub, ab, col, dd, k0, k1, k2, k3, k5, B, newId, initId, bmB, FB, hT, hob, hpass, hC⟩ := T.cls
  refine wpAny_Call_Name_kw (ld_glob I hg hm ?_ hdb)
  refine PySem.W.callWith_K (h₀ := X.base) I.ok.mod.kin T.kC (thn (ha.run pos pins s σ H _ I h) fun us s1 ⟨vs, H1, I1, r1, hz, q1⟩ => ⟨I1.kIn, ?_⟩) he hpl
  show wpAny _ _ (call (.ref C) us) _ _ _
  obtain ⟨hp, g, dr, tk, os⟩ := s1
  have hsz : hp.objs.size ≤ hp.objs.size + 1 := Nat.le_succ _
  have hn : H1 (hp.objs.size + 1) = none := I1.hok.fresh hsz
  have hq := q1 (hp.objs.size + 1) hn
  rw [List.append_nil] at hq
  have kk : ∀ b o, hp.get? b = some o → ((hp.push (PySem.W.kdv_tup us)).push (PySem.HandSPX.excO C hp.objs.size)).get? b = some o := fun b o e => Heap.get?_push_of_some _ (Heap.get?_push_of_some _ e)
  have hget : ((hp.push (PySem.W.kdv_tup us)).push (PySem.HandSPX.excO C hp.objs.size)).get? (hp.objs.size + 1) = some (PySem.HandSPX.excO C hp.objs.size) := by heap_get
  have I2 : Inv X pins σ (upd H1 (hp.objs.size + 1) (exo (hp.objs.size + 1) C none)) ⟨(hp.push (PySem.W.kdv_tup us)).push (PySem.HandSPX.excO C hp.objs.size), g, dr, tk, os⟩ :=
    I1.laid (t' := tk) (a := hp.objs.size + 1) (o := exo (hp.objs.size + 1) C none) (h' := (hp.push (PySem.W.kdv_tup us)).push (PySem.HandSPX.excO C hp.objs.size)) kk hsz (exo_ok hget)
  have r2 : Vals (V.ref (hp.objs.size + 1) :: vs) (Value.ref (hp.objs.size + 1) :: us) := .cons rfl r1
  have hl : (Value.ref (hp.objs.size + 1) :: us).length = ps.length := by
    have e := r2.length
    rw [F1.len _ _ _ _ hq] at e
    exact e.symm
  have hus : us.length ≤ sizeLine := by
    rw [← Paired.length r1, sizeLine_eq]
    omega
  have hbb := hb ⟨(hp.push (PySem.W.kdv_tup us)).push (PySem.HandSPX.excO C hp.objs.size), g, dr, tk, os⟩ (Value.ref (hp.objs.size + 1) :: us) I2.kIn (by rw [List.append_nil]; exact hl)
  rw [List.append_nil] at hbb
  refine wpAny_call (PySem.XG.call_kw FB hT (I1.kIn _ _ hC) (PySem.W.looks_findIn I1.kIn iC) (fun self => PySem.W.bind_fn I1.kIn self tI) hus
    (codeAny_mono (F1.run _ X.stack _ _ ⟨Value.ref (hp.objs.size + 1) :: us, []⟩ (Value.ref (hp.objs.size + 1) :: us) _ _ (fun _ _ _ => False) (hr.make C us []) (I2.env0.make C us []) hbb r2 hq) fun r s' hq' => ?_))
  cases r with
  | error er => exact hq'.elim
  | ok fl =>
    cases fl with
    | ret u =>
      obtain ⟨v, H2, os2, bare2, un2, hok2, rv, ev, d, fs, ea, ed, hd1, q2⟩ := hq'
      subst ev
      obtain ⟨h2, g2, d2, t2, os'⟩ := s'
      exact ⟨rv, mk_end (raises_own T.exC T.tyC) I1 hsz kk un2 hok2 os2 bare2 ea ed hd1 q2⟩
    | next => exact False.elim hq'
    | brk => exact False.elim hq'
    | cont => exact False.elim hq'
end
end L2

set_option maxRecDepth 100000
set_option maxHeartbeats 4000000
namespace DL
open PySem L2
section
variable {X : Cx} {o e : Expr} {es : List Expr} {kws : List Keyword} {pos p apos : Pos} {x m : Str}
/-- f(k = v, ..) -/
theorem ex_callK0 {fa : Addr} {fd : FuncData} {ps ks : List Str} {k j m' : Nat} {sp : DSp} {dk : DA} {gg : List Value → List Value → List Value} {gV : List V → List V → List V} {gD : List D → List D → List D} (F : FnOk X.prog X.w X.K X.mg X.base CX0 k fa fd ps (spD X.K m' sp)) (hr : Room k X.A) (hg : Gl X x) (hm : X.mg x = some (.ref fa)) (hk : PySem.W.keepIn X.K (.ref fa) = true) (hb : KBn X.K fd ps 0 ks gg gV)
    (kw : KwD gV gD 0 j m') (hkw : KD X kws j dk) (hj : ks.length = j)
    (hall : (backToKw pos (keywordEach kws X.env)).all (·.1.isSome) = true := by rfl) (hks : (backToKw pos (keywordEach kws X.env)).filterMap (·.1) = ks := by rfl)
    (hdb : (x == ("__debug__" : Str)) = false := by decide)
    (hpl : ((backTo pos (starEach [] X.env)).any (·.1) || (backToKw pos (keywordEach kws X.env)).any (·.1.isNone)) = false := by rfl) :
    EX X (.Call (.Name x p) [] kws pos) (xCallK sp gD aNil dk) := by
  obtain ⟨tk, pk, sk⟩ := hkw
  refine ⟨_, pe_callN0 F hr hg hm hk hb pass0 pk hall hks hdb hpl, fun {b g σ S H Qd Q} R h kk => sk R h fun es g2 ws S2 H2 q2 R2 x2 r2 l2 => ⟨rfl, by rw [r2.len, l2, hj], ?_⟩⟩
  exact call_sound R2 (ArOk.ofReps (kw.rep .nil r2)) (by rw [List.length_map, kw.len rfl l2]) q2 fun r g3 v S3 H3 q3 R3 x3 rr => kk r g3 v S3 H3 q3 R3 (x2.trans x3) (rr.from x2)
/-! ### static methods -/
def xSt (C : Addr) (sp : DSp) (gD : List D → List D → List D) (de : DE) (da dk : DA) : DX := fun g Q => de g fun x g1 => x = .raw (.ref C) ∧ da g1 fun ds g2 => dk g2 fun es g3 => callK sp ((gD ds es).map .sh) g3 Q fun _ _ _ => False
theorem ex_st {C pa fa : Addr} {mc : Value} {fd : FuncData} {ps ks : List Str} {k n j m' : Nat} {sp : DSp} {de : DE} {da dk : DA} {gg : List Value → List Value → List Value} {gV : List V → List V → List V} {gD : List D → List D → List D} {pl : Sem Bool} (he : ED X o de) (c : OV.SMet X.K C mc m pa fa) (F : FnOk X.prog X.w X.K X.mg X.base CX0 k fa fd ps (spD X.K m' sp)) (hr : Room k X.A) (hb : KBn X.K fd ps n ks gg gV)
    (kw : KwD gV gD n j m') (ha : AD X (e :: es) n da) (hkw : KD X kws j dk) (hj : ks.length = j)
    (hall : (backToKw pos (keywordEach kws X.env)).all (·.1.isSome) = true := by rfl) (hks : (backToKw pos (keywordEach kws X.env)).filterMap (·.1) = ks := by rfl)
    (hst : starEach (e :: es) X.env = (false, eval e X.env) :: starEach es X.env := by rfl)
    (hpl : ((backTo pos (starEach (e :: es) X.env)).any (·.1) || (backToKw pos (keywordEach kws X.env)).any (·.1.isNone)) = false := by rfl)
    (ht : eval (.Call (.Attribute o m apos) (e :: es) kws pos) X.env = (do
      let ov ← eval o X.env
      standAt apos.atName
      let (f, first) ← holding [ov] (getMethod ov m pl)
      callWith pos f first (backTo pos (starEach (e :: es) X.env)) (backToKw pos (keywordEach kws X.env))) := by rfl) :
    EX X (.Call (.Attribute o m apos) (e :: es) kws pos) (xSt C sp gD de da dk) := by
  obtain ⟨te, pe, se⟩ := he
  obtain ⟨ta, pa', sa⟩ := ha
  obtain ⟨tk, pk, sk⟩ := hkw
  refine ⟨_, OV.pe_st pe c F hr hb pass0 pa' pk hall hks hst hpl ht, fun {b g σ S H Qd Q} R h kk => se R h fun z g0 u S0 H0 q0 R0 x0 r0 => ?_⟩
  obtain ⟨rfl, q0⟩ := q0
  refine ⟨r0.raw, sa R0 q0 fun ds g1 vs S1 H1 q1 R1 x1 r1 l1 => sk R1 q1 fun es g2 ws S2 H2 q2 R2 x2 r2 l2 => ⟨by rw [r1.len, l1], by rw [r2.len, l2, hj], ?_⟩⟩
  exact call_sound R2 (ArOk.ofReps (kw.rep (Reps.le x2.le _ _ r1) r2)) (by rw [List.length_map, kw.len l1 l2]) q2 fun r g3 v S3 H3 q3 R3 x3 rr => kk r g3 v S3 H3 q3 R3 ((x0.trans (x1.trans x2)).trans x3) (rr.from (x0.trans (x1.trans x2)))
theorem ex_st0 {C pa fa : Addr} {mc : Value} {fd : FuncData} {ps ks : List Str} {k j m' : Nat} {sp : DSp} {de : DE} {dk : DA} {gg : List Value → List Value → List Value} {gV : List V → List V → List V} {gD : List D → List D → List D} {pl : Sem Bool} (he : ED X o de) (c : OV.SMet X.K C mc m pa fa) (F : FnOk X.prog X.w X.K X.mg X.base CX0 k fa fd ps (spD X.K m' sp)) (hr : Room k X.A) (hb : KBn X.K fd ps 0 ks gg gV)
    (kw : KwD gV gD 0 j m') (hkw : KD X kws j dk) (hj : ks.length = j)
    (hall : (backToKw pos (keywordEach kws X.env)).all (·.1.isSome) = true := by rfl) (hks : (backToKw pos (keywordEach kws X.env)).filterMap (·.1) = ks := by rfl)
    (hpl : ((backTo pos (starEach [] X.env)).any (·.1) || (backToKw pos (keywordEach kws X.env)).any (·.1.isNone)) = false := by rfl)
    (ht : eval (.Call (.Attribute o m apos) [] kws pos) X.env = (do
      let ov ← eval o X.env
      standAt apos.atName
      let (f, first) ← holding [ov] (getMethod ov m pl)
      callWith pos f first (backTo pos (starEach [] X.env)) (backToKw pos (keywordEach kws X.env))) := by rfl) :
    EX X (.Call (.Attribute o m apos) [] kws pos) (xSt C sp gD de aNil dk) := by
  obtain ⟨te, pe, se⟩ := he
  obtain ⟨tk, pk, sk⟩ := hkw
  refine ⟨_, OV.pe_st0 pe c F hr hb pass0 pk hall hks hpl ht, fun {b g σ S H Qd Q} R h kk => se R h fun z g0 u S0 H0 q0 R0 x0 r0 => ?_⟩
  obtain ⟨rfl, q0⟩ := q0
  refine ⟨r0.raw, sk R0 q0 fun es g2 ws S2 H2 q2 R2 x2 r2 l2 => ⟨rfl, by rw [r2.len, l2, hj], ?_⟩⟩
  exact call_sound R2 (ArOk.ofReps (kw.rep .nil r2)) (by rw [List.length_map, kw.len rfl l2]) q2 fun r g3 v S3 H3 q3 R3 x3 rr => kk r g3 v S3 H3 q3 R3 ((x0.trans x2).trans x3) (rr.from (x0.trans x2))
end
end DL

set_option maxRecDepth 100000
set_option maxHeartbeats 4000000
namespace DL
open PySem L2
section
variable {X : Cx} {K : PySem.W.Frag} {e v1 v2 : Expr} {es : List Expr} {pos : Pos}
/-! ### f-strings -/
abbrev DJ := Str → G → (Str → G → Prop) → Prop
def SndJ (K : PySem.W.Frag) (ts : List TE) (d : DJ) : Prop := ∀ {b : Bs} {g : G} {σ : St} {S H : Hp} {out : Str} {Qd : Str → G → Prop} {Q : Str → Hp → Prop}, Rel K b g σ S H → d out g Qd →
  (∀ r g' S' H', Qd r g' → Rel K b g' σ S' H' → Ext g σ S H g' S' H' → Q r H') → tJs ts out σ H Q
def JD (X : Cx) (es : List Expr) (d : DJ) : Prop := ∃ ts, PJ X es ts ∧ SndJ X.K ts d
def jNil : DJ := fun out g Q => Q out g
def jCons (de : DE) (dj : DJ) : DJ := fun out g Q => de g fun x g1 => match x with
  | .str y => (out ++ y).length ≤ sizeLine ∧ dj (out ++ y) g1 Q
  | _ => False
theorem jd_nil : JD X [] jNil := ⟨_, PJ.nil, fun {b g σ S H out Qd Q} R hd k => k out g S H hd R .rfl⟩
theorem jd_cons {de : DE} {dj : DJ} (he : ED X e de) (hj : JD X es dj) : JD X (e :: es) (jCons de dj) := by
  obtain ⟨t, pe, se⟩ := he
  obtain ⟨ts, pj, sj⟩ := hj
  refine ⟨_, PJ.cons pe pj, fun {b g σ S H out Qd Q} R hd k => se R hd fun x g1 v S1 H1 q1 R1 x1 r1 => ?_⟩
  cases x with
  | str y => exact ⟨y, r1.str, q1.1, sj R1 q1.2 fun r g2 S2 H2 q2 R2 x2 => k r g2 S2 H2 q2 R2 (x1.trans x2)⟩
  | _ => exact q1.elim
def eFmt (de : DE) : DE := fun g Q => de g fun x g1 => match x with
  | .str y => y.length ≤ sizeLine ∧ Q (.str y) g1
  | .int i => i.natAbs.log2 < 1920 ∧ Q (.str (Str.ofString (toString i))) g1
  | _ => False
theorem ed_fmt {de : DE} (he : ED X e de) : ED X (e.FormattedValue (-1) none pos) (eFmt de) := by
  obtain ⟨t, pe, se⟩ := he
  refine ⟨_, pe_fmt pe, fun {b g σ S H Qd Q} R hd k => se R hd fun x g1 v S1 H1 q1 R1 x1 r1 => ?_⟩
  cases x with
  | str y => exact .inl ⟨y, r1.str, q1.1, k _ g1 _ S1 H1 q1.2 R1 x1 (Rep.ofStr (K := X.K) (S := S1) y)⟩
  | int i => exact .inr ⟨i, r1.int, q1.1, k _ g1 _ S1 H1 q1.2 R1 x1 (Rep.ofStr (K := X.K) (S := S1) _)⟩
  | _ => exact q1.elim
def eJoin (dj : DJ) : DE := fun g Q => dj Str.empty g fun out g1 => Q (.str out) g1
theorem ed_joined {dj : DJ} (hj : JD X (v1 :: v2 :: es) dj) : ED X (.JoinedStr (v1 :: v2 :: es) pos) (eJoin dj) := by
  obtain ⟨ts, pj, sj⟩ := hj
  exact ⟨_, pe_joined pj, fun {b g σ S H Qd Q} R hd k => sj R hd fun r g1 S1 H1 q1 R1 x1 => k _ g1 _ S1 H1 q1 R1 x1 (Rep.ofStr (K := X.K) (S := S1) _)⟩
end
end DL

set_option maxRecDepth 100000
set_option maxHeartbeats 4000000
namespace DL
open PySem L2
section
variable {X : Cx} {K : PySem.W.Frag} {a b c o : Expr} {pos apos : Pos}
/-! ### keywords in any order -/
def permL {α : Type} (l : List Nat) (zs : List α) : List α := l.filterMap fun i => zs[i]?
theorem permL_cons {α : Type} {l : List Nat} {i : Nat} {zs : List α} {z : α} (h : zs[i]? = some z) : permL (i :: l) zs = z :: permL l zs := by
  unfold permL
  rw [List.filterMap_cons, h]
theorem permL_none {α : Type} {l : List Nat} {i : Nat} {zs : List α} (h : zs[i]? = none) : permL (i :: l) zs = permL l zs := by
  unfold permL
  rw [List.filterMap_cons, h]
theorem Reps.perm {S : Hp} {ds : List D} {vs : List V} (r : Reps K S ds vs) : ∀ l, Reps K S (permL l ds) (permL l vs)
  | [] => .nil
  | i :: l => by
    cases e : ds[i]? with
    | none =>
      have e2 : vs[i]? = none := by
        rw [List.getElem?_eq_none_iff] at e ⊢
        rw [r.len]
        exact e
      rw [permL_none e, permL_none e2]
      exact r.perm l
    | some d =>
      obtain ⟨v, e2, h⟩ := r.get e
      rw [permL_cons e, permL_cons e2]
      exact .cons h (r.perm l)
theorem vals_at {vs : List V} {us : List Value} (r : Vals vs us) : ∀ i : Nat, (∃ v u, vs[i]? = some v ∧ us[i]? = some u ∧ RelV v u) ∨ (vs[i]? = none ∧ us[i]? = none) := by
  induction r with
  | nil => exact fun i => .inr ⟨by simp, by simp⟩
  | cons h _ ih =>
    intro i
    cases i with
    | zero => exact .inl ⟨_, _, rfl, rfl, h⟩
    | succ i => simpa using ih i
theorem vals_perm {vs : List V} {us : List Value} (r : Vals vs us) : ∀ l, Vals (permL l vs) (permL l us)
  | [] => .nil
  | i :: l => by
    rcases vals_at r i with ⟨v, u, e1, e2, h⟩ | ⟨e1, e2⟩
    · rw [permL_cons e1, permL_cons e2]
      exact .cons h (vals_perm r l)
    · rw [permL_none e1, permL_none e2]
      exact vals_perm r l
theorem permL_len {α : Type} {zs : List α} : ∀ {l : List Nat}, (∀ i ∈ l, i < zs.length) → (permL l zs).length = l.length
  | [], _ => rfl
  | i :: l, h => by
    rw [permL_cons (List.getElem?_eq_getElem (h i List.mem_cons_self)), List.length_cons, List.length_cons, permL_len fun k hk => h k (List.mem_cons_of_mem _ hk)]
theorem kwd_perm {n j m : Nat} (l : List Nat) (h : n + l.length = m) (hl : l.all (fun i => decide (i < j)) = true) : KwD (fun vs zs => vs ++ permL l zs) (fun vs zs => vs ++ permL l zs) n j m :=
  ⟨fun r s => r.append (s.perm l), fun {ds es} x y => by
    rw [List.length_append, permL_len (fun i hi => by rw [y]; exact of_decide_eq_true (List.all_eq_true.mp hl i hi)), x, h]⟩
/-! ### a < b < c -/
def eChain (f f' : G2) (da db dc : DE) : DE := fun g Q => da g fun x g1 => db g1 fun y g2 => f x y fun z => match z with
  | .sh (.bl k) => if k = true then dc g2 fun w g3 => f' y w fun z' => match z' with
    | .sh d => Q d g3
    | .ow _ => False
    else Q (.bl false) g2
  | _ => False
theorem snd_chain {r r' : R2} {f f' : G2} {ta tb tc : TE} {da db dc : DE} (h : SndO K r f) (h' : SndO K r' f') (sa : SndE K ta da) (sb : SndE K tb db) (sc : SndE K tc dc) : SndE K (tChain r r' ta tb tc) (eChain f f' da db dc) := fun {b g σ S H Qd Q} R hd k =>
  sa R hd fun x g1 v S1 H1 q1 R1 x1 r1 => sb R1 q1 fun y g2 w S2 H2 q2 R2 x2 r2 => h R2 (Rep.le x2.le _ _ r1) r2 q2 fun z u S3 H3 q3 R3 x3 rz => by
    cases z with
    | ow _ => exact q3.elim
    | sh d =>
      cases d with
      | bl c =>
        refine ⟨c, Rep.bl (K := K) (S := S3) rz, ?_⟩
        have q3 : if c = true then dc g2 fun w g3 => f' y w fun z' => match z' with
          | .sh d => Qd d g3
          | .ow _ => False
          else Qd (.bl false) g2 := q3
        cases c with
        | false => exact k _ _ _ _ _ q3 R3 ((x1.trans x2).trans x3) (Rep.ofBl (K := K) (S := S3) false)
        | true =>
          refine sc R3 q3 fun w g3 w' S4 H4 q4 R4 x4 r4 => h' R4 (Rep.le (x3.trans x4).le _ _ r2) r4 q4 fun z' u' S5 H5 q5 R5 x5 rz' => ?_
          cases z' with
          | ow _ => exact q5.elim
          | sh d => exact k d _ _ _ _ q5 R5 ((((x1.trans x2).trans x3).trans x4).trans x5) rz'
      | _ => exact q3.elim
theorem ed_chain {op op' : CmpOp} {f f' : G2} {da db dc : DE} (h : OpD X (compareOp op) f) (h' : OpD X (compareOp op') f') (ha : ED X a da) (hb : ED X b db) (hc : ED X c dc) (hm : lastMarks [op, op'] [b, c] = false := by rfl) : ED X (.Compare a [op, op'] [b, c] pos) (eChain f f' da db dc) := by
  obtain ⟨r, h1, h2⟩ := h
  obtain ⟨r', h1', h2'⟩ := h'
  obtain ⟨ta, pa, sa⟩ := ha
  obtain ⟨tb, pb, sb⟩ := hb
  obtain ⟨tc, pc, sc⟩ := hc
  exact ⟨_, pe_chain h1 h1' pa pb pc hm, snd_chain h2 h2' sa sb sc⟩
theorem td_chain {op op' : CmpOp} {f f' : G2} {da db dc : DE} (h : OpD X (compareOp op) f) (h' : OpD X (compareOp op') f') (ha : ED X a da) (hb : ED X b db) (hc : ED X c dc) (hm : lastMarks [op, op'] [b, c] = false := by rfl) : TD X (.Compare a [op, op'] [b, c] pos) (tTD (eChain f f' da db dc)) := by
  obtain ⟨r, h1, h2⟩ := h
  obtain ⟨r', h1', h2'⟩ := h'
  obtain ⟨ta, pa, sa⟩ := ha
  obtain ⟨tb, pb, sb⟩ := hb
  obtain ⟨tc, pc, sc⟩ := hc
  exact ⟨_, pt_chain h1 h1' pa pb pc hm, snd_test (snd_chain h2 h2' sa sb sc)⟩
/-! ### what the top binds: tuples -/
theorem rep_ktup {t : Addr} {vs : List V} {ds : List D} (l : ∃ (o : Obj) (its : Array Value) (n : Nat), K.lookup t = some o ∧ o.cls = .type "tuple" ∧ o.data = .seq its n ∧ its.size ≤ sizeLine ∧ Vals vs its.toList) (r : ∀ S, Reps K S ds vs) : ∀ S, Rep K S (.tup ds) (.ref t) := fun S => by
  unfold Rep
  exact ⟨t, vs, rfl, .inr l, r S⟩
/-! ### bits -/
def eBits (de : DE) : DE := fun g Q => de g fun x g1 => match x with
  | .int i => Q (.int (Builtin.Int.intBits i : Nat)) g1
  | _ => False
theorem ed_bits {de : DE} (he : ED X o de) (h1 : attributeBase o "bit_length" X.env (eval o X.env) = eval o X.env := by rfl) (h2 : (apos.endLine == pos.line) = true := by rfl) : ED X (.Call (.Attribute o "bit_length" apos) [] [] pos) (eBits de) := by
  obtain ⟨t, pe, se⟩ := he
  refine ⟨_, pe_bits pe h1 h2, fun {b g σ S H Qd Q} R hd k => se R hd fun x g1 v S1 H1 q1 R1 x1 r1 => ?_⟩
  cases x with
  | int i => exact ⟨i, r1.int, k _ g1 _ S1 H1 q1 R1 x1 (Rep.ofInt (K := X.K) (S := S1) _)⟩
  | _ => exact q1.elim
end
end DL

set_option maxRecDepth 100000
set_option maxHeartbeats 4000000
namespace DL
open PySem L2
section
variable {X : Cx} {K : PySem.W.Frag} {e e2 : Expr} {apos cpos p' : Pos} {x : Str}
theorem Reps.erase {S : Hp} {ds : List D} {vs : List V} (r : Reps K S ds vs) (k : Nat) : Reps K S (ds.eraseIdx k) (vs.eraseIdx k) := by
  rw [List.eraseIdx_eq_take_drop_succ, List.eraseIdx_eq_take_drop_succ]
  exact (r.take k).append (r.drop (k + 1))
/-- x.pop(e) -/
def xPopAt (i : Nat) (de : DE) : DX := fun g Q => match ownL (gt g i) with
  | some _ => de g fun y g1 => match y with
    | .int j => match ownL (gt g1 i) with
      | some ds => ∃ k d, (-2 ^ 63 ≤ j ∧ j < 2 ^ 63) ∧ seqIndex? j ds.length = some k ∧ ds[k]? = some d ∧ Q (.sh d) (g1.set i (setL (gt g1 i) (ds.eraseIdx k)))
      | none => False
    | _ => False
  | none => False
theorem ex_popAt {de : DE} (i : Nat) (he : ED X e de) (hN : X.N[i]? = some x := by rfl) (hv : Vis X.env.scope x := by first | exact Or.inl rfl | exact Or.inr (Or.inl rfl) | exact Or.inr (Or.inr rfl))
    (hbase : attributeBase (.Name x p') "pop" X.env (eval (.Name x p') X.env) = eval (.Name x p') X.env := by rfl)
    (hfew : ((backTo cpos (starEach [e] X.env)).all (fun x => !x.1) && (backToKw cpos (keywordEach [] X.env)).all (fun x => x.1.isSome)
      && decide ([e].length + ([] : List Keyword).length + (if ([] : List Keyword).isEmpty then 0 else 1) < 30)) = true := by rfl)
    (hline : (apos.endLine == cpos.line) = true := by rfl) (hs : starEach [e] X.env = (false, eval e X.env) :: starEach [] X.env := by rfl) (hplain : (backTo cpos (starEach [] X.env)).any (·.1) = false := by rfl)
    (hd : (x == ("__debug__" : Str)) = false := by decide) (hcd : (x == ("__classdict__" : Str)) = false := by decide) :
    EX X (.Call (.Attribute (.Name x p') "pop" apos) [e] [] cpos) (xPopAt i de) := by
  obtain ⟨te, pe, se⟩ := he
  refine ⟨_, pe_bm PySem.F.plainAttrs_list PySem.F.slot_list_pop PySem.F.type_list_pop mt_popAt (pe_var hN hv hd hcd) (pa_cons pe pa_nil hs) hbase hfew hline hs hplain, fun {b g σ S H Qd Q} R hd k => ?_⟩
  unfold xPopAt at hd
  cases e0 : ownL (gt g i) with
  | none => rw [e0] at hd; exact hd.elim
  | some ds0 =>
    rw [e0] at hd
    obtain ⟨a, vs0, q0, h0, _, _⟩ := R.mut e0
    refine ⟨_, q0, .inl ⟨rfl, _, SqL.of h0⟩, se R hd fun y g1 v S1 H1 q1 R1 x1 r1 => ?_⟩
    cases y with
    | int j =>
      cases e1 : ownL (gt g1 i) with
      | none => simp only [e1] at q1
      | some ds =>
        simp only [e1] at q1
        obtain ⟨k0, d, ⟨j0, j1⟩, hk, hdd, q2⟩ := q1
        obtain ⟨a1, vs, q, h1, rs, up⟩ := R1.mut e1
        rw [q0] at q
        cases q
        obtain ⟨w, hw, rw'⟩ := rs.get hdd
        obtain ⟨R2, x2⟩ := up (ds.eraseIdx k0) (vs.eraseIdx k0) (rs.erase k0)
        have := r1.int
        subst this
        exact ⟨a, vs, j, k0, w, rfl, rfl, h1, j0, j1, by rw [rs.len]; exact hk, hw, k _ _ _ _ _ q2 R2 (x1.trans x2) rw'⟩
    | _ => exact q1.elim
/-- x.insert(e, e2) -/
def xIns (i : Nat) (de df : DE) : DX := fun g Q => match ownL (gt g i) with
  | some _ => de g fun y g1 => df g1 fun z g2 => match y with
    | .int j => match ownL (gt g2 i) with
      | some ds => ds.length < sizeLine ∧ (0 ≤ j ∧ j < 2 ^ 63) ∧ Q (.sh .non) (g2.set i (setL (gt g2 i) (ds.take j.toNat ++ [z] ++ ds.drop j.toNat)))
      | none => False
    | _ => False
  | none => False
theorem ex_insert {de df : DE} (i : Nat) (he : ED X e de) (hf : ED X e2 df) (hN : X.N[i]? = some x := by rfl) (hv : Vis X.env.scope x := by first | exact Or.inl rfl | exact Or.inr (Or.inl rfl) | exact Or.inr (Or.inr rfl))
    (hbase : attributeBase (.Name x p') "insert" X.env (eval (.Name x p') X.env) = eval (.Name x p') X.env := by rfl)
    (hfew : ((backTo cpos (starEach [e, e2] X.env)).all (fun x => !x.1) && (backToKw cpos (keywordEach [] X.env)).all (fun x => x.1.isSome)
      && decide ([e, e2].length + ([] : List Keyword).length + (if ([] : List Keyword).isEmpty then 0 else 1) < 30)) = true := by rfl)
    (hline : (apos.endLine == cpos.line) = true := by rfl) (hs : starEach [e, e2] X.env = (false, eval e X.env) :: starEach [e2] X.env := by rfl) (hs2 : starEach [e2] X.env = (false, eval e2 X.env) :: starEach [] X.env := by rfl) (hplain : (backTo cpos (starEach [e2] X.env)).any (·.1) = false := by rfl)
    (hd : (x == ("__debug__" : Str)) = false := by decide) (hcd : (x == ("__classdict__" : Str)) = false := by decide) :
    EX X (.Call (.Attribute (.Name x p') "insert" apos) [e, e2] [] cpos) (xIns i de df) := by
  obtain ⟨te, pe, se⟩ := he
  obtain ⟨tf, pf, sf⟩ := hf
  refine ⟨_, pe_bm PySem.F.plainAttrs_list PySem.F.slot_list_insert PySem.F.type_list_insert mt_insert (pe_var hN hv hd hcd) (pa_cons pe (pa_cons pf pa_nil hs2) hs) hbase hfew hline hs hplain, fun {b g σ S H Qd Q} R hd k => ?_⟩
  unfold xIns at hd
  cases e0 : ownL (gt g i) with
  | none => rw [e0] at hd; exact hd.elim
  | some ds0 =>
    rw [e0] at hd
    obtain ⟨a, vs0, q0, h0, _, _⟩ := R.mut e0
    refine ⟨_, q0, .inl ⟨rfl, _, SqL.of h0⟩, se R hd fun y g1 v S1 H1 q1 R1 x1 r1 => sf R1 q1 fun z g2 w S2 H2 q2 R2 x2 r2 => ?_⟩
    cases y with
    | int j =>
      cases e1 : ownL (gt g2 i) with
      | none => simp only [e1] at q2
      | some ds =>
        simp only [e1] at q2
        obtain ⟨hl, ⟨j0, j1⟩, q2⟩ := q2
        obtain ⟨a1, vs, q, h1, rs, up⟩ := R2.mut e1
        rw [q0] at q
        cases q
        obtain ⟨R3, x3⟩ := up (ds.take j.toNat ++ [z] ++ ds.drop j.toNat) (vs.take j.toNat ++ [w] ++ vs.drop j.toNat) (((rs.take _).append (.cons r2 .nil)).append (rs.drop _))
        have := r1.int
        subst this
        exact ⟨a, vs, j, w, rfl, rfl, h1, by rw [rs.len]; exact hl, j0, j1, k _ _ _ _ _ q2 R3 ((x1.trans x2).trans x3) (Rep.ofNon (K := X.K) (S := S2))⟩
    | _ => exact q2.elim
end
end DL

set_option maxRecDepth 100000
set_option maxHeartbeats 4000000
/-! zip of any number of iterators whose tuples are kept: list(zip(..)) -/
namespace ZN
open PySem
open Sem (wp)
open PySem.W (KdxIt kdx_alive)
structure Src where
  it : Addr
  fp : List Addr
  n : Nat
  P : Nat → Value → Prop
  St : Nat → Heap → Prop
abbrev Refs (ss : List Src) : List Value := ss.map fun t => Value.ref t.it
structure Apart (z TI TO : Addr) (ss : List Src) : Prop where
  TIz : TI ≠ z
  TOz : TO ≠ z
  TITO : TI ≠ TO
  one : ∀ t ∈ ss, t.it ∈ t.fp ∧ z ∉ t.fp ∧ TO ∉ t.fp ∧ TI ≠ t.it
  sep : ss.Pairwise fun t u => t.it ∉ u.fp ∧ u.it ∉ t.fp
def AllD (prog : Program) (w : World) (A : Around) (ss : List Src) : Prop := ∀ t ∈ ss, Draws prog w A t.it t.fp t.n t.P t.St
def Ats (i : Nat) : List Src → List Value → Prop
  | [], xs => xs = []
  | t :: ss, xs => ∃ x r, xs = x :: r ∧ t.P i x ∧ Ats i ss r
theorem Ats.snoc {i : Nat} : ∀ {ss : List Src} {xs : List Value} {t : Src} {x : Value}, Ats i ss xs → t.P i x → Ats i (ss ++ [t]) (xs ++ [x])
  | [], xs, t, x, h, p => by
    have h : xs = [] := h
    subst h
    exact ⟨x, [], rfl, p, rfl⟩
  | u :: ss, xs, t, x, h, p => by
    obtain ⟨y, r, rfl, q, h⟩ := h
    exact ⟨y, r ++ [x], rfl, q, h.snoc p⟩
theorem Ats.len {i : Nat} : ∀ {ss : List Src} {xs : List Value}, Ats i ss xs → xs.length = ss.length
  | [], xs, h => by
    have h : xs = [] := h
    subst h
    rfl
  | u :: ss, xs, h => by
    obtain ⟨y, r, rfl, q, h⟩ := h
    simp [h.len]
theorem Apart.other {z TI TO : Addr} {done todo : List Src} {t : Src} (S : Apart z TI TO (done ++ t :: todo)) : (∀ u ∈ done, t.it ∉ u.fp) ∧ ∀ u ∈ todo, t.it ∉ u.fp := by
  have h := List.pairwise_append.mp S.sep
  refine ⟨fun u hu => (h.2.2 u hu t List.mem_cons_self).2, fun u hu => ?_⟩
  have := (List.pairwise_cons.mp h.2.1).1 u hu
  exact this.1
section
variable {prog : Program} {w : World} {A : Around} {E : Value → Shared → Prop} {s : Shared} {z TI TO T : Addr} {ss : List Src} {i : Nat}
/-- the loop over the iterators while the tuple is out -/
theorem next_held {f : Bool} {oT : Obj} {QQ : Fin → Shared → Prop} (S : Apart z TI TO ss) (D : AllD prog w A ss) (hne : ss ≠ []) (hsz : ss.length ≤ sizeLine)
    (hz : IsZipHeld s.heap z TI TO T f) (hT : s.heap.get? T = some oT) (hTI : s.heap.get? TI = some { cls := .type "tuple", data := .seq (Refs ss).toArray }) (st : ∀ t ∈ ss, t.St i s.heap) (hle : ∀ t ∈ ss, i ≤ t.n)
    (hQ : (∀ t ∈ ss, i < t.n) → ∀ xs h' tk, Ats i ss xs → IsZipHeld h' z TI TO T true → (∀ t ∈ ss, t.St (i + 1) h') → h'.get? s.heap.objs.size = some { cls := .type "tuple", data := .seq xs.toArray } → h'.objs.size = s.heap.objs.size + 1 →
      (∀ c o, c ≠ z → (∀ t ∈ ss, c ≠ t.it) → s.heap.get? c = some o → h'.get? c = some o) → QQ (.done (.ret (.ref s.heap.objs.size))) { s with heap := h', toks := tk })
    (hE : (∃ t ∈ ss, t.n = i) → ∀ h' tk e, (∀ c o, c ≠ z → (∀ t ∈ ss, c ≠ t.it) → s.heap.get? c = some o → h'.get? c = some o) → (∃ o, h'.get? e = some o ∧ o.cls = .type "StopIteration") → E (.ref e) { s with heap := h', toks := tk }) :
    wpAny (model prog w) A (Builtin.«zip.__next__» ⟨[.ref z], []⟩) QQ E s := by
  obtain ⟨hp, g, d, tk0, os⟩ := s
  show wpAny _ _ (field (.ref z) 2 >>= _) _ _ _
  refine wpAny_bind (wpAny_field hz rfl (x := .bool false) rfl ?_)
  show wpAny _ _ (field (.ref z) 3 >>= _) _ _ _
  refine wpAny_bind (wpAny_field hz rfl (x := .ref TI) rfl ?_)
  refine wpAny_bind (wpAny_seqItems hTI rfl ?_)
  have hemp : ((Refs ss).toArray.isEmpty) = false := by
    cases ss with
    | nil => exact absurd rfl hne
    | cons _ _ => rfl
  simp only [hemp, Bool.false_eq_true, if_false]
  show wpAny _ _ (Builtin.SmallTypes.ownedTupleIsFree (.ref z) >>= _) _ _ _
  refine wpAny_bind (wpAny_tupleHeld_zip hz hT fun h₁ hz₁ hs₁ => ?_)
  simp only [Bool.false_eq_true, if_false]
  replace hs₁ : Heap.SameBut z hp h₁ := hs₁
  refine wpAny_bind (MeetsSeq2.wpAny_forIn_array _ (fun rest b s' => ∃ (done todo : List Src) (xs : List Value) (h2 : Heap) (tk : Nat), ss = done ++ todo ∧ rest = Refs todo ∧ b = ⟨none, xs.toArray⟩ ∧ s' = ⟨h2, g, d, tk, os⟩ ∧ Ats i done xs ∧
    IsZipHeld h2 z TI TO T true ∧ h2.objs.size = hp.objs.size ∧ (∀ t ∈ done, t.St (i + 1) h2 ∧ i < t.n) ∧ (∀ t ∈ todo, t.St i h2) ∧ (∀ c o, c ≠ z → (∀ t ∈ ss, c ≠ t.it) → hp.get? c = some o → h2.get? c = some o)) _ ?_ ?_ _ _ ?_)
  · rintro x rest b s' ⟨done, todo, xs, h2, tk, ess, er, rfl, rfl, ha, hz2, hs2, hd, ht, hk⟩
    cases todo with
    | nil => cases er
    | cons t todo =>
      cases er
      have tin : t ∈ ss := by rw [ess]; simp
      have S' : Apart z TI TO (done ++ t :: todo) := ess ▸ S
      obtain ⟨o1, o2⟩ := S'.other
      obtain ⟨m1, m2, m3, m4⟩ := S.one t tin
      refine wpAny_bind (wpAny_holding ?_)
      show wpAny _ _ (Builtin.SmallTypes.nextOf (.ref t.it) >>= _) _ _ _
      rcases Nat.lt_or_ge i t.n with hlt | hge
      · refine wpAny_bind ((D t tin).item i ⟨h2, g, d, tk, os⟩ _ _ hlt (ht t List.mem_cons_self) fun x h3 tk3 hx st3 hs3 => wpAny_pure (wpAny_pure ?_))
        replace hs3 : Heap.SameBut t.it h2 h3 := hs3
        refine ⟨done ++ [t], todo, xs ++ [x], h3, tk3, by simpa using ess, rfl, by simp, rfl, ha.snoc hx, hs3.extBut _ _ (fun q => m2 (by rw [q]; exact m1)) hz2, hs3.1.trans hs2, fun u hu => ?_, fun u hu => ?_, fun c o c1 c2 e => hs3.extBut _ _ (c2 t tin) (hk c o c1 c2 e)⟩
        · rcases List.mem_append.mp hu with hu | hu
          · have uin : u ∈ ss := by rw [ess]; exact List.mem_append_left _ hu
            exact ⟨(D u uin).over (hd u hu).1 hs3 (o1 u hu), (hd u hu).2⟩
          · obtain rfl := List.mem_singleton.mp hu
            exact ⟨st3, hlt⟩
        · have uin : u ∈ ss := by rw [ess]; exact List.mem_append_right _ (List.mem_cons_of_mem _ hu)
          exact (D u uin).over (ht u (List.mem_cons_of_mem _ hu)) hs3 (o2 u hu)
      · have hn : t.n = i := Nat.le_antisymm hge (hle t tin)
        refine wpAny_bind ((D t tin).done ⟨h2, g, d, tk, os⟩ _ _ (by rw [hn]; exact ht t List.mem_cons_self) fun h3 e hq he => ?_)
        replace hq : Heap.ExtBut t.it h2 h3 := hq
        exact hE ⟨t, tin, hn⟩ h3 tk e (fun c o c1 c2 q => hq _ _ (c2 t tin) (hk c o c1 c2 q)) he
  · rintro b s' ⟨done, todo, xs, h2, tk, ess, er, rfl, rfl, ha, hz2, hs2, hd, ht, hk⟩
    have e0 : todo = [] := by
      cases todo with
      | nil => rfl
      | cons _ _ => cases er
    subst e0
    rw [List.append_nil] at ess
    subst ess
    show wpAny _ _ (newTuple xs.toArray.toList >>= _) _ _ _
    refine wpAny_bind (wpAny_newTuple (wpAny_pure ?_) (by show xs.length ≤ sizeLine; rw [ha.len]; exact hsz))
    have hp2 := Heap.get?_push_size (o := { cls := .type "tuple", data := .seq xs.toArray }) h2 rfl
    have e2 : (xs.toArray.toList).toArray = xs.toArray := by simp
    show QQ (.done (.ret (.ref h2.objs.size))) ⟨h2.push { cls := .type "tuple", data := .seq xs.toArray.toList.toArray }, g, d, tk, os⟩
    rw [e2]
    rw [hs2] at hp2 ⊢
    exact hQ (fun t ht => (hd t ht).2) xs _ tk ha (Heap.get?_push_of_some _ hz2) (fun t ht => (D t ht).frame _ _ _ (hd t ht).1 fun b hb o e => Heap.get?_push_of_some _ e) hp2 (by rw [Heap.size_push, hs2]) fun c o c1 c2 e => Heap.get?_push_of_some _ (hk c o c1 c2 e)
  · exact ⟨[], ss, [], h₁, tk0, rfl, rfl, rfl, rfl, rfl, hz₁, hs₁.1, (fun t (ht : t ∈ ([] : List Src)) => absurd ht List.not_mem_nil), fun t ht => (D t ht).over (st t ht) hs₁ (S.one t ht).2.1, fun c o c1 c2 e => hs₁.extBut _ _ c1 e⟩

theorem put_at {xs old : List Value} {x y : Value} : ((xs ++ y :: old).toArray.setIfInBounds xs.length x) = ((xs ++ [x]) ++ old).toArray := by
  apply Array.ext'
  simp
/-- the first tuple -/
theorem next_free {QQ : Fin → Shared → Prop} {old : List Value} {cap : Nat} (S : Apart z TI TO ss) (D : AllD prog w A ss) (hne : ss ≠ []) (hsz : ss.length ≤ sizeLine)
    (hz : IsZip s.heap z TI TO .none) (hTI : s.heap.get? TI = some { cls := .type "tuple", data := .seq (Refs ss).toArray }) (hTO : s.heap.get? TO = some { cls := .type "tuple", data := .seq old.toArray cap }) (hol : old.length = ss.length) (st : ∀ t ∈ ss, t.St i s.heap) (hle : ∀ t ∈ ss, i ≤ t.n)
    (hQ : (∀ t ∈ ss, i < t.n) → ∀ xs h' tk, Ats i ss xs → IsZipHeld h' z TI TO s.heap.objs.size false → (∀ t ∈ ss, t.St (i + 1) h') → h'.get? s.heap.objs.size = some { cls := .type "tuple", data := .seq xs.toArray } → h'.objs.size = s.heap.objs.size + 1 →
      (∀ c o, c ≠ z → c ≠ TO → (∀ t ∈ ss, c ≠ t.it) → s.heap.get? c = some o → h'.get? c = some o) → QQ (.done (.ret (.ref s.heap.objs.size))) { s with heap := h', toks := tk })
    (hE : (∃ t ∈ ss, t.n = i) → ∀ h' tk e, (∀ c o, c ≠ z → c ≠ TO → (∀ t ∈ ss, c ≠ t.it) → s.heap.get? c = some o → h'.get? c = some o) → (∃ o, h'.get? e = some o ∧ o.cls = .type "StopIteration") → E (.ref e) { s with heap := h', toks := tk }) :
    wpAny (model prog w) A (Builtin.«zip.__next__» ⟨[.ref z], []⟩) QQ E s := by
  obtain ⟨hp, g, d, tk0, os⟩ := s
  show wpAny _ _ (field (.ref z) 2 >>= _) _ _ _
  refine wpAny_bind (wpAny_field hz rfl (x := .bool false) rfl ?_)
  show wpAny _ _ (field (.ref z) 3 >>= _) _ _ _
  refine wpAny_bind (wpAny_field hz rfl (x := .ref TI) rfl ?_)
  refine wpAny_bind (wpAny_seqItems hTI rfl ?_)
  have hemp : ((Refs ss).toArray.isEmpty) = false := by
    cases ss with
    | nil => exact absurd rfl hne
    | cons _ _ => rfl
  simp only [hemp, Bool.false_eq_true, if_false]
  show wpAny _ _ (Builtin.SmallTypes.ownedTupleIsFree (.ref z) >>= _) _ _ _
  refine wpAny_bind ?_
  unfold Builtin.SmallTypes.ownedTupleIsFree
  refine wpAny_bind (wpAny_field hz rfl (x := .none) rfl (wpAny_pure ?_))
  simp only [if_true]
  refine wpAny_bind (wpAny_rule ?_)
  refine wpAny_bind (wpAny_field hz rfl (x := .ref TO) rfl ?_)
  refine wpAny_bind (wpAny_setField_rec hz (by simp) fun h₁ hz₁ hs₁ => ?_)
  replace hz₁ : IsZip h₁ z TI TO .ellipsis := hz₁
  replace hs₁ : Heap.SameBut z hp h₁ := hs₁
  refine wpAny_bind (wpAny_forIn_list _ (fun rest b s' => ∃ (done todo : List Src) (xs ol : List Value) (h2 : Heap) (tk cp : Nat), ss = done ++ todo ∧ rest = (Refs todo).zipIdx xs.length ∧ b = ⟨none, ⟨⟩⟩ ∧ s' = ⟨h2, g, d, tk, os⟩ ∧ Ats i done xs ∧ ol.length = todo.length ∧
    IsZip h2 z TI TO .ellipsis ∧ h2.get? TO = some { cls := .type "tuple", data := .seq (xs ++ ol).toArray cp } ∧ h2.objs.size = hp.objs.size ∧ (∀ t ∈ done, t.St (i + 1) h2 ∧ i < t.n) ∧ (∀ t ∈ todo, t.St i h2) ∧ (∀ c o, c ≠ z → c ≠ TO → (∀ t ∈ ss, c ≠ t.it) → hp.get? c = some o → h2.get? c = some o)) _ ?_ ?_ _ _ ?_)
  · rintro x rest b s' ⟨done, todo, xs, ol, h2, tk, cp, ess, er, rfl, rfl, ha, hl, hz2, hO2, hs2, hd, ht, hk⟩
    cases todo with
    | nil => cases er
    | cons t todo =>
      cases ol with
      | nil => cases hl
      | cons y ol =>
      rw [Refs, List.map_cons, List.zipIdx_cons] at er
      cases er
      have tin : t ∈ ss := by rw [ess]; simp
      have S' : Apart z TI TO (done ++ t :: todo) := ess ▸ S
      obtain ⟨o1, o2⟩ := S'.other
      obtain ⟨m1, m2, m3, m4⟩ := S.one t tin
      refine wpAny_bind (wpAny_onRaise ?_)
      show wpAny _ _ (Builtin.SmallTypes.nextOf (.ref t.it) >>= _) _ _ _
      rcases Nat.lt_or_ge i t.n with hlt | hge
      · refine wpAny_bind ((D t tin).item i ⟨h2, g, d, tk, os⟩ _ _ hlt (ht t List.mem_cons_self) fun x h3 tk3 hx st3 hs3 => wpAny_pure ?_)
        replace hs3 : Heap.SameBut t.it h2 h3 := hs3
        have nT : TO ≠ t.it := fun q => m3 (by rw [q]; exact m1)
        have hO3 := hs3.extBut _ _ nT hO2
        refine wpAny_bind (wpAny_seqItems (s := ⟨h3, g, d, tk3, os⟩) hO3 rfl ?_)
        have zl : (xs ++ y :: ol).toArray.size ≤ sizeLine := by
          rw [List.size_toArray, List.length_append, ha.len, hl]
          rw [ess, List.length_append] at hsz
          exact hsz
        refine wpAny_bind (wpAny_updateSeq (s := ⟨h3, g, d, tk3, os⟩) hO3 rfl ?_ zl (by rw [Array.size_setIfInBounds]; exact Nat.le_succ_of_le zl))
        have hs4 := Heap.SameBut.update h3 TO (Obj.mapSeq (·.setIfInBounds xs.length x))
        have hO4 := Heap.get?_update_self (Obj.mapSeq (·.setIfInBounds xs.length x)) hO3 rfl
        have e4 : ∃ c, Obj.mapSeq (·.setIfInBounds xs.length x) { cls := .type "tuple", data := .seq (xs ++ y :: ol).toArray cp } = { cls := .type "tuple", data := .seq ((xs ++ [x]) ++ ol).toArray c } := by
          rw [← put_at (x := x) (y := y)]
          exact ⟨_, rfl⟩
        obtain ⟨c4, e4⟩ := e4
        rw [e4] at hO4
        generalize h3.update TO (Obj.mapSeq (·.setIfInBounds xs.length x)) = h4 at hs4 hO4
        refine wpAny_bind (wpAny_letGo (wpAny_pure ?_))
        refine ⟨done ++ [t], todo, xs ++ [x], ol, h4, tk3, c4, by simpa using ess, by simp [Refs], rfl, rfl, ha.snoc hx, by simpa using hl, hs4.extBut _ _ S.TOz.symm (hs3.extBut _ _ (fun q => m2 (by rw [q]; exact m1)) hz2), hO4, hs4.1.trans (hs3.1.trans hs2), fun u hu => ?_, fun u hu => ?_, fun c o c1 c2 c3 e => hs4.extBut _ _ c2 (hs3.extBut _ _ (c3 t tin) (hk c o c1 c2 c3 e))⟩
        · have uin : u ∈ ss := by
            rw [ess]
            rcases List.mem_append.mp hu with hu | hu
            · exact List.mem_append_left _ hu
            · obtain rfl := List.mem_singleton.mp hu
              simp
          rcases List.mem_append.mp hu with hu | hu
          · exact ⟨(D u uin).over ((D u uin).over (hd u hu).1 hs3 (o1 u hu)) hs4 (S.one u uin).2.2.1, (hd u hu).2⟩
          · obtain rfl := List.mem_singleton.mp hu
            exact ⟨(D u uin).over st3 hs4 (S.one u uin).2.2.1, hlt⟩
        · have uin : u ∈ ss := by rw [ess]; exact List.mem_append_right _ (List.mem_cons_of_mem _ hu)
          exact (D u uin).over ((D u uin).over (ht u (List.mem_cons_of_mem _ hu)) hs3 (o2 u hu)) hs4 (S.one u uin).2.2.1
      · have hn : t.n = i := Nat.le_antisymm hge (hle t tin)
        refine wpAny_bind ((D t tin).done ⟨h2, g, d, tk, os⟩ _ _ (by rw [hn]; exact ht t List.mem_cons_self) fun h3 e hq he => ?_)
        replace hq : Heap.ExtBut t.it h2 h3 := hq
        obtain ⟨oe, hoe, hce⟩ := he
        replace hoe : h3.get? e = some oe := hoe
        have hz3 : IsZip h3 z TI TO .ellipsis := hq _ _ (fun q => m2 (by rw [q]; exact m1)) hz2
        have hez : e ≠ z := fun x => by subst x; rw [hz3] at hoe; cases hoe; simp at hce
        refine wpAny_setField_rec (s := ⟨h3, g, d, tk, os⟩) hz3 (by simp) fun h4 _ hs4 => ?_
        replace hs4 : Heap.SameBut z h3 h4 := hs4
        exact hE ⟨t, tin, hn⟩ h4 tk e (fun c o c1 c2 c3 q => hs4.extBut _ _ c1 (hq _ _ (c3 t tin) (hk c o c1 c2 c3 q))) ⟨oe, hs4.extBut _ _ hez hoe, hce⟩
  · rintro b s' ⟨done, todo, xs, ol, h2, tk, cp, ess, er, rfl, rfl, ha, hl, hz2, hO2, hs2, hd, ht, hk⟩
    have e0 : todo = [] := by
      cases todo with
      | nil => rfl
      | cons _ _ => rw [Refs, List.map_cons, List.zipIdx_cons] at er; cases er
    subst e0
    have e1 : ol = [] := List.eq_nil_of_length_eq_zero hl
    subst e1
    rw [List.append_nil] at ess
    rw [List.append_nil] at hO2
    subst ess
    refine wpAny_bind (wpAny_seqItems (s := ⟨h2, g, d, tk, os⟩) hO2 rfl ?_)
    refine wpAny_bind (wpAny_newTuple ?_ (by show xs.length ≤ sizeLine; rw [ha.len]; exact hsz))
    have e2 : (xs.toArray.toList).toArray = xs.toArray := by simp
    show wpAny _ _ (Builtin.SmallTypes.ownedTupleHandOut (.ref z) (.ref h2.objs.size) >>= _) _ _ ⟨h2.push { cls := .type "tuple", data := .seq xs.toArray.toList.toArray }, g, d, tk, os⟩
    rw [e2]
    have zlt : z < h2.objs.size := Heap.lt_size hz2
    refine wpAny_bind ?_
    unfold Builtin.SmallTypes.ownedTupleHandOut
    have hz3 : IsZip (h2.push { cls := .type "tuple", data := .seq xs.toArray }) z TI TO .ellipsis := Heap.get?_push_of_some _ hz2
    have hp3 := Heap.get?_push_size (o := { cls := .type "tuple", data := .seq xs.toArray }) h2 rfl
    have sz3 : (h2.push { cls := .type "tuple", data := .seq xs.toArray }).objs.size = h2.objs.size + 1 := by rw [Heap.size_push]
    have kp3 : ∀ c o, h2.get? c = some o → (h2.push { cls := .type "tuple", data := .seq xs.toArray }).get? c = some o := fun c o e => Heap.get?_push_of_some _ e
    generalize (h2.push { cls := .type "tuple", data := .seq xs.toArray }) = h3 at hz3 hp3 sz3 kp3
    refine wpAny_bind (wpAny_setField_rec (s := ⟨h3, g, d, tk, os⟩) hz3 (by simp) fun h₇ hz₇ hs₇ => ?_)
    replace hz₇ : IsZip h₇ z TI TO (rawInt h2.objs.size) := hz₇
    refine wpAny_setField_rec (s := ⟨h₇, g, d, tk, os⟩) hz₇ (by simp) fun h₈ hz₈ hs₈ => ?_
    replace hz₈ : IsZip h₈ z TI TO (rawInt h2.objs.size) := hz₈
    replace hs₇ : Heap.SameBut z h3 h₇ := hs₇
    replace hs₈ : Heap.SameBut z h₇ h₈ := hs₈
    have up : ∀ c o, c ≠ z → h3.get? c = some o → h₈.get? c = some o := fun c o c1 e => hs₈.extBut _ _ c1 (hs₇.extBut _ _ c1 e)
    refine wpAny_pure ?_
    show QQ (.done (.ret (.ref h2.objs.size))) ⟨h₈, g, d, tk, os⟩
    have p8 := up _ _ (Nat.ne_of_gt zlt) hp3
    have s8 : h₈.objs.size = h2.objs.size + 1 := by rw [hs₈.1, hs₇.1, sz3]
    rw [hs2] at hz₈ p8 s8 ⊢
    exact hQ (fun t ht => (hd t ht).2) xs _ tk ha hz₈ (fun t ht => (D t ht).frame _ _ _ (hd t ht).1 fun b hb o e => up b o (fun q => (S.one t ht).2.1 (by rw [← q]; exact hb)) (kp3 b o e)) p8 s8 fun c o c1 c2 c3 e => up c o c1 (kp3 c o (hk c o c1 c2 c3 e))
  · exact ⟨[], ss, [], old, h₁, tk0, cap, rfl, by simp, rfl, rfl, rfl, hol, hz₁, hs₁.extBut _ _ S.TOz hTO, hs₁.1, (fun t (ht : t ∈ ([] : List Src)) => absurd ht List.not_mem_nil), fun t ht => (D t ht).over (st t ht) hs₁ (S.one t ht).2.1, fun c o c1 c2 c3 e => hs₁.extBut _ _ c1 e⟩
end
end ZN

set_option maxRecDepth 100000
set_option maxHeartbeats 4000000
namespace ZN
open PySem
open Sem (wp)
theorem zip_no_len : typeLookup (.type "zip") "__len__" = pure none := by rw [typeLookup_type, builtinLookup_eq_fast]; kernel_rfl
theorem zip_no_hint : typeLookup (.type "zip") "__length_hint__" = pure none := by rw [typeLookup_type, builtinLookup_eq_fast]; kernel_rfl
theorem iter_held {prog : Program} {w : World} {A : Around} {E : Value → Shared → Prop} {s : Shared} {z TI TO T : Addr} {f : Bool} {Q : Value → Shared → Prop} (hz : IsZipHeld s.heap z TI TO T f) (h : Q (.ref z) s) : wpAny (model prog w) A (pyIter (.ref z)) Q E s := by
  have hT : s.TypeIs (.ref z) "zip" := ⟨_, hz, rfl⟩
  refine wpAny_pyIter_slot hT F.slot_zip_iter (wpAny_call_entry F.slot_zip_iter hT F.entry_zip_iter ?_ (F.args_zip_iter_1 _))
  show wpAny _ _ (ret (.ref z)) _ _ s
  exact wpAny_pure ⟨_, rfl, "zip", _, hT, F.slot_zip_next.lookup, h⟩
/-- a walk whose items are remembered; S is the list that is being filled -/
structure WalkA (prog : Program) (w : World) (A : Around) (I S : Addr) (n : Nat) (St : Nat → Array Value → Shared → Prop) (Fn : Array Value → Shared → Prop) : Prop where
  item : ∀ i acc (s : Shared) (Q : Option Value → Shared → Prop) (E : Value → Shared → Prop), i < n → St i acc s →
    (∀ v s', St (i + 1) (acc.push v) s' → (∀ o, s.heap.get? S = some o → s'.heap.get? S = some o) → Q (some v) s') → wpAny (model prog w) A (pyNext (.ref I)) Q E s
  done : ∀ acc (s : Shared) (Q : Option Value → Shared → Prop) (E : Value → Shared → Prop), St n acc s → (∀ s', Fn acc s' → (∀ o, s.heap.get? S = some o → s'.heap.get? S = some o) → Q none s') → wpAny (model prog w) A (pyNext (.ref I)) Q E s
  frame : ∀ i acc (s : Shared) h', St i acc s → (∀ b o, b ≠ S → s.heap.get? b = some o → h'.get? b = some o) → (∃ o, h'.get? S = some o) → St i acc { s with heap := h' }
  self : ∀ i acc (s : Shared) (Q : Value → Shared → Prop) (E : Value → Shared → Prop), St i acc s → Q (.ref I) s → wpAny (model prog w) A (pyIter (.ref I)) Q E s
  type : ∀ i acc (s : Shared), St i acc s → s.TypeIs (.ref I) "zip"
  size : ∀ i acc (s : Shared), St i acc s → acc.size = i
  ne : S ≠ I
section
variable {prog : Program} {w : World} {A : Around} {R : Result → Shared → Prop} {I S : Addr} {n : Nat} {St : Nat → Array Value → Shared → Prop} {Fn : Array Value → Shared → Prop}
theorem loop (W : WalkA prog w A.in1 I S n St Fn) (hn : n ≤ sizeLine) (res : Value) :
    ∀ (k i : Nat) (s : Shared) (acc : Array Value) (c : Nat), n - i = k → i ≤ n → St i acc s → s.heap.get? S = some { cls := .type "list", dict := none, data := .seq acc c, slots := #[] } →
    (∀ s' acc' c', Fn acc' s' → s'.heap.get? S = some { cls := .type "list", dict := none, data := .seq acc' c', slots := #[] } → R (.ok (.ret res)) s') →
    codeAny (model prog w) A (.builtin "list.extend.loop" ⟨[.ref S, .ref I, res], []⟩) R s := by
  intro k
  induction k with
  | zero =>
    intro i s acc c hk hi hst hS hR
    have hin : i = n := by omega
    subst hin
    refine codeAny_builtin F.entry_extend_loop ?_
    rw [Around.under_plainId F.plain_extend_loop _]
    show wpAny _ A.in1 (pyNext (.ref I) >>= _) _ _ s
    refine wpAny_bind (W.done acc s _ _ hst fun s' hf hk => ?_)
    exact wpAny_pure (hR s' acc c hf (hk _ hS))
  | succ k ih =>
    intro i s acc c hk hi hst hS hR
    have hlt : i < n := by omega
    refine codeAny_builtin F.entry_extend_loop ?_
    rw [Around.under_plainId F.plain_extend_loop _]
    show wpAny _ A.in1 (pyNext (.ref I) >>= _) _ _ s
    refine wpAny_bind (W.item i acc s _ _ hlt hst fun v s' hst' hm => ?_)
    have hS' := hm _ hS
    have sz := W.size _ _ _ hst'
    rw [Array.size_push] at sz
    show wpAny _ A.in1 (updateSeq S (·.push v) >>= _) _ _ _
    refine wpAny_bind ?_
    refine wpAny_updateSeq hS' rfl (wpAny_pure ⟨plainId_quiet F.plain_extend_loop _, ih (i + 1) _ (acc.push v) _ (by omega) hlt (W.frame _ _ s' _ hst' (fun b o hb e => ?_) ⟨_, Heap.get?_update_self _ hS' rfl⟩) (Heap.get?_update_self _ hS' rfl) hR⟩)
      (by omega) (by show (acc.push v).size ≤ sizeLine + 1; rw [Array.size_push]; omega)
    exact (Heap.get?_update_other _ _ (Ne.symm hb)).trans e
theorem extend (W : ∀ A', A'.handled = none → WalkA prog w A' I S n St Fn) (hA : A.handled = none) (hn : n ≤ sizeLine) (res : Value) {s : Shared} {c0 : Nat} (hst : St 0 #[] s) (hS : s.heap.get? S = some { cls := .type "list", dict := none, data := .seq #[] c0, slots := #[] })
    (hR : ∀ s' acc' c', Fn acc' s' → s'.heap.get? S = some { cls := .type "list", dict := none, data := .seq acc' c', slots := #[] } → R (.ok (.ret res)) s') :
    wpAny (model prog w) A.in1 (Builtin.List.listExtendWith (.ref S) (.ref I) res)
      (fun fin s' => match fin with | .done f => R (.ok f) s' | .again c' => c'.quiet = true ∧ codeAny (model prog w) A c' R s') (fun e s' => R (.error e) s') s := by
  have W1 := W A.in1 hA
  have hSI : S ≠ I := W1.ne
  unfold Builtin.List.listExtendWith
  refine wpAny_bind (wpAny_typeOf (W1.type 0 _ _ hst) ?_)
  have h1 : Builtin.List.listSameRef (.ref S) (.ref I) = false := by simp [Builtin.List.listSameRef, hSI]
  have h2 : (Value.type "zip" == Value.type "list") = false := by decide
  have h3 : (Value.type "zip" == Value.type "tuple") = false := by decide
  simp only [h1, h2, h3, Bool.or_false, Bool.false_eq_true, if_false]
  refine wpAny_bind (W1.self 0 _ _ _ _ hst ?_)
  refine wpAny_bind (wpAny_holding ?_)
  unfold Builtin.List.listLengthHint
  refine wpAny_bind (wpAny_specialOf (W1.type 0 _ _ hst) zip_no_len ?_)
  show wpAny _ A.in1 (specialOf (Value.ref I) (Str.ofString "__length_hint__") >>= _) _ _ _
  refine wpAny_bind (wpAny_specialOf (W1.type 0 _ _ hst) zip_no_hint ?_)
  refine wpAny_pure ?_
  show wpAny _ A.in1 (rule "list.extend.makes-room" >>= fun _ => Builtin.List.listTouch (.ref S) >>= fun _ =>
    again (.builtin "list.extend.loop" ⟨[.ref S, .ref I, res], []⟩)) _ _ _
  refine wpAny_bind (wpAny_rule ?_)
  refine wpAny_bind ?_
  show wpAny _ A.in1 (updateSeq S (·.push .none) >>= fun _ => updateSeq S (·.pop)) _ _ _
  refine wpAny_bind (wpAny_updateSeq hS rfl ?_)
  have hS₂ := Heap.get?_update_self (Obj.mapSeq (·.push Value.none)) hS rfl
  refine wpAny_updateSeq (hz := by seq_fits) hS₂ rfl ?_
  have hS₃ := Heap.get?_update_self (Obj.mapSeq (·.pop)) hS₂ rfl
  have oth : ∀ b o, b ≠ S → s.heap.get? b = some o → ((s.heap.update S (Obj.mapSeq (·.push Value.none))).update S (Obj.mapSeq (·.pop))).get? b = some o :=
    fun b o hb e => (Heap.get?_update_other _ _ (Ne.symm hb)).trans ((Heap.get?_update_other _ _ (Ne.symm hb)).trans e)
  refine wpAny_pure ⟨plainId_quiet F.plain_extend_loop _, loop W1 hn _ n 0 _ _ _ rfl (Nat.zero_le _) (W1.frame 0 _ s _ hst oth ⟨_, hS₃⟩) hS₃ hR⟩
theorem list_init (W : ∀ A', A'.handled = none → WalkA prog w A' I S n St Fn) (hA : A.handled = none) (hn : n ≤ sizeLine) {s : Shared} (hst : St 0 #[] s) (hS : s.heap.get? S = some { cls := .type "list", data := .seq #[] })
    (hR : ∀ s' acc' c', Fn acc' s' → s'.heap.get? S = some { cls := .type "list", dict := none, data := .seq acc' c', slots := #[] } → R (.ok (.ret .none)) s') :
    wpAny (model prog w) A.in1 (Builtin.«list.__init__» ⟨[.ref S, .ref I], []⟩)
      (fun fin s' => match fin with | .done f => R (.ok f) s' | .again c' => c'.quiet = true ∧ codeAny (model prog w) A c' R s') (fun e s' => R (.error e) s') s := by
  show wpAny _ A.in1 (do let old ← Builtin.List.listItems (.ref S); Builtin.List.listUpdate (.ref S) (fun _ => #[]); letGo old.toList.reverse; Builtin.List.listExtendWith (.ref S) (.ref I) .none) _ _ s
  refine wpAny_bind ?_
  unfold Builtin.List.listItems
  refine wpAny_bind (wpAny_seqItems hS rfl (wpAny_pure ?_))
  show wpAny _ A.in1 (updateSeq S (fun _ => #[]) >>= fun _ => letGo (#[] : Array Value).toList.reverse >>= fun _ => Builtin.List.listExtendWith (.ref S) (.ref I) .none) _ _ s
  refine wpAny_bind (wpAny_updateSeq hS rfl ?_)
  have hS₂ := Heap.get?_update_self (Obj.mapSeq (fun _ => (#[] : Array Value))) hS rfl
  have oth : ∀ b o, b ≠ S → s.heap.get? b = some o → (s.heap.update S (Obj.mapSeq (fun _ => (#[] : Array Value)))).get? b = some o :=
    fun b o hb e => (Heap.get?_update_other _ _ (Ne.symm hb)).trans e
  refine wpAny_bind (wpAny_letGo ?_)
  exact extend W hA hn .none ((W A.in1 hA).frame 0 _ s _ hst oth ⟨_, hS₂⟩) hS₂ hR
end
section
variable {prog : Program} {w : World} {A : Around} {E : Value → Shared → Prop} {I : Addr} {n : Nat} {St : Nat → Array Value → Shared → Prop} {Fn : Array Value → Shared → Prop} {s : Shared}
theorem call_list (W : ∀ A', A'.handled = none → WalkA prog w A' I s.heap.objs.size n St Fn) (hA : A.handled = none) (hn : n ≤ sizeLine) {Q : Value → Shared → Prop}
    (hst : St 0 #[] { s with heap := s.heap.push { cls := .type "list", data := .seq #[] } })
    (hQ : ∀ s' acc' c', Fn acc' s' → s'.heap.get? s.heap.objs.size = some { cls := .type "list", dict := none, data := .seq acc' c', slots := #[] } → Q (.ref s.heap.objs.size) s') :
    wpAny (model prog w) A (call (.type "list") [.ref I]) Q E s := by
  refine callType_codes (Q₁ := fun obj s₁ => obj = .ref s.heap.objs.size ∧ s₁ = { s with heap := s.heap.push { cls := .type "list", data := .seq #[] } }) F.called_list (F.typeCall_list_1 _) F.entry_list_init
    (code_list_new _ ⟨rfl, rfl⟩) fun obj s₁ h₁ => ?_
  obtain ⟨rfl, rfl⟩ := h₁
  have hS : (s.heap.push { cls := .type "list", data := .seq #[] }).get? s.heap.objs.size = some { cls := .type "list", data := .seq #[] } := Heap.get?_push_size _ rfl
  refine ⟨⟨_, hS, rfl⟩, F.args_list_init_2 _ _, list_init (A := A.in1) W (show A.in1.handled = none from hA) hn hst hS fun s' acc' c' hm hS' => ?_⟩
  exact ⟨rfl, hQ s' acc' c' hm hS'⟩
end

end ZN
namespace ZN
open PySem PySem.Spec PyProof.Rows L2
section
variable {X : Cx} {pins : List (Addr × Obj)} {σ : L2.St} {H : Hp} {s : Shared}
/-- an object of ours that was raw is tracked from now on -/
theorem adopt {S : Addr} {ob : HO} (I : Inv X pins σ H s) (f : FpOk X pins H S) (new : ObjOk X.prog X.w (upd H S ob) s.heap S ob) : Inv X pins σ (upd H S ob) s := by
  have hn : H S = none := f.1
  refine I.step (g' := s.gens) (d' := s.drawn) (t' := s.toks) (h' := s.heap) (ch := [S]) (fun b hb => by rw [List.mem_singleton.mp hb]; exact ⟨f.2.2.2.1, f.2.1, f.2.2.2.2.1, f.2.2.2.2.2⟩) (fun b o _ _ hc e _ => e) (fun b o _ _ hc e _ => ⟨o.slots, e⟩)
    (fun b o hc e n => ?_) (fun b o hc e => ⟨o, e⟩) (fun b xs e => ?_) (fun b o u e => ?_) (fun b ps e => ⟨#[], ?_⟩) (fun m hm => hm) (fun b u e => ?_) I.bare
  · rw [upd_ne (fun z => hc (by simp [z]))]; exact n
  · rw [upd_ne (ne_of_none e hn)]; exact e
  · rw [upd_ne (ne_of_none e hn)]; exact e
  · rw [upd_ne (ne_of_none e hn), e]; simp
  · by_cases hb : b = S
    · subst hb
      rw [upd_same] at e
      cases e
      exact new
    · rw [upd_ne hb] at e
      exact (I.hok b u e).stay (fun c v hc q => q) (fun c q => by rw [upd_ne (ne_of_none q hn)]; exact q) fun c xs q => by rw [upd_ne (ne_of_none q hn)]; exact q
/-- the tuples of a zip, one behind another -/
def newTups : List (List V) → List V → Hp → (List V → Hp → Prop) → Prop
  | [], acc, H, k => k acc H
  | r :: rs, acc, H, k => ∀ t, H t = none → newTups rs (acc ++ [.ref t]) (upd H t (.tup r)) k
theorem list_zip {ss : List Src} {z TI TO : Addr} {rows : List (List V)} {cap : Nat} {old : List Value} {Q : VK} (hc : X.calm = true) (I : Inv X pins σ H s) (Sp : Apart z TI TO ss) (D : ∀ A', A'.handled = none → AllD X.prog X.w A' ss) (hne : ss ≠ []) (hsz : ss.length ≤ sizeLine)
    (hz : IsZip s.heap z TI TO .none) (hTI : s.heap.get? TI = some { cls := .type "tuple", data := .seq (Refs ss).toArray }) (hTO : s.heap.get? TO = some { cls := .type "tuple", data := .seq old.toArray cap }) (hol : old.length = ss.length) (st : ∀ t ∈ ss, t.St 0 s.heap)
    (fp : ∀ b ∈ z :: TI :: TO :: ss.map (·.it), FpOk X pins H b) (fpl : ∀ t ∈ ss, ∀ b ∈ t.fp, b < s.heap.objs.size)
    (hN : ∀ t ∈ ss, rows.length ≤ t.n) (hM : ∃ t ∈ ss, t.n = rows.length) (hrl : rows.length ≤ sizeLine)
    (hrow : ∀ i row xs, rows[i]? = some row → Ats i ss xs → Vals row xs)
    (h : newTups rows [] H fun vs H2 => ∀ p, H2 p = none → Q (.ref p) (upd H2 p (.lst vs))) : wpAny (model X.prog X.w) X.A (call (.type "list") [.ref z]) (EP X pins σ Q) X.xe s := by
  have hh : X.A.handled = none := I.ok.hd hc
  have zlt : z < s.heap.objs.size := Heap.lt_size hz
  have TIlt : TI < s.heap.objs.size := Heap.lt_size hTI
  have TOlt : TO < s.heap.objs.size := Heap.lt_size hTO
  have fS : FpOk X pins H s.heap.objs.size := I.fpOk (Nat.le_refl _) (I.hok.fresh (Nat.le_refl _))
  generalize hSe : s.heap.objs.size = S at *
  have mk : ∀ {H H' : Hp} {b : Addr}, FpOk X pins H b → H' b = none → FpOk X pins H' b := fun f n => ⟨n, f.2⟩
  have itS : ∀ t ∈ ss, t.it < S := fun t ht => fpl t ht _ (Sp.one t ht).1
  let ch : List Addr := S :: z :: TI :: TO :: ss.map (·.it)
  have chm : ∀ b, b ∉ ch → b ≠ S ∧ b ≠ z ∧ b ≠ TI ∧ b ≠ TO ∧ ∀ t ∈ ss, b ≠ t.it := fun b hb => by
    refine ⟨fun q => hb (by simp [ch, q]), fun q => hb (by simp [ch, q]), fun q => hb (by simp [ch, q]), fun q => hb (by simp [ch, q]), fun t ht q => hb ?_⟩
    simp only [ch, List.mem_cons, List.mem_map]
    exact .inr (.inr (.inr (.inr ⟨t, ht, q.symm⟩)))
  let St : Nat → Array Value → Shared → Prop := fun i acc s' => ∃ (Hi : Hp) (vs : List V), Inv X pins σ Hi s' ∧ (∀ b ∈ ch, FpOk X pins Hi b) ∧ (∀ t ∈ ss, t.St i s'.heap) ∧
    s'.heap.get? TI = some { cls := .type "tuple", data := .seq (Refs ss).toArray } ∧
    ((IsZip s'.heap z TI TO .none ∧ ∃ (o : List Value) (c : Nat), s'.heap.get? TO = some { cls := .type "tuple", data := .seq o.toArray c } ∧ o.length = ss.length) ∨
      ∃ T f oT, IsZipHeld s'.heap z TI TO T f ∧ s'.heap.get? T = some oT ∧ T ∉ ch) ∧ Vals vs acc.toList ∧ acc.size = i ∧ i ≤ rows.length ∧ S < s'.heap.objs.size ∧
    newTups (rows.drop i) vs Hi fun vs H2 => ∀ p, H2 p = none → Q (.ref p) (upd H2 p (.lst vs))
  have zin : z ∈ ch := by simp [ch]
  have TIin : TI ∈ ch := by simp [ch]
  have TOin : TO ∈ ch := by simp [ch]
  have itin : ∀ t ∈ ss, t.it ∈ ch := fun t ht => by
    simp only [ch, List.mem_cons, List.mem_map]
    exact .inr (.inr (.inr (.inr ⟨t, ht, rfl⟩)))
  have W : ∀ A' : Around, A'.handled = none → WalkA X.prog X.w A' z S rows.length St (fun acc s' => ∃ (Hi : Hp) (vs : List V), Inv X pins σ Hi s' ∧ FpOk X pins Hi S ∧ Vals vs acc.toList ∧ acc.size = rows.length ∧ ∀ p, Hi p = none → Q (.ref p) (upd Hi p (.lst vs))) := fun A' hA => {
    ne := Nat.ne_of_gt zlt
    size := fun i acc s' ⟨Hi, vs, _, _, _, _, _, _, e, _⟩ => e
    type := fun i acc s' ⟨Hi, vs, _, _, _, _, hz, _⟩ => by
      rcases hz with ⟨hz, _⟩ | ⟨T, f, oT, hz, _⟩
      · exact ⟨_, hz, rfl⟩
      · exact ⟨_, hz, rfl⟩
    self := fun i acc s' Q' E' ⟨Hi, vs, _, _, _, _, hz, _⟩ hq => by
      rcases hz with ⟨hz, _⟩ | ⟨T, f, oT, hz, _⟩
      · exact wpAny_pyIter_zip hz hq
      · exact iter_held hz hq
    frame := fun i acc s' h' ⟨Hi, vs, I1, f1, st1, hTI1, hz1, r1, e1, le1, lt1, q1⟩ hk hS => by
      obtain ⟨oS, hoS⟩ := hS
      refine ⟨Hi, vs, I1.turnedL (t' := s'.toks) (ch := [S]) (fun b o hb e => hk b o (fun q => hb (by simp [q])) e) (fun b hb => f1 b (by rw [List.mem_singleton.mp hb]; simp [ch])), f1, fun t ht => ?_, hk _ _ (Nat.ne_of_lt TIlt) hTI1, ?_, r1, e1, le1, ?_, q1⟩
      · exact ((D A' hA) t ht).frame _ _ _ (st1 t ht) fun b hb o e => hk b o (Nat.ne_of_lt (fpl t ht b hb)) e
      · rcases hz1 with ⟨hz, o, c, hO, ho⟩ | ⟨T, f, oT, hz, hT, nT⟩
        · exact .inl ⟨hk _ _ (Nat.ne_of_lt zlt) hz, o, c, hk _ _ (Nat.ne_of_lt TOlt) hO, ho⟩
        · exact .inr ⟨T, f, oT, hk _ _ (Nat.ne_of_lt zlt) hz, hk _ _ (chm T nT).1 hT, nT⟩
      · exact Heap.lt_size hoS
    item := fun i acc s' Q' E' hi ⟨Hi, vs, I1, f1, st1, hTI1, hz1, r1, e1, le1, lt1, q1⟩ hq => by
      have hn1 : Hi s'.heap.objs.size = none := I1.hok.fresh (Nat.le_refl _)
      have chlt : ∀ b ∈ ch, b ≠ s'.heap.objs.size := fun b hb => by
        simp only [ch, List.mem_cons, List.mem_map] at hb
        rcases hb with rfl | rfl | rfl | rfl | ⟨t, ht, rfl⟩
        · exact Nat.ne_of_lt lt1
        · exact Nat.ne_of_lt (Nat.lt_trans zlt lt1)
        · exact Nat.ne_of_lt (Nat.lt_trans TIlt lt1)
        · exact Nat.ne_of_lt (Nat.lt_trans TOlt lt1)
        · exact Nat.ne_of_lt (Nat.lt_trans (itS t ht) lt1)
      have fin : ∀ (xs : List Value) (h' : Heap) (tk : Nat) (fl : Bool) (T : Addr), Ats i ss xs → IsZipHeld h' z TI TO T fl → (∃ oT, h'.get? T = some oT) → T ∉ ch → (∀ t ∈ ss, t.St (i + 1) h') → h'.get? s'.heap.objs.size = some { cls := .type "tuple", data := .seq xs.toArray } → h'.objs.size = s'.heap.objs.size + 1 →
          (∀ c o, c ≠ z → c ≠ TO → (∀ t ∈ ss, c ≠ t.it) → s'.heap.get? c = some o → h'.get? c = some o) → Q' (some (.ref s'.heap.objs.size)) { s' with heap := h', toks := tk } := fun xs h' tk fl T ha hz' hT' nT st' hp' hs' hk => by
        have er : rows[i]? = some rows[i] := List.getElem?_eq_getElem hi
        have rv := hrow i _ xs er ha
        have zl : (rows[i]).length ≤ sizeLine := by rw [rv.length, ha.len]; exact hsz
        have kk : ∀ b o, b ∉ ch → s'.heap.get? b = some o → h'.get? b = some o := fun b o hb e => hk b o (chm b hb).2.1 (chm b hb).2.2.2.1 (chm b hb).2.2.2.2 e
        refine hq _ ⟨h', _, _, tk, _⟩ ⟨upd Hi s'.heap.objs.size (.tup rows[i]), vs ++ [.ref s'.heap.objs.size], I1.turnedNew (t' := tk) (ch := ch) kk f1 (Nat.le_refl _) ⟨zl, xs, rv, ⟨_, hp', rfl, _, rfl⟩⟩, fun b hb => mk (f1 b hb) (by rw [upd_ne (chlt b hb)]; exact (f1 b hb).1), st', ?_, .inr ⟨T, fl, _, hz', hT'.choose_spec, nT⟩, ?_, ?_, hi, ?_, ?_⟩ fun o e => hk S o (Nat.ne_of_gt zlt) (Nat.ne_of_gt TOlt) (fun t ht => Nat.ne_of_gt (itS t ht)) e
        · exact hk _ _ Sp.TIz Sp.TITO (fun t ht => (Sp.one t ht).2.2.2) hTI1
        · rw [Array.toList_push]
          exact r1.append (.cons rfl .nil)
        · rw [Array.size_push, e1]
        · show S < h'.objs.size
          rw [hs']
          omega
        · rw [List.drop_eq_getElem_cons hi] at q1
          exact q1 _ hn1
      have noE : ¬ ∃ t ∈ ss, t.n = i := fun ⟨t, ht, e⟩ => by
        have := hN t ht
        omega
      have hle : ∀ t ∈ ss, i ≤ t.n := fun t ht => Nat.le_trans (Nat.le_of_lt hi) (hN t ht)
      unfold pyNext
      rcases hz1 with ⟨hz, o, c, hO, ho⟩ | ⟨T, f, oT, hz, hT, nT⟩
      · have hTy : s'.TypeIs (.ref z) "zip" := ⟨_, hz, rfl⟩
        refine wpAny_bind (wpAny_attempt (wpAny_callSpecial?_slot (name := Str.ofString "__next__") hTy F.slot_zip_next
          (wpAny_call_entry F.slot_zip_next hTy F.entry_zip_next (next_free (i := i) Sp (D A'.in1 hA) hne hsz hz hTI1 hO ho st1 hle (fun _ xs h' tk ha hz' st' hp' hs' hk => ⟨_, rfl, wpAny_pure ?_⟩) fun e => absurd e noE) (F.args_zip_next_1 _))))
        exact fin xs h' tk false _ ha hz' ⟨_, hp'⟩ (fun q => chlt _ q rfl) st' hp' hs' hk
      · have hTy : s'.TypeIs (.ref z) "zip" := ⟨_, hz, rfl⟩
        refine wpAny_bind (wpAny_attempt (wpAny_callSpecial?_slot (name := Str.ofString "__next__") hTy F.slot_zip_next
          (wpAny_call_entry F.slot_zip_next hTy F.entry_zip_next (next_held (i := i) Sp (D A'.in1 hA) hne hsz hz hT hTI1 st1 hle (fun _ xs h' tk ha hz' st' hp' hs' hk => ⟨_, rfl, wpAny_pure ?_⟩) fun e => absurd e noE) (F.args_zip_next_1 _))))
        exact fin xs h' tk true T ha hz' ⟨_, hk T oT (chm T nT).2.1 (chm T nT).2.2.2.2 hT⟩ nT st' hp' hs' fun c o c1 c2 c3 e => hk c o c1 c3 e
    done := fun acc s' Q' E' ⟨Hi, vs, I1, f1, st1, hTI1, hz1, r1, e1, le1, lt1, q1⟩ hq => by
      have fin : ∀ (h' : Heap) (tk : Nat), (∀ c o, c ≠ z → c ≠ TO → (∀ t ∈ ss, c ≠ t.it) → s'.heap.get? c = some o → h'.get? c = some o) → Q' none { s' with heap := h', toks := tk } := fun h' tk hk => by
        refine hq _ ⟨Hi, vs, I1.turnedL (t' := tk) (ch := ch) (fun b o hb e => hk b o (chm b hb).2.1 (chm b hb).2.2.2.1 (chm b hb).2.2.2.2 e) f1, f1 S (by simp [ch]), r1, e1, ?_⟩ fun o e => hk S o (Nat.ne_of_gt zlt) (Nat.ne_of_gt TOlt) (fun t ht => Nat.ne_of_gt (itS t ht)) e
        rw [List.drop_length] at q1
        exact q1
      have noQ : ¬ ∀ t ∈ ss, rows.length < t.n := fun hq => by
        obtain ⟨t, ht, e⟩ := hM
        have := hq t ht
        omega
      unfold pyNext
      rcases hz1 with ⟨hz, o, c, hO, ho⟩ | ⟨T, f, oT, hz, hT, nT⟩
      · have hTy : s'.TypeIs (.ref z) "zip" := ⟨_, hz, rfl⟩
        refine wpAny_bind (wpAny_attempt (wpAny_callSpecial?_slot (name := Str.ofString "__next__") hTy F.slot_zip_next
          (wpAny_call_entry F.slot_zip_next hTy F.entry_zip_next (next_free (i := rows.length) Sp (D A'.in1 hA) hne hsz hz hTI1 hO ho st1 hN (fun q => absurd q noQ) fun _ h' tk e hk he => ?_) (F.args_zip_next_1 _))))
        obtain ⟨oe, hoe, hce⟩ := he
        refine wpAny_bind (wpAny_isInstance (T := "StopIteration") (b := true) ⟨oe, hoe, hce⟩ isSubtype_stop ?_)
        exact wpAny_pure (fin h' tk hk)
      · have hTy : s'.TypeIs (.ref z) "zip" := ⟨_, hz, rfl⟩
        refine wpAny_bind (wpAny_attempt (wpAny_callSpecial?_slot (name := Str.ofString "__next__") hTy F.slot_zip_next
          (wpAny_call_entry F.slot_zip_next hTy F.entry_zip_next (next_held (i := rows.length) Sp (D A'.in1 hA) hne hsz hz hT hTI1 st1 hN (fun q => absurd q noQ) fun _ h' tk e hk he => ?_) (F.args_zip_next_1 _))))
        obtain ⟨oe, hoe, hce⟩ := he
        refine wpAny_bind (wpAny_isInstance (T := "StopIteration") (b := true) ⟨oe, hoe, hce⟩ isSubtype_stop ?_)
        exact wpAny_pure (fin h' tk fun c o c1 c2 c3 e => hk c o c1 c3 e) }
  have hSe' := hSe
  subst hSe
  refine call_list W hh hrl ?_ fun s' acc' c' hf hS => ?_
  · have kp : ∀ b o, s.heap.get? b = some o → (s.heap.push { cls := .type "list", data := .seq #[] }).get? b = some o := fun b o e => Heap.get?_push_of_some _ e
    have S0 : (s.heap.push { cls := .type "list", data := .seq #[] }).get? s.heap.objs.size = some { cls := .type "list", data := .seq #[] } := Heap.get?_push_size _ rfl
    generalize (s.heap.push { cls := .type "list", data := .seq #[] }) = h1 at kp S0
    refine ⟨H, [], I.kept (t' := s.toks) kp, fun b hb => ?_, fun t ht => ((D X.A hh) t ht).frame _ _ _ (st t ht) fun b _ o e => kp b o e, kp _ _ hTI, .inl ⟨kp _ _ hz, old, cap, kp _ _ hTO, hol⟩, .nil, rfl, Nat.zero_le _, Heap.lt_size S0, by rw [List.drop_zero]; exact h⟩
    simp only [ch, List.mem_cons] at hb
    rcases hb with rfl | hb
    · exact fS
    · exact fp b (by simpa using hb)
  · obtain ⟨Hi, vs, I1, f1, r1, e1, q⟩ := hf
    refine ⟨.ref s.heap.objs.size, upd Hi s.heap.objs.size (.lst vs), adopt I1 f1 ⟨?_, acc'.toList, c', r1, ?_⟩, rfl, q _ f1.1⟩
    · rw [r1.length, Array.length_toList, e1]; exact hrl
    · rw [Array.toArray_toList]; exact hS

theorem ad_ne {a b : Nat} (h : a ≠ b) : @Ne Addr a b := h
theorem ad_nm {a b c : Nat} (h : a ≠ b ∧ a ≠ c) : ¬ (@Membership.mem Addr (List Addr) _ ([b, c] : List Addr) a) := fun q => by
  have q : a = b ∨ a = c := by simpa using q
  omega
theorem ad_ni {N a : Nat} (k m : Nat) (h : a < N) (hk : k ≠ m) : ¬ (@Membership.mem Addr (List Addr) _ ([(N + m : Nat), a] : List Addr) (N + k : Nat)) := ad_nm ⟨by omega, by omega⟩
theorem ad_le {N b : Nat} (h : b = N + 4 ∨ b = N + 2 ∨ b = N + 3 ∨ b = N ∨ b = N + 1) : N ≤ b := by omega
theorem ad_lt {N M a b k : Nat} (h : b = N + k ∨ b = a) (ha : a < N) (hM : M = N + 5) (hk : k < 5) : b < M := by omega
/-- a list or a tuple, as a source of a zip -/
structure SrcOf (P : Program) (w : World) (h : Heap) (a : Addr) (xs : List V) (its : List Value) (o : Obj) (HH : Heap → Prop) (Sx : Addr → Nat → Heap → Prop) : Prop where
  vals : Vals xs its
  beg : Begins (.ref a) o HH
  now : HH h
  lt : a < h.objs.size
  draws : ∀ it, it ≠ a → ∀ A' : Around, A'.handled = none → Draws P w A' it [it, a] its.length (fun i v => its[i]? = some v) (Sx it)
  start : ∀ it h', h'.get? it = some o → HH h' → Sx it 0 h'
theorem src_of {a : Addr} {xs : List V} (I : Inv X pins σ H s) (h : SqL X.K H a xs ∨ SqT X.K H a xs) : ∃ its o HH Sx, SrcOf X.prog X.w s.heap a xs its o HH Sx := by
  rcases h with h | h
  · obtain ⟨its, rv, p, _⟩ := I.list h
    exact ⟨its, _, _, fun it i h => h.IsListIter it a i ∧ h.IsList a its.toArray, rv, begins_list a its.toArray, p.isList, p.lt, fun it ne A' hA => by simpa using Draws.list (prog := X.prog) (w := X.w) hA it a (Ne.symm ne) its.toArray, fun it h' e q => ⟨⟨_, e, rfl, rfl⟩, q⟩⟩
  · obtain ⟨its, rv, p, _⟩ := I.tuple h
    obtain ⟨o2, ho2, _⟩ := id p
    exact ⟨its, _, _, fun it i h => h.IsTupleIter it a i ∧ h.IsTuple a its.toArray, rv, begins_tuple a its.toArray, p, Heap.lt_size ho2, fun it ne A' hA => by simpa using Draws.tuple (prog := X.prog) (w := X.w) hA it a (Ne.symm ne) its.toArray, fun it h' e q => ⟨⟨_, e, rfl, rfl⟩, q⟩⟩
def rows2 (xs ys : List V) : List (List V) := (xs.zip ys).map fun p => [p.1, p.2]
def tLstZip (K : PySem.W.Frag) (ta : TA) : TE := fun σ H Q => ta σ H fun vs H1 => ∃ a b xs ys, vs = [.ref a, .ref b] ∧ (SqL K H1 a xs ∨ SqT K H1 a xs) ∧ (SqL K H1 b ys ∨ SqT K H1 b ys) ∧ (rows2 xs ys).length ≤ sizeLine ∧
  newTups (rows2 xs ys) [] H1 fun vs H2 => ∀ p, H2 p = none → Q (.ref p) (upd H2 p (.lst vs))
theorem pe_listZip2 {e e2 : Expr} {ta : TA} {p p2 pos pos2 : Pos} (hc : X.calm = true) (hg : Gl X "list") (hm : X.mg "list" = none) (hg2 : Gl X "zip") (hm2 : X.mg "zip" = none) (ha : PA X [e, e2] ta)
    (na : starEach [.Call (.Name "zip" p2) [e, e2] [] pos2] X.env = (false, eval (.Call (.Name "zip" p2) [e, e2] [] pos2) X.env) :: starEach [] X.env := by rfl)
    (hs : starEach [e, e2] X.env = (false, eval e X.env) :: starEach [e2] X.env := by rfl) (hpl : (backTo pos2 (starEach [e2] X.env)).any (·.1) = false := by rfl) :
    PE X (.Call (.Name "list" p) [.Call (.Name "zip" p2) [e, e2] [] pos2] [] pos) (tLstZip X.K ta) := by
  refine ⟨fun pins s σ H Q I h => ?_⟩
  refine Call_ (ld_blt I hg hm PyProof.Rows.boot_list (PyProof.Rows.callWith_type1 (args_cons ?_ na) na))
  refine Call_ (ld_blt I hg2 hm2 PyProof.Rows.boot_zip (PyProof.Rows.callWith_type1
    (thn (ha.run pos2 pins s σ H _ I h) fun us s1 ⟨vs, H1, I1, r1, q1⟩ => ?_) hs hpl))
  obtain ⟨a, b, xs, ys, ex, hqx, hqy, hz, q⟩ := q1
  subst ex
  cases r1 with
  | cons r rr =>
    cases rr with
    | cons r' rr =>
      cases rr
      cases r
      cases r'
      obtain ⟨i1, o1, H1', S1, A1⟩ := src_of I1 hqx
      obtain ⟨i2, o2, H2', S2, A2⟩ := src_of I1 hqy
      refine zip_begins2 A1.beg A2.beg A1.now A2.now fun h' hz' hTI hTO g1 g2 hsz hk => ?_
      refine args_nil ?_
      have I2 : Inv X pins σ H1 { s1 with heap := h' } := I1.kept (t' := s1.toks) hk
      have al := A1.lt
      have bl := A2.lt
      refine list_zip (ss := [⟨s1.heap.objs.size, [s1.heap.objs.size, a], i1.length, fun i v => i1[i]? = some v, S1 s1.heap.objs.size⟩, ⟨s1.heap.objs.size + 1, [s1.heap.objs.size + 1, b], i2.length, fun i v => i2[i]? = some v, S2 (s1.heap.objs.size + 1)⟩])
        (z := s1.heap.objs.size + 4) (TI := s1.heap.objs.size + 2) (TO := s1.heap.objs.size + 3) (rows := rows2 xs ys) (old := [.none, .none]) hc I2 ?_ ?_ (by simp) (by show 2 ≤ sizeLine; decide) hz' hTI hTO rfl ?_ ?_ ?_ ?_ ?_ hz ?_ q
      · generalize hN0 : s1.heap.objs.size = N at *
        refine ⟨ad_ne (a := N + 2) (b := N + 4) (by omega), ad_ne (a := N + 3) (b := N + 4) (by omega), ad_ne (a := N + 2) (b := N + 3) (by omega), fun t ht => ?_, ?_⟩
        · simp only [List.mem_cons, List.not_mem_nil, or_false] at ht
          rcases ht with rfl | rfl
          · exact ⟨List.mem_cons_self, ad_ni 4 0 al (by decide), ad_ni 3 0 al (by decide), ad_ne (a := N + 2) (b := N) (by omega)⟩
          · exact ⟨List.mem_cons_self, ad_ni 4 1 bl (by decide), ad_ni 3 1 bl (by decide), ad_ne (a := N + 2) (b := N + 1) (by omega)⟩
        · refine List.pairwise_cons.mpr ⟨fun u hu => ?_, List.pairwise_singleton _ _⟩
          obtain rfl := List.mem_singleton.mp hu
          exact ⟨ad_ni 0 1 bl (by decide), ad_ni 1 0 al (by decide)⟩
      · intro A' hA t ht
        simp only [List.mem_cons, List.not_mem_nil, or_false] at ht
        rcases ht with rfl | rfl
        · exact A1.draws _ (Nat.ne_of_gt al) A' hA
        · exact A2.draws _ (Nat.ne_of_gt (Nat.lt_succ_of_lt bl)) A' hA
      · intro t ht
        simp only [List.mem_cons, List.not_mem_nil, or_false] at ht
        rcases ht with rfl | rfl
        · exact A1.start _ _ g1 (A1.beg.keeps _ _ A1.now hk)
        · exact A2.start _ _ g2 (A2.beg.keeps _ _ A2.now hk)
      · intro b' hb
        simp only [List.map_cons, List.map_nil, List.mem_cons, List.not_mem_nil, or_false] at hb
        have hle : s1.heap.objs.size ≤ b' := ad_le hb
        exact I1.fpOk hle (I1.hok.fresh hle)
      · intro t ht b' hb
        simp only [List.mem_cons, List.not_mem_nil, or_false] at ht
        show b' < h'.objs.size
        rcases ht with rfl | rfl
        · simp only [List.mem_cons, List.not_mem_nil, or_false] at hb
          exact ad_lt (k := 0) hb al hsz (by decide)
        · simp only [List.mem_cons, List.not_mem_nil, or_false] at hb
          exact ad_lt (k := 1) hb bl hsz (by decide)
      · intro t ht
        have e1 := A1.vals.length
        have e2 := A2.vals.length
        simp only [List.mem_cons, List.not_mem_nil, or_false] at ht
        unfold rows2
        rw [List.length_map, List.length_zip]
        rcases ht with rfl | rfl
        · show _ ≤ i1.length; omega
        · show _ ≤ i2.length; omega
      · have e1 := A1.vals.length
        have e2 := A2.vals.length
        unfold rows2
        rw [List.length_map, List.length_zip]
        rcases Nat.le_total xs.length ys.length with hle | hle
        · exact ⟨_, List.mem_cons_self, by show i1.length = _; omega⟩
        · exact ⟨_, List.mem_cons_of_mem _ List.mem_cons_self, by show i2.length = _; omega⟩
      · intro i row us er ha
        obtain ⟨x, r, rfl, hx, y, r2, rfl, hy, rfl⟩ := ha
        unfold rows2 at er
        rw [List.getElem?_map, Option.map_eq_some_iff] at er
        obtain ⟨⟨v1, v2⟩, ez, rfl⟩ := er
        obtain ⟨z1, z2⟩ := List.getElem?_zip_eq_some.mp ez
        obtain ⟨u1, hu1, ru1⟩ := A1.vals.get z1
        obtain ⟨u2, hu2, ru2⟩ := A2.vals.get z2
        have hx : i1[i]? = some x := hx
        have hy : i2[i]? = some y := hy
        rw [hu1] at hx
        rw [hu2] at hy
        cases hx
        cases hy
        exact .cons ru1 (.cons ru2 .nil)
end
end ZN

set_option maxRecDepth 100000
set_option maxHeartbeats 4000000
namespace DL
open PySem L2
/-! ### list(zip(a, b)) -/
def seqOf : D → Option (List D)
  | .lst xs => some xs
  | .tup xs => some xs
  | _ => none
theorem seqOf_rep {K : PySem.W.Frag} {S : Hp} {d : D} {v : V} {xs : List D} (h : seqOf d = some xs) (r : Rep K S d v) : ∃ a vs, v = .ref a ∧ (SqL K S a vs ∨ SqT K S a vs) ∧ Reps K S xs vs := by
  cases d with
  | lst ds =>
    cases h
    obtain ⟨a, vs, e, h, r⟩ := r.lst
    exact ⟨a, vs, e, .inl (.inl h), r⟩
  | tup ds =>
    cases h
    obtain ⟨a, vs, e, h, r⟩ := r.tup
    exact ⟨a, vs, e, .inr h, r⟩
  | _ => cases h
inductive RepsL (K : PySem.W.Frag) (S : Hp) : List (List D) → List (List V) → Prop
  | nil : RepsL K S [] []
  | cons {d ds v vs} : Reps K S d v → RepsL K S ds vs → RepsL K S (d :: ds) (v :: vs)
theorem RepsL.le {K : PySem.W.Frag} {S S' : Hp} (l : Le S S') {ds vs} (h : RepsL K S ds vs) : RepsL K S' ds vs := by
  induction h with
  | nil => exact .nil
  | cons h _ ih => exact .cons (Reps.le l _ _ h) ih
theorem newTups_sound {K : PySem.W.Frag} {b : Bs} {g : G} {σ : St} {kk : List V → Hp → Prop} : ∀ {rows : List (List V)} {rD : List (List D)} {acc : List V} {aD : List D} {S H : Hp}, Rel K b g σ S H → RepsL K S rD rows → Reps K S aD acc →
    (∀ S' H' vs, Rel K b g σ S' H' → Ext g σ S H g S' H' → Reps K S' (aD ++ rD.map .tup) vs → kk vs H') → ZN.newTups rows acc H kk
  | [], rD, acc, aD, S, H, R, rr, ra, k => by
    cases rr
    exact k S H acc R .rfl (by simpa using ra)
  | row :: rows, rD, acc, aD, S, H, R, rr, ra, k => by
    cases rr with
    | @cons d ds _ _ h t =>
    intro p hp
    obtain ⟨R', x', rp⟩ := R.tup hp h
    refine newTups_sound (aD := aD ++ [.tup d]) R' (t.le x'.le) ((Reps.le x'.le _ _ ra).append (.cons rp .nil)) fun S' H' vs R2 x2 r2 => k S' H' vs R2 (x'.trans x2) ?_
    simpa using r2
theorem repsL_zip {K : PySem.W.Frag} {S : Hp} : ∀ {xs ys : List D} {vs ws : List V}, Reps K S xs vs → Reps K S ys ws → RepsL K S (List.zipWith (fun x y => [x, y]) xs ys) (ZN.rows2 vs ws)
  | [], _, vs, ws, h, _ => by
    unfold Reps at h
    subst h
    exact .nil
  | x :: xs, [], vs, ws, _, h => by
    unfold Reps at h
    subst h
    unfold ZN.rows2
    rw [List.zip_nil_right]
    exact .nil
  | x :: xs, y :: ys, vs, ws, h, h2 => by
    obtain ⟨v, r, rfl, h1, t⟩ := h.uncons
    obtain ⟨w, r2, rfl, h2, t2⟩ := h2.uncons
    exact .cons (.cons h1 (.cons h2 .nil)) (repsL_zip t t2)
def xListZip (da : DA) : DX := fun g Q => da g fun as g1 => match as with
  | [x, y] => ∃ xs ys, seqOf x = some xs ∧ seqOf y = some ys ∧ (zipD xs ys).length ≤ sizeLine ∧ Q (.ow (.lst (zipD xs ys))) g1
  | _ => False
section
variable {X : Cx} {e e2 : Expr} {pos p p2 p3 : Pos}
theorem ex_listZip {da : DA} (hc : X.calm = true) (hl : X.mg "list" = none) (hm : X.mg "zip" = none) (ha : AD X [e, e2] 2 da)
    (h2 : starEach [.Call (.Name "zip" p2) [e, e2] [] p3] X.env = (false, eval (.Call (.Name "zip" p2) [e, e2] [] p3) X.env) :: starEach [] X.env := by rfl) (hgl : Gl X "list" := by rfl) (hgr : Gl X "zip" := by rfl)
    (hs : starEach [e, e2] X.env = (false, eval e X.env) :: starEach [e2] X.env := by rfl) (hpl : (backTo p3 (starEach [e2] X.env)).any (·.1) = false := by rfl) :
    EX X (.Call (.Name "list" p) [.Call (.Name "zip" p2) [e, e2] [] p3] [] pos) (xListZip da) := by
  obtain ⟨t, pa, sa⟩ := ha
  refine ⟨_, ZN.pe_listZip2 hc hgl hl hgr hm pa h2 hs hpl, fun {b g σ S H Qd Q} R h k => sa R h fun ds g1 vs S1 H1 q1 R1 x1 r1 l1 => ?_⟩
  match ds, q1, r1 with
  | [x, y], q1, r1 =>
    obtain ⟨xs, ys, e1, e2, hz, q1⟩ := q1
    obtain ⟨v, r, rfl, rx, r1⟩ := r1.uncons
    obtain ⟨w, r, rfl, ry, r1⟩ := r1.uncons
    unfold Reps at r1
    subst r1
    obtain ⟨a1, vs1, rfl, s1, rr1⟩ := seqOf_rep e1 rx
    obtain ⟨a2, vs2, rfl, s2, rr2⟩ := seqOf_rep e2 ry
    have rz := repsL_zip rr1 rr2
    refine ⟨a1, a2, vs1, vs2, rfl, s1.imp (SqL.le R1.le) (SqT.le R1.le), s2.imp (SqL.le R1.le) (SqT.le R1.le), ?_, newTups_sound R1 rz .nil fun S' H' vs R' x' rv p hp => ?_⟩
    · unfold ZN.rows2
      rw [List.length_map, List.length_zip, rr1.len, rr2.len]
      rw [zipD_len] at hz
      exact hz
    · have ez : [] ++ (List.zipWith (fun x y => [x, y]) xs ys).map D.tup = zipD xs ys := by
        unfold zipD
        rw [List.nil_append, List.map_zipWith]
      rw [ez] at rv
      obtain ⟨R2, x2, rp⟩ := R'.lst hp rv
      exact k _ g1 _ _ _ q1 R2 ((x1.trans x').trans x2) (rp.from (x1.trans x'))
end
end DL

set_option maxRecDepth 100000
set_option maxHeartbeats 4000000
namespace K0
def listedP : List (Int × Int) := [(193, 5), (257, 3), (769, 11), (7681, 17), (12289, 11), (998244353, 3), (2013265921, 31)]
end K0
-- K00M.lean
namespace K0
/-! mathematics: primes by trial, the inverse, the power -/
def Prm (p : Int) : Prop := 1 < p ∧ ∀ d : Int, d ∣ p → d.natAbs = 1 ∨ d.natAbs = p.natAbs
/-- no d with lo ≤ d < lo + 2 ^ k divides n -/
def clear (n : Nat) : Nat → Nat → Bool
  | 0, lo => n % lo != 0
  | k + 1, lo => clear n k lo && clear n k (lo + 2 ^ k)
theorem clear_ok {n : Nat} : ∀ {k lo : Nat}, clear n k lo = true → ∀ d, lo ≤ d → d < lo + 2 ^ k → ¬ d ∣ n
  | 0, lo, h, d, h1, h2, hd => by
    have e : d = lo := by
      have : (2:Nat) ^ 0 = 1 := rfl
      omega
    subst e
    have := Nat.mod_eq_zero_of_dvd hd
    simp [clear, this] at h
  | k + 1, lo, h, d, h1, h2, hd => by
    unfold clear at h
    rw [Bool.and_eq_true] at h
    by_cases c : d < lo + 2 ^ k
    · exact clear_ok h.1 d h1 c hd
    · refine clear_ok h.2 d (by omega) ?_ hd
      have : (2:Nat) ^ (k + 1) = 2 ^ k + 2 ^ k := by rw [Nat.pow_succ]; omega
      omega
theorem prm_of {n k : Nat} (h1 : 1 < n) (hk : n < (2 + 2 ^ k) * (2 + 2 ^ k)) (h : clear n k 2 = true) : Prm (n : Int) := by
  refine ⟨by omega, fun d hd => ?_⟩
  have hd' : d.natAbs ∣ n := by
    have := Int.natAbs_dvd_natAbs.mpr hd
    simpa using this
  obtain ⟨c, hc⟩ := hd'
  have key : ∀ e : Nat, e ∣ n → 2 ≤ e → 2 + 2 ^ k ≤ e := fun e he h2 => by
    by_cases z : e < 2 + 2 ^ k
    · exact absurd he (clear_ok h e h2 z)
    · omega
  by_cases a1 : d.natAbs = 1
  · exact .inl a1
  · right
    have d0 : d.natAbs ≠ 0 := fun z => by rw [z, Nat.zero_mul] at hc; omega
    by_cases c1 : c = 1
    · rw [c1, Nat.mul_one] at hc
      simp [hc]
    · have c0 : c ≠ 0 := fun z => by rw [z, Nat.mul_zero] at hc; omega
      have k1 := key d.natAbs ⟨c, hc⟩ (by omega)
      have k2 := key c ⟨d.natAbs, by rw [Nat.mul_comm]; exact hc⟩ (by omega)
      have := Nat.mul_le_mul k1 k2
      omega
/-- small primes: every smaller number from 2 on tried -/
theorem prm_small {n : Nat} (h1 : 1 < n) (h : ∀ d, d < n → 2 ≤ d → n % d ≠ 0) : Prm (n : Int) := by
  refine ⟨by omega, fun d hd => ?_⟩
  have hd' : d.natAbs ∣ n := by
    have := Int.natAbs_dvd_natAbs.mpr hd
    simpa using this
  have le := Nat.le_of_dvd (by omega) hd'
  by_cases a1 : d.natAbs = 1
  · exact .inl a1
  · right
    by_cases c : d.natAbs = n
    · simpa using c
    · have d0 : d.natAbs ≠ 0 := fun z => by
        rw [z] at hd'
        have := Nat.eq_zero_of_zero_dvd hd'
        omega
      exact absurd (Nat.mod_eq_zero_of_dvd hd') (h d.natAbs (by omega) (by omega))
def primes : List Int := [2, 3, 5, 7, 11, 13, 17, 31, 97, 193, 257, 769, 7681, 12289, 998244353, 2013265921, 9999999967]
theorem prm_all : ∀ p ∈ primes, Prm p := by
  intro p hp
  simp only [primes, List.mem_cons, List.not_mem_nil, or_false] at hp
  rcases hp with rfl | rfl | rfl | rfl | rfl | rfl | rfl | rfl | rfl | rfl | rfl | rfl | rfl | rfl | rfl | rfl | rfl
  · exact prm_small (n := 2) (by decide) (by decide +kernel)
  · exact prm_small (n := 3) (by decide) (by decide +kernel)
  · exact prm_small (n := 5) (by decide) (by decide +kernel)
  · exact prm_small (n := 7) (by decide) (by decide +kernel)
  · exact prm_small (n := 11) (by decide) (by decide +kernel)
  · exact prm_small (n := 13) (by decide) (by decide +kernel)
  · exact prm_small (n := 17) (by decide) (by decide +kernel)
  · exact prm_small (n := 31) (by decide) (by decide +kernel)
  · exact prm_small (n := 97) (by decide) (by decide +kernel)
  · exact prm_small (n := 193) (by decide) (by decide +kernel)
  · exact prm_small (n := 257) (by decide) (by decide +kernel)
  · exact prm_small (n := 769) (by decide) (by decide +kernel)
  · exact prm_of (n := 7681) (k := 7) (by decide) (by decide +kernel) (by decide +kernel)
  · exact prm_of (n := 12289) (k := 7) (by decide) (by decide +kernel) (by decide +kernel)
  · exact prm_of (n := 998244353) (k := 15) (by decide) (by decide +kernel) (by decide +kernel)
  · exact prm_of (n := 2013265921) (k := 16) (by decide) (by decide +kernel) (by decide +kernel)
  · exact prm_of (n := 9999999967) (k := 17) (by decide) (by decide +kernel) (by decide +kernel)
theorem primes_lt : ∀ p ∈ primes, 1 < p ∧ p < 10 ^ 10 := by decide +kernel
/-! ### the inverse -/
theorem dvd_ml {a b : Int} (c : Int) (h : a ∣ b) : a ∣ c * b := by
  obtain ⟨k, rfl⟩ := h
  exact ⟨c * k, by rw [Int.mul_left_comm]⟩
/-- what holds between two turns -/
structure InvI (w p low high one other : Int) : Prop where
  l0 : 0 ≤ low
  lh : low < high
  hp : high ≤ p
  h1 : 1 < high
  e1 : p ∣ one * w - low
  e2 : p ∣ other * w - high
  co : ∀ d : Int, d ∣ low → d ∣ high → d ∣ 1
theorem inv_start {w p : Int} (P : Prm p) (h : w % p ≠ 0) : InvI w p (w % p) p 1 0 := by
  have p1 := P.1
  have a := Int.emod_nonneg w (show p ≠ 0 by omega)
  have b := Int.emod_lt_of_pos w (show 0 < p by omega)
  refine ⟨a, b, Int.le_refl _, p1, ?_, ?_, fun d h1 h2 => ?_⟩
  · rw [Int.one_mul]
    exact Int.dvd_self_sub_emod
  · rw [Int.zero_mul, Int.zero_sub]
    exact Int.dvd_neg.mpr (Int.dvd_refl p)
  · rcases P.2 d h2 with q | q
    · have : d ∣ 1 := Int.natAbs_dvd_natAbs.mp (by rw [q]; exact Nat.dvd_refl 1)
      exact this
    · exfalso
      have z : p.natAbs ∣ (w % p).natAbs := by rw [← q]; exact Int.natAbs_dvd_natAbs.mpr h1
      have le := Nat.le_of_dvd (by omega) z
      omega
theorem inv_turn {w p low high one other : Int} (I : InvI w p low high one other) (h : 1 < low) :
    InvI w p (high - high / low * low) low (other - high / low * one) one ∧ (high - high / low * low).toNat < low.toNat := by
  have m := Int.emod_nonneg high (show low ≠ 0 by omega)
  have m2 := Int.emod_lt_of_pos high (show 0 < low by omega)
  have e : high - high / low * low = high % low := by
    have := Int.mul_ediv_add_emod high low
    rw [Int.mul_comm]
    omega
  refine ⟨⟨by omega, by omega, by have := I.lh; have := I.hp; omega, h, ?_, I.e1, fun d h1 h2 => ?_⟩, by omega⟩
  · have q := Int.dvd_sub I.e2 (dvd_ml (high / low) I.e1)
    have e3 : (other - high / low * one) * w - (high - high / low * low) = other * w - high - high / low * (one * w - low) := by
      rw [Int.sub_mul, Int.mul_sub, Int.mul_assoc]
      omega
    rw [e3]
    exact q
  · refine I.co d h2 ?_
    have q := Int.dvd_add h1 (dvd_ml (high / low) h2)
    have : high - high / low * low + high / low * low = high := by omega
    rw [this] at q
    exact q
theorem inv_end {w p low high one other : Int} (I : InvI w p low high one other) (h : ¬ 1 < low) :
    0 < one % p ∧ one % p < p ∧ (one % p * w) % p = 1 := by
  have l0 := I.l0
  have p1 : 1 < p := Int.lt_of_lt_of_le I.h1 I.hp
  have l1 : low = 1 := by
    by_cases z : low = 0
    · exfalso
      have := I.co high (by rw [z]; exact Int.dvd_zero _) (Int.dvd_refl _)
      have := Int.le_of_dvd (by omega) this
      have := I.h1
      omega
    · omega
  have a := Int.emod_nonneg one (show p ≠ 0 by omega)
  have b := Int.emod_lt_of_pos one (show 0 < p by omega)
  have c : (one % p * w) % p = 1 := by
    have e1 := I.e1
    rw [l1] at e1
    have : (one * w) % p = 1 % p := Int.emod_eq_emod_iff_emod_sub_eq_zero.mpr (Int.emod_eq_zero_of_dvd e1)
    rw [Int.mul_emod, Int.emod_emod, ← Int.mul_emod, this]
    exact Int.emod_eq_of_lt (by omega) p1
  refine ⟨?_, b, c⟩
  by_cases z : one % p = 0
  · rw [z, Int.zero_mul, Int.zero_emod] at c
    omega
  · omega
/-! ### the power -/
theorem pow_turn1 {p made base : Int} {n : Nat} : (made * base ^ (2 * n + 1)) % p = ((made * base % p) * (base * base % p) ^ n) % p := by
  have e : made * base ^ (2 * n + 1) = (made * base) * (base * base) ^ n := by
    rw [Int.pow_succ, Int.pow_mul, show base ^ 2 = base * base by rw [Int.pow_succ, Int.pow_succ, Int.pow_zero, Int.one_mul]]
    rw [Int.mul_comm ((base * base) ^ n) base, Int.mul_assoc]
  have pm : ∀ m : Nat, ∀ x : Int, (x % p) ^ m % p = x ^ m % p := by
    intro m x
    induction m with
    | zero => rw [Int.pow_zero, Int.pow_zero]
    | succ m ih => rw [Int.pow_succ, Int.pow_succ, Int.mul_emod, ih, Int.emod_emod, ← Int.mul_emod]
  rw [e, Int.mul_emod, ← pm n (base * base), ← Int.mul_emod, Int.mul_emod (made * base % p), Int.emod_emod, ← Int.mul_emod]
theorem pow_turn0 {p made base : Int} {n : Nat} : (made * base ^ (2 * n)) % p = (made * (base * base % p) ^ n) % p := by
  have e : base ^ (2 * n) = (base * base) ^ n := by
    rw [Int.pow_mul, show base ^ 2 = base * base by rw [Int.pow_succ, Int.pow_succ, Int.pow_zero, Int.one_mul]]
  have pm : ∀ m : Nat, ∀ x : Int, (x % p) ^ m % p = x ^ m % p := by
    intro m x
    induction m with
    | zero => rw [Int.pow_zero, Int.pow_zero]
    | succ m ih => rw [Int.pow_succ, Int.pow_succ, Int.mul_emod, ih, Int.emod_emod, ← Int.mul_emod]
  rw [e, Int.mul_emod, ← pm n (base * base), ← Int.mul_emod]
theorem pow_mod (p x : Int) (m : Nat) : (x % p) ^ m % p = x ^ m % p := by
  induction m with
  | zero => rw [Int.pow_zero, Int.pow_zero]
  | succ m ih => rw [Int.pow_succ, Int.pow_succ, Int.mul_emod, ih, Int.emod_emod, ← Int.mul_emod]
structure InvP (w : Int) (n : Nat) (p made base left : Int) : Prop where
  m0 : 0 ≤ made
  m1 : made < p
  b0 : 0 ≤ base
  b1 : base < p
  l0 : 0 ≤ left
  e : (made * base ^ left.toNat) % p = w ^ n % p
theorem powi_start {w p : Int} (n : Nat) (h : 1 < p) : InvP w n p 1 (w % p) (n : Int) :=
  ⟨by omega, h, Int.emod_nonneg w (by omega), Int.emod_lt_of_pos w (by omega), by omega, by rw [Int.one_mul, Int.toNat_natCast, pow_mod]⟩
theorem powi_turn1 {w p made base left : Int} {n : Nat} (I : InvP w n p made base left) (h : 0 < left) (o : left % 2 = 1) : InvP w n p (made * base % p) (base * base % p) (left / 2) := by
  have p0 : 0 < p := Int.lt_of_le_of_lt I.m0 I.m1
  refine ⟨Int.emod_nonneg _ (by omega), Int.emod_lt_of_pos _ p0, Int.emod_nonneg _ (by omega), Int.emod_lt_of_pos _ p0, by omega, ?_⟩
  have q := I.e
  have : left.toNat = 2 * (left / 2).toNat + 1 := by omega
  rw [this, pow_turn1] at q
  exact q
theorem powi_turn0 {w p made base left : Int} {n : Nat} (I : InvP w n p made base left) (h : 0 < left) (o : ¬ left % 2 = 1) : InvP w n p made (base * base % p) (left / 2) := by
  have p0 : 0 < p := Int.lt_of_le_of_lt I.m0 I.m1
  refine ⟨I.m0, I.m1, Int.emod_nonneg _ (by omega), Int.emod_lt_of_pos _ p0, by omega, ?_⟩
  have q := I.e
  have : left.toNat = 2 * (left / 2).toNat := by omega
  rw [this, pow_turn0] at q
  exact q
theorem powi_end {w p made base left : Int} {n : Nat} (I : InvP w n p made base left) (h : ¬ 0 < left) : made = w ^ n % p := by
  have q := I.e
  have : left.toNat = 0 := by have := I.l0; omega
  rw [this, Int.pow_zero, Int.mul_one, Int.emod_eq_of_lt I.m0 I.m1] at q
  exact q
theorem due_start {w p : Int} (h : 1 < p) : (1 : Int) = w ^ 0 % p := by
  rw [Int.pow_zero, Int.emod_eq_of_lt (by omega) h]
theorem due_turn {w p : Int} (i : Nat) : (w ^ i % p * w) % p = w ^ (i + 1) % p := by
  rw [Int.pow_succ, Int.mul_emod, Int.emod_emod, ← Int.mul_emod]
end K0
-- K1M.lean
namespace K1
open K0
/-! ### numbers modulo a prime -/
def Cg (p a b : Int) : Prop := p ∣ a - b
section
variable {p a b c d x y : Int}
theorem Cg.refl (p a : Int) : Cg p a a := ⟨0, by omega⟩
theorem Cg.of_eq (h : a = b) : Cg p a b := h ▸ Cg.refl p a
theorem Cg.symm (h : Cg p a b) : Cg p b a := by
  obtain ⟨k, h⟩ := h
  exact ⟨-k, by grind⟩
theorem Cg.trans (h : Cg p a b) (g : Cg p b c) : Cg p a c := by
  obtain ⟨k, h⟩ := h
  obtain ⟨l, g⟩ := g
  exact ⟨k + l, by grind⟩
theorem Cg.add (h : Cg p a b) (g : Cg p c d) : Cg p (a + c) (b + d) := by
  obtain ⟨k, h⟩ := h
  obtain ⟨l, g⟩ := g
  exact ⟨k + l, by grind⟩
theorem Cg.sub (h : Cg p a b) (g : Cg p c d) : Cg p (a - c) (b - d) := by
  obtain ⟨k, h⟩ := h
  obtain ⟨l, g⟩ := g
  exact ⟨k - l, by grind⟩
theorem Cg.mul (h : Cg p a b) (g : Cg p c d) : Cg p (a * c) (b * d) := by
  obtain ⟨k, h⟩ := h
  obtain ⟨l, g⟩ := g
  exact ⟨k * c + b * l, by grind⟩
theorem Cg.mod (p a : Int) : Cg p (a % p) a := by
  have := Int.mul_ediv_add_emod a p
  exact ⟨-(a / p), by grind⟩
theorem Cg.iff : Cg p a b ↔ a % p = b % p := by
  constructor
  · intro h
    exact Int.emod_eq_emod_iff_emod_sub_eq_zero.mpr (Int.emod_eq_zero_of_dvd h)
  · intro h
    exact (Cg.mod p a).symm.trans (h ▸ Cg.mod p b)
theorem Cg.pow (h : Cg p a b) : ∀ n : Nat, Cg p (a ^ n) (b ^ n)
  | 0 => Cg.of_eq (by rw [Int.pow_zero, Int.pow_zero])
  | n + 1 => by
    rw [Int.pow_succ, Int.pow_succ]
    exact (Cg.pow h n).mul h
theorem Cg.eq_of (h : Cg p a b) (a0 : 0 ≤ a) (a1 : a < p) (b0 : 0 ≤ b) (b1 : b < p) : a = b := by
  have := Cg.iff.mp h
  rwa [Int.emod_eq_of_lt a0 a1, Int.emod_eq_of_lt b0 b1] at this
theorem cg_zero : Cg p a 0 ↔ a % p = 0 := by
  rw [Cg.iff, Int.zero_emod]
end
theorem inv_ex {p w : Int} (P : Prm p) (h : w % p ≠ 0) : ∃ r, 0 < r ∧ r < p ∧ (r * w) % p = 1 := by
  have key : ∀ (n : Nat) (low high one other : Int), low.toNat ≤ n → InvI w p low high one other → ∃ r, 0 < r ∧ r < p ∧ (r * w) % p = 1 := by
    intro n
    induction n with
    | zero =>
      intro low high one other hn I
      obtain ⟨a, b, c⟩ := inv_end I (by omega)
      exact ⟨_, a, b, c⟩
    | succ n ih =>
      intro low high one other hn I
      by_cases q : 1 < low
      · obtain ⟨J, lt⟩ := inv_turn I q
        exact ih _ _ _ _ (by omega) J
      · obtain ⟨a, b, c⟩ := inv_end I q
        exact ⟨_, a, b, c⟩
  exact key _ _ _ _ _ (Nat.le_refl _) (inv_start P h)
theorem one_mod {p : Int} (P : Prm p) : (1 : Int) % p = 1 := Int.emod_eq_of_lt (by omega) P.1
theorem cg_one {p a : Int} (P : Prm p) (h : a % p = 1) : Cg p a 1 := Cg.iff.mpr (by rw [h, one_mod P])
theorem inv_uniq {p w r s : Int} (P : Prm p) (r0 : 0 ≤ r) (r1 : r < p) (s0 : 0 ≤ s) (s1 : s < p) (h : (r * w) % p = 1) (g : (s * w) % p = 1) : r = s := by
  have h' := (cg_one P h).mul (Cg.refl p s)
  have g' := (cg_one P g).mul (Cg.refl p r)
  refine Cg.eq_of (p := p) ?_ r0 r1 s0 s1
  have e : r * w * s = s * w * r := by grind
  rw [e] at h'
  have := g'.symm.trans h'
  rwa [Int.one_mul, Int.one_mul] at this
theorem prm_mul {p a b : Int} (P : Prm p) (h : Cg p (a * b) 0) (ha : ¬ Cg p a 0) : Cg p b 0 := by
  obtain ⟨r, _, _, hr⟩ := inv_ex P (fun z => ha (cg_zero.mpr z))
  have e := (Cg.refl p r).mul h
  have e2 : Cg p (r * (a * b)) (1 * b) := by
    have := (cg_one P hr).mul (Cg.refl p b)
    rwa [Int.mul_assoc] at this
  rw [Int.mul_zero] at e
  rw [Int.one_mul] at e2
  exact e2.symm.trans e
/-! ### Fermat -/
theorem perm_onto : ∀ (n : Nat) (l : List Nat), l.length = n → (∀ k, k < n → k ∈ l) → l.Perm (List.range n)
  | 0, l, hl, _ => by
    rw [List.eq_nil_of_length_eq_zero hl]
    exact .refl _
  | n + 1, l, hl, h => by
    have hn : n ∈ l := h n (by omega)
    have ih := perm_onto n (l.erase n) (by rw [List.length_erase_of_mem hn]; omega)
      fun k hk => (List.mem_erase_of_ne (by omega)).2 (h k (by omega))
    rw [List.range_succ]
    exact (List.perm_cons_erase hn).trans
      ((ih.cons n).trans (List.perm_append_singleton n _).symm)
def prodL (f : Nat → Int) : List Nat → Int
  | [] => 1
  | a :: l => f a * prodL f l
theorem prodL_perm {f : Nat → Int} {l m : List Nat} (h : l.Perm m) : prodL f l = prodL f m := by
  induction h with
  | nil => rfl
  | cons x _ ih => simp only [prodL, ih]
  | swap x y l => simp only [prodL]; grind
  | trans _ _ h1 h2 => exact h1.trans h2
theorem prodL_map {p x : Int} {f : Nat → Int} {g : Nat → Nat} : ∀ l : List Nat, (∀ a ∈ l, Cg p (f (g a)) (x * f a)) → Cg p (prodL f (l.map g)) (x ^ l.length * prodL f l)
  | [], _ => Cg.of_eq (by show (1 : Int) = x ^ 0 * 1; rw [Int.pow_zero]; rfl)
  | a :: l, h => by
    have ih := prodL_map l fun b hb => h b (List.mem_cons_of_mem _ hb)
    have h0 := h a List.mem_cons_self
    have := h0.mul ih
    refine this.trans (Cg.of_eq ?_)
    show x * f a * (x ^ l.length * prodL f l) = x ^ (l.length + 1) * (f a * prodL f l)
    rw [Int.pow_succ]
    grind
theorem prodL_unit {p : Int} (P : Prm p) {f : Nat → Int} : ∀ l : List Nat, (∀ a ∈ l, ¬ Cg p (f a) 0) → ¬ Cg p (prodL f l) 0
  | [], _, z => by
    have := cg_zero.mp z
    rw [show prodL f [] = 1 from rfl, one_mod P] at this
    omega
  | a :: l, h, z => prodL_unit P l (fun b hb => h b (List.mem_cons_of_mem _ hb)) (prm_mul P z (h a List.mem_cons_self))
theorem fermat {p x : Int} (P : Prm p) (hx : x % p ≠ 0) : Cg p (x ^ (p.toNat - 1)) 1 := by
  have p1 := P.1
  let f : Nat → Int := fun k => (k : Int) + 1
  let g : Nat → Nat := fun k => ((x * f k) % p - 1).toNat
  have fu : ∀ a ∈ List.range (p.toNat - 1), ¬ Cg p (f a) 0 := fun a ha z => by
    have := List.mem_range.mp ha
    have := cg_zero.mp z
    rw [Int.emod_eq_of_lt (by show (0 : Int) ≤ (a : Int) + 1; omega) (by show (a : Int) + 1 < p; omega)] at this
    have : (a : Int) + 1 = 0 := this
    omega
  have hg : ∀ a ∈ List.range (p.toNat - 1), Cg p (f (g a)) (x * f a) := fun a ha => by
    have n0 : (x * f a) % p ≠ 0 := fun z => fu a ha (prm_mul P (cg_zero.mpr z) (fun y => hx (cg_zero.mp y)))
    have h0 := Int.emod_nonneg (x * f a) (show p ≠ 0 by omega)
    have e : f (g a) = (x * f a) % p := by
      show (((x * f a) % p - 1).toNat : Int) + 1 = _
      omega
    rw [e]
    exact Cg.mod _ _
  have onto : ∀ k, k < p.toNat - 1 → k ∈ (List.range (p.toNat - 1)).map g := fun k hk => by
    obtain ⟨r, _, _, hr⟩ := inv_ex P hx
    have ku : ¬ Cg p (f k) 0 := fu k (List.mem_range.mpr hk)
    have ru : ¬ Cg p r 0 := fun z => by
      have := z.mul (Cg.refl p x)
      have := cg_zero.mp (this.trans (Cg.of_eq (Int.zero_mul x)))
      omega
    have n0 : (r * f k) % p ≠ 0 := fun z => ku (prm_mul P (cg_zero.mpr z) ru)
    have h0 := Int.emod_nonneg (r * f k) (show p ≠ 0 by omega)
    have h1 := Int.emod_lt_of_pos (r * f k) (show 0 < p by omega)
    refine List.mem_map.mpr ⟨((r * f k) % p - 1).toNat, List.mem_range.mpr (by omega), ?_⟩
    have e : f ((r * f k) % p - 1).toNat = (r * f k) % p := by
      show (((r * f k) % p - 1).toNat : Int) + 1 = _
      omega
    have c : Cg p (x * f ((r * f k) % p - 1).toNat) (f k) := by
      rw [e]
      refine ((Cg.refl p x).mul (Cg.mod p (r * f k))).trans ?_
      have := (cg_one P hr).mul (Cg.refl p (f k))
      rw [Int.one_mul] at this
      exact (Cg.of_eq (by grind)).trans this
    have := Cg.iff.mp c
    rw [Int.emod_eq_of_lt (show 0 ≤ f k by show (0 : Int) ≤ (k : Int) + 1; omega) (by show (k : Int) + 1 < p; omega)] at this
    show ((x * f _) % p - 1).toNat = k
    rw [this]
    show ((k : Int) + 1 - 1).toNat = k
    omega
  have pm := perm_onto (p.toNat - 1) ((List.range (p.toNat - 1)).map g) (by simp) onto
  have e1 := prodL_map (p := p) (x := x) (f := f) (g := g) _ hg
  rw [prodL_perm pm, List.length_range] at e1
  have u := prodL_unit P _ fu
  have z : Cg p (prodL f (List.range (p.toNat - 1)) * (x ^ (p.toNat - 1) - 1)) 0 := by
    have := e1.symm.sub (Cg.refl p (prodL f (List.range (p.toNat - 1))))
    refine (Cg.of_eq (by grind)).trans (this.trans (Cg.of_eq (by omega)))
  have := (prm_mul P z u).add (Cg.refl p 1)
  refine (Cg.of_eq (by omega)).trans (this.trans (Cg.of_eq (by omega)))
theorem fermat_inv {p x : Int} (P : Prm p) (hx : x % p ≠ 0) : (x ^ (p - 2).toNat % p * x) % p = 1 := by
  have p1 := P.1
  have e : (p - 2).toNat + 1 = p.toNat - 1 := by omega
  have c : Cg p (x ^ (p - 2).toNat % p * x) 1 := by
    refine ((Cg.mod p _).mul (Cg.refl p x)).trans ?_
    have e2 : x ^ (p - 2).toNat * x = x ^ (p.toNat - 1) := by rw [← e, Int.pow_succ]
    rw [e2]
    exact fermat P hx
  rw [Cg.iff.mp c, one_mod P]
end K1
-- BagM.lean
/-! bags of lists of ints, in Lean alone -/
namespace BM
open TS
abbrev B10 : Int := 10000000000
/-- d ints, each a worth -/
def Ok (d : Nat) (n : List Int) : Prop := n.length = d ∧ Bd B10 n
def le (a b : List Int) : Bool := decide (code B10 a ≤ code B10 b)
def srt (l : List (List Int)) : List (List Int) := l.mergeSort le
theorem srt_perm (l : List (List Int)) : (srt l).Perm l := List.mergeSort_perm l le
abbrev Asc (l : List (List Int)) : Prop := l.Pairwise fun a b => code B10 a ≤ code B10 b
theorem srt_asc (l : List (List Int)) : Asc (srt l) := by
  have h := List.pairwise_mergeSort (le := le) (fun a b c h1 h2 => by
    have h1 := of_decide_eq_true h1
    have h2 := of_decide_eq_true h2
    exact decide_eq_true (Int.le_trans h1 h2)) (fun a b => by
    unfold le
    rcases Int.le_total (code B10 a) (code B10 b) with h | h
    · rw [decide_eq_true h]; rfl
    · rw [decide_eq_true h, Bool.or_true]) l
  exact h.imp fun h => of_decide_eq_true h
theorem code_inj {B : Int} : ∀ {a b : List Int}, a.length = b.length → Bd B a → Bd B b → code B a = code B b → a = b
  | [], [], _, _, _, _ => rfl
  | x :: a, y :: b, hl, ha, hb, h => by
    have hl' : a.length = b.length := by simpa using hl
    rcases Int.lt_trichotomy x y with c | c | c
    · have := code_lt hl' ha.tail hb.tail c
      omega
    · subst c
      have h' : x * B ^ a.length + code B a = x * B ^ b.length + code B b := h
      rw [hl'] at h'
      rw [code_inj hl' ha.tail hb.tail (by omega)]
    · have := code_lt hl'.symm hb.tail ha.tail c
      omega
theorem asc_uniq {d : Nat} : ∀ {l m : List (List Int)}, (∀ a ∈ l, Ok d a) → l.Perm m → Asc l → Asc m → l = m
  | [], m, _, p, _, _ => (List.nil_perm.mp p).symm
  | a :: l, [], _, p, _, _ => by have := p.length_eq; simp at this
  | a :: l, b :: m, ho, p, h1, h2 => by
    have q1 := List.pairwise_cons.mp h1
    have q2 := List.pairwise_cons.mp h2
    have oa := ho a List.mem_cons_self
    have ob := ho b (p.mem_iff.mpr List.mem_cons_self)
    have e : a = b := by
      refine code_inj (by rw [oa.1, ob.1]) oa.2 ob.2 (Int.le_antisymm ?_ ?_)
      · rcases List.mem_cons.mp (p.mem_iff.mpr List.mem_cons_self : b ∈ a :: l) with z | z
        · rw [z]
          exact Int.le_refl _
        · exact q1.1 b z
      · rcases List.mem_cons.mp (p.mem_iff.mp List.mem_cons_self : a ∈ b :: m) with z | z
        · rw [z]
          exact Int.le_refl _
        · exact q2.1 a z
    subst e
    rw [asc_uniq (fun x hx => ho x (List.mem_cons_of_mem _ hx)) p.cons_inv q1.2 q2.2]
theorem srt_of {d : Nat} {l ys : List (List Int)} (ho : ∀ a ∈ l, Ok d a) (p : ys.Perm l) (s : Asc ys) : ys = srt l :=
  asc_uniq (fun a ha => ho a (p.mem_iff.mp ha)) (p.trans (srt_perm l).symm) s (srt_asc l)
theorem srt_eq {d : Nat} {l m : List (List Int)} (ho : ∀ a ∈ l, Ok d a) (p : l.Perm m) : srt l = srt m :=
  srt_of (fun a ha => ho a (p.mem_iff.mpr ha)) ((srt_perm l).trans p) (srt_asc l)
theorem srt_ok {d : Nat} {l : List (List Int)} (ho : ∀ a ∈ l, Ok d a) : ∀ a ∈ srt l, Ok d a := fun a ha => ho a ((srt_perm l).mem_iff.mp ha)
theorem srt_len (l : List (List Int)) : (srt l).length = l.length := (srt_perm l).length_eq
theorem srt_iff {d : Nat} {l m : List (List Int)} (ho : ∀ a ∈ l, Ok d a) : srt l = srt m ↔ l.Perm m :=
  ⟨fun e => (srt_perm l).symm.trans (e ▸ srt_perm m), srt_eq ho⟩
/-! ### merging -/
def mrg (g p : Int) (n : List Int) : List Int := (n.getD 0 0 + g * n.getD 1 0) % p :: n.drop 2
theorem mrg_ok {d : Nat} {g p : Int} {n : List Int} (p0 : 0 < p) (p1 : p ≤ B10) (h : Ok (d + 2) n) : Ok (d + 1) (mrg g p n) := by
  refine ⟨?_, fun m hm => ?_⟩
  · show (n.drop 2).length + 1 = d + 1
    rw [List.length_drop, h.1]
    omega
  · rcases List.mem_cons.mp hm with rfl | hm
    · have := Int.emod_nonneg (n.getD 0 0 + g * n.getD 1 0) (show p ≠ 0 by omega)
      have := Int.emod_lt_of_pos (n.getD 0 0 + g * n.getD 1 0) p0
      exact ⟨by omega, by omega⟩
    · exact h.2 m (List.mem_of_mem_drop hm)
/-! ### products -/
def stepP (p z t : Int) (n : List Int) : Int := t * (z - n.getD 0 0) % p
def prd (p z : Int) (l : List (List Int)) : Int := l.foldl (stepP p z) 1
theorem stepP_comm (p z t : Int) (a b : List Int) : stepP p z (stepP p z t a) b = stepP p z (stepP p z t b) a := by
  unfold stepP
  rw [Int.mul_emod, Int.emod_emod_of_dvd _ (Int.dvd_refl p), ← Int.mul_emod, Int.mul_emod (t * (z - b.getD 0 0) % p), Int.emod_emod_of_dvd _ (Int.dvd_refl p), ← Int.mul_emod]
  congr 1
  rw [Int.mul_assoc, Int.mul_assoc, Int.mul_comm (z - a.getD 0 0)]
theorem prd_perm {p z : Int} {l m : List (List Int)} (h : l.Perm m) : prd p z l = prd p z m := by
  unfold prd
  have key : ∀ t, l.foldl (stepP p z) t = m.foldl (stepP p z) t := by
    induction h with
    | nil => intro t; rfl
    | cons x _ ih => intro t; exact ih _
    | swap x y l =>
      intro t
      show l.foldl (stepP p z) (stepP p z (stepP p z t y) x) = l.foldl (stepP p z) (stepP p z (stepP p z t x) y)
      rw [stepP_comm]
    | trans _ _ h1 h2 => intro t; rw [h1, h2]
  exact key 1
end BM
-- LotM.lean
namespace BM
open K0 K1
theorem pigeon {α β : Type} [DecidableEq α] {R : α → β → Prop} : ∀ (Y : List β) (l : List α), l.Nodup → (∀ m ∈ l, ∃ b ∈ Y, R m b) → (∀ m m' b, m ∈ l → m' ∈ l → b ∈ Y → R m b → R m' b → m = m') → l.length ≤ Y.length
  | [], l, _, h, _ => by
    cases l with
    | nil => exact Nat.le_refl _
    | cons m l =>
      obtain ⟨b, hb, _⟩ := h m List.mem_cons_self
      cases hb
  | b :: Y, l, nd, h, inj => by
    rcases Classical.em (∃ m0 ∈ l, R m0 b) with ⟨m0, h0, r0⟩ | c
    · have ih := pigeon Y (l.erase m0) (nd.erase m0) (fun m hm => by
        have hm2 := List.mem_of_mem_erase hm
        obtain ⟨b', hb', r⟩ := h m hm2
        rcases List.mem_cons.mp hb' with rfl | hb'
        · have e := inj m m0 _ hm2 h0 List.mem_cons_self r r0
          rw [e] at hm
          exact absurd hm (nd.not_mem_erase)
        · exact ⟨b', hb', r⟩) (fun m m' b' hm hm' hb' r r' => inj m m' b' (List.mem_of_mem_erase hm) (List.mem_of_mem_erase hm') (List.mem_cons_of_mem _ hb') r r')
      rw [List.length_erase_of_mem h0] at ih
      have := List.length_pos_of_mem h0
      rw [List.length_cons]
      omega
    · have ih := pigeon Y l nd (fun m hm => by
        obtain ⟨b', hb', r⟩ := h m hm
        rcases List.mem_cons.mp hb' with rfl | hb'
        · exact absurd ⟨m, hm, r⟩ c
        · exact ⟨b', hb', r⟩) (fun m m' b' hm hm' hb' r r' => inj m m' b' hm hm' (List.mem_cons_of_mem _ hb') r r')
      rw [List.length_cons]
      omega
/-- unlike lists of one length: one has an item oftener -/
theorem perm_of_count {α : Type} [BEq α] [LawfulBEq α] : ∀ (l m : List α), (∀ a, l.count a ≤ m.count a) → m.length ≤ l.length → l.Perm m
  | [], m, _, hl => by
    have e : m = [] := List.eq_nil_of_length_eq_zero (by simpa using hl)
    rw [e]
  | a :: l, m, h, hl => by
    have ha : a ∈ m := by
      have := h a
      rw [List.count_cons_self] at this
      exact List.count_pos_iff.mp (by omega)
    refine (List.Perm.cons a (perm_of_count l (m.erase a) (fun b => ?_) ?_)).trans (List.perm_cons_erase ha).symm
    · have := h b
      by_cases e : a = b
      · subst e
        rw [List.count_cons_self] at this
        rw [List.count_erase_self]
        omega
      · rw [List.count_cons_of_ne e] at this
        rw [List.count_erase_of_ne (fun z => e z.symm)]
        exact this
    · rw [List.length_erase_of_mem ha]
      have := List.length_pos_of_mem ha
      rw [List.length_cons] at hl
      omega
theorem more_of {α : Type} [BEq α] [LawfulBEq α] {l m : List α} (hl : l.length = m.length) (h : ¬ l.Perm m) : ∃ a, m.count a < l.count a := by
  rcases Classical.em (∃ a, m.count a < l.count a) with c | c
  · exact c
  · exfalso
    have le : ∀ a, l.count a ≤ m.count a := fun a => Nat.le_of_not_lt fun z => c ⟨a, z⟩
    exact h (perm_of_count l m le (by omega))
/-- the items that the merge of a stands for -/
theorem count_map_gt {α β : Type} [BEq α] [LawfulBEq α] [BEq β] [LawfulBEq β] {f : α → β} {Y : List α} {a : α} (h : Y.count a < (Y.map f).count (f a)) : ∃ b ∈ Y, b ≠ a ∧ f b = f a := by
  induction Y with
  | nil => simp at h
  | cons y Y ih =>
    by_cases e : y = a
    · subst e
      rw [List.map_cons, List.count_cons_self, List.count_cons_self] at h
      obtain ⟨b, hb, r⟩ := ih (by omega)
      exact ⟨b, List.mem_cons_of_mem _ hb, r⟩
    · by_cases e2 : f y = f a
      · exact ⟨y, List.mem_cons_self, e, e2⟩
      · rw [List.map_cons, List.count_cons_of_ne e, List.count_cons_of_ne e2] at h
        obtain ⟨b, hb, r⟩ := ih h
        exact ⟨b, List.mem_cons_of_mem _ hb, r⟩
theorem count_le_map {α β : Type} [BEq α] [LawfulBEq α] [BEq β] [LawfulBEq β] {f : α → β} {X : List α} {a : α} : X.count a ≤ (X.map f).count (f a) := by
  induction X with
  | nil => simp
  | cons y X ih =>
    rw [List.map_cons]
    by_cases e : y = a
    · subst e
      rw [List.count_cons_self, List.count_cons_self]
      omega
    · rw [List.count_cons_of_ne e]
      exact Nat.le_trans ih (List.count_le_count_cons)
/-- an item of worths below p -/
def Wo (d : Nat) (p : Int) (n : List Int) : Prop := n.length = d ∧ ∀ z ∈ n, 0 ≤ z ∧ z < p
theorem two_eq {d : Nat} {p : Int} {a b : List Int} (P : Prm p) (ha : Wo (d + 2) p a) (hb : Wo (d + 2) p b) (ne : b ≠ a) {m m' : Nat} (hm : (m : Int) < p) (hm' : (m' : Int) < p) (r : mrg m p b = mrg m p a) (r' : mrg m' p b = mrg m' p a) : m = m' := by
  obtain ⟨la, wa⟩ := ha
  obtain ⟨lb, wb⟩ := hb
  match a, la, wa with
  | a0 :: a1 :: ar, la, wa =>
    match b, lb, wb with
    | b0 :: b1 :: br, lb, wb =>
      have e1 : (b0 + (m : Int) * b1) % p = (a0 + (m : Int) * a1) % p := (List.cons.inj r).1
      have e2 : (b0 + (m' : Int) * b1) % p = (a0 + (m' : Int) * a1) % p := (List.cons.inj r').1
      have er : br = ar := (List.cons.inj r).2
      have a0b := wa a0 List.mem_cons_self
      have b0b := wb b0 List.mem_cons_self
      have a1b := wa a1 (List.mem_cons_of_mem _ List.mem_cons_self)
      have b1b := wb b1 (List.mem_cons_of_mem _ List.mem_cons_self)
      have c1 := Cg.iff.mpr e1
      have c2 := Cg.iff.mpr e2
      by_cases h : b1 = a1
      · subst h
        exfalso
        have c3 : Cg p b0 a0 := by
          have := c1.sub (Cg.refl p ((m : Int) * b1))
          refine (Cg.of_eq (by omega)).trans (this.trans (Cg.of_eq (by omega)))
        have := Cg.eq_of c3 b0b.1 b0b.2 a0b.1 a0b.2
        exact ne (by rw [this, er])
      · have c3 := c1.sub c2
        have c4 : Cg p ((b1 - a1) * ((m : Int) - m')) 0 := by
          have := c3.sub (Cg.refl p (a0 + (m : Int) * a1 - (a0 + (m' : Int) * a1)))
          refine (Cg.of_eq (by grind)).trans (this.trans (Cg.of_eq (by omega)))
        have nz : ¬ Cg p (b1 - a1) 0 := fun z => by
          have : Cg p b1 a1 := by
            have := z.add (Cg.refl p a1)
            refine (Cg.of_eq (by omega)).trans (this.trans (Cg.of_eq (by omega)))
          exact h (Cg.eq_of this b1b.1 b1b.2 a1b.1 a1b.2)
        have c5 := prm_mul P c4 nz
        have c6 : Cg p (m : Int) (m' : Int) := by
          have := c5.add (Cg.refl p (m' : Int))
          refine (Cg.of_eq (by omega)).trans (this.trans (Cg.of_eq (by omega)))
        have := Cg.eq_of c6 (by omega) hm (by omega) hm'
        omega
theorem merge_bound1 {d : Nat} {p : Int} {X Y : List (List Int)} (P : Prm p) (hX : ∀ n ∈ X, Wo (d + 2) p n) (hY : ∀ n ∈ Y, Wo (d + 2) p n) {a : List Int} (h : Y.count a < X.count a) (l : List Nat) (nd : l.Nodup) (hl : ∀ m ∈ l, (m : Int) < p ∧ (X.map (mrg m p)).Perm (Y.map (mrg m p))) : l.length ≤ Y.length := by
  have ha : a ∈ X := List.count_pos_iff.mp (by omega)
  refine pigeon (R := fun m b => b ≠ a ∧ mrg (m : Nat) p b = mrg (m : Nat) p a) Y l nd (fun m hm => ?_) (fun m m' b hm hm' hb r r' => ?_)
  · have p1 := (hl m hm).2
    have c1 : X.count a ≤ (X.map (mrg m p)).count (mrg m p a) := count_le_map
    rw [p1.count_eq] at c1
    obtain ⟨b, hb, r⟩ := count_map_gt (f := mrg m p) (Y := Y) (a := a) (by omega)
    exact ⟨b, hb, r⟩
  · exact two_eq P (hX a ha) (hY b hb) r.1 (hl m hm).1 (hl m' hm').1 r.2 r'.2
theorem merge_bound {d : Nat} {p : Int} {X Y : List (List Int)} (P : Prm p) (hX : ∀ n ∈ X, Wo (d + 2) p n) (hY : ∀ n ∈ Y, Wo (d + 2) p n) (hn : X.length = Y.length) (h : ¬ X.Perm Y) (l : List Nat) (nd : l.Nodup) (hl : ∀ m ∈ l, (m : Int) < p ∧ (X.map (mrg m p)).Perm (Y.map (mrg m p))) : l.length ≤ X.length := by
  obtain ⟨a, ha⟩ := more_of hn h
  rw [hn]
  exact merge_bound1 P hX hY ha l nd hl
theorem Wo.ok {d : Nat} {p : Int} {n : List Int} (p1 : p ≤ B10) (h : Wo d p n) : Ok d n := ⟨h.1, fun z hz => by
  have := h.2 z hz
  exact ⟨this.1, by omega⟩⟩
theorem mrg_mod {g h p : Int} (e : g % p = h % p) (n : List Int) : mrg g p n = mrg h p n := by
  unfold mrg
  have c : Cg p (n.getD 0 0 + g * n.getD 1 0) (n.getD 0 0 + h * n.getD 1 0) := (Cg.refl p _).add ((Cg.iff.mpr e).mul (Cg.refl p _))
  rw [Cg.iff.mp c]
theorem prd_mod {g h p : Int} (e : g % p = h % p) (l : List (List Int)) : prd p g l = prd p h l := by
  unfold prd
  have : stepP p g = stepP p h := by
    funext t n
    unfold stepP
    exact Cg.iff.mp ((Cg.refl p t).mul ((Cg.iff.mpr e).sub (Cg.refl p _)))
  rw [this]
end BM
-- ProdM.lean
namespace BM
open K0 K1
/-- the function is a polynomial of degree below n -/
def Dg : Nat → (Int → Int) → Prop
  | 0, f => ∀ x, f x = 0
  | n + 1, f => ∀ a, ∃ q, Dg n q ∧ ∀ x, f x = f a + (x - a) * q x
theorem Dg.zero : ∀ n, Dg n (fun _ => 0)
  | 0 => fun _ => rfl
  | n + 1 => fun a => ⟨fun _ => 0, Dg.zero n, fun x => by simp⟩
theorem Dg.ext {f g : Int → Int} (e : ∀ x, f x = g x) (n : Nat) (h : Dg n f) : Dg n g := by
  have : f = g := funext e
  exact this ▸ h
theorem Dg.add : ∀ {n : Nat} {f g : Int → Int}, Dg n f → Dg n g → Dg n (fun x => f x + g x)
  | 0, f, g, hf, hg => fun x => by
    show f x + g x = 0
    rw [hf x, hg x]
    rfl
  | n + 1, f, g, hf, hg => fun a => by
    obtain ⟨q, hq, e⟩ := hf a
    obtain ⟨r, hr, e2⟩ := hg a
    refine ⟨fun x => q x + r x, hq.add hr, fun x => ?_⟩
    show f x + g x = f a + g a + (x - a) * (q x + r x)
    rw [e x, e2 x]
    grind
theorem Dg.smul (c : Int) : ∀ {n : Nat} {f : Int → Int}, Dg n f → Dg n (fun x => c * f x)
  | 0, f, hf => fun x => by
    show c * f x = 0
    rw [hf x, Int.mul_zero]
  | n + 1, f, hf => fun a => by
    obtain ⟨q, hq, e⟩ := hf a
    refine ⟨fun x => c * q x, hq.smul c, fun x => ?_⟩
    show c * f x = c * f a + (x - a) * (c * q x)
    rw [e x]
    grind
theorem Dg.up : ∀ {n : Nat} {f : Int → Int}, Dg n f → Dg (n + 1) f
  | 0, f, hf => fun a => ⟨fun _ => 0, fun _ => rfl, fun x => by rw [hf x, hf a]; simp⟩
  | n + 1, f, hf => fun a => by
    obtain ⟨q, hq, e⟩ := hf a
    exact ⟨q, hq.up, e⟩
theorem Dg.lin (c : Int) : ∀ {n : Nat} {f : Int → Int}, Dg n f → Dg (n + 1) (fun x => (x - c) * f x)
  | 0, f, hf => fun a => ⟨fun _ => 0, fun _ => rfl, fun x => by
    show (x - c) * f x = (a - c) * f a + (x - a) * 0
    rw [hf x, hf a]
    simp⟩
  | n + 1, f, hf => fun a => by
    obtain ⟨q, hq, e⟩ := hf a
    refine ⟨fun x => f x + (a - c) * q x, Dg.add hf (hq.smul (a - c)).up, fun x => ?_⟩
    show (x - c) * f x = (a - c) * f a + (x - a) * (f x + (a - c) * q x)
    have := e x
    generalize f x = u at this ⊢
    generalize f a = v at this ⊢
    generalize q x = w at this ⊢
    subst this
    grind
/-- the product of x - a -/
def lin : List Int → Int → Int
  | [], _ => 1
  | a :: r, x => (x - a) * lin r x
theorem dg_lin : ∀ l : List Int, Dg (l.length + 1) (lin l)
  | [] => fun a => ⟨fun _ => 0, fun _ => rfl, fun x => by show (1 : Int) = 1 + (x - a) * 0; simp⟩
  | a :: r => (dg_lin r).lin a
theorem dg_sub : ∀ l m : List Int, l.length = m.length → Dg l.length (fun x => lin l x - lin m x)
  | [], [], _ => fun x => by show (1 : Int) - 1 = 0; rfl
  | a :: l, b :: m, h => by
    have h' : l.length = m.length := by simpa using h
    have d1 := (dg_sub l m h').lin a
    have d2 := (dg_lin m).smul (b - a)
    rw [← h'] at d2
    refine Dg.ext (fun x => ?_) (l.length + 1) (d1.add d2)
    show (x - a) * (lin l x - lin m x) + (b - a) * lin m x = (x - a) * lin l x - (x - b) * lin m x
    grind
theorem dg_roots {p : Int} (P : Prm p) : ∀ (n : Nat) (f : Int → Int) (l : List Nat), Dg n f → l.Nodup → n ≤ l.length → (∀ m ∈ l, (m : Int) < p ∧ Cg p (f m) 0) → ∀ x, Cg p (f x) 0
  | 0, f, l, hf, _, _, _, x => Cg.of_eq (hf x)
  | n + 1, f, [], _, _, hn, _, _ => absurd hn (by simp)
  | n + 1, f, a :: l, hf, nd, hn, hl, x => by
    obtain ⟨q, hq, e⟩ := hf (a : Nat)
    obtain ⟨na, nd'⟩ := List.nodup_cons.mp nd
    have ha := hl a List.mem_cons_self
    have hq0 := dg_roots P n q l hq nd' (by simpa using hn) (fun m hm => by
      have hm2 := hl m (List.mem_cons_of_mem _ hm)
      refine ⟨hm2.1, prm_mul P (a := (m : Int) - a) ?_ fun z => ?_⟩
      · have e1 : ((m : Int) - a) * q m = f m - f a := by
          rw [e m]
          omega
        rw [e1]
        have := hm2.2.sub ha.2
        rwa [Int.sub_zero] at this
      · have z2 : Cg p (m : Int) (a : Int) := by
          obtain ⟨k, hk⟩ := z
          exact ⟨k, by omega⟩
        have := Cg.eq_of z2 (by omega) hm2.1 (by omega) ha.1
        have : m = a := by omega
        exact na (this ▸ hm)) x
    rw [e x]
    have := ha.2.add ((Cg.refl p (x - (a : Nat))).mul hq0)
    rwa [Int.mul_zero, Int.add_zero] at this
theorem lin_perm {l m : List Int} (h : l.Perm m) (x : Int) : lin l x = lin m x := by
  induction h with
  | nil => rfl
  | cons a _ ih => show (x - a) * _ = (x - a) * _; rw [ih]
  | swap a b l => show (x - b) * ((x - a) * lin l x) = (x - a) * ((x - b) * lin l x); grind
  | trans _ _ h1 h2 => rw [h1, h2]
theorem lin_root {p : Int} (P : Prm p) {a : Int} : ∀ {l : List Int}, Cg p (lin l a) 0 → ∃ b ∈ l, Cg p a b
  | [], h => by
    have := cg_zero.mp h
    have e : (1 : Int) % p = 0 := this
    rw [one_mod P] at e
    cases e
  | b :: l, h => by
    by_cases c : Cg p (a - b) 0
    · obtain ⟨k, hk⟩ := c
      exact ⟨b, List.mem_cons_self, k, by omega⟩
    · obtain ⟨d, hd, h2⟩ := lin_root P (prm_mul P h c)
      exact ⟨d, List.mem_cons_of_mem _ hd, h2⟩
theorem lin_same {p : Int} (P : Prm p) : ∀ (n : Nat) (X Y : List Int) (l : List Nat), X.length = n → Y.length = n → (∀ a ∈ X, 0 ≤ a ∧ a < p) → (∀ a ∈ Y, 0 ≤ a ∧ a < p) → l.Nodup → n + 1 ≤ l.length → (∀ m ∈ l, (m : Int) < p ∧ Cg p (lin X m) (lin Y m)) → X.Perm Y
  | 0, X, Y, l, hX, hY, _, _, _, _, _ => by
    rw [List.length_eq_zero_iff.mp hX, List.length_eq_zero_iff.mp hY]
  | n + 1, [], Y, l, hX, _, _, _, _, _, _ => by simp at hX
  | n + 1, a :: X, Y, l, hX, hY, bX, bY, nd, hn, hl => by
    have ba := bX a List.mem_cons_self
    have all := dg_roots P _ _ l (dg_sub (a :: X) Y (by rw [hX, hY])) nd (by rw [hX]; omega) fun m hm => ⟨(hl m hm).1, by
      have := (hl m hm).2.sub (Cg.refl p (lin Y m))
      rwa [Int.sub_self] at this⟩
    have h0 : Cg p (lin Y a) 0 := by
      have := all a
      have e : lin (a :: X) a - lin Y a = - lin Y a := by
        show (a - a) * lin X a - lin Y a = _
        rw [Int.sub_self, Int.zero_mul]
        omega
      simp only [e] at this
      obtain ⟨k, hk⟩ := this
      exact ⟨-k, by rw [Int.mul_neg]; omega⟩
    obtain ⟨b, hb, eb⟩ := lin_root P h0
    have bb := bY b hb
    have e := Cg.eq_of eb ba.1 ba.2 bb.1 bb.2
    subst e
    have pY : Y.Perm (a :: Y.erase a) := List.perm_cons_erase hb
    refine (List.Perm.cons a ?_).trans pY.symm
    refine lin_same P n X (Y.erase a) (l.erase a.toNat) (by simpa using hX) ?_ (fun z hz => bX z (List.mem_cons_of_mem _ hz)) (fun z hz => bY z (List.mem_of_mem_erase hz)) (nd.erase _) ?_ fun m hm => ?_
    · rw [List.length_erase_of_mem hb]
      omega
    · have := List.length_erase (a := a.toNat) (l := l)
      split at this <;> omega
    · have hm2 := (nd.mem_erase_iff).mp hm
      have h := hl m hm2.2
      refine ⟨h.1, ?_⟩
      have h3 := h.2
      rw [lin_perm pY] at h3
      have h4 : Cg p (((m : Int) - a) * (lin X m - lin (Y.erase a) m)) 0 := by
        obtain ⟨k, hk⟩ := h3
        refine ⟨k, ?_⟩
        have hk2 : ((m : Int) - a) * lin X m - ((m : Int) - a) * lin (Y.erase a) m = p * k := hk
        rw [Int.mul_sub]
        omega
      have h5 := prm_mul P h4 fun z => by
        have z2 : Cg p (m : Int) a := by
          obtain ⟨k, hk⟩ := z
          exact ⟨k, by omega⟩
        have := Cg.eq_of z2 (by omega) h.1 ba.1 ba.2
        exact hm2.1 (by omega)
      obtain ⟨k, hk⟩ := h5
      exact ⟨k, by omega⟩
theorem prd_lin' (p z : Int) : ∀ (l : List (List Int)) (t : Int), Cg p (l.foldl (stepP p z) t) (t * lin (l.map fun n => n.getD 0 0) z)
  | [], t => Cg.of_eq (by show t = t * 1; omega)
  | n :: l, t => by
    refine (prd_lin' p z l (stepP p z t n)).trans ?_
    have h := (Cg.mod p (t * (z - n.getD 0 0))).mul (Cg.refl p (lin (l.map fun n => n.getD 0 0) z))
    refine h.trans (Cg.of_eq ?_)
    show t * (z - n.getD 0 0) * lin _ z = t * ((z - n.getD 0 0) * lin _ z)
    rw [Int.mul_assoc]
theorem prd_lin (p z : Int) (l : List (List Int)) : Cg p (prd p z l) (lin (l.map fun n => n.getD 0 0) z) := by
  have := prd_lin' p z l 1
  rwa [Int.one_mul] at this
theorem wo_one {p : Int} {X : List (List Int)} (h : ∀ n ∈ X, Wo 1 p n) : X = (X.map fun n => n.getD 0 0).map fun z => [z] := by
  rw [List.map_map]
  conv => lhs; rw [← List.map_id X]
  refine List.map_congr_left fun n hn => ?_
  obtain ⟨h1, _⟩ := h n hn
  match n, h1 with
  | [z], _ => rfl
theorem wo_at {p : Int} {X : List (List Int)} (h : ∀ n ∈ X, Wo 1 p n) : ∀ a ∈ X.map (fun n => n.getD 0 0), 0 ≤ a ∧ a < p := fun a ha => by
  obtain ⟨n, hn, rfl⟩ := List.mem_map.mp ha
  obtain ⟨h1, h2⟩ := h n hn
  match n, h1, h2 with
  | [z], _, h2 => exact h2 z List.mem_cons_self
theorem prod_bound {p : Int} {X Y : List (List Int)} (P : Prm p) (hX : ∀ n ∈ X, Wo 1 p n) (hY : ∀ n ∈ Y, Wo 1 p n) (hn : X.length = Y.length) (h : ¬ X.Perm Y) (l : List Nat) (nd : l.Nodup) (hl : ∀ m ∈ l, (m : Int) < p ∧ prd p m X = prd p m Y) : l.length ≤ X.length := by
  refine Nat.le_of_not_lt fun c => h ?_
  have := lin_same P X.length (X.map fun n => n.getD 0 0) (Y.map fun n => n.getD 0 0) l (by simp) (by simp [hn]) (wo_at hX) (wo_at hY) nd c fun m hm => ⟨(hl m hm).1, by
    have e := (hl m hm).2
    refine (prd_lin p m X).symm.trans ?_
    rw [e]
    exact prd_lin p m Y⟩
  rw [wo_one hX, wo_one hY]
  exact this.map _
end BM
-- K1P.lean
namespace K1
open K0
/-! ### coefficient lists, the lowest first -/
/-- without the zeros at the end -/
def trimZ : List Int → List Int
  | [] => []
  | a :: l => match trimZ l with
    | [] => if a = 0 then [] else [a]
    | b :: r => a :: b :: r
theorem trimZ_cons (a : Int) (l : List Int) : trimZ (a :: l) = if trimZ l = [] ∧ a = 0 then [] else a :: trimZ l := by
  show (match trimZ l with | [] => if a = 0 then [] else [a] | b :: r => a :: b :: r) = _
  cases e : trimZ l with
  | nil => by_cases h : a = 0 <;> simp [h]
  | cons b r => simp
theorem trimZ_zeros (l : List Int) (k : Nat) : trimZ (l ++ List.replicate k 0) = trimZ l := by
  induction l with
  | nil =>
    rw [List.nil_append]
    induction k with
    | zero => rfl
    | succ k ih =>
      rw [List.replicate_succ, trimZ_cons, ih]
      simp [trimZ]
  | cons a l ih => rw [List.cons_append, trimZ_cons, trimZ_cons, ih]
theorem trimZ_last {l : List Int} {z : Int} (h : z ≠ 0) : trimZ (l ++ [z]) = l ++ [z] := by
  induction l with
  | nil => simp [trimZ, h]
  | cons a l ih =>
    rw [List.cons_append, trimZ_cons, ih]
    simp
/-- what a loop that drops zeros at the end leaves -/
theorem trimZ_take {l : List Int} {n : Nat} (hn : n ≤ l.length) (h0 : ∀ i, n ≤ i → i < l.length → l[i]? = some 0) (h1 : n = 0 ∨ l.getD (n - 1) 0 ≠ 0) : trimZ l = l.take n := by
  have e : l = l.take n ++ List.replicate (l.length - n) 0 := by
    apply List.ext_getElem?
    intro i
    by_cases c : i < n
    · rw [List.getElem?_append_left (by rw [List.length_take]; omega), List.getElem?_take_of_lt c]
    · rw [List.getElem?_append_right (by rw [List.length_take]; omega), List.length_take]
      by_cases d : i < l.length
      · rw [h0 i (by omega) d, List.getElem?_replicate, if_pos (by omega)]
      · rw [List.getElem?_eq_none (by omega), List.getElem?_eq_none (by rw [List.length_replicate]; omega)]
  have e2 : trimZ l = trimZ (l.take n) := by
    rw (occs := .pos [1]) [e]
    exact trimZ_zeros _ _
  rw [e2]
  cases n with
  | zero => rfl
  | succ n =>
    have hl : n < l.length := by omega
    have e3 : l.take (n + 1) = l.take n ++ [l[n]] := by
      rw [List.take_add_one, List.getElem?_eq_getElem hl]
      rfl
    rw [e3]
    refine trimZ_last fun z => ?_
    rcases h1 with h1 | h1
    · omega
    · apply h1
      rw [Nat.add_sub_cancel, List.getD_eq_getElem?_getD, List.getElem?_eq_getElem hl]
      exact z
theorem trimZ_len (l : List Int) : (trimZ l).length ≤ l.length := by
  induction l with
  | nil => exact Nat.le_refl _
  | cons a l ih =>
    rw [trimZ_cons]
    split
    · exact Nat.zero_le _
    · rw [List.length_cons, List.length_cons]
      omega
theorem trimZ_idem (l : List Int) : trimZ (trimZ l) = trimZ l := by
  induction l with
  | nil => rfl
  | cons a l ih =>
    rw [trimZ_cons]
    by_cases c : trimZ l = [] ∧ a = 0
    · rw [if_pos c]
      rfl
    · rw [if_neg c, trimZ_cons, ih, if_neg c]
/-- l is its own list without zeros at the end -/
theorem trimZ_mem {l : List Int} : ∀ z ∈ trimZ l, z ∈ l := by
  induction l with
  | nil => intro z h; exact h
  | cons a l ih =>
    intro z h
    rw [trimZ_cons] at h
    split at h
    · cases h
    · rcases List.mem_cons.mp h with rfl | h
      · exact List.mem_cons_self
      · exact List.mem_cons_of_mem _ (ih z h)
def red (p : Int) (l : List Int) : List Int := l.map (· % p)
def can (p : Int) (l : List Int) : List Int := trimZ (red p l)
theorem red_red (p : Int) (l : List Int) : red p (red p l) = red p l := by
  unfold red
  rw [List.map_map]
  exact List.map_congr_left fun a _ => Int.emod_emod_of_dvd a (Int.dvd_refl p)
theorem red_of {p : Int} {l : List Int} (h : ∀ a ∈ l, a % p = a) : red p l = l := by
  unfold red
  conv => rhs; rw [← List.map_id l]
  exact List.map_congr_left fun a ha => h a ha
theorem red_fix {p : Int} {l : List Int} : ∀ a ∈ red p l, a % p = a := fun a ha => by
  obtain ⟨b, _, rfl⟩ := List.mem_map.mp ha
  exact Int.emod_emod_of_dvd b (Int.dvd_refl p)
theorem can_red (p : Int) (l : List Int) : can p (red p l) = can p l := by
  unfold can
  rw [red_red]
theorem red_can (p : Int) (l : List Int) : red p (can p l) = can p l := red_of fun a ha => red_fix a (trimZ_mem a ha)
theorem can_can (p : Int) (l : List Int) : can p (can p l) = can p l := by
  show trimZ (red p (can p l)) = _
  rw [red_can]
  exact trimZ_idem _
theorem can_zeros (p : Int) (l : List Int) (k : Nat) : can p (l ++ List.replicate k 0) = can p l := by
  unfold can red
  rw [List.map_append, List.map_replicate, Int.zero_emod]
  exact trimZ_zeros _ _
theorem can_len (p : Int) (l : List Int) : (can p l).length ≤ l.length := by
  have := trimZ_len (red p l)
  unfold red at this
  rw [List.length_map] at this
  exact this
theorem red_ext {p : Int} {l m : List Int} (hl : l.length = m.length) (h : ∀ i, i < l.length → Cg p (l.getD i 0) (m.getD i 0)) : red p l = red p m := by
  unfold red
  apply List.ext_getElem?
  intro i
  rw [List.getElem?_map, List.getElem?_map]
  by_cases c : i < l.length
  · have := h i c
    rw [List.getD_eq_getElem?_getD, List.getD_eq_getElem?_getD, List.getElem?_eq_getElem c, List.getElem?_eq_getElem (hl ▸ c)] at this
    rw [List.getElem?_eq_getElem c, List.getElem?_eq_getElem (hl ▸ c)]
    exact congrArg some (Cg.iff.mp this)
  · rw [List.getElem?_eq_none (by omega), List.getElem?_eq_none (by omega)]
/-- the last one of a list without zeros at the end is not 0 -/
theorem can_last {p : Int} {l : List Int} {n : Nat} (h : (can p l).length = n + 1) : (can p l).getD n 0 ≠ 0 := by
  have key : ∀ m : List Int, trimZ m = m → m.length = n + 1 → m.getD n 0 ≠ 0 := by
    clear h
    induction n with
    | zero =>
      intro m h hl
      match m, hl with
      | [a], _ =>
        intro z
        have z' : a = 0 := z
        subst z'
        cases h
    | succ n ih =>
      intro m h hl
      match m, hl with
      | a :: r, hl =>
        rw [trimZ_cons] at h
        have hr : r.length = n + 1 := by
          rw [List.length_cons] at hl
          omega
        split at h
        · cases h
        · exact ih r (List.cons.inj h).2 hr
  exact key _ (trimZ_idem _) h
/-! ### worths -/
def ev : List Int → Int → Int
  | [], _ => 0
  | c :: l, x => c + x * ev l x
theorem ev_snoc (l : List Int) (c x : Int) : ev (l ++ [c]) x = ev l x + x ^ l.length * c := by
  induction l with
  | nil =>
    show c + x * 0 = 0 + x ^ 0 * c
    rw [Int.pow_zero]
    omega
  | cons a l ih =>
    show a + x * ev (l ++ [c]) x = a + x * ev l x + x ^ (l.length + 1) * c
    rw [ih, Int.pow_succ]
    grind
theorem ev_red (p : Int) (l : List Int) (x : Int) : Cg p (ev (red p l) x) (ev l x) := by
  induction l with
  | nil => exact Cg.refl _ _
  | cons a l ih => exact (Cg.mod p a).add ((Cg.refl p x).mul ih)
theorem ev_trim (l : List Int) (x : Int) : ev (trimZ l) x = ev l x := by
  induction l with
  | nil => rfl
  | cons a l ih =>
    rw [trimZ_cons]
    split
    · rename_i c
      have : ev l x = 0 := by
        rw [← ih, c.1]
        rfl
      show 0 = a + x * ev l x
      rw [this, c.2]
      omega
    · show a + x * ev (trimZ l) x = _
      rw [ih]
      rfl
theorem ev_can (p : Int) (l : List Int) (x : Int) : Cg p (ev (can p l) x) (ev l x) := by
  unfold can
  rw [ev_trim]
  exact ev_red p l x
theorem ev_x {p : Int} (l : List Int) {x y : Int} (h : Cg p x y) : Cg p (ev l x) (ev l y) := by
  induction l with
  | nil => exact Cg.refl _ _
  | cons a l ih => exact (Cg.refl p a).add (h.mul ih)
end K1
-- K01E.lean
namespace K0
open PySem L2 K1
def padL (ns : List Int) (n : Nat) : List Int := ns ++ List.replicate (n - ns.length) 0
theorem padL_len {ns : List Int} {n : Nat} (h : ns.length ≤ n) : (padL ns n).length = n := by
  unfold padL
  rw [List.length_append, List.length_replicate]
  omega
def addL (one other : List Int) (s : Int) : List Int := List.zipWith (fun a b => a + s * b) (padL one (max one.length other.length)) (padL other (max one.length other.length))
section
end
end K0
-- K01F.lean
namespace K0
open PySem L2 K1
def mI (one other : List Int) (k : Nat) : Nat → List Int → List Int
  | 0, made => made
  | m + 1, made => (mI one other k m made).set (k + m) ((mI one other k m made).getD (k + m) 0 + one.getD k 0 * other.getD m 0)
def mO (one other : List Int) : Nat → List Int
  | 0 => List.replicate (one.length + other.length) 0
  | k + 1 => mI one other k other.length (mO one other k)
def mulL (one other : List Int) : List Int := mO one other one.length
theorem mI_len (one other made : List Int) (k m : Nat) : (mI one other k m made).length = made.length := by
  induction m with
  | zero => rfl
  | succ m ih => show ((mI one other k m made).set _ _).length = _; rw [List.length_set, ih]
theorem mO_len (one other : List Int) (k : Nat) : (mO one other k).length = one.length + other.length := by
  induction k with
  | zero => exact List.length_replicate
  | succ k ih => show (mI one other k _ _).length = _; rw [mI_len, ih]
theorem ixN_ok {n j : Nat} (h : j < n) : ixN n (j : Int) = some j := by
  unfold ixN
  rw [if_pos (by omega), if_pos (by omega)]
  rfl
theorem getD_of {l : List Int} {i : Nat} {x : Int} (h : l[i]? = some x) : l.getD i 0 = x := by
  rw [List.getD_eq_getElem?_getD, h]
  rfl
def Sm (ns : List Int) : Prop := ∀ z ∈ ns, 0 ≤ z ∧ z < 18446744073709551616
section
end
end K0
-- K01G.lean
namespace K0
open PySem L2 K1
theorem ev_turn {p x : Int} {ns : List Int} {i : Nat} {y : Int} (hi : i < ns.length) (h : ns[ns.length - 1 - i]? = some y) : (ev (ns.drop (ns.length - i)) x % p * x + y) % p = ev (ns.drop (ns.length - (i + 1))) x % p := by
  have e : ns.drop (ns.length - (i + 1)) = y :: ns.drop (ns.length - i) := by
    have e1 : ns.length - (i + 1) = ns.length - 1 - i := by omega
    have hlt : ns.length - 1 - i < ns.length := by omega
    rw [e1, List.drop_eq_getElem_cons hlt]
    have : ns[ns.length - 1 - i] = y := by
      rw [List.getElem?_eq_getElem hlt] at h
      exact Option.some.inj h
    rw [this]
    congr 2
    omega
  rw [e]
  refine Cg.iff.mp ?_
  refine (((Cg.mod p _).mul (Cg.refl p x)).add (Cg.refl p y)).trans (Cg.of_eq ?_)
  show _ = y + x * ev (ns.drop (ns.length - i)) x
  grind
section
end
end K0
-- K01J.lean
namespace K0
open PySem L2 K1
section
end
end K0
-- K01K.lean
namespace K0
open PySem L2 K1
theorem addL_len (cs ds : List Int) (s : Int) : (addL cs ds s).length = max cs.length ds.length := by
  unfold addL
  rw [List.length_zipWith, padL_len (Nat.le_max_left _ _), padL_len (Nat.le_max_right _ _), Nat.min_self]
theorem mulL_len (cs ds : List Int) : (mulL cs ds).length = cs.length + ds.length := mO_len cs ds _
section
end
end K0
-- K01L.lean
namespace K0
open PySem L2 K1
theorem lay_ints (ns : List Int) : PyData.canLayAll0 (ns.map PyData.int) = true := by
  induction ns with
  | nil => rfl
  | cons n ns ih =>
    rw [List.map_cons]
    simp [PyData.canLayAll0, PyData.canLay0, ih]
theorem dep_ints (ns : List Int) : PyData.depthAll (ns.map PyData.int) ≤ 1 := by
  induction ns with
  | nil => simp [PyData.depthAll]
  | cons n ns ih =>
    rw [List.map_cons]
    simp [PyData.depthAll, PyData.depth]
    omega
theorem shT (ns : List Int) : SeqAt.shaped (.tuple (ns.map PyData.int)) = true := by
  have h1 := lay_ints ns
  have h2 := dep_ints ns
  unfold SeqAt.shaped
  simp [PyData.canLay0, PyData.depth, h1]
  omega
theorem shL (ns : List Int) : SeqAt.shaped (.list (ns.map PyData.int)) = true := by
  have h1 := lay_ints ns
  have h2 := dep_ints ns
  unfold SeqAt.shaped
  simp [PyData.canLay0, PyData.depth, h1]
  omega
theorem eqvI (xs ys : List Int) : PyData.eqvAll (xs.map PyData.int) (ys.map PyData.int) = decide (xs = ys) := by
  induction xs generalizing ys with
  | nil => cases ys <;> simp [PyData.eqvAll]
  | cons x xs ih =>
    cases ys with
    | nil => simp [PyData.eqvAll]
    | cons y ys =>
      rw [List.map_cons, List.map_cons]
      simp only [PyData.eqvAll, PyData.eqv, ih]
      by_cases h : x = y
      · subst h
        simp
      · simp [h]
def sclL (_ w : Int) (cs : List Int) : List Int := cs.map fun c => w * c
def fac (p w : Int) : Nat → Int
  | 0 => 1
  | i + 1 => fac p w i * w % p
def stpL (p w : Int) (cs : List Int) : List Int := (List.range cs.length).map fun i => cs.getD i 0 * fac p w i
section
end
end K0
-- K01M.lean
namespace K0
open PySem L2 K1
def subAt (p f : Int) (d : List Int) (base : Nat) : Nat → List Int → List Int
  | 0, r => r
  | k + 1, r => (subAt p f d base k r).set (base + k) (((subAt p f d base k r).getD (base + k) 0 - f * d.getD k 0) % p)
theorem subAt_len {p f : Int} {d : List Int} {base : Nat} (k : Nat) (r : List Int) : (subAt p f d base k r).length = r.length := by
  induction k with
  | zero => rfl
  | succ k ih => show ((subAt p f d base k r).set _ _).length = _; rw [List.length_set, ih]
/-- one turn of the division: the factor, what is left -/
def dfac (p lead : Int) (r : List Int) : Int := r.getD (r.length - 1) 0 * lead % p
def drest (p lead : Int) (d r : List Int) : List Int := (subAt p (dfac p lead r) d (r.length - d.length) d.length r).dropLast
def dst (p lead : Int) (d cs : List Int) : Nat → List Int × List Int
  | 0 => ([], cs)
  | j + 1 => ((dst p lead d cs j).1 ++ [dfac p lead (dst p lead d cs j).2], drest p lead d (dst p lead d cs j).2)
theorem dst_len {p lead : Int} {d cs : List Int} (j : Nat) : (dst p lead d cs j).1.length = j ∧ (dst p lead d cs j).2.length = cs.length - j := by
  induction j with
  | zero => exact ⟨rfl, rfl⟩
  | succ j ih =>
    refine ⟨?_, ?_⟩
    · show ((dst p lead d cs j).1 ++ [_]).length = _
      rw [List.length_append, ih.1]
      rfl
    · show ((subAt _ _ _ _ _ (dst p lead d cs j).2).dropLast).length = _
      rw [List.length_dropLast, subAt_len, ih.2]
      omega
def divN (d cs : List Int) : Nat := cs.length + 1 - d.length
def divQ (p lead : Int) (cs d : List Int) : List Int := (dst p lead d cs (divN d cs)).1.reverse
def divR (p lead : Int) (cs d : List Int) : List Int := (dst p lead d cs (divN d cs)).2
section
end
end K0
-- BagB.lean
namespace K0
open PySem L2 K1
section
end
/-! ### dict(t), t a tuple of pairs that the top wrote -/
section
end
def rootOf (p : Int) : Option Int := (listedP.find? fun kv => decide (kv.1 = p)).map (·.2)
section
end
def inRows (r : Int) : Bool := [4, 8, 16, 32, 64].contains r
def fitsB (p r : V) : Bool := match p, r with
  | .int p, .int r => (rootOf p).isSome && (inRows r && (decide ((p - 1) % (16 * r) = 0) && !decide (p - 1 = 16 * r)))
  | _, _ => false
/-! ### the exceptions' own __init__ -/
/-! ### the exceptions' own __init__ -/
section
end
section
end
end K0
-- BagE.lean
namespace K0
open PySem L2 K1
def pw (p f k : Int) : Nat → Int
  | 0 => f
  | i + 1 => pw p f k i * k % p
theorem pw_bd {p f k : Int} (p0 : 0 < p) (f0 : 0 ≤ f) (f1 : f < p) : ∀ i, 0 ≤ pw p f k i ∧ pw p f k i < p
  | 0 => ⟨f0, f1⟩
  | i + 1 => ⟨Int.emod_nonneg _ (by omega), Int.emod_lt_of_pos _ p0⟩
def pws (p f k : Int) (n : Nat) : List Int := (List.range n).map (pw p f k)
theorem pws_len (p f k : Int) (n : Nat) : (pws p f k n).length = n := by simp [pws]
theorem pws_succ (p f k : Int) (n : Nat) : pws p f k (n + 1) = pws p f k n ++ [pw p f k n] := by
  unfold pws
  rw [List.range_succ, List.map_append]
  rfl
def rtP (p g r : Int) : Int := g ^ ((p - 1) / (16 * r)).toNat % p
def rrP (p g r : Int) : Int := (rtP p g r) ^ 16 % p
def wsP (p g r : Int) : List Int := pws p g (rtP p g r) (16 * r).toNat
def hsP (p g r : Int) : List Int := pws p 1 (rrP p g r) r.toNat
/-- what a pair that fits has -/
structure FitP (p g r : Int) : Prop where
  root : rootOf p = some g
  fits : fitsB (.int p) (.int r) = true
  p0 : 192 < p
  p1 : p < 2147483648
  g0 : 1 < g
  g1 : g < 32
  r0 : 4 ≤ r
  r1 : r ≤ 64
  dv : (p - 1) % (16 * r) = 0
theorem root_cases {p g : Int} (h : rootOf p = some g) : (p, g) ∈ listedP := by
  unfold rootOf at h
  cases e : listedP.find? (fun kv => decide (kv.1 = p)) with
  | none => rw [e] at h; cases h
  | some kv =>
    rw [e] at h
    have h1 := List.mem_of_find?_eq_some e
    have h2 : kv.1 = p := of_decide_eq_true (List.find?_some (p := fun kv : Int × Int => decide (kv.1 = p)) e)
    have h3 : kv.2 = g := Option.some.inj h
    rw [← h2, ← h3]
    exact h1
theorem FitP.of {p r : Int} (h : fitsB (.int p) (.int r) = true) : ∃ g, FitP p g r := by
  have h' : ((rootOf p).isSome && (inRows r && (decide ((p - 1) % (16 * r) = 0) && !decide (p - 1 = 16 * r)))) = true := h
  rw [Bool.and_eq_true, Bool.and_eq_true, Bool.and_eq_true] at h'
  obtain ⟨h1, h2, h3, h4⟩ := h'
  obtain ⟨g, hg⟩ := Option.isSome_iff_exists.mp h1
  have m := root_cases hg
  have hr : 4 ≤ r ∧ r ≤ 64 := by
    unfold inRows at h2
    simp at h2
    omega
  have hb : 192 < p ∧ p < 2147483648 ∧ 1 < g ∧ g < 32 := by
    unfold listedP at m
    simp only [List.mem_cons, Prod.mk.injEq, List.not_mem_nil, or_false] at m
    omega
  exact ⟨g, hg, h, hb.1, hb.2.1, hb.2.2.1, hb.2.2.2, hr.1, hr.2, of_decide_eq_true h3⟩
section
end
end K0
-- BagF.lean
namespace K0
open PySem L2 K1
/-- the number of halvings -/
def lyP (r : Int) : Int := (Builtin.Int.intBits r : Nat) - 1
theorem rows_in {p g r : Int} (F : FitP p g r) : r = 4 ∨ r = 8 ∨ r = 16 ∨ r = 32 ∨ r = 64 := by
  have h := F.fits
  have h' : ((rootOf p).isSome && (inRows r && (decide ((p - 1) % (16 * r) = 0) && !decide (p - 1 = 16 * r)))) = true := h
  rw [Bool.and_eq_true, Bool.and_eq_true] at h'
  have h2 := h'.2.1
  unfold inRows at h2
  simp at h2
  exact h2
theorem wsP_len {p g r : Int} (F : FitP p g r) : ((wsP p g r).length : Int) = 16 * r := by
  have := F.r0
  unfold wsP
  rw [pws_len]
  omega
theorem hsP_len {p g r : Int} (F : FitP p g r) : ((hsP p g r).length : Int) = r := by
  have := F.r0
  unfold hsP
  rw [pws_len]
  omega
section
end
end K0
-- BagH.lean
namespace K0
open PySem L2 K1
theorem wsP_bd {p g r : Int} (F : FitP p g r) : ∀ z ∈ wsP p g r, 0 ≤ z ∧ z < p := fun z hz => by
  have := F.p0
  have := F.g0
  have := F.g1
  obtain ⟨i, _, rfl⟩ := List.mem_map.mp hz
  exact pw_bd (by omega) (by omega) (by omega) i
/-- the divisors at the place worth x, hl the last row's place -/
def plx (p g r i : Int) : Int := (wsP p g r).getD (i % (16 * r)).toNat 0
def hlP (p g r : Int) : Int := (hsP p g r).getD (r.toNat - 1) 0
theorem plx_bd {p g r : Int} (F : FitP p g r) (i : Int) : 0 ≤ plx p g r i ∧ plx p g r i < p := by
  have := F.r0
  have b0 := Int.emod_nonneg i (show 16 * r ≠ 0 by omega)
  have b1 := Int.emod_lt_of_pos i (show 0 < 16 * r by omega)
  have l := wsP_len F
  have h : (i % (16 * r)).toNat < (wsP p g r).length := by omega
  unfold plx
  rw [List.getD_eq_getElem?_getD, List.getElem?_eq_getElem h]
  exact wsP_bd F _ (List.getElem_mem h)
section
end
end K0
-- K01N.lean
namespace K0
open PySem L2 K1
def invF (p x : Int) : Int := x ^ (p - 2).toNat % p
theorem invF_eq {p x r : Int} (P : Prm p) (hx : x % p ≠ 0) (r0 : 0 < r) (r1 : r < p) (h : (r * x) % p = 1) : r = invF p x := by
  have p1 := P.1
  exact inv_uniq P (by omega) r1 (Int.emod_nonneg _ (by omega)) (Int.emod_lt_of_pos _ (by omega)) h (fermat_inv P hx)
end K0
-- K01O.lean
namespace K0
open PySem L2 K1
theorem ev_take {p x : Int} {cs : List Int} {i : Nat} {c : Int} (h : cs[i]? = some c) : (ev (cs.take i) x % p + c * (x ^ i % p)) % p = ev (cs.take (i + 1)) x % p := by
  have il := (List.getElem?_eq_some_iff.mp h).1
  have e : cs.take (i + 1) = cs.take i ++ [c] := by
    rw [List.take_add_one, h]
    rfl
  rw [e, ev_snoc, List.length_take, Nat.min_eq_left (by omega)]
  refine Cg.iff.mp ?_
  refine ((Cg.mod p _).add ((Cg.refl p c).mul (Cg.mod p _))).trans (Cg.of_eq ?_)
  rw [Int.mul_comm]
section
end
end K0
-- K01P.lean
namespace K0
open PySem L2 K1
def Sw (ns : List Int) : Prop := ∀ z ∈ ns, -18446744073709551616 < z ∧ z < 18446744073709551616
theorem zeros_at {l : List Int} {n : Nat} (hn : n < l.length) (hz : ∀ i, n + 1 ≤ i → i < l.length → l[i]? = some 0) (h0 : l.getD n 0 = 0) : ∀ i, n ≤ i → i < l.length → l[i]? = some 0 := fun i h1 h2 => by
  by_cases e : i = n
  · subst e
    rw [List.getD_eq_getElem?_getD, List.getElem?_eq_getElem hn] at h0
    rw [List.getElem?_eq_getElem hn]
    exact congrArg some h0
  · exact hz i (by omega) h2
section
end
end K0
-- K01Q.lean
namespace K0
open PySem L2 K1
theorem getD_app {r z : List Int} {i : Nat} (h : i < r.length) : (r ++ z).getD i 0 = r.getD i 0 := by
  rw [List.getD_eq_getElem?_getD, List.getD_eq_getElem?_getD, List.getElem?_append_left h]
theorem set_app {r z : List Int} {i : Nat} {v : Int} (h : i < r.length) : (r ++ z).set i v = r.set i v ++ z := List.set_append_left i v h
theorem subAt_get {p f : Int} {d r : List Int} {base : Nat} : ∀ (k i : Nat), base + k ≤ i → (subAt p f d base k r).getD i 0 = r.getD i 0
  | 0, _, _ => rfl
  | k + 1, i, h => by
    show ((subAt p f d base k r).set (base + k) _).getD i 0 = _
    rw [List.getD_eq_getElem?_getD, List.getElem?_set_ne (by omega), ← List.getD_eq_getElem?_getD]
    exact subAt_get k i (by omega)
/-- the top goes away -/
theorem subAt_top {p lead : Int} {d r : List Int} (h0 : 0 < d.length) (h1 : d.length ≤ r.length) (hl : (lead * d.getD (d.length - 1) 0) % p = 1 % p) :
    subAt p (dfac p lead r) d (r.length - d.length) d.length r = drest p lead d r ++ [0] := by
  have hlen := subAt_len (p := p) (f := dfac p lead r) (d := d) (base := r.length - d.length) d.length r
  have e : (subAt p (dfac p lead r) d (r.length - d.length) d.length r).getD (r.length - 1) 0 = 0 := by
    obtain ⟨m, em⟩ : ∃ m, d.length = m + 1 := ⟨d.length - 1, by omega⟩
    have ei : r.length - 1 = r.length - d.length + m := by omega
    have eq : subAt p (dfac p lead r) d (r.length - d.length) d.length r = (subAt p (dfac p lead r) d (r.length - d.length) m r).set (r.length - d.length + m) (((subAt p (dfac p lead r) d (r.length - d.length) m r).getD (r.length - d.length + m) 0 - dfac p lead r * d.getD m 0) % p) := by
      exact (congrArg (fun n => subAt p (dfac p lead r) d (r.length - d.length) n r) em).trans rfl
    have lm := subAt_len (p := p) (f := dfac p lead r) (d := d) (base := r.length - d.length) m r
    rw [eq, ei, List.getD_eq_getElem?_getD, List.getElem?_set_self (by omega)]
    show ((subAt p (dfac p lead r) d (r.length - d.length) m r).getD (r.length - d.length + m) 0 - dfac p lead r * d.getD m 0) % p = 0
    rw [subAt_get m _ (Nat.le_refl _), ← ei]
    have em2 : d.length - 1 = m := by omega
    rw [em2] at hl
    refine cg_zero.mp ?_
    unfold dfac
    generalize r.getD (r.length - 1) 0 = x
    have c1 : Cg p (x * lead % p * d.getD m 0) (x * (lead * d.getD m 0)) := ((Cg.mod p _).mul (Cg.refl p _)).trans (Cg.of_eq (Int.mul_assoc _ _ _))
    have c2 : Cg p (x * (lead * d.getD m 0)) (x * 1) := (Cg.refl p x).mul (Cg.iff.mpr hl)
    exact ((Cg.refl p x).sub (c1.trans c2)).trans (Cg.of_eq (by omega))
  unfold drest
  generalize hs : subAt p (dfac p lead r) d (r.length - d.length) d.length r = s at e hlen ⊢
  have ne : s ≠ [] := fun z => by
    rw [z] at hlen
    have : 0 = r.length := hlen
    omega
  have el : s.getLast ne = 0 := by
    rw [List.getLast_eq_getElem]
    rw [List.getD_eq_getElem?_getD, List.getElem?_eq_getElem (show r.length - 1 < s.length by omega)] at e
    have e' : s[r.length - 1]'(by omega) = 0 := e
    have : s.length - 1 = r.length - 1 := by omega
    simp only [this]
    exact e'
  rw (occs := .pos [1]) [← List.dropLast_concat_getLast ne]
  rw [el]
section
end
end K0
-- BagJ.lean
namespace K0
open PySem L2 K1
def tbl : List (Int × Int × Int) := [(193, 5, 1), (257, 3, 2), (769, 11, 3), (7681, 17, 4), (12289, 11, 4), (998244353, 3, 4), (2013265921, 31, 4)]
def rowsL : List Int := [4, 8, 16, 32]
def rOf (m k : Int) : Int := rowsL.getD (if m - 1 < k then m - 1 else k).toNat 0
theorem tbl_ok : ∀ e ∈ tbl, ∀ k ∈ ([0, 1, 2, 3] : List Int), (fitsB (.int e.1) (.int (rOf e.2.2 k)) = true ∧ rootOf e.1 = some e.2.1) ∧ rOf e.2.2 k ≤ 32 ∧ 1 ≤ e.2.2 ∧ e.2.2 ≤ 4 := by decide +kernel
theorem fit_tbl {p g m k : Int} (h : (p, g, m) ∈ tbl) (k0 : 0 ≤ k) (k3 : k ≤ 3) : FitP p g (rOf m k) ∧ rOf m k ≤ 32 ∧ 1 ≤ m ∧ m ≤ 4 := by
  have hk : k ∈ ([0, 1, 2, 3] : List Int) := by
    simp only [List.mem_cons, List.not_mem_nil, or_false]
    omega
  obtain ⟨⟨h1, h2⟩, h3, h4, h5⟩ := tbl_ok _ h k hk
  obtain ⟨g', F⟩ := FitP.of h1
  have e : g' = g := by
    have := F.root.symm.trans h2
    exact Option.some.inj this
  exact ⟨e ▸ F, h3, h4, h5⟩
/-- the product of x - h over the list -/
def ovr (p : Int) (l : List Int) : List Int := l.foldl (fun f h => can p (mulL f [0 - h, 1])) [1]
theorem ovr_snoc (p : Int) (l : List Int) (h : Int) : ovr p (l ++ [h]) = can p (mulL (ovr p l) [0 - h, 1]) := by
  unfold ovr
  rw [List.foldl_append]
  rfl
theorem ovr_ok {p : Int} (p0 : 0 < p) (p1 : p < 18446744073709551616) (l : List Int) : ∀ n, n ≤ l.length → (ovr p (l.take n)).length ≤ 1 + 2 * n ∧ Sw (ovr p (l.take n))
  | 0, _ => ⟨by show 1 ≤ 1; decide, fun z hz => by
    have e : z = 1 := List.mem_singleton.mp hz
    omega⟩
  | n + 1, hn => by
    obtain ⟨h1, _⟩ := ovr_ok p0 p1 l n (by omega)
    have e : l.take (n + 1) = l.take n ++ [l[n]] := by
      rw [List.take_add_one, List.getElem?_eq_getElem (by omega)]
      rfl
    rw [e, ovr_snoc]
    refine ⟨Nat.le_trans (can_len p _) ?_, fun z hz => ?_⟩
    · rw [mulL_len]
      show _ + 2 ≤ _
      omega
    · have hz2 := red_fix (l := mulL (ovr p (l.take n)) [0 - l[n], 1]) z (trimZ_mem z hz)
      have := Int.emod_nonneg z (show p ≠ 0 by omega)
      have := Int.emod_lt_of_pos z p0
      omega
section
end
end K0
-- BagK.lean
namespace K0
open PySem L2 K1
section
end
end K0
-- BagL.lean
namespace K0
open PySem L2 K1
section
end
end K0
-- TabM.lean
/-! what the pairs of _law_fit have, by reckoning -/
namespace K0
open PySem L2 K1
/-- powers by squaring, for the kernel -/
def pm (p : Int) : Nat → Int → Nat → Int
  | 0, _, _ => 1 % p
  | f + 1, b, e => if e = 0 then 1 % p else if e % 2 = 1 then b * pm p f (b * b % p) (e / 2) % p else pm p f (b * b % p) (e / 2)
theorem sq_pow (p b : Int) (n : Nat) : (b * b % p) ^ n % p = b ^ (2 * n) % p := by
  have h := (Cg.mod p (b * b)).pow n
  rw [Cg.iff.mp h, Int.pow_mul, Int.pow_succ, Int.pow_succ, Int.pow_zero, Int.one_mul]
theorem pm_eq (p : Int) : ∀ (f : Nat) (b : Int) (e : Nat), e < 2 ^ f → pm p f b e = b ^ e % p
  | 0, b, e, h => by
    have : e = 0 := by omega
    subst this
    rw [Int.pow_zero]
    rfl
  | f + 1, b, e, h => by
    unfold pm
    by_cases e0 : e = 0
    · subst e0
      rw [if_pos rfl, Int.pow_zero]
    · rw [if_neg e0]
      have h2 : e / 2 < 2 ^ f := by
        rw [Nat.pow_succ] at h
        omega
      have ih := pm_eq p f (b * b % p) (e / 2) h2
      rw [sq_pow] at ih
      by_cases o : e % 2 = 1
      · rw [if_pos o, ih]
        have e1 : e = 2 * (e / 2) + 1 := by omega
        conv => rhs; rw [e1, Int.pow_succ, Int.mul_comm]
        exact Cg.iff.mp ((Cg.refl p b).mul (Cg.mod p _))
      · rw [if_neg o, ih]
        have e1 : e = 2 * (e / 2) := by omega
        conv => rhs; rw [e1]
def rtF (p g r : Int) : Int := pm p 40 g ((p - 1) / (16 * r)).toNat
def rrF (p g r : Int) : Int := pm p 5 (rtF p g r) 16
theorem rt_eq {p g r : Int} (F : FitP p g r) : rtP p g r = rtF p g r := by
  have p0 := F.p0
  have p1 := F.p1
  have r0 := F.r0
  have : ((p - 1) / (16 * r)) ≤ p - 1 := Int.ediv_le_self _ (by omega)
  have e40 : (2 : Nat) ^ 40 = 1099511627776 := rfl
  exact (pm_eq p 40 g _ (by omega)).symm
theorem rr_eq {p g r : Int} (F : FitP p g r) : rrP p g r = rrF p g r := by
  show rtP p g r ^ 16 % p = _
  rw [rt_eq F]
  exact (pm_eq p 5 _ 16 (by decide)).symm
def hsF (p g r : Int) : List Int := pws p 1 (rrF p g r) r.toNat
theorem hs_eq {p g r : Int} (F : FitP p g r) : hsP p g r = hsF p g r := by
  unfold hsP hsF
  rw [rr_eq F]
theorem ovr_tbl : ∀ e ∈ tbl, ∀ k ∈ ([0, 1, 2, 3] : List Int), ovr e.1 (hsF e.1 e.2.1 (rOf e.2.2 k)) = (e.1 - 1) :: (List.replicate ((rOf e.2.2 k).toNat - 1) 0 ++ [1]) := by decide +kernel
def wsF (p g r : Int) : List Int := pws p g (rtF p g r) (16 * r).toNat
theorem ws_eq {p g r : Int} (F : FitP p g r) : wsP p g r = wsF p g r := by
  unfold wsP wsF
  rw [rt_eq F]
/-- no place is a row's place -/
theorem ws_tbl : ∀ e ∈ tbl, ∀ k ∈ ([0, 1, 2, 3] : List Int), (wsF e.1 e.2.1 (rOf e.2.2 k)).all (fun x => decide (pm e.1 7 x (rOf e.2.2 k).toNat ≠ 1)) = true := by decide +kernel
end K0
-- EvM.lean
/-! the worth of a product, and of the product over rows' places -/
namespace K0
open PySem L2 K1
theorem ev_rep (n : Nat) (x : Int) : ev (List.replicate n 0) x = 0 := by
  induction n with
  | zero => rfl
  | succ n ih =>
    rw [List.replicate_succ]
    show 0 + x * ev (List.replicate n 0) x = 0
    rw [ih]
    omega
theorem ev_set (d x : Int) : ∀ (l : List Int) (i : Nat), i < l.length → ev (l.set i (l.getD i 0 + d)) x = ev l x + x ^ i * d
  | [], i, h => absurd h (Nat.not_lt_zero _)
  | a :: l, 0, _ => by
    show a + d + x * ev l x = a + x * ev l x + x ^ 0 * d
    rw [Int.pow_zero]
    omega
  | a :: l, i + 1, h => by
    have ih := ev_set d x l i (Nat.lt_of_succ_lt_succ h)
    show a + x * ev (l.set i (l.getD i 0 + d)) x = a + x * ev l x + x ^ (i + 1) * d
    rw [ih, Int.pow_succ]
    grind
theorem ev_tk (x : Int) (l : List Int) (m : Nat) (h : m < l.length) : ev (l.take (m + 1)) x = ev (l.take m) x + x ^ m * l.getD m 0 := by
  have e : l.take (m + 1) = l.take m ++ [l.getD m 0] := by
    rw [List.take_add_one, List.getElem?_eq_getElem h, List.getD_eq_getElem?_getD, List.getElem?_eq_getElem h]
    rfl
  rw [e, ev_snoc, List.length_take, Nat.min_eq_left (by omega)]
theorem ev_mI (one other : List Int) (k : Nat) (x : Int) : ∀ (m : Nat) (made : List Int), m ≤ other.length → k + m ≤ made.length → ev (mI one other k m made) x = ev made x + x ^ k * one.getD k 0 * ev (other.take m) x
  | 0, made, _, _ => by
    show ev made x = ev made x + x ^ k * one.getD k 0 * 0
    omega
  | m + 1, made, h1, h2 => by
    have ih := ev_mI one other k x m made (by omega) (by omega)
    show ev ((mI one other k m made).set (k + m) ((mI one other k m made).getD (k + m) 0 + one.getD k 0 * other.getD m 0)) x = _
    rw [ev_set _ x _ _ (by rw [mI_len]; omega), ih, ev_tk x other m (by omega), Int.pow_add]
    grind
theorem ev_mO (one other : List Int) (x : Int) : ∀ k, k ≤ one.length → ev (mO one other k) x = ev (one.take k) x * ev other x
  | 0, _ => by
    show ev (List.replicate _ 0) x = 0 * ev other x
    rw [ev_rep, Int.zero_mul]
  | k + 1, h => by
    have ih := ev_mO one other x k (by omega)
    show ev (mI one other k other.length (mO one other k)) x = _
    rw [ev_mI one other k x other.length _ (Nat.le_refl _) (by rw [mO_len]; omega), ih, List.take_length, ev_tk x one k (by omega)]
    grind
theorem ev_mul (one other : List Int) (x : Int) : ev (mulL one other) x = ev one x * ev other x := by
  unfold mulL
  rw [ev_mO one other x _ (Nat.le_refl _), List.take_length]
theorem ev_ovr' (p x : Int) : ∀ (l f : List Int), Cg p (ev (l.foldl (fun f h => can p (mulL f [0 - h, 1])) f) x) (ev f x * BM.lin l x)
  | [], f => Cg.of_eq (by show ev f x = ev f x * 1; omega)
  | h :: l, f => by
    refine (ev_ovr' p x l (can p (mulL f [0 - h, 1]))).trans ?_
    refine ((ev_can p (mulL f [0 - h, 1]) x).mul (Cg.refl p (BM.lin l x))).trans (Cg.of_eq ?_)
    rw [ev_mul]
    show ev f x * (0 - h + x * (1 + x * 0)) * BM.lin l x = ev f x * ((x - h) * BM.lin l x)
    grind
theorem ev_ovr (p x : Int) (l : List Int) : Cg p (ev (ovr p l) x) (BM.lin l x) := by
  refine (ev_ovr' p x l [1]).trans (Cg.of_eq ?_)
  show (1 + x * 0) * BM.lin l x = BM.lin l x
  grind
theorem set_getD {l : List Int} {i j : Nat} {v : Int} (h : i ≠ j) : (l.set i v).getD j 0 = l.getD j 0 := by
  rw [List.getD_eq_getElem?_getD, List.getD_eq_getElem?_getD, List.getElem?_set_ne h]
theorem set_getD_self {l : List Int} {i : Nat} {v : Int} (h : i < l.length) : (l.set i v).getD i 0 = v := by
  rw [List.getD_eq_getElem?_getD, List.getElem?_set_self h]
  rfl
theorem mI_hi (one other : List Int) (k j : Nat) : ∀ (m : Nat) (made : List Int), k + m ≤ j → (mI one other k m made).getD j 0 = made.getD j 0
  | 0, made, _ => rfl
  | m + 1, made, h => by
    show ((mI one other k m made).set (k + m) _).getD j 0 = _
    rw [set_getD (by omega)]
    exact mI_hi one other k j m made (by omega)
theorem mO_hi (one other : List Int) (j : Nat) : ∀ k, k + other.length ≤ j + 1 → (mO one other k).getD j 0 = 0
  | 0, _ => by
    show (List.replicate _ (0 : Int)).getD j 0 = 0
    rw [List.getD_eq_getElem?_getD, List.getElem?_replicate]
    split <;> rfl
  | k + 1, h => by
    show (mI one other k other.length (mO one other k)).getD j 0 = 0
    rw [mI_hi one other k j other.length _ (by omega)]
    exact mO_hi one other j k (by omega)
theorem mul_top (one : List Int) (a b : Int) (n : Nat) (hn : one.length = n + 1) : (mulL one [a, b]).getD (n + 2) 0 = 0 ∧ (mulL one [a, b]).getD (n + 1) 0 = one.getD n 0 * b := by
  unfold mulL
  rw [hn]
  refine ⟨mO_hi one [a, b] (n + 2) (n + 1) (by show n + 1 + 2 ≤ n + 2 + 1; omega), ?_⟩
  have l1 : (mI one [a, b] n 1 (mO one [a, b] n)).length = n + 3 := by
    rw [mI_len, mO_len, hn]
    rfl
  show ((mI one [a, b] n 1 (mO one [a, b] n)).set (n + 1) ((mI one [a, b] n 1 (mO one [a, b] n)).getD (n + 1) 0 + one.getD n 0 * [a, b].getD 1 0)).getD (n + 1) 0 = _
  rw [set_getD_self (by omega), mI_hi one [a, b] n (n + 1) 1 _ (by omega), mO_hi one [a, b] (n + 1) n (by show n + 2 ≤ n + 1 + 1; omega)]
  show 0 + one.getD n 0 * b = _
  omega
theorem split_top (l : List Int) (n : Nat) (h : l.length = n + 2) : l = l.take n ++ [l.getD n 0, l.getD (n + 1) 0] := by
  have e1 : l.take (n + 1) = l.take n ++ [l.getD n 0] := by
    rw [List.take_add_one, List.getElem?_eq_getElem (by omega), List.getD_eq_getElem?_getD, List.getElem?_eq_getElem (by omega)]
    rfl
  have e2 : l.take (n + 2) = l.take (n + 1) ++ [l.getD (n + 1) 0] := by
    rw [List.take_add_one, List.getElem?_eq_getElem (by omega), List.getD_eq_getElem?_getD, List.getElem?_eq_getElem (by omega)]
    rfl
  rw [e1, List.append_assoc] at e2
  rw [List.take_of_length_le (by omega)] at e2
  exact e2
/-- the product has just as many coefficients as it should, the last one is 1 -/
theorem ovr_len {p : Int} (p1 : 1 < p) (l : List Int) : ∀ n, n ≤ l.length → (ovr p (l.take n)).length = n + 1 ∧ (ovr p (l.take n)).getD n 0 = 1
  | 0, _ => ⟨rfl, rfl⟩
  | n + 1, hn => by
    obtain ⟨h1, h2⟩ := ovr_len p1 l n (by omega)
    have e : l.take (n + 1) = l.take n ++ [l[n]] := by
      rw [List.take_add_one, List.getElem?_eq_getElem (by omega)]
      rfl
    rw [e, ovr_snoc]
    obtain ⟨t0, t1⟩ := mul_top (ovr p (l.take n)) (0 - l[n]) 1 n h1
    rw [h2, Int.mul_one] at t1
    have lm : (mulL (ovr p (l.take n)) [0 - l[n], 1]).length = (n + 1) + 2 := by
      rw [mulL_len, h1]
      rfl
    have sp := split_top _ _ lm
    rw [t1, t0] at sp
    generalize mulL (ovr p (l.take n)) [0 - l[n], 1] = M at lm sp
    have ec : can p M = red p (M.take (n + 1)) ++ [1] := by
      unfold can
      conv => lhs; rw [sp]
      have er : red p (M.take (n + 1) ++ [1, 0]) = (red p (M.take (n + 1)) ++ [1]) ++ List.replicate 1 0 := by
        unfold red
        rw [List.map_append]
        show _ ++ [1 % p, 0 % p] = _
        rw [Int.emod_eq_of_lt (by decide) p1, Int.zero_emod, List.append_assoc]
        rfl
      rw [er, trimZ_zeros, trimZ_last (by decide)]
    have lt : (M.take (n + 1)).length = n + 1 := by
      rw [List.length_take]
      omega
    rw [ec]
    refine ⟨?_, ?_⟩
    · rw [List.length_append]
      unfold red
      rw [List.length_map, lt]
      rfl
    · rw [List.getD_eq_getElem?_getD, List.getElem?_append_right (by unfold red; rw [List.length_map, lt]; exact Nat.le_refl _)]
      unfold red
      rw [List.length_map, lt, Nat.sub_self]
      rfl
end K0
-- DivM.lean
/-! what the long division says of worths -/
namespace K0
open PySem L2 K1
theorem ev_setv (v x : Int) : ∀ (l : List Int) (i : Nat), i < l.length → ev (l.set i v) x = ev l x + x ^ i * (v - l.getD i 0)
  | [], i, h => absurd h (Nat.not_lt_zero _)
  | a :: l, 0, _ => by
    show v + x * ev l x = a + x * ev l x + x ^ 0 * (v - a)
    rw [Int.pow_zero]
    omega
  | a :: l, i + 1, h => by
    have ih := ev_setv v x l i (Nat.lt_of_succ_lt_succ h)
    show a + x * ev (l.set i v) x = a + x * ev l x + x ^ (i + 1) * (v - l.getD i 0)
    rw [ih, Int.pow_succ]
    grind
theorem ev_subAt (p f : Int) (d : List Int) (base : Nat) (x : Int) (r : List Int) : ∀ k, k ≤ d.length → base + k ≤ r.length → Cg p (ev (subAt p f d base k r) x) (ev r x - x ^ base * f * ev (d.take k) x)
  | 0, _, _ => Cg.of_eq (by show ev r x = ev r x - x ^ base * f * 0; omega)
  | k + 1, h1, h2 => by
    have ih := ev_subAt p f d base x r k (by omega) (by omega)
    show Cg p (ev ((subAt p f d base k r).set (base + k) (((subAt p f d base k r).getD (base + k) 0 - f * d.getD k 0) % p)) x) _
    rw [ev_setv _ x _ _ (by rw [subAt_len]; omega), ev_tk x d k (by omega)]
    generalize (subAt p f d base k r).getD (base + k) 0 = y
    have c := (Cg.mod p (y - f * d.getD k 0)).sub (Cg.refl p y)
    refine (ih.add ((Cg.refl p (x ^ (base + k))).mul c)).trans (Cg.of_eq ?_)
    rw [Int.pow_add]
    grind
theorem ev_drest {p lead : Int} {d r : List Int} (x : Int) (h0 : 0 < d.length) (h1 : d.length ≤ r.length) (hl : (lead * d.getD (d.length - 1) 0) % p = 1 % p) :
    Cg p (ev r x) (ev (drest p lead d r) x + x ^ (r.length - d.length) * dfac p lead r * ev d x) := by
  have t := subAt_top h0 h1 hl
  have e := ev_subAt p (dfac p lead r) d (r.length - d.length) x r d.length (Nat.le_refl _) (by omega)
  rw [t, ev_snoc, List.take_length, Int.mul_zero, Int.add_zero] at e
  obtain ⟨k, hk⟩ := e
  exact ⟨-k, by rw [Int.mul_neg]; omega⟩
/-- cs is whole * d + rest -/
theorem ev_dst {p lead : Int} {d cs : List Int} (x : Int) (h0 : 0 < d.length) (hl : (lead * d.getD (d.length - 1) 0) % p = 1 % p) : ∀ j, j ≤ divN d cs → Cg p (ev cs x) (ev (dst p lead d cs j).2 x + x ^ (divN d cs - j) * ev (dst p lead d cs j).1.reverse x * ev d x)
  | 0, _ => Cg.of_eq (by show ev cs x = ev cs x + x ^ (divN d cs - 0) * 0 * ev d x; simp)
  | j + 1, hj => by
    have ih := ev_dst (cs := cs) x h0 hl j (by omega)
    obtain ⟨l1, l2⟩ := dst_len (p := p) (lead := lead) (d := d) (cs := cs) j
    have hn : divN d cs = cs.length + 1 - d.length := rfl
    have hd := ev_drest (p := p) (lead := lead) (d := d) (r := (dst p lead d cs j).2) x h0 (by omega) hl
    refine ih.trans ((hd.add (Cg.refl p _)).trans (Cg.of_eq ?_))
    have e1 : (dst p lead d cs (j + 1)) = ((dst p lead d cs j).1 ++ [dfac p lead (dst p lead d cs j).2], drest p lead d (dst p lead d cs j).2) := rfl
    rw [e1]
    show _ = ev (drest p lead d (dst p lead d cs j).2) x + x ^ (divN d cs - (j + 1)) * ev ((dst p lead d cs j).1 ++ [dfac p lead (dst p lead d cs j).2]).reverse x * ev d x
    rw [List.reverse_append]
    show _ = ev (drest p lead d (dst p lead d cs j).2) x + x ^ (divN d cs - (j + 1)) * (dfac p lead (dst p lead d cs j).2 + x * ev (dst p lead d cs j).1.reverse x) * ev d x
    have e2 : (dst p lead d cs j).2.length - d.length = divN d cs - (j + 1) := by omega
    have e3 : divN d cs - j = (divN d cs - (j + 1)) + 1 := by omega
    rw [e2, e3, Int.pow_succ]
    grind
theorem ev_div {p lead : Int} {d cs : List Int} (x : Int) (h0 : 0 < d.length) (hl : (lead * d.getD (d.length - 1) 0) % p = 1 % p) : Cg p (ev cs x) (ev (divR p lead cs d) x + ev (divQ p lead cs d) x * ev d x) := by
  refine (ev_dst (cs := cs) x h0 hl (divN d cs) (Nat.le_refl _)).trans (Cg.of_eq ?_)
  unfold divR divQ
  rw [Nat.sub_self, Int.pow_zero, Int.one_mul]
theorem divR_len {p lead : Int} {d cs : List Int} (h0 : 0 < d.length) : (divR p lead cs d).length < d.length := by
  unfold divR
  rw [(dst_len _).2]
  unfold divN
  omega
theorem dg_const (c : Int) : BM.Dg 1 (fun _ => c) := fun a => ⟨fun _ => 0, fun _ => rfl, fun x => by simp⟩
theorem dg_up1 {f : Int → Int} (h : BM.Dg 1 f) : ∀ n, BM.Dg (n + 1) f
  | 0 => h
  | n + 1 => (dg_up1 h n).up
theorem dg_ev : ∀ l : List Int, BM.Dg l.length (ev l)
  | [] => fun _ => rfl
  | c :: l => by
    have h := (dg_up1 (dg_const c) l.length).add ((dg_ev l).lin 0)
    refine BM.Dg.ext (fun x => ?_) (l.length + 1) h
    show c + (x - 0) * ev l x = c + x * ev l x
    rw [Int.sub_zero]
theorem zero_coefs {p : Int} (P : Prm p) : ∀ l : List Int, (l.length : Int) ≤ p - 1 → (∀ x, Cg p (ev l x) 0) → ∀ c ∈ l, c % p = 0
  | [], _, _ => fun c h => by cases h
  | c :: l, hl, h => by
    have h0 : Cg p c 0 := by
      have := h 0
      have e : ev (c :: l) 0 = c := by
        show c + 0 * ev l 0 = c
        omega
      rwa [e] at this
    have hl2 : (l.length : Int) + 1 ≤ p - 1 := by simpa using hl
    have rts := BM.dg_roots P l.length (ev l) (List.range' 1 l.length) (dg_ev l) List.nodup_range' (by simp) fun m hm => by
      have hm2 := List.mem_range'_1.mp hm
      refine ⟨by omega, prm_mul P (a := (m : Int)) ?_ fun z => ?_⟩
      · have h1 := (h (m : Int)).sub h0
        have e : ev (c :: l) (m : Int) - c = (m : Int) * ev l (m : Int) := by
          show c + (m : Int) * ev l (m : Int) - c = _
          omega
        rwa [e, Int.sub_zero] at h1
      · have := Cg.eq_of z (by omega) (by omega) (by decide) (by omega)
        omega
    intro z hz
    rcases List.mem_cons.mp hz with rfl | hz
    · exact cg_zero.mp h0
    · exact zero_coefs P l (by omega) rts z hz
theorem can_zero {p : Int} : ∀ l : List Int, (∀ c ∈ l, c % p = 0) → can p l = []
  | [], _ => rfl
  | c :: l, h => by
    have ih := can_zero l fun z hz => h z (List.mem_cons_of_mem _ hz)
    unfold can at ih ⊢
    show trimZ (c % p :: red p l) = []
    rw [trimZ_cons, if_pos ⟨ih, h c List.mem_cons_self⟩]
/-- a list with as many roots as coefficients is 0 -/
theorem roots_zero {p : Int} (P : Prm p) {R hs : List Int} (nd : hs.Nodup) (hb : ∀ h ∈ hs, 0 ≤ h ∧ h < p) (hl : R.length ≤ hs.length) (hR : (R.length : Int) ≤ p - 1) (h : ∀ z ∈ hs, Cg p (ev R z) 0) : can p R = [] := by
  refine can_zero R (zero_coefs P R hR (BM.dg_roots P R.length (ev R) (hs.map Int.toNat) (dg_ev R) ?_ (by simpa using hl) fun m hm => ?_))
  · have key : ∀ l : List Int, l.Nodup → (∀ z ∈ l, 0 ≤ z) → (l.map Int.toNat).Nodup := by
      intro l
      induction l with
      | nil => exact fun _ _ => List.nodup_nil
      | cons a l ih =>
        intro nd hb
        obtain ⟨n1, n2⟩ := List.nodup_cons.mp nd
        rw [List.map_cons, List.nodup_cons]
        refine ⟨fun z => ?_, ih n2 fun z hz => hb z (List.mem_cons_of_mem _ hz)⟩
        obtain ⟨y, hy, e⟩ := List.mem_map.mp z
        have h1 := hb y (List.mem_cons_of_mem _ hy)
        have h2 := hb a List.mem_cons_self
        have : y = a := by omega
        exact n1 (this ▸ hy)
    exact key hs nd fun z hz => (hb z hz).1
  · obtain ⟨z, hz, rfl⟩ := List.mem_map.mp hm
    have b := hb z hz
    have e : ((z.toNat : Nat) : Int) = z := by omega
    rw [e]
    exact ⟨b.2, h z hz⟩
end K0

set_option maxRecDepth 100000
set_option maxHeartbeats 4000000
namespace DL
open PySem L2 K0 K1
abbrev LI (l : List Int) : D := .lst (l.map .int)
abbrev TI' (l : List Int) : D := .tup (l.map .int)
abbrev OI (l : List Int) : R := .ow (.lst (l.map .int))
def spNumD : DSp := fun g Q _ => ∃ bs p, g = [.bx 0 (.lst bs), .sh (.int p)] ∧ IsBox bs ∧ (0 < p ∧ p < 10000000000) ∧ ∀ bs' n, IsBox bs' → -10000000000 ≤ n → n ≤ 10000000002 → Q (.sh (.int n)) [.lst bs']
def spRaisedD : DSp := fun g Q _ => ∃ (x : Int) (n : Nat) (p : Int), g = [.sh (.int x), .sh (.int n), .sh (.int p)] ∧ (1 < p ∧ p < 18446744073709551616) ∧ n < 2 ^ 40 ∧ Q (.sh (.int (x ^ n % p))) []
def spInvFD : DSp := fun g Q _ => ∃ (x p : Int), g = [.sh (.int x), .sh (.int p)] ∧ (1 < p ∧ p < 2 ^ 40) ∧ Q (.sh (.int (invF p x))) []
def spLEvD : DSp := fun g Q _ => ∃ (cs : List Int) (x p : Int), g = [.sh (LI cs), .sh (.int x), .sh (.int p)] ∧ (1 < p ∧ p < 18446744073709551616) ∧ Q (.sh (.int (ev cs x % p))) []
def spTrmD : DSp := fun g Q _ => ∃ (cs : List Int) (p : Int), g = [.sh (LI cs), .sh (.int p)] ∧ 0 < p ∧ cs.length ≤ 1000 ∧ Q (OI (can p cs)) []
def spPrdD : DSp := fun g Q _ => ∃ (one other : List Int) (p : Int), g = [.sh (LI one), .sh (LI other), .sh (.int p)] ∧ 0 < p ∧ (one.length ≤ 300 ∧ other.length ≤ 300) ∧ Sw one ∧ Q (OI (can p (mulL one other))) []
def spDvdD : DSp := fun g Q _ => ∃ (cs ds : List Int) (p : Int), g = [.sh (LI cs), .sh (LI ds), .sh (.int p)] ∧ can p cs = cs ∧ ds ≠ [] ∧ Prm p ∧ p < 2 ^ 34 ∧ (cs.length ≤ 100 ∧ ds.length ≤ 100) ∧ Sm ds ∧ ds.getD (ds.length - 1) 0 % p ≠ 0 ∧
  Q (.sh (.tup [LI (can p (divQ p (invF p (ds.getD (ds.length - 1) 0)) cs ds)), LI (can p (divR p (invF p (ds.getD (ds.length - 1) 0)) cs ds))])) []
theorem mapI_get {l : List Int} {i : Nat} {x : D} (h : (l.map D.int)[i]? = some x) : ∃ n, l[i]? = some n ∧ x = .int n := at_intD h
theorem atI_int {l : List Int} {i : Nat} {n : Int} (h : l[i]? = some n) : L2.atI (l.map D.int) (i : Int) = some (.int n) := atI_nat (by rw [List.getElem?_map, h]; rfl)
theorem atI_getD {l : List Int} {i : Nat} (h : i < l.length) : L2.atI (l.map D.int) (i : Int) = some (.int (l.getD i 0)) := atI_int (by rw [List.getD_eq_getElem?_getD, List.getElem?_eq_getElem h]; rfl)
theorem atI_lastI {l : List Int} (h : 0 < l.length) : L2.atI (l.map D.int) (-1) = some (.int (l.getD (l.length - 1) 0)) := by
  have e : (l.map D.int)[l.length - 1]? = some (.int (l.getD (l.length - 1) 0)) := by
    rw [List.getElem?_map, List.getD_eq_getElem?_getD, List.getElem?_eq_getElem (by omega)]
    rfl
  unfold L2.atI L2.ixN
  rw [if_neg (by decide), if_pos (by rw [List.length_map]; omega)]
  show (List.map D.int l)[((-1 : Int) + ((List.map D.int l).length : Nat)).toNat]? = _
  rw [List.length_map, show ((-1 : Int) + (l.length : Nat)).toNat = l.length - 1 by omega]
  exact e
theorem ixN_nat {n i : Nat} (h : i < n) : L2.ixN n (i : Int) = some i := by
  unfold L2.ixN
  rw [if_pos (by omega), if_pos (by omega)]
  rfl
theorem range_at {lo : Int} {n i : Nat} {x : D} (h : (rngD lo n)[i]? = some x) : i < n ∧ x = .int (lo + (i : Int)) := by
  unfold rngD at h
  rw [List.getElem?_map] at h
  cases e : (List.range n)[i]? with
  | none => rw [e] at h; cases h
  | some j =>
    rw [e] at h
    obtain ⟨h1, h2⟩ := List.getElem?_eq_some_iff.mp e
    rw [List.getElem_range] at h2
    subst h2
    exact ⟨by simpa using h1, (Option.some.inj h).symm⟩
theorem rng_len (lo : Int) (n : Nat) : (rngD lo n).length = n := by unfold rngD; simp
theorem zeros_at' {l : List Int} {n : Nat} (hn : n < l.length) (hz : ∀ i, n + 1 ≤ i → i < l.length → l[i]? = some 0) (h0 : l.getD n 0 = 0) : ∀ i, n ≤ i → i < l.length → l[i]? = some 0 := zeros_at hn hz h0
theorem red_take {p : Int} {cs : List Int} {i : Nat} {n : Int} (h : cs[i]? = some n) : (red p (cs.take i)).map D.int ++ [.int (n % p)] = (red p (cs.take (i + 1))).map D.int := by
  unfold red
  rw [List.take_add_one, h]
  simp
theorem rep_zero (n : Nat) : (List.replicate n [D.int 0]).flatten = (List.replicate n (0 : Int)).map D.int := by
  induction n with
  | zero => rfl
  | succ n ih => rw [List.replicate_succ, List.flatten_cons, ih]; rfl
theorem red_zero (p : Int) (n : Nat) : red p (List.replicate n 0) = List.replicate n 0 := by
  unfold red
  rw [List.map_replicate, Int.zero_emod]

def spFitD : DSp := fun g Q _ => ∃ bs, g = [.bx 0 (.lst bs)] ∧ IsBox bs ∧ ∀ bs' (p r h : Int), IsBox bs' → FitP p r h → h ≤ 32 → Q (.sh (.tup [.int p, .int r, .int h])) [.lst bs']
def spSpotsD : DSp := fun g Q _ => ∃ p r h : Int, g = [.sh (.int p), .sh (.int r), .sh (.int h)] ∧ FitP p r h ∧ Q (.sh (.tup [LI (wsP p r h), LI (hsP p r h)])) []
def spOverD : DSp := fun g Q _ => ∃ (l : List Int) (p : Int), g = [.sh (LI l), .sh (.int p)] ∧ (0 < p ∧ p < 18446744073709551616) ∧ l.length ≤ 100 ∧ (∀ z ∈ l, 0 ≤ z ∧ z < p) ∧ Q (OI (ovr p l)) []
theorem rows_at {m k : Int} (m1 : 1 ≤ m) (m4 : m ≤ 4) (k0 : 0 ≤ k) (k3 : k ≤ 3) : L2.atI [D.int 4, .int 8, .int 16, .int 32] (min k (m - 1)) = some (.int (rOf m k)) := by
  have hm : m = 1 ∨ m = 2 ∨ m = 3 ∨ m = 4 := by omega
  have hk : k = 0 ∨ k = 1 ∨ k = 2 ∨ k = 3 := by omega
  rcases hm with rfl | rfl | rfl | rfl <;> rcases hk with rfl | rfl | rfl | rfl <;> rfl
theorem tbl_get {i : Nat} {d : D} (h : ([D.tup [.int 193, .int 5, .int 1], .tup [.int 257, .int 3, .int 2], .tup [.int 769, .int 11, .int 3], .tup [.int 7681, .int 17, .int 4], .tup [.int 12289, .int 11, .int 4], .tup [.int 998244353, .int 3, .int 4], .tup [.int 2013265921, .int 31, .int 4]] : List D)[i]? = some d) : ∃ p g m : Int, (p, g, m) ∈ tbl ∧ d = .tup [.int p, .int g, .int m] := by
  have h' : (tbl.map fun e => D.tup [.int e.1, .int e.2.1, .int e.2.2])[i]? = some d := h
  rw [List.getElem?_map] at h'
  cases e : tbl[i]? with
  | none => rw [e] at h'; cases h'
  | some x =>
    rw [e] at h'
    obtain ⟨a, b, c⟩ := x
    exact ⟨a, b, c, List.mem_of_getElem? e, (Option.some.inj h').symm⟩


def spTotD : DSp := fun g Q _ => ∃ (cs ds : List Int) (p : Int), g = [.sh (LI cs), .sh (LI ds), .sh (.int p)] ∧ 0 < p ∧ (cs.length ≤ 300 ∧ ds.length ≤ 300) ∧ Q (OI (can p (addL cs ds 1))) []
def spCurveD : DSp := fun g Q _ => ∃ (bs : List D) (ms ys : List Int) (r p : Int), g = [.bx 0 (.lst bs), .sh (LI ms), .sh (LI ys), .sh (.int r), .sh (.int p)] ∧ IsBox bs ∧ (ms ≠ [] ∧ ms.length ≤ 32) ∧ (∀ z ∈ ms, 0 ≤ z ∧ z < p) ∧ ys.length ≤ 33 ∧ Sw ys ∧ (1 ≤ r ∧ r ≤ 32) ∧ (192 < p ∧ p < 2147483648) ∧
  ∀ bs' (cs : List Int), IsBox bs' → can p cs = cs → cs.length ≤ 100 → Q (OI cs) [.lst bs']
theorem take_map {l : List Int} {i : Nat} {n : Int} (h : l[i]? = some n) : (l.take i).map D.int ++ [.int n] = (l.take (i + 1)).map D.int := by
  rw [List.take_add_one, h]
  simp

def kvP : List (Key × V) := listedP.map fun kv => (Sum.inl kv.1, V.int kv.2)
theorem kvP_merge : mergeK [] kvP = kvP := by
  simp [kvP, listedP, mergeK, putK]
theorem kvP_at (p : Int) : valV kvP (Sum.inl p) = ((listedP.find? fun kv => decide (kv.1 = p)).map fun kv => V.int kv.2) := by
  unfold valV kvP
  rw [List.find?_map, Option.map_map]
  have e : ((fun kv : Key × V => decide (kv.1 = Sum.inl p)) ∘ fun kv : Int × Int => ((Sum.inl kv.1 : Key), V.int kv.2)) = fun kv : Int × Int => decide (kv.1 = p) := by
    funext kv
    simp
  rw [e]
  rfl

theorem kvP_root (p : Int) : valV kvP (Sum.inl p) = (rootOf p).map V.int := by
  rw [kvP_at, rootOf, Option.map_map]
  rfl

theorem inV_int (r : Int) (l : List Int) : inV (.int r) (l.map V.int) = l.contains r := by
  unfold inV
  induction l with
  | nil => rfl
  | cons a l ih =>
    rw [List.map_cons, List.any_cons, ih, List.contains_cons]
    congr 1
    show eqV (.int a) (.int r) = (r == a)
    by_cases h : a = r
    · subst h; simp [eqV]
    · have h1 : (a == r) = false := by simpa using h
      have h2 : (r == a) = false := by simpa using fun z : r = a => h z.symm
      rw [h2]
      simp [eqV, h1, h]


theorem same_new {H : Hp} {p : Addr} (h : H p = none) (o : HO) : Same H (upd H p o) := fun b u q => by rw [upd_ne (ne_of_none q h)]; exact q
theorem iteF {P Q : Prop} (h : Q) : if (false = true) then P else Q := h
def spWhole : DSp := fun g Q _ => ∃ i : Int, g = [.sh (.int i)] ∧ Q (.sh (.bl true)) []
def spFitsO : Sp := fun vs H Q _ => ∃ p r : Int, vs = [.int p, .int r] ∧ fitsB (.int p) (.int r) = true ∧ ∀ H', Same H H' → Q (.bl true) H'
def spFitsD : DSp := fun g Q _ => ∃ p r : Int, g = [.sh (.int p), .sh (.int r)] ∧ fitsB (.int p) (.int r) = true ∧ Q (.sh (.bl true)) []
def spGenO : Sp := fun vs H Q _ => ∃ p r : Int, vs = [.int p] ∧ rootOf p = some r ∧ ∀ H', Same H H' → Q (.int r) H'
def spGenD : DSp := fun g Q _ => ∃ p r : Int, g = [.sh (.int p)] ∧ rootOf p = some r ∧ Q (.sh (.int r)) []
def spPowD : DSp := fun g Q _ => ∃ (x : Int) (n : Nat) (p : Int), g = [.sh (.int x), .sh (.int n), .sh (.int p)] ∧ (1 < p ∧ p < 18446744073709551616) ∧ Q (.sh (.int (x ^ n % p))) []
def spInvD : DSp := fun g Q _ => ∃ (x p : Int), g = [.sh (.int x), .sh (.int p)] ∧ Prm p ∧ p < 2 ^ 64 ∧ x % p ≠ 0 ∧ ∀ r : Int, 0 < r → r < p → (r * x) % p = 1 → Q (.sh (.int r)) []


def SeqI (x : D) (ns : List Int) : Prop := x = LI ns ∨ x = TI' ns
def spWorD : DSp := fun g Q _ => ∃ (x : D) (ns : List Int) (p : Int), g = [.sh x, .sh (.int p)] ∧ SeqI x ns ∧ 0 < p ∧ ns.length ≤ 2000 ∧ Q (.sh (TI' (red p ns))) []
def spTriD : DSp := fun g Q _ => ∃ ns : List Int, g = [.sh (TI' ns)] ∧ ns.length ≤ 1000 ∧ Q (.sh (TI' (trimZ ns))) []
def spEvD : DSp := fun g Q _ => ∃ (x : D) (ns : List Int) (z p : Int), g = [.sh x, .sh (.int z), .sh (.int p)] ∧ SeqI x ns ∧ (0 < p ∧ p < 18446744073709551616) ∧ Q (.sh (.int (ev ns z % p))) []
def spPowsD : DSp := fun g Q _ => ∃ (f k : Int) (n : Nat) (p : Int), g = [.sh (.int f), .sh (.int k), .sh (.int n), .sh (.int p)] ∧ (0 < p ∧ p < 18446744073709551616) ∧ (0 ≤ f ∧ f < p) ∧ n ≤ 2000 ∧ Q (.sh (TI' (pws p f k n))) []
/-- a polynomial -/
abbrev PolyD (C : Addr) (p : Int) (cs : List Int) : D := .ins C ["coefficients", "p"] [TI' cs, .int p]
def spPIniD (C : Addr) : DSp := fun g Q _ => ∃ (x : D) (ns : List Int) (p : Int), g = [.bx 0 (.ins C [] []), .sh x, .sh (.int p)] ∧ SeqI x ns ∧ 0 < p ∧ ns.length ≤ 1000 ∧ Q (.sh .non) [.ins C ["coefficients", "p"] [TI' (can p ns), .int p]]
def spDegD (C : Addr) : DSp := fun g Q _ => ∃ (cs : List Int) (p : Int), g = [.sh (PolyD C p cs)] ∧ Q (.sh (.int ((cs.length : Nat) - 1))) []
def spCalD (C : Addr) : DSp := fun g Q _ => ∃ (cs : List Int) (z p : Int), g = [.sh (PolyD C p cs), .sh (.int z)] ∧ (0 < p ∧ p < 18446744073709551616) ∧ Q (.sh (.int (ev cs z % p))) []
def spDivD (C : Addr) : DSp := fun g Q _ => ∃ (cs ds : List Int) (p : Int), g = [.sh (PolyD C p cs), .sh (PolyD C p ds)] ∧ Prm p ∧ p < 2 ^ 64 ∧ (cs.length ≤ 100 ∧ ds.length ≤ 100) ∧ Sm ds ∧ (ds ≠ [] ∧ ds.getD (ds.length - 1) 0 % p ≠ 0) ∧
  ∀ lead : Int, 0 < lead → lead < p → (lead * ds.getD (ds.length - 1) 0) % p = 1 → Q (.sh (.tup [PolyD C p (can p (divQ p lead cs ds)), PolyD C p (can p (divR p lead cs ds))])) []
theorem cut_to' {l : List D} {n : Nat} (h : n ≤ l.length) : cut l none (some (n : Int)) = l.take n := by
  unfold cut
  rw [HT.sIx_nat]
  show (l.drop 0).take (min n l.length - 0) = _
  rw [List.drop_zero, Nat.sub_zero, Nat.min_eq_left h]


/-- a Places -/
abbrev PlD (C : Addr) (p g r : Int) : D := .ins C ["p", "rows", "_root", "_row_root", "_worths", "_row_worths"] [.int p, .int r, .int (rtP p g r), .int (rrP p g r), TI' (wsP p g r), TI' (hsP p g r)]
def spQIniD (C : Addr) : DSp := fun g Q _ => ∃ p k r : Int, g = [.bx 0 (.ins C [] []), .sh (.int p), .sh (.int r)] ∧ FitP p k r ∧ Q (.sh .non) [.ins C ["p", "rows", "_root", "_row_root", "_worths", "_row_worths"] [.int p, .int r, .int (rtP p k r), .int (rrP p k r), TI' (wsP p k r), TI' (hsP p k r)]]
def spSizD (C : Addr) : DSp := fun g Q _ => ∃ p k r : Int, g = [.sh (PlD C p k r)] ∧ Q (.sh (.int (16 * r))) []
def spPlaD (C : Addr) : DSp := fun g Q _ => ∃ p k r i : Int, g = [.sh (PlD C p k r), .sh (.int i)] ∧ FitP p k r ∧ Q (.sh (.int (plx p k r i))) []
def spColD (C C2 : Addr) : DSp := fun g Q _ => ∃ (cs : List Int) (p k r : Int), g = [.sh (PlD C p k r), .sh (PolyD C2 p cs)] ∧ FitP p k r ∧ Q (.sh (TI' ((hsP p k r).map fun x => ev cs x % p))) []


/-- v is the divisor's worth -/
def DvOk (p k r i : Int) (kd : Str) (v : Int) : Prop := (kd = "first" ∧ v = (plx p k r i - 1) % p) ∨ (kd = "last" ∧ v = (plx p k r i - hlP p k r) % p) ∨ (kd = "all" ∧ v = (plx p k r i ^ r.toNat % p - 1) % p) ∨
   (kd = "step" ∧ Prm p ∧ (plx p k r i - hlP p k r) % p ≠ 0 ∧ ∀ s : Int, 0 < s → s < p → (s * (plx p k r i - hlP p k r)) % p = 1 → v = (plx p k r i ^ r.toNat % p - 1) * s % p)
def spDvsD (C : Addr) : DSp := fun g Q _ => ∃ (p k r i : Int) (kd : Str) (v : Int), g = [.sh (PlD C p k r), .sh (.str kd), .sh (.int i)] ∧ FitP p k r ∧ DvOk p k r i kd v ∧ Q (.sh (.int v)) []


theorem eqvAll_ints : ∀ a b : List Int, PySem.PyData.eqvAll (toPs (a.map .int)) (toPs (b.map .int)) = decide (a = b)
  | [], [] => by simp [toPs, PySem.PyData.eqvAll]
  | [], _ :: _ => by simp [toPs, PySem.PyData.eqvAll]
  | _ :: _, [] => by simp [toPs, PySem.PyData.eqvAll]
  | x :: a, y :: b => by
    have ih := eqvAll_ints a b
    simp only [List.map_cons, toPs, PySem.PyData.eqvAll, ih, toP]
    simp only [PySem.PyData.eqv]
    congr 1
    by_cases h : x = y
    · subst h; simp
    · simp [h]
theorem deq_lst (a b : List Int) : deq (LI a) (LI b) = decide (a = b) := by
  unfold deq
  simp only [toP]
  unfold PySem.PyData.eqv
  exact eqvAll_ints a b
theorem deq_tup (a b : List Int) : deq (TI' a) (TI' b) = decide (a = b) := by
  unfold deq
  simp only [toP]
  unfold PySem.PyData.eqv
  exact eqvAll_ints a b
theorem dep_lst (a : List Int) : dep 60 (LI a) := by
  show ∀ x ∈ a.map D.int, dep 59 x
  intro x hx
  obtain ⟨n, _, rfl⟩ := List.mem_map.mp hx
  trivial
theorem dep_tup (a : List Int) : dep 60 (TI' a) := by
  show ∀ x ∈ a.map D.int, dep 59 x
  intro x hx
  obtain ⟨n, _, rfl⟩ := List.mem_map.mp hx
  trivial
theorem plain_tup {a : List Int} (h : a.length ≤ 1000) : PlainD 2 (TI' a) := by
  refine ⟨by rw [List.length_map]; exact small_line (by omega), fun x hx => ?_⟩
  obtain ⟨n, _, rfl⟩ := List.mem_map.mp hx
  trivial


def spDgQD (C : Addr) : DSp := fun g Q _ => ∃ p k r : Int, g = [.sh (PlD C p k r)] ∧ Q (.sh (.int (2 * r))) []
def spBadD (C : Addr) : DSp := fun g Q _ => ∃ p k r : Int, g = [.sh (PlD C p k r)] ∧ Q (.sh (.int (4 * r))) []

end DL

set_option maxRecDepth 100000
set_option maxHeartbeats 4000000
namespace DL
open PySem L2
def top (i : Nat) : Stmt := PySem.Challenge.pw_shownrun_k03_stretched_and_back.main.body.getD i (.Pass ⟨0, 0, 0, 0⟩)
abbrev s_is_whole : Stmt := top 8
abbrev s_worths_of : Stmt := top 9
abbrev s_Code_init_ : Stmt := inClass (top 11) 0
abbrev s_Code_degree : Stmt := inClass (top 11) 1
abbrev s_Code_word : Stmt := inClass (top 11) 4
abbrev s_is_number : Stmt := top 15
abbrev s_fits : Stmt := top 16
abbrev s_generator : Stmt := top 17
abbrev s_inverse : Stmt := top 18
abbrev s_power : Stmt := top 19
abbrev s_trimmed : Stmt := top 21
abbrev s_worth_at : Stmt := top 25
abbrev s_with_roots : Stmt := top 26
abbrev s_without_root : Stmt := top 27
abbrev s_Poly_init_ : Stmt := inClass (top 28) 0
abbrev s_Poly_through : Stmt := inClass (top 28) 1
abbrev s_Poly_degree : Stmt := inClass (top 28) 2
abbrev s_Poly_call_ : Stmt := inClass (top 28) 3
abbrev s_powers : Stmt := top 30
abbrev s_Places_init_ : Stmt := inClass (top 31) 0
abbrev s_Places_size : Stmt := inClass (top 31) 1
abbrev s_Places_degree : Stmt := inClass (top 31) 2
abbrev s_Places_layers : Stmt := inClass (top 31) 4
abbrev s_Places_layer : Stmt := inClass (top 31) 10
abbrev s_Places_stretched_poly : Stmt := inClass (top 31) 12
abbrev s_Places_stretched : Stmt := inClass (top 31) 13
abbrev s_Places_column : Stmt := inClass (top 31) 14
abbrev s_law_box : Stmt := top 33
abbrev s_law_draw : Stmt := top 34
abbrev s_law_of : Stmt := top 35
abbrev s_law_same : Stmt := top 36
abbrev s_law_number : Stmt := top 37
abbrev s_law_raised : Stmt := top 38
abbrev s_law_inverse : Stmt := top 39
abbrev s_law_worth : Stmt := top 40
abbrev s_law_trim : Stmt := top 41
abbrev s_law_fit : Stmt := top 42
abbrev s_law_spots : Stmt := top 43
abbrev s_law_lane : Stmt := top 44
abbrev s_law_stretch : Stmt := top 45
abbrev s_law_word : Stmt := top 46
abbrev s_law_is_poly : Stmt := top 47
abbrev s_law : Stmt := top 48
theorem sc_is_whole : FnScope ["value"] ["value"] (defScope s_is_whole) := ⟨rfl, rfl, rfl, by decide +kernel, rfl, by decide +kernel, by decide +kernel⟩
theorem sc_worths_of : FnScope ["numbers", "p", "number"] ["numbers", "p"] (defScope s_worths_of) := ⟨rfl, rfl, rfl, by decide +kernel, rfl, by decide +kernel, by decide +kernel⟩
theorem sc_Code_init_ : FnScope ["self", "places", "degree", "p"] ["self", "places", "degree", "p"] (defScope s_Code_init_) := ⟨rfl, rfl, rfl, by decide +kernel, rfl, by decide +kernel, by decide +kernel⟩
theorem sc_Code_degree : FnScope ["self"] ["self"] (defScope s_Code_degree) := ⟨rfl, rfl, rfl, by decide +kernel, rfl, by decide +kernel, by decide +kernel⟩
theorem sc_Code_word : FnScope ["self", "poly", "x"] ["self", "poly"] (defScope s_Code_word) := ⟨rfl, rfl, rfl, by decide +kernel, rfl, by decide +kernel, by decide +kernel⟩
theorem sc_is_number : FnScope ["value", "least", "most"] ["value", "least", "most"] (defScope s_is_number) := ⟨rfl, rfl, rfl, by decide +kernel, rfl, by decide +kernel, by decide +kernel⟩
theorem sc_fits : FnScope ["p", "rows", "size"] ["p", "rows"] (defScope s_fits) := ⟨rfl, rfl, rfl, by decide +kernel, rfl, by decide +kernel, by decide +kernel⟩
theorem sc_generator : FnScope ["p", "generators"] ["p"] (defScope s_generator) := ⟨rfl, rfl, rfl, by decide +kernel, rfl, by decide +kernel, by decide +kernel⟩
theorem sc_inverse : FnScope ["worth", "p", "low", "high", "one", "other", "times"] ["worth", "p"] (defScope s_inverse) := ⟨rfl, rfl, rfl, by decide +kernel, rfl, by decide +kernel, by decide +kernel⟩
theorem sc_power : FnScope ["worth", "count", "p", "made", "base", "left"] ["worth", "count", "p"] (defScope s_power) := ⟨rfl, rfl, rfl, by decide +kernel, rfl, by decide +kernel, by decide +kernel⟩
theorem sc_trimmed : FnScope ["worths", "size"] ["worths"] (defScope s_trimmed) := ⟨rfl, rfl, rfl, by decide +kernel, rfl, by decide +kernel, by decide +kernel⟩
theorem sc_worth_at : FnScope ["coefficients", "x", "p", "total", "worth"] ["coefficients", "x", "p"] (defScope s_worth_at) := ⟨rfl, rfl, rfl, by decide +kernel, rfl, by decide +kernel, by decide +kernel⟩
theorem sc_with_roots : FnScope ["roots", "p", "made", "root", "low", "high"] ["roots", "p"] (defScope s_with_roots) := ⟨rfl, rfl, rfl, by decide +kernel, rfl, by decide +kernel, by decide +kernel⟩
theorem sc_without_root : FnScope ["coefficients", "root", "p", "made", "carried", "worth"] ["coefficients", "root", "p"] (defScope s_without_root) := ⟨rfl, rfl, rfl, by decide +kernel, rfl, by decide +kernel, by decide +kernel⟩
theorem sc_Poly_init_ : FnScope ["self", "coefficients", "p"] ["self", "coefficients", "p"] (defScope s_Poly_init_) := ⟨rfl, rfl, rfl, by decide +kernel, rfl, by decide +kernel, by decide +kernel⟩
theorem sc_Poly_through : FnScope ["points", "p", "x", "_", "roots", "product", "total", "root", "worth", "part", "factor", "low", "high"] ["points", "p"] (defScope s_Poly_through) := ⟨rfl, rfl, rfl, by decide +kernel, rfl, by decide +kernel, by decide +kernel⟩
theorem sc_Poly_degree : FnScope ["self"] ["self"] (defScope s_Poly_degree) := ⟨rfl, rfl, rfl, by decide +kernel, rfl, by decide +kernel, by decide +kernel⟩
theorem sc_Poly_call_ : FnScope ["self", "x"] ["self", "x"] (defScope s_Poly_call_) := ⟨rfl, rfl, rfl, by decide +kernel, rfl, by decide +kernel, by decide +kernel⟩
theorem sc_powers : FnScope ["first", "factor", "count", "p", "made", "worth", "_"] ["first", "factor", "count", "p"] (defScope s_powers) := ⟨rfl, rfl, rfl, by decide +kernel, rfl, by decide +kernel, by decide +kernel⟩
theorem sc_Places_init_ : FnScope ["self", "p", "rows", "first"] ["self", "p", "rows"] (defScope s_Places_init_) := ⟨rfl, rfl, rfl, by decide +kernel, rfl, by decide +kernel, by decide +kernel⟩
theorem sc_Places_size : FnScope ["self"] ["self"] (defScope s_Places_size) := ⟨rfl, rfl, rfl, by decide +kernel, rfl, by decide +kernel, by decide +kernel⟩
theorem sc_Places_degree : FnScope ["self"] ["self"] (defScope s_Places_degree) := ⟨rfl, rfl, rfl, by decide +kernel, rfl, by decide +kernel, by decide +kernel⟩
theorem sc_Places_layers : FnScope ["self"] ["self"] (defScope s_Places_layers) := ⟨rfl, rfl, rfl, by decide +kernel, rfl, by decide +kernel, by decide +kernel⟩
theorem sc_Places_layer : FnScope ["self", "at", "worths", "_", "x"] ["self", "at"] (defScope s_Places_layer) := ⟨rfl, rfl, rfl, by decide +kernel, rfl, by decide +kernel, by decide +kernel⟩
theorem sc_Places_stretched_poly : FnScope ["self", "column"] ["self", "column"] (defScope s_Places_stretched_poly) := ⟨rfl, rfl, rfl, by decide +kernel, rfl, by decide +kernel, by decide +kernel⟩
theorem sc_Places_stretched : FnScope ["self", "column", "poly", "x"] ["self", "column"] (defScope s_Places_stretched) := ⟨rfl, rfl, rfl, by decide +kernel, rfl, by decide +kernel, by decide +kernel⟩
theorem sc_Places_column : FnScope ["self", "poly", "x"] ["self", "poly"] (defScope s_Places_column) := ⟨rfl, rfl, rfl, by decide +kernel, rfl, by decide +kernel, by decide +kernel⟩
theorem sc_law_box : FnScope ["script", "mixed", "cell"] ["script"] (defScope s_law_box) := ⟨rfl, rfl, rfl, by decide +kernel, rfl, by decide +kernel, by decide +kernel⟩
theorem sc_law_draw : FnScope ["box", "sides", "cell", "digit", "seed"] ["box", "sides"] (defScope s_law_draw) := ⟨rfl, rfl, rfl, by decide +kernel, rfl, by decide +kernel, by decide +kernel⟩
theorem sc_law_of : FnScope ["box", "things"] ["box", "things"] (defScope s_law_of) := ⟨rfl, rfl, rfl, by decide +kernel, rfl, by decide +kernel, by decide +kernel⟩
theorem sc_law_same : FnScope ["found", "due", "a", "b"] ["found", "due"] (defScope s_law_same) := ⟨rfl, rfl, rfl, by decide +kernel, rfl, by decide +kernel, by decide +kernel⟩
theorem sc_law_number : FnScope ["box", "prime", "way"] ["box", "prime"] (defScope s_law_number) := ⟨rfl, rfl, rfl, by decide +kernel, rfl, by decide +kernel, by decide +kernel⟩
theorem sc_law_raised : FnScope ["base", "times", "prime", "result", "square", "k"] ["base", "times", "prime"] (defScope s_law_raised) := ⟨rfl, rfl, rfl, by decide +kernel, rfl, by decide +kernel, by decide +kernel⟩
theorem sc_law_inverse : FnScope ["digit", "prime"] ["digit", "prime"] (defScope s_law_inverse) := ⟨rfl, rfl, rfl, by decide +kernel, rfl, by decide +kernel, by decide +kernel⟩
theorem sc_law_worth : FnScope ["coefs", "spot", "prime", "total", "lift", "coef"] ["coefs", "spot", "prime"] (defScope s_law_worth) := ⟨rfl, rfl, rfl, by decide +kernel, rfl, by decide +kernel, by decide +kernel⟩
theorem sc_law_trim : FnScope ["coefs", "prime", "coef", "held", "k"] ["coefs", "prime"] (defScope s_law_trim) := ⟨rfl, rfl, rfl, by decide +kernel, rfl, by decide +kernel, by decide +kernel⟩
theorem sc_law_fit : FnScope ["box", "table", "prime", "root", "most", "way", "pick"] ["box"] (defScope s_law_fit) := ⟨rfl, rfl, rfl, by decide +kernel, rfl, by decide +kernel, by decide +kernel⟩
theorem sc_law_spots : FnScope ["prime", "root", "high", "size", "turn", "held", "spots", "hops", "k", "hop"] ["prime", "root", "high"] (defScope s_law_spots) := ⟨rfl, rfl, rfl, by decide +kernel, rfl, by decide +kernel, by decide +kernel⟩
theorem sc_law_lane : FnScope ["box", "prime", "high", "way", "pick", "gain", "k", "start", "step"] ["box", "prime", "high"] (defScope s_law_lane) := ⟨rfl, rfl, rfl, by decide +kernel, rfl, by decide +kernel, by decide +kernel⟩
theorem sc_law_stretch : FnScope ["lane", "hops", "prime", "many", "turn", "found", "k", "m"] ["lane", "hops", "prime"] (defScope s_law_stretch) := ⟨rfl, rfl, rfl, by decide +kernel, rfl, by decide +kernel, by decide +kernel⟩
theorem sc_law_word : FnScope ["box", "places", "lane", "coefs", "spots", "prime", "passed", "told", "picks", "k"] ["box", "places", "lane", "coefs", "spots", "prime"] (defScope s_law_word) := ⟨rfl, rfl, rfl, by decide +kernel, rfl, by decide +kernel, by decide +kernel⟩
theorem sc_law_is_poly : FnScope ["found", "coefs", "prime"] ["found", "coefs", "prime"] (defScope s_law_is_poly) := ⟨rfl, rfl, rfl, by decide +kernel, rfl, by decide +kernel, by decide +kernel⟩
theorem sc_law : FnScope ["script", "box", "prime", "root", "high", "spots", "hops", "places", "lane", "coefs", "told", "curve", "height", "back", "pick", "near", "turned", "other", "k", "long", "hop", "due"] ["script"] (defScope s_law) := ⟨rfl, rfl, rfl, by decide +kernel, rfl, by decide +kernel, by decide +kernel⟩
/-- what the top has written -/
structure Txt (K : PySem.W.Frag) (mg : Str → Option Value) where
  f_is_whole : Addr
  fd_is_whole : FuncData
  F_is_whole : Fun K "is_whole" "is_whole" s_is_whole f_is_whole fd_is_whole
  g_is_whole : mg "is_whole" = some (.ref f_is_whole)
  b_is_whole : Binds K fd_is_whole ["value"] []
  f_worths_of : Addr
  fd_worths_of : FuncData
  F_worths_of : Fun K "worths_of" "worths_of" s_worths_of f_worths_of fd_worths_of
  g_worths_of : mg "worths_of" = some (.ref f_worths_of)
  b_worths_of : Binds K fd_worths_of ["numbers", "p"] []
  f_Code_init_ : Addr
  fd_Code_init_ : FuncData
  F_Code_init_ : Fun K "__init__" "Code.__init__" s_Code_init_ f_Code_init_ fd_Code_init_
  f_Code_degree : Addr
  fd_Code_degree : FuncData
  F_Code_degree : Fun K "degree" "Code.degree" s_Code_degree f_Code_degree fd_Code_degree
  b_Code_degree : Binds K fd_Code_degree ["self"] []
  f_Code_word : Addr
  fd_Code_word : FuncData
  F_Code_word : Fun K "word" "Code.word" s_Code_word f_Code_word fd_Code_word
  b_Code_word : Binds K fd_Code_word ["self", "poly"] []
  f_is_number : Addr
  fd_is_number : FuncData
  F_is_number : Fun K "is_number" "is_number" s_is_number f_is_number fd_is_number
  g_is_number : mg "is_number" = some (.ref f_is_number)
  b_is_number : Binds K fd_is_number ["value", "least", "most"] []
  f_fits : Addr
  fd_fits : FuncData
  F_fits : Fun K "fits" "fits" s_fits f_fits fd_fits
  g_fits : mg "fits" = some (.ref f_fits)
  b_fits : Binds K fd_fits ["p", "rows"] []
  f_generator : Addr
  fd_generator : FuncData
  F_generator : Fun K "generator" "generator" s_generator f_generator fd_generator
  g_generator : mg "generator" = some (.ref f_generator)
  b_generator : Binds K fd_generator ["p"] []
  f_inverse : Addr
  fd_inverse : FuncData
  F_inverse : Fun K "inverse" "inverse" s_inverse f_inverse fd_inverse
  g_inverse : mg "inverse" = some (.ref f_inverse)
  b_inverse : Binds K fd_inverse ["worth", "p"] []
  f_power : Addr
  fd_power : FuncData
  F_power : Fun K "power" "power" s_power f_power fd_power
  g_power : mg "power" = some (.ref f_power)
  b_power : Binds K fd_power ["worth", "count", "p"] []
  f_trimmed : Addr
  fd_trimmed : FuncData
  F_trimmed : Fun K "_trimmed" "_trimmed" s_trimmed f_trimmed fd_trimmed
  g_trimmed : mg "_trimmed" = some (.ref f_trimmed)
  b_trimmed : Binds K fd_trimmed ["worths"] []
  f_worth_at : Addr
  fd_worth_at : FuncData
  F_worth_at : Fun K "_worth_at" "_worth_at" s_worth_at f_worth_at fd_worth_at
  g_worth_at : mg "_worth_at" = some (.ref f_worth_at)
  b_worth_at : Binds K fd_worth_at ["coefficients", "x", "p"] []
  f_with_roots : Addr
  fd_with_roots : FuncData
  F_with_roots : Fun K "with_roots" "with_roots" s_with_roots f_with_roots fd_with_roots
  g_with_roots : mg "with_roots" = some (.ref f_with_roots)
  b_with_roots : Binds K fd_with_roots ["roots", "p"] []
  f_without_root : Addr
  fd_without_root : FuncData
  F_without_root : Fun K "_without_root" "_without_root" s_without_root f_without_root fd_without_root
  g_without_root : mg "_without_root" = some (.ref f_without_root)
  b_without_root : Binds K fd_without_root ["coefficients", "root", "p"] []
  f_Poly_init_ : Addr
  fd_Poly_init_ : FuncData
  t0_Poly_init_ : Addr
  F_Poly_init_ : FunD K "__init__" "Poly.__init__" (defArgs s_Poly_init_) (defBody s_Poly_init_) (defScope s_Poly_init_) [.ref t0_Poly_init_] [] f_Poly_init_ fd_Poly_init_
  f_Poly_through : Addr
  fd_Poly_through : FuncData
  F_Poly_through : Fun K "through" "Poly.through" s_Poly_through f_Poly_through fd_Poly_through
  f_Poly_degree : Addr
  fd_Poly_degree : FuncData
  F_Poly_degree : Fun K "degree" "Poly.degree" s_Poly_degree f_Poly_degree fd_Poly_degree
  b_Poly_degree : Binds K fd_Poly_degree ["self"] []
  f_Poly_call_ : Addr
  fd_Poly_call_ : FuncData
  F_Poly_call_ : Fun K "__call__" "Poly.__call__" s_Poly_call_ f_Poly_call_ fd_Poly_call_
  b_Poly_call_ : Binds K fd_Poly_call_ ["self", "x"] []
  f_powers : Addr
  fd_powers : FuncData
  F_powers : Fun K "_powers" "_powers" s_powers f_powers fd_powers
  g_powers : mg "_powers" = some (.ref f_powers)
  b_powers : Binds K fd_powers ["first", "factor", "count", "p"] []
  f_Places_init_ : Addr
  fd_Places_init_ : FuncData
  F_Places_init_ : Fun K "__init__" "Places.__init__" s_Places_init_ f_Places_init_ fd_Places_init_
  b_Places_init_ : Binds K fd_Places_init_ ["self", "p", "rows"] []
  f_Places_size : Addr
  fd_Places_size : FuncData
  F_Places_size : Fun K "size" "Places.size" s_Places_size f_Places_size fd_Places_size
  b_Places_size : Binds K fd_Places_size ["self"] []
  f_Places_degree : Addr
  fd_Places_degree : FuncData
  F_Places_degree : Fun K "degree" "Places.degree" s_Places_degree f_Places_degree fd_Places_degree
  b_Places_degree : Binds K fd_Places_degree ["self"] []
  f_Places_layers : Addr
  fd_Places_layers : FuncData
  F_Places_layers : Fun K "layers" "Places.layers" s_Places_layers f_Places_layers fd_Places_layers
  b_Places_layers : Binds K fd_Places_layers ["self"] []
  f_Places_layer : Addr
  fd_Places_layer : FuncData
  F_Places_layer : Fun K "layer" "Places.layer" s_Places_layer f_Places_layer fd_Places_layer
  b_Places_layer : Binds K fd_Places_layer ["self", "at"] []
  f_Places_stretched_poly : Addr
  fd_Places_stretched_poly : FuncData
  F_Places_stretched_poly : Fun K "stretched_poly" "Places.stretched_poly" s_Places_stretched_poly f_Places_stretched_poly fd_Places_stretched_poly
  b_Places_stretched_poly : Binds K fd_Places_stretched_poly ["self", "column"] []
  f_Places_stretched : Addr
  fd_Places_stretched : FuncData
  F_Places_stretched : Fun K "stretched" "Places.stretched" s_Places_stretched f_Places_stretched fd_Places_stretched
  b_Places_stretched : Binds K fd_Places_stretched ["self", "column"] []
  f_Places_column : Addr
  fd_Places_column : FuncData
  F_Places_column : Fun K "column" "Places.column" s_Places_column f_Places_column fd_Places_column
  b_Places_column : Binds K fd_Places_column ["self", "poly"] []
  f_law_box : Addr
  fd_law_box : FuncData
  F_law_box : Fun K "_law_box" "_law_box" s_law_box f_law_box fd_law_box
  g_law_box : mg "_law_box" = some (.ref f_law_box)
  b_law_box : Binds K fd_law_box ["script"] []
  f_law_draw : Addr
  fd_law_draw : FuncData
  F_law_draw : Fun K "_law_draw" "_law_draw" s_law_draw f_law_draw fd_law_draw
  g_law_draw : mg "_law_draw" = some (.ref f_law_draw)
  b_law_draw : Binds K fd_law_draw ["box", "sides"] []
  f_law_of : Addr
  fd_law_of : FuncData
  F_law_of : Fun K "_law_of" "_law_of" s_law_of f_law_of fd_law_of
  g_law_of : mg "_law_of" = some (.ref f_law_of)
  b_law_of : Binds K fd_law_of ["box", "things"] []
  f_law_same : Addr
  fd_law_same : FuncData
  F_law_same : Fun K "_law_same" "_law_same" s_law_same f_law_same fd_law_same
  g_law_same : mg "_law_same" = some (.ref f_law_same)
  b_law_same : Binds K fd_law_same ["found", "due"] []
  f_law_number : Addr
  fd_law_number : FuncData
  F_law_number : Fun K "_law_number" "_law_number" s_law_number f_law_number fd_law_number
  g_law_number : mg "_law_number" = some (.ref f_law_number)
  b_law_number : Binds K fd_law_number ["box", "prime"] []
  f_law_raised : Addr
  fd_law_raised : FuncData
  F_law_raised : Fun K "_law_raised" "_law_raised" s_law_raised f_law_raised fd_law_raised
  g_law_raised : mg "_law_raised" = some (.ref f_law_raised)
  b_law_raised : Binds K fd_law_raised ["base", "times", "prime"] []
  f_law_inverse : Addr
  fd_law_inverse : FuncData
  F_law_inverse : Fun K "_law_inverse" "_law_inverse" s_law_inverse f_law_inverse fd_law_inverse
  g_law_inverse : mg "_law_inverse" = some (.ref f_law_inverse)
  b_law_inverse : Binds K fd_law_inverse ["digit", "prime"] []
  f_law_worth : Addr
  fd_law_worth : FuncData
  F_law_worth : Fun K "_law_worth" "_law_worth" s_law_worth f_law_worth fd_law_worth
  g_law_worth : mg "_law_worth" = some (.ref f_law_worth)
  b_law_worth : Binds K fd_law_worth ["coefs", "spot", "prime"] []
  f_law_trim : Addr
  fd_law_trim : FuncData
  F_law_trim : Fun K "_law_trim" "_law_trim" s_law_trim f_law_trim fd_law_trim
  g_law_trim : mg "_law_trim" = some (.ref f_law_trim)
  b_law_trim : Binds K fd_law_trim ["coefs", "prime"] []
  f_law_fit : Addr
  fd_law_fit : FuncData
  F_law_fit : Fun K "_law_fit" "_law_fit" s_law_fit f_law_fit fd_law_fit
  g_law_fit : mg "_law_fit" = some (.ref f_law_fit)
  b_law_fit : Binds K fd_law_fit ["box"] []
  f_law_spots : Addr
  fd_law_spots : FuncData
  F_law_spots : Fun K "_law_spots" "_law_spots" s_law_spots f_law_spots fd_law_spots
  g_law_spots : mg "_law_spots" = some (.ref f_law_spots)
  b_law_spots : Binds K fd_law_spots ["prime", "root", "high"] []
  f_law_lane : Addr
  fd_law_lane : FuncData
  F_law_lane : Fun K "_law_lane" "_law_lane" s_law_lane f_law_lane fd_law_lane
  g_law_lane : mg "_law_lane" = some (.ref f_law_lane)
  b_law_lane : Binds K fd_law_lane ["box", "prime", "high"] []
  f_law_stretch : Addr
  fd_law_stretch : FuncData
  F_law_stretch : Fun K "_law_stretch" "_law_stretch" s_law_stretch f_law_stretch fd_law_stretch
  g_law_stretch : mg "_law_stretch" = some (.ref f_law_stretch)
  b_law_stretch : Binds K fd_law_stretch ["lane", "hops", "prime"] []
  f_law_word : Addr
  fd_law_word : FuncData
  F_law_word : Fun K "_law_word" "_law_word" s_law_word f_law_word fd_law_word
  g_law_word : mg "_law_word" = some (.ref f_law_word)
  b_law_word : Binds K fd_law_word ["box", "places", "lane", "coefs", "spots", "prime"] []
  f_law_is_poly : Addr
  fd_law_is_poly : FuncData
  F_law_is_poly : Fun K "_law_is_poly" "_law_is_poly" s_law_is_poly f_law_is_poly fd_law_is_poly
  g_law_is_poly : mg "_law_is_poly" = some (.ref f_law_is_poly)
  b_law_is_poly : Binds K fd_law_is_poly ["found", "coefs", "prime"] []
  f_law : Addr
  fd_law : FuncData
  F_law : Fun K "law" "law" s_law f_law fd_law
  g_law : mg "law" = some (.ref f_law)
  b_law : Binds K fd_law ["script"] []
  kb_Poly_init__2_p : KBn K fd_Poly_init_ ["self", "coefficients", "p"] 2 ["p"] (fun us ws => us ++ ws) (fun vs zs => vs ++ zs)
  kb_Code_init__3_p : KBn K fd_Code_init_ ["self", "places", "degree", "p"] 3 ["p"] (fun us ws => us ++ ws) (fun vs zs => vs ++ zs)
  kb_Poly_through_1_p : KBn K fd_Poly_through ["points", "p"] 1 ["p"] (fun us ws => us ++ ws) (fun vs zs => vs ++ zs)
  kb_Places_stretched_1_column : KBn K fd_Places_stretched ["self", "column"] 1 ["column"] (fun us ws => us ++ ws) (fun vs zs => vs ++ zs)
  kb_Places_column_1_poly : KBn K fd_Places_column ["self", "poly"] 1 ["poly"] (fun us ws => us ++ ws) (fun vs zs => vs ++ zs)
  kb_Places_stretched_poly_1_column : KBn K fd_Places_stretched_poly ["self", "column"] 1 ["column"] (fun us ws => us ++ ws) (fun vs zs => vs ++ zs)
  C_Code : Addr
  gC_Code : mg "Code" = some (.ref C_Code)
  cl_Code : Cls K C_Code
  mk_Code : Mk K C_Code f_Code_init_
  n_Code_places : NoAttr K C_Code "places"
  n_Code_p : NoAttr K C_Code "p"
  n_Code__degree : NoAttr K C_Code "_degree"
  ct_Code : ClsT K C_Code
  kk_Code : PySem.W.kitOne K (.ref C_Code) (.ref C_Code) = some true
  k_Code_list : PySem.W.kitOne K (.type "list") (.ref C_Code) = some false
  k_Code_tuple : PySem.W.kitOne K (.type "tuple") (.ref C_Code) = some false
  k_Code_str : PySem.W.kitOne K (.type "str") (.ref C_Code) = some false
  k_Code_NoneType : PySem.W.kitOne K (.type "NoneType") (.ref C_Code) = some false
  k_Code_int : PySem.W.kitOne K (.type "int") (.ref C_Code) = some false
  k_Code_bool : PySem.W.kitOne K (.type "bool") (.ref C_Code) = some false
  pa_Code_degree : Addr
  pp_Code_degree : PropOf K C_Code "degree" pa_Code_degree f_Code_degree
  me_Code_word : Meth K C_Code "word" f_Code_word
  C_Poly : Addr
  gC_Poly : mg "Poly" = some (.ref C_Poly)
  cl_Poly : Cls K C_Poly
  mk_Poly : Mk K C_Poly f_Poly_init_
  n_Poly_coefficients : NoAttr K C_Poly "coefficients"
  n_Poly_p : NoAttr K C_Poly "p"
  ct_Poly : ClsT K C_Poly
  kk_Poly : PySem.W.kitOne K (.ref C_Poly) (.ref C_Poly) = some true
  k_Poly_list : PySem.W.kitOne K (.type "list") (.ref C_Poly) = some false
  k_Poly_tuple : PySem.W.kitOne K (.type "tuple") (.ref C_Poly) = some false
  k_Poly_str : PySem.W.kitOne K (.type "str") (.ref C_Poly) = some false
  k_Poly_NoneType : PySem.W.kitOne K (.type "NoneType") (.ref C_Poly) = some false
  k_Poly_int : PySem.W.kitOne K (.type "int") (.ref C_Poly) = some false
  k_Poly_bool : PySem.W.kitOne K (.type "bool") (.ref C_Poly) = some false
  pa_Poly_through : Addr
  st_Poly_through : OV.SMet K C_Poly (.type "type") "through" pa_Poly_through f_Poly_through
  pa_Poly_degree : Addr
  pp_Poly_degree : PropOf K C_Poly "degree" pa_Poly_degree f_Poly_degree
  cO_Poly : StX.CallO K C_Poly f_Poly_call_
  C_Places : Addr
  gC_Places : mg "Places" = some (.ref C_Places)
  cl_Places : Cls K C_Places
  mk_Places : Mk K C_Places f_Places_init_
  n_Places_p : NoAttr K C_Places "p"
  n_Places_rows : NoAttr K C_Places "rows"
  n_Places__root : NoAttr K C_Places "_root"
  n_Places__row_root : NoAttr K C_Places "_row_root"
  n_Places__worths : NoAttr K C_Places "_worths"
  n_Places__row_worths : NoAttr K C_Places "_row_worths"
  ct_Places : ClsT K C_Places
  kk_Places : PySem.W.kitOne K (.ref C_Places) (.ref C_Places) = some true
  k_Places_list : PySem.W.kitOne K (.type "list") (.ref C_Places) = some false
  k_Places_tuple : PySem.W.kitOne K (.type "tuple") (.ref C_Places) = some false
  k_Places_str : PySem.W.kitOne K (.type "str") (.ref C_Places) = some false
  k_Places_NoneType : PySem.W.kitOne K (.type "NoneType") (.ref C_Places) = some false
  k_Places_int : PySem.W.kitOne K (.type "int") (.ref C_Places) = some false
  k_Places_bool : PySem.W.kitOne K (.type "bool") (.ref C_Places) = some false
  pa_Places_size : Addr
  pp_Places_size : PropOf K C_Places "size" pa_Places_size f_Places_size
  pa_Places_degree : Addr
  pp_Places_degree : PropOf K C_Places "degree" pa_Places_degree f_Places_degree
  pa_Places_layers : Addr
  pp_Places_layers : PropOf K C_Places "layers" pa_Places_layers f_Places_layers
  me_Places_layer : Meth K C_Places "layer" f_Places_layer
  me_Places_stretched_poly : Meth K C_Places "stretched_poly" f_Places_stretched_poly
  me_Places_stretched : Meth K C_Places "stretched" f_Places_stretched
  me_Places_column : Meth K C_Places "column" f_Places_column
  t_PRIMES : Addr
  gP : mg "PRIMES" = some (.ref t_PRIMES)
  pairs : List Addr
  lP : ∃ (o : Obj) (its : Array Value) (n : Nat), K.lookup t_PRIMES = some o ∧ o.cls = .type "tuple" ∧ o.dict = none ∧ o.data = .seq its n ∧ its.size ≤ sizeLine ∧ Vals (pairs.map V.ref) its.toList
  lPs : Paired (fun p kv => ∃ (o : Obj) (its : Array Value) (n : Nat), K.lookup p = some o ∧ o.cls = .type "tuple" ∧ o.data = .seq its n ∧ its.size ≤ sizeLine ∧ Vals [.int kv.1, .int kv.2] its.toList) pairs K0.listedP
  t_ROWS : Addr
  gR : mg "ROWS" = some (.ref t_ROWS)
  lR : ∃ (o : Obj) (its : Array Value) (n : Nat), K.lookup t_ROWS = some o ∧ o.cls = .type "tuple" ∧ o.data = .seq its n ∧ its.size ≤ sizeLine ∧ Vals [.int 4, .int 8, .int 16, .int 32, .int 64] its.toList
  gk_ROWS : mg "ROWS" = some (.ref t_ROWS)
  lk_ROWS : ∃ (o : Obj) (its : Array Value) (n : Nat), K.lookup t_ROWS = some o ∧ o.cls = .type "tuple" ∧ o.data = .seq its n ∧ its.size ≤ sizeLine ∧ Vals [.int 4, .int 8, .int 16, .int 32, .int 64] its.toList
  z_abs : mg "abs" = none
  z_all : mg "all" = none
  z_bool : mg "bool" = none
  z_dict : mg "dict" = none
  z_int : mg "int" = none
  z_isinstance : mg "isinstance" = none
  z_len : mg "len" = none
  z_list : mg "list" = none
  z_min : mg "min" = none
  z_property : mg "property" = none
  z_range : mg "range" = none
  z_reversed : mg "reversed" = none
  z_str : mg "str" = none
  z_sum : mg "sum" = none
  z_tuple : mg "tuple" = none
  z_zip : mg "zip" = none
theorem Txt.kf_Code {K : PySem.W.Frag} {mg : Str → Option Value} (T : Txt K mg) : ∀ t : String, (["list", "tuple", "str", "NoneType", "int", "bool"] : List String).contains t = true → PySem.W.kitOne K (.type t) (.ref T.C_Code) = some false := fun t h => by
  simp only [List.contains_eq_mem, List.mem_cons, List.not_mem_nil, or_false, decide_eq_true_eq] at h
  rcases h with rfl | rfl | rfl | rfl | rfl | rfl
  · exact T.k_Code_list
  · exact T.k_Code_tuple
  · exact T.k_Code_str
  · exact T.k_Code_NoneType
  · exact T.k_Code_int
  · exact T.k_Code_bool
theorem Txt.kf_Poly {K : PySem.W.Frag} {mg : Str → Option Value} (T : Txt K mg) : ∀ t : String, (["list", "tuple", "str", "NoneType", "int", "bool"] : List String).contains t = true → PySem.W.kitOne K (.type t) (.ref T.C_Poly) = some false := fun t h => by
  simp only [List.contains_eq_mem, List.mem_cons, List.not_mem_nil, or_false, decide_eq_true_eq] at h
  rcases h with rfl | rfl | rfl | rfl | rfl | rfl
  · exact T.k_Poly_list
  · exact T.k_Poly_tuple
  · exact T.k_Poly_str
  · exact T.k_Poly_NoneType
  · exact T.k_Poly_int
  · exact T.k_Poly_bool
theorem Txt.kf_Places {K : PySem.W.Frag} {mg : Str → Option Value} (T : Txt K mg) : ∀ t : String, (["list", "tuple", "str", "NoneType", "int", "bool"] : List String).contains t = true → PySem.W.kitOne K (.type t) (.ref T.C_Places) = some false := fun t h => by
  simp only [List.contains_eq_mem, List.mem_cons, List.not_mem_nil, or_false, decide_eq_true_eq] at h
  rcases h with rfl | rfl | rfl | rfl | rfl | rfl
  · exact T.k_Places_list
  · exact T.k_Places_tuple
  · exact T.k_Places_str
  · exact T.k_Places_NoneType
  · exact T.k_Places_int
  · exact T.k_Places_bool
open K0
theorem Txt.pP (T : Txt K mg) (H : Hp) : Paired (fun p kv => SqT K H p [kV kv.1, kv.2]) T.pairs kvP := by
  have h := T.lPs
  unfold kvP
  revert h
  generalize listedP = l
  generalize T.pairs = ps
  intro h
  induction h with
  | nil => exact .nil
  | cons h _ ih => exact .cons (.inr h) ih

end DL

set_option maxRecDepth 100000
set_option maxHeartbeats 4000000
namespace DL
open PySem L2 K0 K1
section
variable {P : Program} {w : World} {K : PySem.W.Frag} {mg : Str → Option Value} {base : Heap}
theorem ok_is_whole (T : Txt K mg) : FnOk P w K mg base CX0 1 T.f_is_whole T.fd_is_whole ["value"] (spD K 1 spWhole) := by
  refine fnD T.F_is_whole sc_is_whole rfl (fun cdv A outer s H E hr => ⟨_, (bd_one (sd_ret (ED.x (ed_and (EX.d (ex_isi (dv 0) (pe_bltn (v := .ty "int") (by rfl) T.z_int (by decide +kernel) rfl) (.ty _) isi_int (by rfl) T.z_isinstance)) (ed_one (ed_not (EX.d (ex_isi (dv 0) (pe_bltn (v := .ty "bool") (by rfl) T.z_bool (by decide +kernel) rfl) (.ty _) isi_bool (by rfl) T.z_isinstance)))))))), fun g Qd Ed h => ?_⟩)
  obtain ⟨i, rfl, q⟩ := h
  exact q

theorem ok_worths_of (T : Txt K mg) : FnOk P w K mg base CX0 1 T.f_worths_of T.fd_worths_of ["numbers", "p"] (spD K 2 spWorD) := by
  refine fnD T.F_worths_of sc_worths_of rfl (fun cdv A outer s H E hr => ⟨_, (bd_one (sd_ret (ex_callTy b_tuple (by rfl) T.z_tuple (by decide +kernel) (ad_cons (EX.d (ex_lc (own := [("number", 2)]) (by rfl) sc_worths_of.nd (id_seq (dv 0)) (blkOk_by (own := [("number", 2)]) (N := ["numbers", "p", "number"]) (sc := defScope s_worths_of) (by decide +kernel)) (fun _ _ _ _ _ => (gd_name (i := 2) sc_worths_of.nd rfl (Or.inl rfl))) (fun _ _ _ _ _ => tsd_nil) (fun _ _ _ _ _ => (EX.d (ex_op d_mod (dv 2) (dv 1)))))) ad_nil)))), fun g Qd Ed h => ?_⟩)
  obtain ⟨x, ns, p, rfl, hx, p0, hl, q⟩ := h
  have W : ∀ i, ∀ y, (ns.map D.int)[i]? = some y → ∃ n, y = .int n ∧ (red p (ns.take i)).map D.int ++ [.int (n % p)] = (red p (ns.take (i + 1))).map D.int := fun i y hy => by
    obtain ⟨n, hn, rfl⟩ := mapI_get hy
    exact ⟨n, rfl, red_take hn⟩
  have hz : (ns.map D.int).length ≤ sizeLine := by
    rw [List.length_map]
    exact small_line (by omega)
  rcases hx with rfl | rfl
  · refine ⟨hz, fun i acc g => g = [.sh (LI ns), .sh (.int p), .no] ∧ acc = (red p (ns.take i)).map .int, ⟨rfl, rfl⟩, ?_, ?_⟩
    · rintro i y acc g2 hy _ ⟨rfl, rfl⟩
      obtain ⟨n, rfl, e⟩ := W i y hy
      exact ⟨p0, rfl, e⟩
    · rintro acc g2 _ ⟨rfl, rfl⟩
      rw [List.length_map, List.take_length]
      exact q
  · refine ⟨hz, fun i acc g => g = [.sh (TI' ns), .sh (.int p), .no] ∧ acc = (red p (ns.take i)).map .int, ⟨rfl, rfl⟩, ?_, ?_⟩
    · rintro i y acc g2 hy _ ⟨rfl, rfl⟩
      obtain ⟨n, rfl, e⟩ := W i y hy
      exact ⟨p0, rfl, e⟩
    · rintro acc g2 _ ⟨rfl, rfl⟩
      rw [List.length_map, List.take_length]
      exact q

theorem fits0 (T : Txt K mg) : FnOk P w K mg base CX0 2 T.f_fits T.fd_fits ["p", "rows"] spFitsO := by
  refine T.F_fits.ok sc_fits (fun vs H Q E h => ?_) (fun cdv A outer s H vs Q E hr h => ?_)
  · obtain ⟨p, r, rfl, _⟩ := h
    rfl
  · obtain ⟨p, r, rfl, hf, k⟩ := h
    refine ⟨_, (pss_cons (ps_if (PW.pt (pw_or (pt_not (pt_val (pe_call (ok_is_whole T) (hr.mono (by decide)) (by rfl) T.g_is_whole T.F_is_whole.kp T.b_is_whole .nil pass0 (pa_cons (pv 0) pa_nil)))) (pw_or1 (pt_not (pt_val (pe_call (ok_is_whole T) (hr.mono (by decide)) (by rfl) T.g_is_whole T.F_is_whole.kp T.b_is_whole .nil pass0 (pa_cons (pv 1) pa_nil))))))) (pss_one (ps_ret pe_bl)) pss_nil)
      (pss_cons (ps_set (i := 2) sc_fits.nd rfl (Or.inl rfl) (pe_op op_mul pe_int (pv 1)))
      (pss_one (ps_ret (pe_and (pe_cmp (pc_din (hu_of hr) (pv 0) (pe_callTy (call_dictKT rfl) (by rfl) T.z_dict (by decide +kernel) (pa_cons (pe_glob (v := .ref T.t_PRIMES) (by rfl) T.gP rfl) pa_nil))) rfl) (pe_and (pe_cmpR op_in_seq (pv 1) (pe_glob (v := .ref T.t_ROWS) (by rfl) T.gR rfl) (by rfl)) (pe_and (pe_cmpR op_eq (pe_op op_mod (pe_op op_sub (pv 0) pe_int) (pv 2)) pe_int (nomark _)) (pe_one (pe_cmpR op_ne (pe_op op_sub (pv 0) pe_int) (pv 2) (nomark _)))))))))), ?_⟩
    refine ⟨_, rfl, spD_ints (is := [p]) (Qd := fun r _ => r = .sh (.bl true)) rfl ⟨p, rfl, rfl⟩ fun r0 os v S' H1 q0 g0 l0 rv => ?_⟩
    subst q0
    have ev := Rep.bl (K := K) (S := S') (i := true) rv
    subst ev
    refine ⟨true, rfl, iteF ?_⟩
    refine ⟨_, rfl, spD_ints (is := [r]) (Qd := fun r _ => r = .sh (.bl true)) rfl ⟨r, rfl, rfl⟩ fun r0 os v S' H2 q0 g1 l1 rv => ?_⟩
    subst q0
    have ev := Rep.bl (K := K) (S := S') (i := true) rv
    subst ev
    refine ⟨true, rfl, iteF ?_⟩
    refine ⟨_, rfl, _, _, rfl, rfl, .inl ⟨by decide, by decide⟩, ?_⟩
    refine ⟨_, rfl, T.t_PRIMES, T.pairs, kvP, rfl, T.lP, T.pP _, fun d hd => ?_⟩
    have g := same_new hd (.dK (mergeK [] kvP))
    refine ⟨d, _, rfl, DGet.k (k := Sum.inl p) upd_same, _, rfl, ?_⟩
    rw [kvP_merge] at g
    rw [kvP_merge, kvP_root, Option.isSome_map]
    have ek : fitsB (.int p) (.int r) = ((rootOf p).isSome && (inRows r && (decide ((p - 1) % (16 * r) = 0) && !decide (p - 1 = 16 * r)))) := rfl
    rw [ek] at hf
    rw [Bool.and_eq_true, Bool.and_eq_true, Bool.and_eq_true] at hf
    obtain ⟨c1, c2, c3, c4⟩ := hf
    rw [c1]
    refine ⟨_, rfl, T.t_ROWS, _, rfl, .inr (.inr T.lR), rfl, rfl, _, rfl, ?_⟩
    have ei : inV (.int r) [.int 4, .int 8, .int 16, .int 32, .int 64] = inRows r := inV_int r [4, 8, 16, 32, 64]
    rw [ei, c2]
    have r4 : 4 ≤ r := by
      unfold inRows at c2
      simp at c2
      omega
    refine ⟨_, rfl, _, _, rfl, rfl, _, rfl, _, _, rfl, rfl, (by show (0 : Int) < 16 * r; omega), rfl, _, rfl, ?_⟩
    have e3 : decide (V.int ((p - 1) % (16 * r)) = V.int 0) = decide ((p - 1) % (16 * r) = 0) := by simp
    rw [e3, c3]
    refine ⟨_, rfl, _, _, rfl, rfl, _, rfl, rfl, ?_⟩
    have e4 : (!decide (V.int (p - 1) = V.int (16 * r))) = !decide (p - 1 = 16 * r) := by simp
    rw [e4, c4]
    exact k _ (g0.trans (g1.trans g))
theorem ok_fits (T : Txt K mg) : FnOk P w K mg base CX0 2 T.f_fits T.fd_fits ["p", "rows"] (spD K 2 spFitsD) :=
  FnOk.ofInts (fits0 T) fun {g Qd Ed} ⟨p, r, e, hf, q⟩ => ⟨[p, r], .bl true, .bl true, e, fun _ => Rep.ofBl _, q, fun H Q E k => ⟨p, r, rfl, hf, k⟩⟩

theorem generator0 (T : Txt K mg) : FnOk P w K mg base CX0 2 T.f_generator T.fd_generator ["p"] spGenO := by
  refine T.F_generator.ok sc_generator (fun vs H Q E h => ?_) (fun cdv A outer s H vs Q E hr h => ?_)
  · obtain ⟨p, r, rfl, _⟩ := h
    rfl
  · obtain ⟨p, r, rfl, er, k⟩ := h
    refine ⟨_, (pss_cons (ps_set (i := 1) sc_generator.nd rfl (Or.inl rfl) (pe_callTy (call_dictKT rfl) (by rfl) T.z_dict (by decide +kernel) (pa_cons (pe_glob (v := .ref T.t_PRIMES) (by rfl) T.gP rfl) pa_nil)))
      (pss_cons (ps_if (PW.pt (pw_or (pt_not (pt_val (pe_call (ok_is_whole T) (hr.mono (by decide)) (by rfl) T.g_is_whole T.F_is_whole.kp T.b_is_whole .nil pass0 (pa_cons (pv 0) pa_nil)))) (pw_or1 (pt_cmp (pc_dnotin (hu_of hr) (pv 0) (pv 1)))))) (pss_one ps_never) pss_nil)
      (pss_one (ps_ret (pe_dget (hu_of hr) (pv 1) (pv 0) (fun _ _ => rfl)))))), ?_⟩
    refine ⟨T.t_PRIMES, T.pairs, kvP, rfl, T.lP, T.pP _, fun d hd => ?_⟩
    have g := same_new hd (.dK (mergeK [] kvP))
    rw [kvP_merge] at g
    rw [kvP_merge]
    have ed : upd H d (.dK kvP) d = some (.dK kvP) := upd_same
    generalize upd H d (.dK kvP) = H1 at g ed ⊢
    refine ⟨_, rfl, spD_ints (is := [p]) (Qd := fun r _ => r = .sh (.bl true)) rfl ⟨p, rfl, rfl⟩ fun r0 os v S' H2 q0 g0 l0 rv => ?_⟩
    subst q0
    have ev := Rep.bl (K := K) (S := S') (i := true) rv
    subst ev
    have ed2 := g0 _ _ ed
    refine ⟨true, rfl, iteF ?_⟩
    refine ⟨_, rfl, _, rfl, d, _, rfl, DGet.k (k := Sum.inl p) ed2, _, rfl, ?_⟩
    rw [kvP_root, er]
    refine iteF ?_
    refine ⟨_, rfl, _, rfl, d, .int r, rfl, ?_, k _ (g.trans g0)⟩
    have z := DGet.k (k := Sum.inl p) ed2
    rw [kvP_root, er] at z
    exact z
theorem ok_generator (T : Txt K mg) : FnOk P w K mg base CX0 2 T.f_generator T.fd_generator ["p"] (spD K 1 spGenD) :=
  FnOk.ofInts (generator0 T) fun {g Qd Ed} ⟨p, r, e, er, q⟩ => ⟨[p], .int r, .int r, e, fun _ => Rep.ofInt _, q, fun H Q E k => ⟨p, r, rfl, er, k⟩⟩

theorem ok_worth_at (T : Txt K mg) : FnOk P w K mg base CX0 1 T.f_worth_at T.fd_worth_at ["coefficients", "x", "p"] (spD K 3 spEvD) := by
  refine fnD T.F_worth_at sc_worth_at rfl (fun cdv A outer s H E hr => ⟨_, (bd_cons (sd_set (i := 3) sc_worth_at.nd rfl (Or.inl rfl) (ED.x ed_int))
      (bd_cons (sd_for PassesOwn.never rfl (id_rev (by rfl) T.z_reversed (dv 0)) (gd_name (i := 4) sc_worth_at.nd rfl (Or.inl rfl)) (bd_one (sd_set (i := 3) sc_worth_at.nd rfl (Or.inl rfl) (ex_op d_mod (EX.d (ex_op d_add (EX.d (ex_op d_mul (dv 3) (dv 1))) (dv 4))) (dv 2)))))
      (bd_one (sd_ret (xv 3))))), fun g Qd Ed h => ?_⟩)
  obtain ⟨x, ns, z, p, rfl, hx, ⟨p0, p1⟩, q⟩ := h
  have key : ∀ i y, (ns.map D.int).reverse[i]? = some y → ∃ n, y = .int n ∧ i < ns.length ∧ (ev (ns.drop (ns.length - i)) z % p * z + n) % p = ev (ns.drop (ns.length - (i + 1))) z % p := fun i y hy => by
    have hi : i < ns.length := by
      have := (List.getElem?_eq_some_iff.mp hy).1
      simpa using this
    rw [List.getElem?_reverse (by simpa using hi), List.length_map] at hy
    obtain ⟨n, hn, rfl⟩ := mapI_get hy
    exact ⟨n, rfl, hi, ev_turn hi hn⟩
  have b : ∀ i, 0 ≤ ev (ns.drop (ns.length - i)) z % p ∧ ev (ns.drop (ns.length - i)) z % p < p := fun i => ⟨Int.emod_nonneg _ (by omega), Int.emod_lt_of_pos _ p0⟩
  have st : ev (ns.drop (ns.length - 0)) z % p = 0 := by
    rw [Nat.sub_zero, List.drop_length]
    exact Int.zero_emod p
  have en : ev (ns.drop (ns.length - (ns.map D.int).reverse.length)) z = ev ns z := by
    rw [List.length_reverse, List.length_map, Nat.sub_self, List.drop_zero]
  rcases hx with rfl | rfl
  · refine ⟨fun i g => ∃ s, g = [.sh (LI ns), .sh (.int z), .sh (.int p), .sh (.int (ev (ns.drop (ns.length - i)) z % p)), s], ⟨.no, by rw [st]; rfl⟩, ?_, ?_⟩
    · rintro i y g2 hy ⟨s, rfl⟩
      obtain ⟨n, rfl, hi, e⟩ := key i y hy
      have b := b i
      refine ⟨.l ⟨by omega, by omega⟩, p0, .sh (.int n), ?_⟩
      rw [← e]
      rfl
    · rintro g2 ⟨s, rfl⟩
      rw [en]
      exact q
  · refine ⟨fun i g => ∃ s, g = [.sh (TI' ns), .sh (.int z), .sh (.int p), .sh (.int (ev (ns.drop (ns.length - i)) z % p)), s], ⟨.no, by rw [st]; rfl⟩, ?_, ?_⟩
    · rintro i y g2 hy ⟨s, rfl⟩
      obtain ⟨n, rfl, hi, e⟩ := key i y hy
      have b := b i
      refine ⟨.l ⟨by omega, by omega⟩, p0, .sh (.int n), ?_⟩
      rw [← e]
      rfl
    · rintro g2 ⟨s, rfl⟩
      rw [en]
      exact q

theorem ok_Poly_call_ (T : Txt K mg) : FnOk P w K mg base CX0 2 T.f_Poly_call_ T.fd_Poly_call_ ["self", "x"] (spD K 2 (spCalD T.C_Poly)) := by
  refine fnD T.F_Poly_call_ sc_Poly_call_ rfl (fun cdv A outer s H E hr => ⟨_, (bd_one (sd_ret (ex_call (ok_worth_at T) (hr.mono (by decide)) (by rfl) T.g_worth_at T.F_worth_at.kp T.b_worth_at .nil (fun _ => .nil) (qd_cons (ed_fld (dv 0) rfl) (qd_cons (dv 1) (qd_cons (ed_fld (dv 0) rfl) qd_nil))) rfl))), fun g Qd Ed h => ?_⟩)
  obtain ⟨cs, z, p, rfl, hp, q⟩ := h
  exact ⟨_, cs, z, p, rfl, .inr rfl, hp, q⟩

theorem ok_inverse (T : Txt K mg) : FnOk P w K mg base CX0 1 T.f_inverse T.fd_inverse ["worth", "p"] (spD K 2 spInvD) := by
  refine fnD T.F_inverse sc_inverse rfl (fun cdv A outer s H E hr => ⟨_, (bd_cons (sd_par (i := 2) (j := 3) (by rfl) sc_inverse.nd rfl rfl (by decide) rfl rfl (ex_op d_mod (dv 0) (dv 1)) (ED.x (dv 1)) (by rfl))
      (bd_cons (sd_if (td_cmp (d_eq hr.units) (dv 2) ed_int (nomark _)) (bd_one sd_never) bd_nil)
      (bd_cons (sd_asg (ed_tup (ad_cons ed_int (ad_cons ed_int ad_nil))) (gd_tup (n := 2) (by rfl) (gsd_cons (gd_name (i := 4) sc_inverse.nd rfl (Or.inl rfl)) (gsd_cons (gd_name (i := 5) sc_inverse.nd rfl (Or.inl rfl)) gsd_nil))))
      (bd_cons (sd_while PassesOwn.never (td_cmp d_gt (dv 2) ed_int (nomark _)) (bd_cons (sd_set (i := 6) sc_inverse.nd rfl (Or.inl rfl) (ex_op d_div (dv 3) (dv 2)))
      (bd_cons (sd_par (i := 2) (j := 3) (by rfl) sc_inverse.nd rfl rfl (by decide) rfl rfl (ex_op d_sub (dv 3) (EX.d (ex_op d_mul (dv 6) (dv 2)))) (ED.x (dv 2)) (by rfl))
      (bd_one (sd_par (i := 4) (j := 5) (by rfl) sc_inverse.nd rfl rfl (by decide) rfl rfl (ex_op d_sub (dv 5) (EX.d (ex_op d_mul (dv 6) (dv 4)))) (ED.x (dv 4)) (by rfl))))))
      (bd_one (sd_ret (ex_op d_mod (dv 4) (dv 1)))))))), fun g Qd Ed h => ?_⟩)
  obtain ⟨x, p, rfl, P1, p2, nz, q⟩ := h
  have p1 := P1.1
  refine ⟨(by show (0 : Int) < p; omega), ite2 (fun c => absurd (of_decide_eq_true c) nz) (fun c => ?_)⟩
  refine ⟨rfl, fun m g => ∃ low high one other : Int, ∃ s, g = [.sh (.int x), .sh (.int p), .sh (.int low), .sh (.int high), .sh (.int one), .sh (.int other), s] ∧ InvI x p low high one other ∧ m = low.toNat, ⟨_, _, _, _, _, .no, rfl, inv_start P1 nz, rfl⟩, ?_⟩
  rintro m g2 ⟨low, high, one, other, s, rfl, I, rfl⟩
  have l0 := I.l0
  have lh := I.lh
  have hp := I.hp
  refine ite2 (fun c => ?_) (fun c => ?_)
  · have l1 : 1 < low := of_decide_eq_true c
    have q0 : 0 ≤ high / low := Int.ediv_nonneg (by omega) l0
    have q1 : high / low ≤ high := Int.ediv_le_self _ (by omega)
    obtain ⟨I', hl⟩ := inv_turn I l1
    exact ⟨.of (by omega) (Int.lt_trans (b := 2 ^ 64) (by omega) (by decide)), .l ⟨by omega, by omega⟩, .l ⟨by omega, by omega⟩, _, hl, _, _, _, _, _, rfl, I', rfl⟩
  · have l1 : ¬ 1 < low := fun z => c (decide_eq_true z)
    obtain ⟨r0, r1, r2⟩ := inv_end I l1
    exact ⟨(by show (0 : Int) < p; omega), q _ r0 r1 r2⟩

theorem ok_power (T : Txt K mg) : FnOk P w K mg base CX0 1 T.f_power T.fd_power ["worth", "count", "p"] (spD K 3 spPowD) := by
  refine fnD T.F_power sc_power rfl (fun cdv A outer s H E hr => ⟨_, (bd_cons (sd_par3 (i := 3) (j := 4) (l := 5) (by rfl) sc_power.nd rfl rfl rfl (by decide) (by decide) (by decide) rfl rfl rfl (ED.x ed_int) (ex_op d_mod (dv 0) (dv 2)) (ED.x (dv 1)) (by rfl))
      (bd_cons (sd_while PassesOwn.never (td_cmp d_gt (dv 5) ed_int (nomark _)) (bd_cons (sd_if (td_cmp (d_eq hr.units) (EX.d (ex_op d_mod (dv 5) ed_int)) ed_int (nomark _)) (bd_one (sd_set (i := 3) sc_power.nd rfl (Or.inl rfl) (ex_op d_mod (EX.d (ex_op d_mul (dv 3) (dv 4))) (dv 2)))) bd_nil)
      (bd_cons (sd_set (i := 4) sc_power.nd rfl (Or.inl rfl) (ex_op d_mod (EX.d (ex_op d_mul (dv 4) (dv 4))) (dv 2)))
      (bd_one (sd_set (i := 5) sc_power.nd rfl (Or.inl rfl) (ex_op d_div (dv 5) ed_int))))))
      (bd_one (sd_ret (xv 3))))), fun g Qd Ed h => ?_⟩)
  obtain ⟨x, n, p, rfl, ⟨p1, p2⟩, q⟩ := h
  have p0 : 0 < p := by omega
  refine ⟨p0, fun m g => ∃ made bs left : Int, m = left.toNat ∧ g = [.sh (.int x), .sh (.int n), .sh (.int p), .sh (.int made), .sh (.int bs), .sh (.int left)] ∧ InvP x n p made bs left, ⟨_, _, _, _, rfl, rfl, powi_start n p1⟩, ?_⟩
  rintro m g2 ⟨made, bs, left, rfl, rfl, I⟩
  have m0 := I.m0
  have m1 := I.m1
  have b0 := I.b0
  have b1 := I.b1
  refine ite2 (fun c => ?_) (fun c => ?_)
  · have lp : 0 < left := of_decide_eq_true c
    refine ⟨(by show (0 : Int) < _; decide), ite2 (fun c2 => ?_) (fun c2 => ?_)⟩
    · have o : left % 2 = 1 := of_decide_eq_true c2
      exact ⟨.l ⟨by omega, by omega⟩, p0, .l ⟨by omega, by omega⟩, p0, .of (by decide) (by decide), (left / 2).toNat, by omega, _, _, _, rfl, rfl, powi_turn1 I lp o⟩
    · have o : ¬ left % 2 = 1 := fun z => c2 (decide_eq_true z)
      exact ⟨.l ⟨by omega, by omega⟩, p0, .of (by decide) (by decide), (left / 2).toNat, by omega, _, _, _, rfl, rfl, powi_turn0 I lp o⟩
  · have lp : ¬ 0 < left := fun z => c (decide_eq_true z)
    rw [← powi_end I lp] at q
    exact q

theorem ok_trimmed (T : Txt K mg) : FnOk P w K mg base CX0 1 T.f_trimmed T.fd_trimmed ["worths"] (spD K 1 spTriD) := by
  refine fnD T.F_trimmed sc_trimmed rfl (fun cdv A outer s H E hr => ⟨_, (bd_cons (sd_set (i := 1) sc_trimmed.nd rfl (Or.inl rfl) (ex_callB b_len (by rfl) T.z_len (by decide +kernel) (ad_cons (dv 0) ad_nil)))
      (bd_cons (sd_while PassesOwn.never (WD.t (wd_and (td_cmp d_gt (dv 1) ed_int (nomark _)) (wd_and1 (td_cmp (d_eq hr.units) (ed_ix (dv 0) (EX.d (ex_op d_sub (dv 1) ed_int)) (fun _ _ => rfl)) ed_int (nomark _))))) (bd_one (sd_aug (i := 1) sc_trimmed.nd rfl (.inl rfl) d_isub ed_int)))
      (bd_one (sd_ret (ex_slice (dv 0) pd_none (pd_some (dv 1))))))), fun g Qd Ed h => ?_⟩)
  obtain ⟨ns, rfl, hl, q⟩ := h
  refine ⟨fun m g => ∃ n : Nat, g = [.sh (TI' ns), .sh (.int (n : Int))] ∧ n ≤ ns.length ∧ (∀ i, n ≤ i → i < ns.length → ns[i]? = some 0) ∧ n = m, ⟨_, ns.length, ?_, Nat.le_refl _, fun i h1 h2 => absurd h2 (by omega), rfl⟩, ?_⟩
  · show [_, Sl.sh (.int ((ns.map D.int).length : Nat))] = _
    rw [List.length_map]
  rintro m g2 ⟨n, rfl, hn, hz, rfl⟩
  have fin : (n = 0 ∨ ns.getD (n - 1) 0 ≠ 0) → Qd (.sh (.tup (cut (ns.map D.int) none (some (n : Int))))) [] := fun h => by
    rw [cut_to' (by rw [List.length_map]; exact hn), ← List.map_take, ← trimZ_take hn hz h]
    exact q
  refine ite2 (fun c => ?_) (fun c => ?_)
  · have n0 : 0 < n := by
      have : (0 : Int) < (n : Int) := of_decide_eq_true c
      omega
    have e2 : (n : Int) - 1 = ((n - 1 : Nat) : Int) := by omega
    have e3 : L2.atI (ns.map D.int) ((n : Int) - 1) = some (.int (ns.getD (n - 1) 0)) := by
      rw [e2]
      exact atI_getD (by omega)
    refine ⟨_, e3, ite2 (fun c2 => ?_) (fun c2 => ?_)⟩
    · have z0 : ns.getD (n - 1) 0 = 0 := of_decide_eq_true c2
      refine ⟨n - 1, by omega, n - 1, ?_, by omega, zeros_at (by omega) (by rw [show n - 1 + 1 = n by omega]; exact hz) z0, rfl⟩
      rw [← e2]
      rfl
    · exact fin (.inr fun z => c2 (decide_eq_true z))
  · exact fin (.inl (by
      have : ¬ (0 : Int) < (n : Int) := fun z => c (decide_eq_true z)
      omega))

theorem ok_Poly_init_ (T : Txt K mg) : FnOk P w K mg base CX0 2 T.f_Poly_init_ T.fd_Poly_init_ ["self", "coefficients", "p"] (spD K 3 (spPIniD T.C_Poly)) := by
  refine fnDD T.F_Poly_init_ sc_Poly_init_ rfl (fun cdv A outer s H E hr => ⟨_, (bd_cons (fld 0 T.cl_Poly T.n_Poly_coefficients (EX.d (ex_call (ok_trimmed T) (hr.mono (by decide)) (by rfl) T.g_trimmed T.F_trimmed.kp T.b_trimmed .nil (fun _ => .nil) (qd_cons (EX.d (ex_call (ok_worths_of T) (hr.mono (by decide)) (by rfl) T.g_worths_of T.F_worths_of.kp T.b_worths_of .nil (fun _ => .nil) (qd_cons (dv 1) (qd_cons (dv 2) qd_nil)) rfl)) qd_nil) rfl)))
      (bd_one (fld 0 T.cl_Poly T.n_Poly_p (dv 2)))), fun g Qd Ed h => ?_⟩)
  obtain ⟨x, ns, p, rfl, hx, p0, hl, q⟩ := h
  refine ⟨x, ns, p, rfl, hx, p0, by omega, red p ns, rfl, ?_, rfl, by decide, rfl, (show 1 < 900 by decide), q⟩
  unfold red
  rw [List.length_map]
  exact hl

theorem ok_Poly_degree (T : Txt K mg) : FnOk P w K mg base CX0 1 T.f_Poly_degree T.fd_Poly_degree ["self"] (spD K 1 (spDegD T.C_Poly)) := by
  refine fnD T.F_Poly_degree sc_Poly_degree rfl (fun cdv A outer s H E hr => ⟨_, (bd_one (sd_ret (ex_op d_sub (EX.d (ex_callB b_len (by rfl) T.z_len (by decide +kernel) (ad_cons (ed_fld (dv 0) rfl) ad_nil))) ed_int))), fun g Qd Ed h => ?_⟩)
  obtain ⟨cs, p, rfl, q⟩ := h
  have e : (((cs.map D.int).length : Nat) : Int) = (cs.length : Nat) := by rw [List.length_map]
  rw [← e] at q
  exact q

theorem ok_powers (T : Txt K mg) : FnOk P w K mg base CX0 1 T.f_powers T.fd_powers ["first", "factor", "count", "p"] (spD K 4 spPowsD) := by
  refine fnD T.F_powers sc_powers rfl (fun cdv A outer s H E hr => ⟨_, (bd_cons (sd_par (i := 4) (j := 5) (by rfl) sc_powers.nd rfl rfl (by decide) rfl rfl (ex_lst ad_nil) (ED.x (dv 0)) (by rfl))
      (bd_cons (sd_for PassesOwn.never rfl (id_range1 (by rfl) T.z_range (ad_cons (dv 2) ad_nil)) (gd_name (i := 6) sc_powers.nd rfl (Or.inl rfl)) (bd_cons (sd_expr (app 4 (dv 5)))
      (bd_one (sd_set (i := 5) sc_powers.nd rfl (Or.inl rfl) (ex_op d_mod (EX.d (ex_op d_mul (dv 5) (dv 1))) (dv 3))))))
      (bd_one (sd_ret (ex_callTy b_tuple (by rfl) T.z_tuple (by decide +kernel) (ad_cons (dv 4) ad_nil)))))), fun g Qd Ed h => ?_⟩)
  obtain ⟨f, k, n, p, rfl, ⟨p0, p1⟩, ⟨f0, f1⟩, hn, q⟩ := h
  refine ⟨⟨by omega, by omega⟩, fun i g => ∃ s6, g = [.sh (.int f), .sh (.int k), .sh (.int n), .sh (.int p), .ow (.lst ((pws p f k i).map .int)), .sh (.int (pw p f k i)), s6], ⟨.no, rfl⟩, ?_, ?_⟩
  · rintro i x g2 hx ⟨s6, rfl⟩
    obtain ⟨hi, rfl⟩ := range_at hx
    have b := pw_bd (k := k) (f := f) (p := p) p0 f0 f1 i
    refine ⟨?_, .l ⟨by omega, by omega⟩, p0, .sh (.int (0 + (i : Nat))), ?_⟩
    · rw [List.length_map, pws_len]
      exact Nat.lt_of_lt_of_le (m := 100000) (by omega) (by decide)
    · rw [pws_succ, List.map_append]
      rfl
  rintro g2 ⟨s6, rfl⟩
  rw [rng_len, Int.toNat_natCast]
  exact q

theorem ok_Places_init_ (T : Txt K mg) : FnOk P w K mg base CX0 4 T.f_Places_init_ T.fd_Places_init_ ["self", "p", "rows"] (spD K 3 (spQIniD T.C_Places)) := by
  refine fnD T.F_Places_init_ sc_Places_init_ rfl (fun cdv A outer s H E hr => ⟨_, (bd_cons (sd_if (td_not (td_truth (EX.d (ex_call (ok_fits T) (hr.mono (by decide)) (by rfl) T.g_fits T.F_fits.kp T.b_fits .nil (fun _ => .nil) (qd_cons (dv 1) (qd_cons (dv 2) qd_nil)) rfl)))) (bd_one sd_never) bd_nil)
      (bd_cons (fld 0 T.cl_Places T.n_Places_p (dv 1))
      (bd_cons (fld 0 T.cl_Places T.n_Places_rows (dv 2))
      (bd_cons (sd_set (i := 3) sc_Places_init_.nd rfl (Or.inl rfl) (ex_call (ok_generator T) (hr.mono (by decide)) (by rfl) T.g_generator T.F_generator.kp T.b_generator .nil (fun _ => .nil) (qd_cons (dv 1) qd_nil) rfl))
      (bd_cons (fld 0 T.cl_Places T.n_Places__root (EX.d (ex_call (ok_power T) (hr.mono (by decide)) (by rfl) T.g_power T.F_power.kp T.b_power .nil (fun _ => .nil) (qd_cons (dv 3) (qd_cons (EX.d (ex_op d_div (EX.d (ex_op d_sub (dv 1) ed_int)) (EX.d (ex_op d_mul ed_int (dv 2))))) (qd_cons (dv 1) qd_nil))) rfl)))
      (bd_cons (fld 0 T.cl_Places T.n_Places__row_root (EX.d (ex_call (ok_power T) (hr.mono (by decide)) (by rfl) T.g_power T.F_power.kp T.b_power .nil (fun _ => .nil) (qd_cons (fldv 0) (qd_cons ed_int (qd_cons (dv 1) qd_nil))) rfl)))
      (bd_cons (fld 0 T.cl_Places T.n_Places__worths (EX.d (ex_call (ok_powers T) (hr.mono (by decide)) (by rfl) T.g_powers T.F_powers.kp T.b_powers .nil (fun _ => .nil) (qd_cons (dv 3) (qd_cons (fldv 0) (qd_cons (EX.d (ex_op d_mul ed_int (dv 2))) (qd_cons (dv 1) qd_nil)))) rfl)))
      (bd_one (fld 0 T.cl_Places T.n_Places__row_worths (EX.d (ex_call (ok_powers T) (hr.mono (by decide)) (by rfl) T.g_powers T.F_powers.kp T.b_powers .nil (fun _ => .nil) (qd_cons ed_int (qd_cons (fldv 0) (qd_cons (dv 2) (qd_cons (dv 1) qd_nil)))) rfl))))))))))), fun g Qd Ed h => ?_⟩)
  obtain ⟨p, k, r, rfl, F, q⟩ := h
  have p0 := F.p0
  have p1 := F.p1
  have r0 := F.r0
  have r1 := F.r1
  have g0 := F.g0
  have g1 := F.g1
  have q0 : 0 ≤ (p - 1) / (16 * r) := Int.ediv_nonneg (by omega) (by omega)
  have en : ((((p - 1) / (16 * r)).toNat : Nat) : Int) = (p - 1) / (16 * r) := Int.toNat_of_nonneg q0
  have rtb : 0 ≤ rtP p k r ∧ rtP p k r < p := ⟨Int.emod_nonneg _ (by omega), Int.emod_lt_of_pos _ (by omega)⟩
  have e16 : (((16 * r).toNat : Nat) : Int) = 16 * r := by omega
  have er : ((r.toNat : Nat) : Int) = r := by omega
  refine ⟨p, r, rfl, F.fits, rfl, by decide, rfl, (show 1 < 900 by decide), p, k, rfl, F.root, .l ⟨by decide, by decide⟩, .of (by omega) (Int.lt_trans (b := 2 ^ 64) (by omega) (by decide)), k, ((p - 1) / (16 * r)).toNat, p, by rw [en]; rfl, ⟨by omega, by omega⟩, ?_⟩
  refine ⟨rfl, (show 2 < 900 by decide), rtP p k r, 16, p, rfl, ⟨by omega, by omega⟩, rfl, (show 3 < 900 by decide), .l ⟨by decide, by decide⟩, k, rtP p k r, (16 * r).toNat, p, by rw [e16]; rfl, ⟨by omega, by omega⟩, ⟨by omega, by omega⟩, by omega, ?_⟩
  refine ⟨rfl, (show 4 < 900 by decide), 1, rrP p k r, r.toNat, p, by rw [er]; rfl, ⟨by omega, by omega⟩, ⟨by decide, by omega⟩, by omega, rfl, (show 5 < 900 by decide), ?_⟩
  exact q

theorem ok_Places_size (T : Txt K mg) : FnOk P w K mg base CX0 1 T.f_Places_size T.fd_Places_size ["self"] (spD K 1 (spSizD T.C_Places)) := by
  refine fnD T.F_Places_size sc_Places_size rfl (fun cdv A outer s H E hr => ⟨_, (bd_one (sd_ret (ex_op d_mul ed_int (ed_fld (dv 0) rfl)))), fun g Qd Ed h => ?_⟩)
  obtain ⟨p, k, r, rfl, q⟩ := h
  exact ⟨.l ⟨by decide, by decide⟩, q⟩

theorem ok_Places_degree (T : Txt K mg) : FnOk P w K mg base CX0 1 T.f_Places_degree T.fd_Places_degree ["self"] (spD K 1 (spDgQD T.C_Places)) := by
  refine fnD T.F_Places_degree sc_Places_degree rfl (fun cdv A outer s H E hr => ⟨_, (bd_one (sd_ret (ex_op d_mul ed_int (ed_fld (dv 0) rfl)))), fun g Qd Ed h => ?_⟩)
  obtain ⟨p, k, r, rfl, q⟩ := h
  exact ⟨.l ⟨by decide, by decide⟩, q⟩

theorem ok_Places_column (T : Txt K mg) : FnOk P w K mg base CX0 4 T.f_Places_column T.fd_Places_column ["self", "poly"] (spD K 2 (spColD T.C_Places T.C_Poly)) := by
  refine fnD T.F_Places_column sc_Places_column rfl (fun cdv A outer s H E hr => ⟨_, (bd_one (sd_ret (ex_callTy b_tuple (by rfl) T.z_tuple (by decide +kernel) (ad_cons (EX.d (ex_lc (own := [("x", 2)]) (by rfl) sc_Places_column.nd (id_seq (ed_fld (dv 0) rfl)) (blkOk_by (own := [("x", 2)]) (N := ["self", "poly", "x"]) (sc := defScope s_Places_column) (by decide +kernel)) (fun _ _ _ _ _ => (gd_name (i := 2) sc_Places_column.nd rfl (Or.inl rfl))) (fun _ _ _ _ _ => tsd_nil) (fun _ _ _ _ _ => (EX.d (ex_callO (dv 1) T.cO_Poly (ok_Poly_call_ T) T.b_Poly_call_ (hr.mono (by decide)) (ad_cons (dv 2) ad_nil) rfl))))) ad_nil)))), fun g Qd Ed h => ?_⟩)
  obtain ⟨cs, p, k, r, rfl, F, q⟩ := h
  have p0 := F.p0
  have p1 := F.p1
  have r1 := F.r1
  have lh := hsP_len F
  refine ⟨?_, fun i acc g => g = [.sh (PlD T.C_Places p k r), .sh (PolyD T.C_Poly p cs), .no] ∧ acc = (((hsP p k r).map fun x => ev cs x % p).take i).map .int, ⟨rfl, rfl⟩, ?_, ?_⟩
  · rw [List.length_map]
    exact small_line (by omega)
  · rintro i x acc g2 hx _ ⟨rfl, rfl⟩
    obtain ⟨n, hn, rfl⟩ := mapI_get hx
    refine ⟨rfl, cs, n, p, rfl, ⟨by omega, by omega⟩, rfl, ?_⟩
    have e : ((hsP p k r).map fun x => ev cs x % p)[i]? = some (ev cs n % p) := by
      rw [List.getElem?_map, hn]
      rfl
    rw [← take_map e]
    rfl
  · rintro acc g2 _ ⟨rfl, rfl⟩
    rw [List.length_map, List.take_of_length_le (by rw [List.length_map]; exact Nat.le_refl _)]
    exact q

theorem ok_law_box (T : Txt K mg) : FnOk P w K mg base CX0 1 T.f_law_box T.fd_law_box ["script"] (spD K 1 (spBoxR K)) := by
  refine fnD T.F_law_box sc_law_box rfl (fun cdv A outer s H E hr => ⟨_, (bd_cons (sd_set (i := 1) sc_law_box.nd rfl (Or.inl rfl) (ED.x ed_int))
      (bd_cons (sd_for PassesOwn.never rfl (id_seq (EX.d (ex_slK 0))) (gd_name (i := 2) sc_law_box.nd rfl (Or.inl rfl)) (bd_one (sd_set (i := 1) sc_law_box.nd rfl (Or.inl rfl) (ex_op d_mod (EX.d (ex_callTy b_int (by rfl) T.z_int (by decide +kernel) (ad_cons (EX.d (ex_op d_add (EX.d (ex_op d_add (EX.d (ex_op d_mul (dv 1) ed_int)) (EX.d (ex_op d_mul (EX.d (ex_op d_mod (EX.d (ex_callTy b_int (by rfl) T.z_int (by decide +kernel) (ad_cons (dv 2) ad_nil))) ed_int)) ed_int)))) ed_int)) ad_nil))) ed_int))))
      (bd_one (sd_ret (ex_lst (ad_cons (EX.d (ex_callTy b_list (by rfl) T.z_list (by decide +kernel) (ad_cons (EX.d (ex_slK 0)) ad_nil))) (ad_cons ed_int (ad_cons ed_int (ad_cons (dv 1) (ad_cons ed_int ad_nil)))))))))), fun g Qd Ed h => ?_⟩)
  obtain ⟨d, cs, rfl, hd, hl, q⟩ := h
  have hcut : ∃ cs' : List Int, cut (cs.map D.int) none (some 63) = cs'.map .int ∧ cs'.length ≤ 63 := by
    refine ⟨(cs.drop (HT.sIx (cs.map D.int).length 0 none)).take (HT.sIx (cs.map D.int).length (cs.map D.int).length (some 63) - HT.sIx (cs.map D.int).length 0 none), ?_, ?_⟩
    · unfold cut
      rw [List.map_take, List.map_drop]
    · rw [List.length_take, List.length_drop]
      omega
  obtain ⟨cs', ec, lc⟩ := hcut
  refine ⟨cs, hd, fun i g => ∃ m s, g = [.sh d, .sh (.int m), s] ∧ 0 ≤ m ∧ m < 2147483543, ⟨_, _, rfl, by decide, by decide⟩, ?_, ?_⟩
  · rintro i x g2 hx ⟨m, s, rfl, m0, m1⟩
    have hx : (cut (cs.map D.int) none (some 63))[i]? = some x := hx
    rw [ec] at hx
    obtain ⟨z, _, rfl⟩ := at_intD hx
    refine ⟨.r (by decide), (by show (0 : Int) < _; decide), .r (by decide), (by show (0 : Int) < _; decide), ?_⟩
    exact ⟨_, _, rfl, Int.emod_nonneg _ (by decide), Int.emod_lt_of_pos _ (by decide)⟩
  · rintro g2 ⟨m, s, rfl, m0, m1⟩
    refine ⟨cs, hd, q _ ⟨cs', 0, 0, m, 0, ?_, lc, by decide, by decide, m0, by omega⟩⟩
    show [D.lst (cut (cs.map D.int) none (some 63)), _, _, _, _] = _
    rw [ec]

theorem ok_law_draw (T : Txt K mg) : FnOk P w K mg base CX0 1 T.f_law_draw T.fd_law_draw ["box", "sides"] (spD K 2 spDrawD) := by
  refine fnD T.F_law_draw sc_law_draw rfl (fun cdv A outer s H E hr => ⟨_, (bd_cons (setix 0 (EX.d (ex_op d_add (ixv 0 ed_int) ed_int)) ed_int)
      (bd_cut (sd_if (WD.t (wd_and (td_cmp (d_eq hr.units) (ixv 0 ed_int) ed_int (nomark _)) (wd_and1 (td_cmp d_lt (ixv 0 ed_int) (EX.d (ex_callB b_len (by rfl) T.z_len (by decide +kernel) (ad_cons (ixv 0 ed_int) ad_nil))) (nomark _))))) (bd_cons (sd_set (i := 2) sc_law_draw.nd rfl (Or.inl rfl) (ex_callB b_abs (by rfl) T.z_abs (by decide +kernel) (ad_cons (EX.d (ex_callTy b_int (by rfl) T.z_int (by decide +kernel) (ad_cons (ed_ix (ixv 0 ed_int) (ixv 0 ed_int) (fun _ _ => rfl)) ad_nil))) ad_nil)))
      (bd_cons (setix 0 (EX.d (ex_op d_add (ixv 0 ed_int) ed_int)) ed_int)
      (bd_one (sd_if (td_cmp d_ge (dv 2) (EX.d (ex_op d_pow ed_int ed_int)) (nomark _)) (bd_one (setix 0 (dv 2) ed_int)) (bd_one (setix 0 (EX.d (ex_op d_mod (EX.d (ex_callTy b_int (by rfl) T.z_int (by decide +kernel) (ad_cons (EX.d (ex_op d_add (EX.d (ex_op d_add (EX.d (ex_op d_mul (ixv 0 ed_int) ed_int)) (EX.d (ex_op d_mul (EX.d (ex_op d_mod (dv 2) ed_int)) ed_int)))) ed_int)) ad_nil))) ed_int)) ed_int)))))) bd_nil)
      (bd_cons (sd_if (td_cmp d_gt (ixv 0 ed_int) ed_int (nomark _)) (bd_cons (sd_set (i := 3) sc_law_draw.nd rfl (Or.inl rfl) (ex_op d_mod (EX.d (ex_callTy b_int (by rfl) T.z_int (by decide +kernel) (ad_cons (ixv 0 ed_int) ad_nil))) (dv 1)))
      (bd_cons (setix 0 (EX.d (ex_op d_div (EX.d (ex_callTy b_int (by rfl) T.z_int (by decide +kernel) (ad_cons (ixv 0 ed_int) ad_nil))) (dv 1))) ed_int)
      (bd_one (sd_ret (xv 3))))) bd_nil)
      (bd_cons (sd_set (i := 4) sc_law_draw.nd rfl (Or.inl rfl) (ex_callTy b_int (by rfl) T.z_int (by decide +kernel) (ad_cons (ixv 0 ed_int) ad_nil)))
      (bd_cons (setix 0 (EX.d (ex_op d_mod (EX.d (ex_callTy b_int (by rfl) T.z_int (by decide +kernel) (ad_cons (EX.d (ex_op d_add (EX.d (ex_op d_add (EX.d (ex_op d_add (EX.d (ex_op d_mul (EX.d (ex_op d_mul (dv 4) (dv 4))) ed_int)) (EX.d (ex_op d_mul (dv 4) ed_int)))) (EX.d (ex_op d_mul (ixv 0 ed_int) ed_int)))) ed_int)) ad_nil))) ed_int)) ed_int)
      (bd_one (sd_ret (ex_op d_mod (EX.d (ex_callTy b_int (by rfl) T.z_int (by decide +kernel) (ad_cons (EX.d (ex_op d_add (EX.d (ex_op d_mul (ixv 0 ed_int) ed_int)) (EX.d (ex_op d_div (ixv 0 ed_int) ed_int)))) ad_nil))) (dv 1))))))))), fun g Qd Ed h => ?_⟩)
  obtain ⟨bs, m, rfl, ⟨cs, p, a, c, n, rfl, hl, p0, a0, c0, c1⟩, ⟨m0, m1⟩, q⟩ := h
  refine ⟨_, rfl, _, rfl, fun g => ∃ bs' s, IsBox bs' ∧ g = [.bx 0 (.lst bs'), .sh (.int m), s, .no, .no], ?_, ?_⟩
  · refine ⟨_, rfl, ?_⟩
    show if decide (a = 0) = true then _ else _
    refine ite2 (fun c2 => ?_) (fun c2 => ?_)
    · refine ⟨_, rfl, _, rfl, ite2 (fun c3 => ?_) (fun c3 => ?_)⟩
      · have hp : p < ((cs.map D.int).length : Int) := of_decide_eq_true c3
        rw [List.length_map] at hp
        have hg : L2.atI (cs.map D.int) p = some (.int cs[p.toNat]) := by
          have q : (cs.map D.int)[p.toNat]? = some (.int cs[p.toNat]) := by rw [List.getElem?_map, List.getElem?_eq_getElem (by omega)] <;> rfl
          have z := atI_nat q
          rw [show ((p.toNat : Nat) : Int) = p by omega] at z
          exact z
        generalize cs[p.toNat] = z at hg
        refine ⟨_, rfl, _, rfl, _, hg, ?_⟩
        refine ⟨_, rfl, _, rfl, ⟨by decide, by decide, by decide⟩, ite2 (fun c4 => ?_) (fun c4 => ?_)⟩
        · exact ⟨_, rfl, _, _, ⟨cs, _, _, _, _, rfl, hl, by omega, by split <;> omega, c0, c1⟩, rfl⟩
        · refine ⟨_, rfl, .r (by decide), (by show (0 : Int) < _; decide), .r (by decide), (by show (0 : Int) < _; decide), _, rfl, ?_⟩
          exact ⟨_, _, ⟨cs, _, _, _, _, rfl, hl, by omega, a0, Int.emod_nonneg _ (by decide), Int.lt_trans (Int.emod_lt_of_pos _ (by decide)) (by decide)⟩, rfl⟩
      · exact ⟨_, _, ⟨cs, p, a, c, n + 1, rfl, hl, p0, a0, c0, c1⟩, rfl⟩
    · exact ⟨_, _, ⟨cs, p, a, c, n + 1, rfl, hl, p0, a0, c0, c1⟩, rfl⟩
  · rintro g2 ⟨bs, s, ⟨cs, p, a, c, n, rfl, hl, p0, a0, c0, c1⟩, rfl⟩
    refine ⟨_, rfl, ite2 (fun c2 => ?_) (fun c2 => ?_)⟩
    · refine ⟨_, rfl, m0, _, rfl, .of m0 (Int.lt_trans m1 (by decide)), _, rfl, ?_⟩
      exact q _ _ ⟨cs, _, _, _, _, rfl, hl, p0, Int.ediv_nonneg a0 (by omega), c0, c1⟩ (Int.emod_nonneg _ (by omega)) (Int.emod_lt_of_pos _ m0)
    · refine ⟨_, rfl, .l ⟨by omega, by omega⟩, .r (by decide), .r (by decide), _, rfl, .r (by decide), (by show (0 : Int) < _; decide), _, rfl, ?_⟩
      refine ⟨_, rfl, .r (by decide), _, rfl, .of (by decide) (by decide), m0, ?_⟩
      exact q _ _ ⟨cs, _, _, _, _, rfl, hl, p0, a0, Int.emod_nonneg _ (by decide), Int.lt_trans (Int.emod_lt_of_pos _ (by decide)) (by decide)⟩ (Int.emod_nonneg _ (by omega)) (Int.emod_lt_of_pos _ m0)

theorem ok_law_of (T : Txt K mg) : FnOk P w K mg base CX0 2 T.f_law_of T.fd_law_of ["box", "things"] (spD K 2 spOfD) := by
  refine fnD T.F_law_of sc_law_of rfl (fun cdv A outer s H E hr => ⟨_, (bd_one (sd_ret (ED.x (ed_ix (dv 1) (EX.d (ex_call (ok_law_draw T) (hr.mono (by decide)) (by rfl) T.g_law_draw T.F_law_draw.kp T.b_law_draw .nil (fun _ => .nil) (qv 0 (qd_cons (EX.d (ex_callB b_len (by rfl) T.z_len (by decide +kernel) (ad_cons (dv 1) ad_nil))) qd_nil)) rfl)) (fun _ _ => rfl))))), fun g Qd Ed h => ?_⟩)
  obtain ⟨bs, x, xs, rfl, hx, hb, ⟨x0, x1⟩, q⟩ := h
  have hpos : 0 < xs.length := List.length_pos_iff.mpr x0
  rcases hx with rfl | rfl
  · refine ⟨bs, _, rfl, hb, ⟨by omega, by omega⟩, fun bs' n hb' n0 n1 => ?_⟩
    obtain ⟨d, h1, h2⟩ := atI_some n0 n1
    exact ⟨d, h1, q bs' _ d hb' h2⟩
  · refine ⟨bs, _, rfl, hb, ⟨by omega, by omega⟩, fun bs' n hb' n0 n1 => ?_⟩
    obtain ⟨d, h1, h2⟩ := atI_some n0 n1
    exact ⟨d, h1, q bs' _ d hb' h2⟩

theorem step_same (T : Txt K mg) (n : Nat) (G : FnOk P w K mg base CX0 n T.f_law_same T.fd_law_same ["found", "due"] (spD K 2 (spSameP n))) : FnOk P w K mg base CX0 (n + 1) T.f_law_same T.fd_law_same ["found", "due"] (spD K 2 (spSameD n)) := by
  refine fnD T.F_law_same sc_law_same rfl (fun cdv A outer s H E hr => ⟨_, (bd_cons (sd_if (td_truth (EX.d (ex_isi2 (dv 1) (pe_bltn (v := .ty "list") (by rfl) T.z_list (by decide +kernel) rfl) (pe_bltn (v := .ty "tuple") (by rfl) T.z_tuple (by decide +kernel) rfl) (.ty _) (.ty _) isi_seq (by rfl) T.z_isinstance))) (bd_cons (sd_if (WD.t (wd_or (td_cmp (d_ne hr.units) (EX.d (ex_isi (dv 0) (pe_bltn (v := .ty "list") (by rfl) T.z_list (by decide +kernel) rfl) (.ty _) isi_list (by rfl) T.z_isinstance)) (EX.d (ex_isi (dv 1) (pe_bltn (v := .ty "list") (by rfl) T.z_list (by decide +kernel) rfl) (.ty _) isi_list (by rfl) T.z_isinstance)) (nomark _)) (wd_or1 (td_cmp (d_ne hr.units) (EX.d (ex_isi (dv 0) (pe_bltn (v := .ty "tuple") (by rfl) T.z_tuple (by decide +kernel) rfl) (.ty _) isi_tup (by rfl) T.z_isinstance)) (EX.d (ex_isi (dv 1) (pe_bltn (v := .ty "tuple") (by rfl) T.z_tuple (by decide +kernel) rfl) (.ty _) isi_tup (by rfl) T.z_isinstance)) (nomark _))))) (bd_one (sd_ret (ED.x ed_bl))) bd_nil)
      (bd_one (sd_ret (ED.x (ed_and (EX.d (ex_cmp (d_eq hr.units) (EX.d (ex_callB b_len (by rfl) T.z_len (by decide +kernel) (ad_cons (dv 0) ad_nil))) (EX.d (ex_callB b_len (by rfl) T.z_len (by decide +kernel) (ad_cons (dv 1) ad_nil))) (nomark _))) (ed_one (EX.d (ex_callB (b_all rfl) (by rfl) T.z_all (by decide +kernel) (ad_cons (EX.d (ex_lc (own := [("a", 2), ("b", 3)]) (by rfl) sc_law_same.nd (id_zip (by rfl) T.z_zip (ad_cons (dv 0) (ad_cons (dv 1) ad_nil))) (blkOk_by (own := [("a", 2), ("b", 3)]) (N := ["found", "due", "a", "b"]) (sc := defScope s_law_same) (by decide +kernel)) (fun _ _ _ _ _ => (gd_tup (n := 2) (by rfl) (gsd_cons (gd_name (i := 2) sc_law_same.nd rfl (Or.inl rfl)) (gsd_cons (gd_name (i := 3) sc_law_same.nd rfl (Or.inl rfl)) gsd_nil)))) (fun _ _ _ _ _ => tsd_nil) (fun _ _ _ _ _ => (EX.d (ex_call G hr (by rfl) T.g_law_same T.F_law_same.kp T.b_law_same .nil (fun _ => .nil) (qd_cons (dv 2) (qd_cons (dv 3) qd_nil)) rfl))))) ad_nil))))))))) bd_nil)
      (bd_cons (sd_if (WD.t (wd_or (td_cmp d_isN (dv 1) ed_non (nomark _)) (wd_or1 (td_cmp d_isN (dv 0) ed_non (nomark _))))) (bd_one (sd_ret (ED.x (ed_and (EX.d (ex_cmp d_isN (dv 1) ed_non (nomark _))) (ed_one (EX.d (ex_cmp d_isN (dv 0) ed_non (nomark _)))))))) bd_nil)
      (bd_cons (sd_if (WD.t (wd_or (td_truth (EX.d (ex_isi (dv 1) (pe_bltn (v := .ty "bool") (by rfl) T.z_bool (by decide +kernel) rfl) (.ty _) isi_bool (by rfl) T.z_isinstance))) (wd_or1 (td_truth (EX.d (ex_isi (dv 0) (pe_bltn (v := .ty "bool") (by rfl) T.z_bool (by decide +kernel) rfl) (.ty _) isi_bool (by rfl) T.z_isinstance)))))) (bd_one (sd_ret (ED.x (ed_and (EX.d (ex_isi (dv 1) (pe_bltn (v := .ty "bool") (by rfl) T.z_bool (by decide +kernel) rfl) (.ty _) isi_bool (by rfl) T.z_isinstance)) (ed_and (EX.d (ex_isi (dv 0) (pe_bltn (v := .ty "bool") (by rfl) T.z_bool (by decide +kernel) rfl) (.ty _) isi_bool (by rfl) T.z_isinstance)) (ed_one (EX.d (ex_cmp (d_eq hr.units) (dv 0) (dv 1) (nomark _))))))))) bd_nil)
      (bd_cons (sd_if (td_truth (EX.d (ex_isi (dv 1) (pe_bltn (v := .ty "int") (by rfl) T.z_int (by decide +kernel) rfl) (.ty _) isi_int (by rfl) T.z_isinstance))) (bd_one (sd_ret (ED.x (ed_and (EX.d (ex_isi (dv 0) (pe_bltn (v := .ty "int") (by rfl) T.z_int (by decide +kernel) rfl) (.ty _) isi_int (by rfl) T.z_isinstance)) (ed_one (EX.d (ex_cmp (d_eq hr.units) (dv 0) (dv 1) (nomark _)))))))) bd_nil)
      (bd_one (sd_ret (ED.x (ed_and (EX.d (ex_isi (dv 0) (pe_bltn (v := .ty "str") (by rfl) T.z_str (by decide +kernel) rfl) (.ty _) isi_str (by rfl) T.z_isinstance)) (ed_one (EX.d (ex_cmp (d_eq hr.units) (dv 0) (dv 1) (nomark _)))))))))))), fun g Qd Ed h => ?_⟩)
  obtain ⟨d, rfl, hp, q⟩ := h
  cases d with
  | non => exact ⟨rfl, rfl, rfl, q⟩
  | bl b =>
    have e : decide (b = b) = true := decide_eq_true rfl
    rw [← e] at q
    exact ⟨rfl, rfl, q⟩
  | int b =>
    have e : decide (b = b) = true := decide_eq_true rfl
    rw [← e] at q
    exact ⟨rfl, rfl, q⟩
  | str b =>
    have e : decide (b = b) = true := decide_eq_true rfl
    rw [← e] at q
    exact ⟨rfl, rfl, q⟩
  | lst xs =>
    cases n with
    | zero => exact hp.elim
    | succ n =>
      obtain ⟨hl, hp⟩ := hp
      refine ite2 (fun c => ?_) (fun c => absurd (decide_eq_true rfl) c)
      refine ⟨?_, fun i acc g => g = [.sh (.lst xs), .sh (.lst xs), .no, .no] ∧ acc = (List.replicate i true).map .bl, ⟨rfl, rfl⟩, ?_, ?_⟩
      · rw [zipD_len]
        omega
      · rintro i x acc g2 hx _ ⟨rfl, rfl⟩
        obtain ⟨y, z, h1, h2, rfl⟩ := zipD_get hx
        rw [h1] at h2
        cases h2
        refine ⟨rfl, y, rfl, hp y (List.mem_of_getElem? h1), rfl, ?_⟩
        show List.map D.bl (List.replicate i true) ++ [D.bl true] = List.map D.bl (List.replicate (i + 1) true)
        rw [List.replicate_succ', List.map_append]
        rfl
      · rintro acc g2 _ ⟨rfl, rfl⟩
        refine ⟨_, rfl, ?_⟩
        have e : (List.replicate (zipD xs xs).length true).all id = true := by simp
        rw [← e] at q
        exact q
  
  | tup xs =>
    cases n with
    | zero => exact hp.elim
    | succ n =>
      obtain ⟨hl, hp⟩ := hp
      refine ite2 (fun c => ?_) (fun c => absurd (decide_eq_true rfl) c)
      refine ⟨?_, fun i acc g => g = [.sh (.tup xs), .sh (.tup xs), .no, .no] ∧ acc = (List.replicate i true).map .bl, ⟨rfl, rfl⟩, ?_, ?_⟩
      · rw [zipD_len]
        omega
      · rintro i x acc g2 hx _ ⟨rfl, rfl⟩
        obtain ⟨y, z, h1, h2, rfl⟩ := zipD_get hx
        rw [h1] at h2
        cases h2
        refine ⟨rfl, y, rfl, hp y (List.mem_of_getElem? h1), rfl, ?_⟩
        show List.map D.bl (List.replicate i true) ++ [D.bl true] = List.map D.bl (List.replicate (i + 1) true)
        rw [List.replicate_succ', List.map_append]
        rfl
      · rintro acc g2 _ ⟨rfl, rfl⟩
        refine ⟨_, rfl, ?_⟩
        have e : (List.replicate (zipD xs xs).length true).all id = true := by simp
        rw [← e] at q
        exact q
  
  | ins _ _ _ => cases n <;> exact hp.elim
  | raw _ => cases n <;> exact hp.elim

theorem ok_law_same (T : Txt K mg) : ∀ n, FnOk P w K mg base CX0 (n + 1) T.f_law_same T.fd_law_same ["found", "due"] (spD K 2 (spSameD n))
  | 0 => step_same T 0 neverD
  | n + 1 => step_same T (n + 1) (ok_law_same T n)

theorem ok_law_number (T : Txt K mg) : FnOk P w K mg base CX0 2 T.f_law_number T.fd_law_number ["box", "prime"] (spD K 2 spNumD) := by
  refine fnD T.F_law_number sc_law_number rfl (fun cdv A outer s H E hr => ⟨_, (bd_cons (sd_set (i := 2) sc_law_number.nd rfl (Or.inl rfl) (ex_call (ok_law_draw T) (hr.mono (by decide)) (by rfl) T.g_law_draw T.F_law_draw.kp T.b_law_draw .nil (fun _ => .nil) (qv 0 (qd_cons ed_int qd_nil)) rfl))
      (bd_cons (sd_if (td_cmp d_lt (dv 2) ed_int (nomark _)) (bd_one (sd_ret (ex_call (ok_law_draw T) (hr.mono (by decide)) (by rfl) T.g_law_draw T.F_law_draw.kp T.b_law_draw .nil (fun _ => .nil) (qv 0 (qd_cons (dv 1) qd_nil)) rfl))) bd_nil)
      (bd_cons (sd_if (td_cmp (d_eq hr.units) (dv 2) ed_int (nomark _)) (bd_one (sd_ret (ED.x ed_int))) bd_nil)
      (bd_cons (sd_if (td_cmp (d_eq hr.units) (dv 2) ed_int (nomark _)) (bd_one (sd_ret (ex_op d_sub (EX.d (ex_call (ok_law_draw T) (hr.mono (by decide)) (by rfl) T.g_law_draw T.F_law_draw.kp T.b_law_draw .nil (fun _ => .nil) (qv 0 (qd_cons ed_int qd_nil)) rfl)) ed_int))) bd_nil)
      (bd_cons (sd_if (td_cmp (d_eq hr.units) (dv 2) ed_int (nomark _)) (bd_one (sd_ret (ex_op d_add (EX.d (ex_op d_sub (dv 1) ed_int)) (EX.d (ex_call (ok_law_draw T) (hr.mono (by decide)) (by rfl) T.g_law_draw T.F_law_draw.kp T.b_law_draw .nil (fun _ => .nil) (qv 0 (qd_cons ed_int qd_nil)) rfl))))) bd_nil)
      (bd_cons (sd_if (td_cmp (d_eq hr.units) (dv 2) ed_int (nomark _)) (bd_one (sd_ret (ex_op d_sub ed_int (EX.d (ex_call (ok_law_draw T) (hr.mono (by decide)) (by rfl) T.g_law_draw T.F_law_draw.kp T.b_law_draw .nil (fun _ => .nil) (qv 0 (qd_cons (EX.d (ex_op d_pow ed_int ed_int)) qd_nil)) rfl))))) bd_nil)
      (bd_one (sd_ret (ex_call (ok_law_draw T) (hr.mono (by decide)) (by rfl) T.g_law_draw T.F_law_draw.kp T.b_law_draw .nil (fun _ => .nil) (qv 0 (qd_cons (EX.d (ex_op d_pow ed_int ed_int)) qd_nil)) rfl))))))))), fun g Qd Ed h => ?_⟩)
  obtain ⟨bs, p, rfl, hb, ⟨p0, p1⟩, q⟩ := h
  refine ⟨bs, 9, rfl, hb, ⟨by decide, by decide⟩, fun b1 n h1 n0 n1 => ite2 (fun c => ?_) (fun c => ?_)⟩
  · exact ⟨b1, p, rfl, h1, ⟨p0, by omega⟩, fun b2 m h2 m0 m1 => q b2 m h2 (by omega) (by omega)⟩
  refine ite2 (fun c => ?_) (fun c => ?_)
  · exact q b1 0 h1 (by decide) (by decide)
  refine ite2 (fun c => ?_) (fun c => ?_)
  · exact ⟨b1, 4, rfl, h1, ⟨by decide, by decide⟩, fun b2 m h2 m0 m1 => q b2 _ h2 (by omega) (by omega)⟩
  refine ite2 (fun c => ?_) (fun c => ?_)
  · exact ⟨b1, 3, rfl, h1, ⟨by decide, by decide⟩, fun b2 m h2 m0 m1 => q b2 _ h2 (by omega) (by omega)⟩
  have e10 : (10 : Int) ^ (Int.toNat 10) = 10000000000 := by decide
  refine ite2 (fun c => ?_) (fun c => ?_)
  · exact ⟨⟨by decide, by decide, by decide⟩, b1, _, rfl, h1, ⟨by decide, by decide⟩, fun b2 m h2 m0 m1 => q b2 _ h2 (by omega) (by omega)⟩
  · exact ⟨⟨by decide, by decide, by decide⟩, b1, _, rfl, h1, ⟨by decide, by decide⟩, fun b2 m h2 m0 m1 => q b2 _ h2 (by omega) (by omega)⟩

theorem ok_law_raised (T : Txt K mg) : FnOk P w K mg base CX0 1 T.f_law_raised T.fd_law_raised ["base", "times", "prime"] (spD K 3 spRaisedD) := by
  refine fnD T.F_law_raised sc_law_raised rfl (fun cdv A outer s H E hr => ⟨_, (bd_cons (sd_par (i := 3) (j := 4) (by rfl) sc_law_raised.nd rfl rfl (by decide) rfl rfl (ED.x ed_int) (ex_op d_mod (EX.d (ex_callTy b_int (by rfl) T.z_int (by decide +kernel) (ad_cons (dv 0) ad_nil))) (dv 2)) (by rfl))
      (bd_cons (sd_for PassesOwn.never rfl (id_range1 (by rfl) T.z_range (ad_cons ed_int ad_nil)) (gd_name (i := 5) sc_law_raised.nd rfl (Or.inl rfl)) (bd_cons (sd_if (td_cmp (d_eq hr.units) (dv 1) ed_int (nomark _)) (bd_one sd_break) bd_nil)
      (bd_cons (sd_if (td_cmp (d_eq hr.units) (EX.d (ex_op d_mod (EX.d (ex_callTy b_int (by rfl) T.z_int (by decide +kernel) (ad_cons (dv 1) ad_nil))) ed_int)) ed_int (nomark _)) (bd_one (sd_set (i := 3) sc_law_raised.nd rfl (Or.inl rfl) (ex_op d_mod (EX.d (ex_callTy b_int (by rfl) T.z_int (by decide +kernel) (ad_cons (EX.d (ex_op d_mul (dv 3) (dv 4))) ad_nil))) (dv 2)))) bd_nil)
      (bd_cons (sd_set (i := 4) sc_law_raised.nd rfl (Or.inl rfl) (ex_op d_mod (EX.d (ex_callTy b_int (by rfl) T.z_int (by decide +kernel) (ad_cons (EX.d (ex_op d_mul (dv 4) (dv 4))) ad_nil))) (dv 2)))
      (bd_one (sd_set (i := 1) sc_law_raised.nd rfl (Or.inl rfl) (ex_op d_div (EX.d (ex_callTy b_int (by rfl) T.z_int (by decide +kernel) (ad_cons (dv 1) ad_nil))) ed_int)))))))
      (bd_one (sd_ret (xv 3))))), fun g Qd Ed h => ?_⟩)
  obtain ⟨x, n, p, rfl, ⟨p1, p2⟩, hn, q⟩ := h
  have p0 : 0 < p := by omega
  refine ⟨p0, ⟨by decide, by decide⟩, fun i g => ∃ (l m b : Int) (s : Sl), g = [.sh (.int x), .sh (.int l), .sh (.int p), .sh (.int m), .sh (.int b), s] ∧ InvP x n p m b l ∧ l < 2 ^ (40 - i), ⟨_, _, _, _, rfl, powi_start n p1, by show (n : Int) < 2 ^ 40; omega⟩, ?_, ?_⟩
  · rintro i y g2 hy ⟨l, m, b, s, rfl, I, hl⟩
    obtain ⟨hi, _⟩ := range_at hy
    have l0 := I.l0
    have m0 := I.m0
    have m1 := I.m1
    have b0 := I.b0
    have b1 := I.b1
    refine ite2 (fun c => ?_) (fun c => ?_)
    · have e : l = 0 := of_decide_eq_true c
      rw [← powi_end I (by omega)] at q
      exact q
    have lp : 0 < l := by
      have : l ≠ 0 := fun z => c (decide_eq_true z)
      omega
    have half : l / 2 < 2 ^ (40 - (i + 1)) := by
      have hi : i < 40 := hi
      have e : 40 - i = (40 - (i + 1)) + 1 := by omega
      rw [e, Int.pow_succ] at hl
      omega
    refine ⟨(by show (0 : Int) < _; decide), ite2 (fun c => ?_) (fun c => ?_)⟩
    · have o : l % 2 = 1 := of_decide_eq_true c
      exact ⟨.l ⟨by omega, by omega⟩, p0, .l ⟨by omega, by omega⟩, p0, .of (by decide) (by decide), _, _, _, _, rfl, powi_turn1 I lp o, half⟩
    · have o : ¬ l % 2 = 1 := fun z => c (decide_eq_true z)
      exact ⟨.l ⟨by omega, by omega⟩, p0, .of (by decide) (by decide), _, _, _, _, rfl, powi_turn0 I lp o, half⟩
  · rintro g2 ⟨l, m, b, s, rfl, I, hl⟩
    have hl : l < 2 ^ (40 - 40) := hl
    have l0 := I.l0
    have : ¬ 0 < l := by
      have : (2 : Int) ^ (40 - 40) = 1 := rfl
      omega
    rw [← powi_end I this] at q
    exact q

theorem ok_law_inverse (T : Txt K mg) : FnOk P w K mg base CX0 2 T.f_law_inverse T.fd_law_inverse ["digit", "prime"] (spD K 2 spInvFD) := by
  refine fnD T.F_law_inverse sc_law_inverse rfl (fun cdv A outer s H E hr => ⟨_, (bd_one (sd_ret (ex_call (ok_law_raised T) (hr.mono (by decide)) (by rfl) T.g_law_raised T.F_law_raised.kp T.b_law_raised .nil (fun _ => .nil) (qd_cons (dv 0) (qd_cons (EX.d (ex_op d_sub (dv 1) ed_int)) (qd_cons (dv 1) qd_nil))) rfl))), fun g Qd Ed h => ?_⟩)
  obtain ⟨x, p, rfl, ⟨p1, p2⟩, q⟩ := h
  refine ⟨x, (p - 2).toNat, p, ?_, ⟨p1, by omega⟩, by omega, q⟩
  rw [show ((p - 2).toNat : Int) = p - 2 by omega]
  rfl

theorem ok_law_worth (T : Txt K mg) : FnOk P w K mg base CX0 1 T.f_law_worth T.fd_law_worth ["coefs", "spot", "prime"] (spD K 3 spLEvD) := by
  refine fnD T.F_law_worth sc_law_worth rfl (fun cdv A outer s H E hr => ⟨_, (bd_cons (sd_asg (ed_tup (ad_cons ed_int (ad_cons ed_int ad_nil))) (gd_tup (n := 2) (by rfl) (gsd_cons (gd_name (i := 3) sc_law_worth.nd rfl (Or.inl rfl)) (gsd_cons (gd_name (i := 4) sc_law_worth.nd rfl (Or.inl rfl)) gsd_nil))))
      (bd_cons (sd_for PassesOwn.never rfl (id_seq (dv 0)) (gd_name (i := 5) sc_law_worth.nd rfl (Or.inl rfl)) (bd_cons (sd_set (i := 3) sc_law_worth.nd rfl (Or.inl rfl) (ex_op d_mod (EX.d (ex_callTy b_int (by rfl) T.z_int (by decide +kernel) (ad_cons (EX.d (ex_op d_add (dv 3) (EX.d (ex_op d_mul (dv 5) (dv 4))))) ad_nil))) (dv 2)))
      (bd_one (sd_set (i := 4) sc_law_worth.nd rfl (Or.inl rfl) (ex_op d_mod (EX.d (ex_callTy b_int (by rfl) T.z_int (by decide +kernel) (ad_cons (EX.d (ex_op d_mul (dv 4) (dv 1))) ad_nil))) (dv 2))))))
      (bd_one (sd_ret (xv 3))))), fun g Qd Ed h => ?_⟩)
  obtain ⟨cs, x, p, rfl, ⟨p1, p2⟩, q⟩ := h
  have p0 : 0 < p := by omega
  refine ⟨rfl, fun i g => ∃ s, g = [.sh (LI cs), .sh (.int x), .sh (.int p), .sh (.int (ev (cs.take i) x % p)), .sh (.int (x ^ i % p)), s], ⟨.no, ?_⟩, ?_, ?_⟩
  · rw [List.take_zero, show ev [] x % p = 0 from Int.zero_emod p, Int.pow_zero, Int.emod_eq_of_lt (by omega) p1]
    rfl
  · rintro i y g2 hy ⟨s, rfl⟩
    obtain ⟨y, hy2, rfl⟩ := mapI_get hy
    have b0 := Int.emod_nonneg (x ^ i) (show p ≠ 0 by omega)
    have b1 := Int.emod_lt_of_pos (x ^ i) p0
    refine ⟨.r ⟨by omega, by omega⟩, p0, .l ⟨by omega, by omega⟩, p0, .sh (.int y), ?_⟩
    have e2 : x ^ i % p * x % p = x ^ (i + 1) % p := by
      rw [Int.pow_succ]
      exact Cg.iff.mp ((Cg.mod p _).mul (Cg.refl p x))
    rw [← ev_take hy2, ← e2]
    rfl
  · rintro g2 ⟨s, rfl⟩
    rw [List.length_map, List.take_length]
    exact q

theorem ok_law_trim (T : Txt K mg) : FnOk P w K mg base CX0 1 T.f_law_trim T.fd_law_trim ["coefs", "prime"] (spD K 2 spTrmD) := by
  refine fnD T.F_law_trim sc_law_trim rfl (fun cdv A outer s H E hr => ⟨_, (bd_cons (sd_setLc (i := 3) (own := [("coef", 2)]) (by rfl) sc_law_trim.nd rfl rfl (sw_true rfl rfl rfl (by decide +kernel)) (id_seq (dv 0)) (blkOk_by (own := [("coef", 2)]) (N := ["coefs", "prime", "coef", "held", "k"]) (sc := defScope s_law_trim) (by decide +kernel)) (fun _ _ _ _ _ => (gd_name (i := 2) sc_law_trim.nd rfl (Or.inl rfl))) (fun _ _ _ _ _ => tsd_nil) (fun _ _ _ _ _ => (EX.d (ex_op d_mod (EX.d (ex_callTy b_int (by rfl) T.z_int (by decide +kernel) (ad_cons (dv 2) ad_nil))) (dv 1)))))
      (bd_cons (sd_for PassesOwn.never rfl (id_range1 (by rfl) T.z_range (ad_cons (lenv 3 T.z_len) ad_nil)) (gd_name (i := 4) sc_law_trim.nd rfl (Or.inl rfl)) (bd_cons (sd_if (td_cmp (d_ne hr.units) (ixv 3 (ed_neg ed_int)) ed_int (nomark _)) (bd_one sd_break) bd_nil)
      (bd_one (sd_expr (popv 3)))))
      (bd_one (sd_ret (xv 3))))), fun g Qd Ed h => ?_⟩)
  obtain ⟨cs, p, rfl, p0, hl, q⟩ := h
  refine ⟨?_, fun i acc g => g = [.sh (LI cs), .sh (.int p), .no, .no, .no] ∧ acc = (red p (cs.take i)).map .int, ⟨rfl, rfl⟩, ?_, ?_⟩
  · rw [List.length_map]
    exact small_line (by omega)
  · rintro i x acc g2 hx _ ⟨rfl, rfl⟩
    obtain ⟨n, hn, rfl⟩ := mapI_get hx
    exact ⟨p0, rfl, red_take hn⟩
  rintro acc g2 _ ⟨rfl, rfl⟩
  rw [List.length_map, List.take_length]
  have lr : (red p cs).length = cs.length := by
    unfold red
    rw [List.length_map]
  generalize hr2 : red p cs = r at lr
  have hlen : (((r.map D.int).length : Nat) : Int).toNat = cs.length := by rw [List.length_map, lr]; omega
  refine ⟨?_, fun i g => ∃ s, g = [.sh (LI cs), .sh (.int p), .no, .ow (.lst ((r.take (cs.length - i)).map .int)), s] ∧ ∀ j, cs.length - i ≤ j → j < r.length → r[j]? = some 0, ⟨.no, ?_, fun j h1 h2 => absurd h2 (by omega)⟩, ?_, ?_⟩
  · rw [List.length_map]
    exact ⟨by omega, by omega⟩
  · rw [Nat.sub_zero, ← lr, List.take_length]
    rfl
  · rintro i x g2 hx ⟨s, rfl, hz⟩
    obtain ⟨hi, rfl⟩ := range_at hx
    rw [hlen] at hi
    have e1 : cs.length - i = (cs.length - (i + 1)) + 1 := by omega
    have lt : (r.take (cs.length - i)).length = cs.length - i := by rw [List.length_take]; omega
    have eg : (r.take (cs.length - i)).getD ((r.take (cs.length - i)).length - 1) 0 = r.getD (cs.length - (i + 1)) 0 := by
      rw [lt, List.getD_eq_getElem?_getD, List.getD_eq_getElem?_getD, List.getElem?_take_of_lt (by omega)]
      congr 2
    refine ⟨_, atI_lastI (by omega), ite2 (fun c => ?_) (fun c => ?_)⟩
    · have nz : r.getD (cs.length - (i + 1)) 0 ≠ 0 := by
        rw [eg] at c
        intro z
        rw [z] at c
        cases c
      unfold can at q
      rw [hr2, trimZ_take (n := cs.length - i) (by omega) hz (.inr (by rw [e1, Nat.add_sub_cancel]; exact nz))] at q
      exact q
    · have z0 : r.getD (cs.length - (i + 1)) 0 = 0 := by
        rw [eg] at c
        exact Classical.byContradiction fun z => c (by simpa using z)
      refine ⟨.int ((r.take (cs.length - i)).getD ((r.take (cs.length - i)).length - 1) 0), ?_, .sh (.int (0 + (i : Int))), ?_, zeros_at (by omega) (by rw [← e1]; exact hz) z0⟩
      · rw [List.length_map, List.getElem?_map, List.getD_eq_getElem?_getD, List.getElem?_eq_getElem (by omega)]
        rfl
      · have e : (List.map D.int (r.take (cs.length - i))).dropLast = List.map D.int (r.take (cs.length - (i + 1))) := by
          rw [← List.map_dropLast]
          congr 1
          rw [List.dropLast_eq_take, lt, List.take_take, Nat.min_eq_left (by omega)]
          congr 1
        rw [← e]
        rfl
  · rintro g2 ⟨s, rfl, hz⟩
    rw [rng_len, hlen, Nat.sub_self] at hz ⊢
    unfold can at q
    rw [hr2, trimZ_take (n := 0) (Nat.zero_le _) hz (.inl rfl)] at q
    exact q

theorem ok_law_fit (T : Txt K mg) : FnOk P w K mg base CX0 3 T.f_law_fit T.fd_law_fit ["box"] (spD K 1 spFitD) := by
  refine fnD T.F_law_fit sc_law_fit rfl (fun cdv A outer s H E hr => ⟨_, (bd_cons (sd_set (i := 1) sc_law_fit.nd rfl (Or.inl rfl) (ex_lst (ad_cons (ed_tup (ad_cons ed_int (ad_cons ed_int (ad_cons ed_int ad_nil)))) (ad_cons (ed_tup (ad_cons ed_int (ad_cons ed_int (ad_cons ed_int ad_nil)))) (ad_cons (ed_tup (ad_cons ed_int (ad_cons ed_int (ad_cons ed_int ad_nil)))) (ad_cons (ed_tup (ad_cons ed_int (ad_cons ed_int (ad_cons ed_int ad_nil)))) (ad_cons (ed_tup (ad_cons ed_int (ad_cons ed_int (ad_cons ed_int ad_nil)))) (ad_cons (ed_tup (ad_cons ed_int (ad_cons ed_int (ad_cons ed_int ad_nil)))) (ad_cons (ed_tup (ad_cons ed_int (ad_cons ed_int (ad_cons ed_int ad_nil)))) ad_nil)))))))))
      (bd_cons (sd_asg (EX.d (ex_call (ok_law_of T) (hr.mono (by decide)) (by rfl) T.g_law_of T.F_law_of.kp T.b_law_of .nil (fun _ => .nil) (qv 0 (qd_cons (dv 1) qd_nil)) rfl)) (gd_tup (n := 3) (by rfl) (gsd_cons (gd_name (i := 2) sc_law_fit.nd rfl (Or.inl rfl)) (gsd_cons (gd_name (i := 3) sc_law_fit.nd rfl (Or.inl rfl)) (gsd_cons (gd_name (i := 4) sc_law_fit.nd rfl (Or.inl rfl)) gsd_nil)))))
      (bd_cons (sd_set (i := 5) sc_law_fit.nd rfl (Or.inl rfl) (ex_call (ok_law_draw T) (hr.mono (by decide)) (by rfl) T.g_law_draw T.F_law_draw.kp T.b_law_draw .nil (fun _ => .nil) (qv 0 (qd_cons ed_int qd_nil)) rfl))
      (bd_cons (sd_set (i := 6) sc_law_fit.nd rfl (Or.inl rfl) (ex_ifExp (td_cmp d_lt (dv 5) ed_int (nomark _)) (ED.x ed_int) (ex_ifExp (td_cmp d_lt (dv 5) ed_int (nomark _)) (ED.x ed_int) (ex_ifExp (td_cmp d_lt (dv 5) ed_int (nomark _)) (ED.x ed_int) (ED.x ed_int)))))
      (bd_one (sd_ret (ED.x (ed_tup (ad_cons (dv 2) (ad_cons (dv 3) (ad_cons (ed_ix (EX.d (ex_lst (ad_cons ed_int (ad_cons ed_int (ad_cons ed_int (ad_cons ed_int ad_nil)))))) (EX.d (ex_callB (b_min2 rfl) (by rfl) T.z_min (by decide +kernel) (ad_cons (dv 6) (ad_cons (EX.d (ex_op d_sub (dv 4) ed_int)) ad_nil)))) (fun _ _ => rfl)) ad_nil))))))))))), fun g Qd Ed h => ?_⟩)
  obtain ⟨bs, rfl, hb, q⟩ := h
  refine ⟨bs, _, _, rfl, .inl rfl, hb, ⟨by simp, by decide⟩, fun b1 i d h1 hd => ?_⟩
  obtain ⟨p, r, m, hm, rfl⟩ := tbl_get hd
  refine ⟨rfl, b1, 32, rfl, h1, ⟨by decide, by decide⟩, fun b2 w h2 w0 w1 => ?_⟩
  have fin : ∀ k : Int, 0 ≤ k → k ≤ 3 → ∃ d, L2.atI [D.int 4, .int 8, .int 16, .int 32] (min k (m - 1)) = some d ∧ Qd (.sh (.tup [.int p, .int r, d])) [.lst b2] := fun k k0 k3 => by
    obtain ⟨F, h3, h4, h5⟩ := fit_tbl hm k0 k3
    exact ⟨_, rows_at h4 h5 k0 k3, q b2 p r _ h2 F h3⟩
  refine ite2 (fun c => ?_) (fun c => ?_)
  · exact fin 0 (by decide) (by decide)
  refine ite2 (fun c => ?_) (fun c => ?_)
  · exact fin 1 (by decide) (by decide)
  refine ite2 (fun c => ?_) (fun c => ?_)
  · exact fin 2 (by decide) (by decide)
  · exact fin 3 (by decide) (by decide)

theorem ok_law_spots (T : Txt K mg) : FnOk P w K mg base CX0 2 T.f_law_spots T.fd_law_spots ["prime", "root", "high"] (spD K 3 spSpotsD) := by
  refine fnD T.F_law_spots sc_law_spots rfl (fun cdv A outer s H E hr => ⟨_, (bd_cons (sd_set (i := 3) sc_law_spots.nd rfl (Or.inl rfl) (ex_op d_mul ed_int (dv 2)))
      (bd_cons (sd_par4 (i := 4) (j := 5) (l := 6) (m := 7) (by rfl) sc_law_spots.nd rfl rfl rfl rfl (Or.inl rfl) (Or.inl rfl) (Or.inl rfl) (Or.inl rfl) (ex_call (ok_law_raised T) (hr.mono (by decide)) (by rfl) T.g_law_raised T.F_law_raised.kp T.b_law_raised .nil (fun _ => .nil) (qd_cons (dv 1) (qd_cons (EX.d (ex_op d_div (EX.d (ex_op d_sub (dv 0) ed_int)) (dv 3))) (qd_cons (dv 0) qd_nil))) rfl) (ED.x (dv 1)) (ex_lst ad_nil) (ex_lst ad_nil))
      (bd_cons (sd_for PassesOwn.never rfl (id_range1 (by rfl) T.z_range (ad_cons (dv 3) ad_nil)) (gd_name (i := 8) sc_law_spots.nd rfl (Or.inl rfl)) (bd_cons (sd_expr (app 6 (dv 5)))
      (bd_one (sd_set (i := 5) sc_law_spots.nd rfl (Or.inl rfl) (ex_op d_mod (EX.d (ex_callTy b_int (by rfl) T.z_int (by decide +kernel) (ad_cons (EX.d (ex_op d_mul (dv 5) (dv 4))) ad_nil))) (dv 0))))))
      (bd_cons (sd_par (i := 9) (j := 5) (by rfl) sc_law_spots.nd rfl rfl (by decide) rfl rfl (ex_call (ok_law_raised T) (hr.mono (by decide)) (by rfl) T.g_law_raised T.F_law_raised.kp T.b_law_raised .nil (fun _ => .nil) (qd_cons (dv 4) (qd_cons ed_int (qd_cons (dv 0) qd_nil))) rfl) (ED.x ed_int) (by rfl))
      (bd_cons (sd_for PassesOwn.never rfl (id_range1 (by rfl) T.z_range (ad_cons (dv 2) ad_nil)) (gd_name (i := 8) sc_law_spots.nd rfl (Or.inl rfl)) (bd_cons (sd_expr (app 7 (dv 5)))
      (bd_one (sd_set (i := 5) sc_law_spots.nd rfl (Or.inl rfl) (ex_op d_mod (EX.d (ex_callTy b_int (by rfl) T.z_int (by decide +kernel) (ad_cons (EX.d (ex_op d_mul (dv 5) (dv 9))) ad_nil))) (dv 0))))))
      (bd_one (sd_ret (ED.x (ed_tup (ad_cons (dv 6) (ad_cons (dv 7) ad_nil))))))))))), fun g Qd Ed h => ?_⟩)
  obtain ⟨p, r, h, rfl, F, q⟩ := h
  have p0 := F.p0
  have p1 := F.p1
  have r0 := F.r0
  have r1 := F.r1
  have g0 := F.g0
  have g1 := F.g1
  have q0 : 0 ≤ (p - 1) / (16 * h) := Int.ediv_nonneg (by omega) (by omega)
  have en : ((((p - 1) / (16 * h)).toNat : Nat) : Int) = (p - 1) / (16 * h) := Int.toNat_of_nonneg q0
  have rtb : 0 ≤ rtP p r h ∧ rtP p r h < p := ⟨Int.emod_nonneg _ (by omega), Int.emod_lt_of_pos _ (by omega)⟩
  have rrb : 0 ≤ rrP p r h ∧ rrP p r h < p := ⟨Int.emod_nonneg _ (by omega), Int.emod_lt_of_pos _ (by omega)⟩
  refine ⟨.l ⟨by decide, by decide⟩, .of (by omega) (Int.lt_trans (b := 2 ^ 64) (by omega) (by decide)), r, ((p - 1) / (16 * h)).toNat, p, by rw [en]; rfl, ⟨by omega, by omega⟩, ?_, ?_⟩
  · have : ((p - 1) / (16 * h)) ≤ p - 1 := Int.ediv_le_self _ (by omega)
    have e40 : (2 : Nat) ^ 40 = 1099511627776 := rfl
    omega
  refine ⟨⟨by omega, by omega⟩, fun i g => ∃ s8, g = [.sh (.int p), .sh (.int r), .sh (.int h), .sh (.int (16 * h)), .sh (.int (rtP p r h)), .sh (.int (pw p r (rtP p r h) i)), .ow (.lst ((pws p r (rtP p r h) i).map .int)), .ow (.lst []), s8, .no], ⟨.no, rfl⟩, ?_, ?_⟩
  · rintro i x g2 hx ⟨s8, rfl⟩
    obtain ⟨hi, rfl⟩ := range_at hx
    have b := pw_bd (k := rtP p r h) (f := r) (p := p) (by omega) (by omega) (by omega) i
    refine ⟨?_, .l ⟨by omega, by omega⟩, (by show (0 : Int) < p; omega), .sh (.int (0 + (i : Nat))), ?_⟩
    · rw [List.length_map, pws_len]
      exact Nat.lt_of_lt_of_le (m := 100000) (by omega) (by decide)
    · rw [pws_succ, List.map_append]
      rfl
  rintro g2 ⟨s8, rfl⟩
  rw [rng_len]
  refine ⟨rtP p r h, 16, p, rfl, ⟨by omega, by omega⟩, by decide, ⟨by omega, by omega⟩, fun i g => ∃ s8, g = [.sh (.int p), .sh (.int r), .sh (.int h), .sh (.int (16 * h)), .sh (.int (rtP p r h)), .sh (.int (pw p 1 (rrP p r h) i)), .ow (.lst ((wsP p r h).map .int)), .ow (.lst ((pws p 1 (rrP p r h) i).map .int)), s8, .sh (.int (rrP p r h))], ⟨s8, rfl⟩, ?_, ?_⟩
  · rintro i x g2 hx ⟨s8, rfl⟩
    obtain ⟨hi, rfl⟩ := range_at hx
    have b := pw_bd (k := rrP p r h) (f := 1) (p := p) (by omega) (by omega) (by omega) i
    refine ⟨?_, .l ⟨by omega, by omega⟩, (by show (0 : Int) < p; omega), .sh (.int (0 + (i : Nat))), ?_⟩
    · rw [List.length_map, pws_len]
      exact Nat.lt_of_lt_of_le (m := 100000) (by omega) (by decide)
    · rw [pws_succ, List.map_append]
      rfl
  rintro g2 ⟨s8, rfl⟩
  rw [rng_len]
  exact q
end
end DL

set_option maxRecDepth 100000
set_option maxHeartbeats 4000000
-- k01/K01H.lean
namespace K0
open PySem L2 K1
def linL (p r : Int) (m : List Int) : List Int := List.zipWith (fun a b => (a - r * b) % p) (0 :: m) (m ++ [0])
theorem linL_len (p r : Int) (m : List Int) : (linL p r m).length = m.length + 1 := by
  unfold linL
  rw [List.length_zipWith, List.length_cons, List.length_append, List.length_singleton]
  exact Nat.min_self _
def wr (p : Int) (rs : List Int) : List Int := rs.foldl (fun m r => linL p r m) [1]
theorem wr_take {p : Int} {rs : List Int} {i : Nat} {r : Int} (h : rs[i]? = some r) : wr p (rs.take (i + 1)) = linL p r (wr p (rs.take i)) := by
  unfold wr
  rw [List.take_add_one, h, List.foldl_append]
  rfl
theorem wr_len (p : Int) (rs : List Int) : (wr p rs).length = rs.length + 1 := by
  have key : ∀ (rs m : List Int), (rs.foldl (fun m r => linL p r m) m).length = rs.length + m.length := by
    intro rs
    induction rs with
    | nil => intro m; show m.length = 0 + m.length; omega
    | cons r rs ih =>
      intro m
      show (rs.foldl _ (linL p r m)).length = _
      rw [ih, linL_len, List.length_cons]
      omega
  exact key rs [1]
section
end
end K0
-- k01/K01I.lean
namespace K0
open PySem L2 K1
/-- the list divided by x - r, by what its ends are worth at r -/
def synL (p r : Int) (cs : List Int) : List Int := (List.range (cs.drop 1).length).map fun k => ev ((cs.drop 1).drop k) r % p
theorem rev_range {g : Nat → Int} (n : Nat) : ((List.range n).map fun j => g (n - (j + 1))).reverse = (List.range n).map g := by
  apply List.ext_getElem?
  intro i
  by_cases h : i < n
  · rw [List.getElem?_reverse (by rw [List.length_map, List.length_range]; exact h), List.length_map, List.length_range, List.getElem?_map, List.getElem?_map,
      List.getElem?_range (by omega), List.getElem?_range h]
    show some (g (n - (n - 1 - i + 1))) = some (g i)
    congr 2
    omega
  · rw [List.getElem?_eq_none (by rw [List.length_reverse, List.length_map, List.length_range]; omega), List.getElem?_eq_none (by rw [List.length_map, List.length_range]; omega)]
theorem range_map {α : Type} (f : Nat → α) (i : Nat) : (List.range (i + 1)).map f = (List.range i).map f ++ [f i] := by
  rw [List.range_succ, List.map_append]
  rfl
section
end
end K0
-- k01/K01N.lean
namespace K0
open PySem L2 K1
def rts (p : Int) (ds : List (Int × Int)) : List Int := ds.map fun d => d.1 % p
def prt (p : Int) (ds : List (Int × Int)) (i : Nat) : List Int := synL p ((rts p ds).getD i 0) (wr p (rts p ds))
def fct (p : Int) (ds : List (Int × Int)) (i : Nat) : Int := (ds.getD i (0, 0)).2 * invF p (ev (prt p ds i) ((rts p ds).getD i 0) % p)
def tot (p : Int) (ds : List (Int × Int)) : Nat → List Int
  | 0 => List.replicate ds.length 0
  | i + 1 => List.zipWith (fun a b => (a + fct p ds i * b) % p) (tot p ds i) (prt p ds i)
theorem prt_len (p : Int) (ds : List (Int × Int)) (i : Nat) : (prt p ds i).length = ds.length := by
  unfold prt synL
  rw [List.length_map, List.length_range, List.length_drop, wr_len]
  unfold rts
  rw [List.length_map]
  omega
theorem tot_len (p : Int) (ds : List (Int × Int)) (i : Nat) : (tot p ds i).length = ds.length := by
  induction i with
  | zero => exact List.length_replicate
  | succ i ih => show (List.zipWith _ (tot p ds i) _).length = _; rw [List.length_zipWith, ih, prt_len, Nat.min_self]
theorem syn_sm {p r : Int} {cs : List Int} (h : 0 < p) : ∀ z ∈ synL p r cs, 0 ≤ z ∧ z < p := fun z hz => by
  obtain ⟨k, _, rfl⟩ := List.mem_map.mp hz
  exact ⟨Int.emod_nonneg _ (by omega), Int.emod_lt_of_pos _ h⟩
section
end
end K0
-- k01/K1L.lean
namespace K0
open PySem L2 K1
/-! ### Lagrange -/
def lin (r : Int) (m : List Int) : List Int := List.zipWith (fun a b => a - r * b) (0 :: m) (m ++ [0])
theorem lin_len (r : Int) (m : List Int) : (lin r m).length = m.length + 1 := by
  unfold lin
  rw [List.length_zipWith, List.length_cons, List.length_append, List.length_singleton]
  exact Nat.min_self _
def cf (m : List Int) (k : Nat) : Int := m.getD k 0
theorem cf_big {m : List Int} {k : Nat} (h : m.length ≤ k) : cf m k = 0 := by
  unfold cf
  rw [List.getD_eq_getElem?_getD, List.getElem?_eq_none h]
  rfl
theorem cf_lin (r : Int) (m : List Int) (k : Nat) : cf (lin r m) k = cf (0 :: m) k - r * cf m k := by
  by_cases h : k < m.length + 1
  · have e1 : (0 :: m)[k]? = some (cf (0 :: m) k) := by
      unfold cf
      rw [List.getD_eq_getElem?_getD, List.getElem?_eq_getElem (by rw [List.length_cons]; exact h)]
      rfl
    have e2 : (m ++ [0])[k]? = some (cf m k) := by
      by_cases c : k < m.length
      · unfold cf
        rw [List.getElem?_append_left c, List.getD_eq_getElem?_getD, List.getElem?_eq_getElem c]
        rfl
      · rw [cf_big (by omega), List.getElem?_append_right (by omega)]
        have : k - m.length = 0 := by omega
        rw [this]
        rfl
    unfold lin
    show (List.zipWith _ _ _).getD k 0 = _
    rw [List.getD_eq_getElem?_getD, List.getElem?_zipWith, e1, e2]
    rfl
  · rw [cf_big (by rw [lin_len]; omega), cf_big (m := 0 :: m) (by rw [List.length_cons]; omega), cf_big (m := m) (by omega)]
    omega
theorem cf_ext {l m : List Int} (hl : l.length = m.length) (h : ∀ k, cf l k = cf m k) : l = m := by
  apply List.ext_getElem?
  intro k
  by_cases c : k < l.length
  · have := h k
    unfold cf at this
    rw [List.getD_eq_getElem?_getD, List.getD_eq_getElem?_getD, List.getElem?_eq_getElem c, List.getElem?_eq_getElem (hl ▸ c)] at this
    rw [List.getElem?_eq_getElem c, List.getElem?_eq_getElem (hl ▸ c)]
    exact congrArg some this
  · rw [List.getElem?_eq_none (by omega), List.getElem?_eq_none (by omega)]
theorem lin_comm (a b : Int) (m : List Int) : lin a (lin b m) = lin b (lin a m) := by
  refine cf_ext (by rw [lin_len, lin_len, lin_len, lin_len]) fun k => ?_
  rw [cf_lin a (lin b m), cf_lin b (lin a m), cf_lin b m, cf_lin a m]
  have c0 : ∀ l : List Int, cf (0 :: l) 0 = 0 := fun _ => rfl
  have cs : ∀ (l : List Int) (k : Nat), cf (0 :: l) (k + 1) = cf l k := fun _ _ => rfl
  cases k with
  | zero => rw [c0, c0, c0]; grind
  | succ k => rw [cs (lin b m), cs (lin a m), cs m, cf_lin b m, cf_lin a m]; grind
def wr0 (rs : List Int) : List Int := rs.foldl (fun m r => lin r m) [1]
theorem fold_lin (r : Int) (l m : List Int) : l.foldl (fun m r => lin r m) (lin r m) = lin r (l.foldl (fun m r => lin r m) m) := by
  induction l generalizing m with
  | nil => rfl
  | cons a l ih =>
    show l.foldl _ (lin a (lin r m)) = lin r (l.foldl _ (lin a m))
    rw [lin_comm, ih]
theorem wr0_out (l1 l2 : List Int) (r : Int) : wr0 (l1 ++ r :: l2) = lin r (wr0 (l1 ++ l2)) := by
  unfold wr0
  rw [List.foldl_append, List.foldl_append]
  exact fold_lin r l2 _
theorem linL_red (p r : Int) (m : List Int) : linL p r (red p m) = red p (lin r m) := by
  have hl : (red p m).length = m.length := by
    unfold red
    rw [List.length_map]
  have e : linL p r (red p m) = red p (lin r (red p m)) := by
    unfold linL lin red
    rw [List.map_zipWith]
  rw [e]
  refine red_ext (by rw [lin_len, lin_len, hl]) fun i _ => ?_
  have hm : ∀ k, Cg p (cf (red p m) k) (cf m k) := fun k => by
    unfold cf red
    rw [List.getD_eq_getElem?_getD, List.getD_eq_getElem?_getD, List.getElem?_map]
    cases m[k]? with
    | none => exact Cg.refl _ _
    | some z => exact Cg.mod p z
  have h0 : ∀ k, Cg p (cf (0 :: red p m) k) (cf (0 :: m) k) := fun k => by
    cases k with
    | zero => exact Cg.refl _ _
    | succ k => exact hm k
  show Cg p (cf (lin r (red p m)) i) (cf (lin r m) i)
  rw [cf_lin, cf_lin]
  exact (h0 i).sub ((Cg.refl p r).mul (hm i))
theorem wr_red {p : Int} (hp : 1 < p) (rs : List Int) : wr p rs = red p (wr0 rs) := by
  have key : ∀ (rs m : List Int), rs.foldl (fun m r => linL p r m) (red p m) = red p (rs.foldl (fun m r => lin r m) m) := by
    intro rs
    induction rs with
    | nil => intro m; rfl
    | cons a l ih =>
      intro m
      show l.foldl _ (linL p a (red p m)) = red p (l.foldl _ (lin a m))
      rw [linL_red, ih]
  have e : red p [1] = [1] := by
    show [(1 : Int) % p] = [1]
    rw [Int.emod_eq_of_lt (by omega) hp]
  have := key rs [1]
  rw [e] at this
  exact this
theorem ev_lin (r : Int) (m : List Int) (x : Int) : ev (lin r m) x = (x - r) * ev m x := by
  have key : ∀ (m : List Int) (q : Int), ev (List.zipWith (fun a b => a - r * b) (q :: m) (m ++ [0])) x = q + (x - r) * ev m x := by
    intro m
    induction m with
    | nil =>
      intro q
      show (q - r * 0) + x * 0 = q + (x - r) * 0
      omega
    | cons a m ih =>
      intro q
      show (q - r * a) + x * ev (List.zipWith (fun a b => a - r * b) (a :: m) (m ++ [0])) x = q + (x - r) * (a + x * ev m x)
      rw [ih]
      grind
  have := key m 0
  unfold lin
  rw [this]
  omega
/-- the ends of lin r (q :: Q) are worth Q at r -/
theorem ends_lin (p r : Int) : ∀ (m : List Int) (q : Int) (k : Nat), k ≤ m.length → ev ((List.zipWith (fun a b => a - r * b) (q :: m) (m ++ [0])).drop k) r = cf (q :: m) k
  | m, q, 0, _ => by
    have key : ∀ (m : List Int) (q : Int), ev (List.zipWith (fun a b => a - r * b) (q :: m) (m ++ [0])) r = q := by
      intro m
      induction m with
      | nil =>
        intro q
        show (q - r * 0) + r * 0 = q
        omega
      | cons a m ih =>
        intro q
        show (q - r * a) + r * ev (List.zipWith (fun a b => a - r * b) (a :: m) (m ++ [0])) r = q
        rw [ih]
        omega
    exact key m q
  | [], q, k + 1, h => absurd h (by show ¬ k + 1 ≤ 0; omega)
  | a :: m, q, k + 1, h => ends_lin p r m a k (by rw [List.length_cons] at h; omega)
theorem syn_lin {p r : Int} (Q : List Int) (h : 0 < Q.length) : synL p r (red p (lin r Q)) = red p Q := by
  match Q, h with
  | q :: m, _ =>
    have e : (red p (lin r (q :: m))).drop 1 = red p (List.zipWith (fun a b => a - r * b) (q :: m) (m ++ [0])) := rfl
    have hl : (red p (List.zipWith (fun a b => a - r * b) (q :: m) (m ++ [0]))).length = m.length + 1 := by
      unfold red
      rw [List.length_map, List.length_zipWith, List.length_cons, List.length_append, List.length_singleton]
      exact Nat.min_self _
    unfold synL
    rw [e, hl]
    apply List.ext_getElem?
    intro k
    by_cases c : k < m.length + 1
    · rw [List.getElem?_map, List.getElem?_range c]
      have e2 : (red p (List.zipWith (fun a b => a - r * b) (q :: m) (m ++ [0]))).drop k = red p ((List.zipWith (fun a b => a - r * b) (q :: m) (m ++ [0])).drop k) := by
        unfold red
        rw [List.map_drop]
      show some (ev (List.drop k _) r % p) = _
      rw [e2, Cg.iff.mp (ev_red p _ r), ends_lin p r m q k (by omega)]
      unfold red cf
      rw [List.getElem?_map, List.getD_eq_getElem?_getD, List.getElem?_eq_getElem (show k < (q :: m).length by rw [List.length_cons]; exact c)]
      rfl
    · rw [List.getElem?_eq_none (by rw [List.length_map, List.length_range]; omega), List.getElem?_eq_none (by unfold red; rw [List.length_map, List.length_cons]; omega)]
theorem ev_wr0 (rs : List Int) (x : Int) : ∀ z ∈ rs, Cg 0 x z → ev (wr0 rs) x = 0 := fun z hz hx => by
  obtain ⟨l1, l2, e⟩ := List.append_of_mem hz
  subst e
  rw [wr0_out, ev_lin]
  obtain ⟨k, hk⟩ := hx
  have : x - z = 0 := by omega
  rw [this]
  omega
theorem ev_wr0_nz {p x : Int} (P : Prm p) (rs : List Int) (h : ∀ z ∈ rs, ¬ Cg p (x - z) 0) : ¬ Cg p (ev (wr0 rs) x) 0 := by
  induction rs with
  | nil =>
    intro z
    have e : ev (wr0 []) x = 1 := by
      show (1 : Int) + x * 0 = 1
      omega
    rw [e] at z
    have := cg_zero.mp z
    rw [one_mod P] at this
    omega
  | cons a l ih =>
    have e : wr0 (a :: l) = lin a (wr0 l) := wr0_out [] l a
    rw [e, ev_lin]
    intro z
    exact ih (fun y hy => h y (List.mem_cons_of_mem _ hy)) (prm_mul P z (h a List.mem_cons_self))
section
variable {p : Int} {ds : List (Int × Int)}
theorem prt_others (hp : 1 < p) {i : Nat} (hi : i < ds.length) (x : Int) : Cg p (ev (prt p ds i) x) (ev (wr0 ((rts p ds).take i ++ (rts p ds).drop (i + 1))) x) := by
  have lr : (rts p ds).length = ds.length := by
    unfold rts
    rw [List.length_map]
  have e : rts p ds = (rts p ds).take i ++ (rts p ds).getD i 0 :: (rts p ds).drop (i + 1) := by
    rw [List.getD_eq_getElem?_getD, List.getElem?_eq_getElem (by omega)]
    show _ = _ ++ (rts p ds)[i] :: _
    rw [← List.drop_eq_getElem_cons, List.take_append_drop]
  have ew : wr p (rts p ds) = red p (lin ((rts p ds).getD i 0) (wr0 ((rts p ds).take i ++ (rts p ds).drop (i + 1)))) := by
    rw [wr_red hp, ← wr0_out, ← e]
  have l0 : 0 < (wr0 ((rts p ds).take i ++ (rts p ds).drop (i + 1))).length := by
    have := congrArg List.length (wr_red hp ((rts p ds).take i ++ (rts p ds).drop (i + 1)))
    rw [wr_len] at this
    unfold red at this
    rw [List.length_map] at this
    omega
  unfold prt
  rw [ew, syn_lin _ l0]
  exact ev_red p _ x
theorem rts_lt (hp : 1 < p) : ∀ z ∈ rts p ds, 0 ≤ z ∧ z < p := fun z hz => by
  obtain ⟨d, _, rfl⟩ := List.mem_map.mp hz
  exact ⟨Int.emod_nonneg _ (by omega), Int.emod_lt_of_pos _ (by omega)⟩
theorem prt_self (P : Prm p) (nd : (rts p ds).Nodup) {i : Nat} (hi : i < ds.length) : ev (prt p ds i) ((rts p ds).getD i 0) % p ≠ 0 := by
  have p1 := P.1
  have lr : (rts p ds).length = ds.length := by
    unfold rts
    rw [List.length_map]
  intro z
  refine ev_wr0_nz P ((rts p ds).take i ++ (rts p ds).drop (i + 1)) (fun y hy c => ?_) ((prt_others p1 hi _).symm.trans (cg_zero.mpr z))
  have ei : (rts p ds)[i]? = some ((rts p ds).getD i 0) := by
    rw [List.getD_eq_getElem?_getD, List.getElem?_eq_getElem (by omega)]
    rfl
  have b1 := rts_lt p1 _ (List.mem_of_getElem? ei)
  have hy2 : y ∈ rts p ds := by
    rcases List.mem_append.mp hy with h | h
    · exact List.mem_of_mem_take h
    · exact List.mem_of_mem_drop h
  have b2 := rts_lt p1 _ hy2
  have e : (rts p ds).getD i 0 = y := by
    refine Cg.eq_of (p := p) ?_ b1.1 b1.2 b2.1 b2.2
    have := c.add (Cg.refl p y)
    refine (Cg.of_eq (by omega)).trans (this.trans (Cg.of_eq (by omega)))
  have split : rts p ds = (rts p ds).take i ++ (rts p ds).getD i 0 :: (rts p ds).drop (i + 1) := by
    rw [List.getD_eq_getElem?_getD, List.getElem?_eq_getElem (by omega)]
    show _ = _ ++ (rts p ds)[i] :: _
    rw [← List.drop_eq_getElem_cons, List.take_append_drop]
  rw [split, List.nodup_append] at nd
  obtain ⟨_, n2, n3⟩ := nd
  rcases List.mem_append.mp hy with h | h
  · exact n3 y h _ List.mem_cons_self e.symm
  · exact (List.nodup_cons.mp n2).1 (e ▸ h)
theorem prt_other (P : Prm p) {i j : Nat} (hi : i < ds.length) (hj : j < ds.length) (ne : i ≠ j) : Cg p (ev (prt p ds i) ((rts p ds).getD j 0)) 0 := by
  have lr : (rts p ds).length = ds.length := by
    unfold rts
    rw [List.length_map]
  have ej : (rts p ds)[j]? = some ((rts p ds).getD j 0) := by
    rw [List.getD_eq_getElem?_getD, List.getElem?_eq_getElem (by omega)]
    rfl
  have hm : (rts p ds).getD j 0 ∈ (rts p ds).take i ++ (rts p ds).drop (i + 1) := by
    rcases Nat.lt_or_ge j i with h | h
    · refine List.mem_append_left _ (List.mem_of_getElem? (i := j) ?_)
      rw [List.getElem?_take_of_lt h]
      exact ej
    · refine List.mem_append_right _ (List.mem_of_getElem? (i := j - (i + 1)) ?_)
      rw [List.getElem?_drop]
      have : i + 1 + (j - (i + 1)) = j := by omega
      rw [this]
      exact ej
  refine (prt_others P.1 hi _).trans (Cg.of_eq ?_)
  exact ev_wr0 _ _ _ hm (Cg.refl 0 _)
theorem ev_zipm (f : Int) : ∀ (A B : List Int) (x : Int), A.length = B.length → Cg p (ev (List.zipWith (fun a b => (a + f * b) % p) A B) x) (ev A x + f * ev B x)
  | [], [], x, _ => Cg.of_eq (by show (0 : Int) = 0 + f * 0; omega)
  | a :: A, b :: B, x, h => by
    have ih := ev_zipm f A B x (by simpa using h)
    refine ((Cg.mod p (a + f * b)).add ((Cg.refl p x).mul ih)).trans (Cg.of_eq ?_)
    show _ = (a + x * ev A x) + f * (b + x * ev B x)
    grind
theorem ev_zero (n : Nat) (x : Int) : ev (List.replicate n 0) x = 0 := by
  induction n with
  | zero => rfl
  | succ n ih =>
    rw [List.replicate_succ]
    show (0 : Int) + x * ev (List.replicate n 0) x = 0
    rw [ih]
    omega
/-- through the points -/
theorem tot_ok (P : Prm p) (nd : (rts p ds).Nodup) {j : Nat} (hj : j < ds.length) : Cg p (ev (tot p ds ds.length) ((rts p ds).getD j 0)) (ds.getD j (0, 0)).2 := by
  have key : ∀ k, k ≤ ds.length → Cg p (ev (tot p ds k) ((rts p ds).getD j 0)) (if j < k then (ds.getD j (0, 0)).2 else 0) := by
    intro k
    induction k with
    | zero =>
      intro _
      rw [if_neg (by omega)]
      exact Cg.of_eq (ev_zero _ _)
    | succ k ih =>
      intro hk
      have h0 := ih (by omega)
      have h1 := ev_zipm (p := p) (fct p ds k) (tot p ds k) (prt p ds k) ((rts p ds).getD j 0) (by rw [tot_len, prt_len])
      refine h1.trans ?_
      by_cases e : k = j
      · subst e
        rw [if_neg (by omega)] at h0
        rw [if_pos (by omega)]
        have nz := prt_self P nd hj
        have inv : Cg p (invF p (ev (prt p ds k) ((rts p ds).getD k 0) % p) * ev (prt p ds k) ((rts p ds).getD k 0)) 1 := by
          have nz2 : ev (prt p ds k) ((rts p ds).getD k 0) % p % p ≠ 0 := by
            rw [Int.emod_emod_of_dvd _ (Int.dvd_refl p)]
            exact nz
          have := cg_one P (fermat_inv P nz2)
          exact ((Cg.refl p _).mul (Cg.mod p _).symm).trans this
        have f2 : Cg p (fct p ds k * ev (prt p ds k) ((rts p ds).getD k 0)) (ds.getD k (0, 0)).2 := by
          unfold fct
          refine (Cg.of_eq (Int.mul_assoc _ _ _)).trans (((Cg.refl p _).mul inv).trans (Cg.of_eq (by omega)))
        exact (h0.add f2).trans (Cg.of_eq (by omega))
      · have z := prt_other P (by omega : k < ds.length) hj e
        have f2 : Cg p (fct p ds k * ev (prt p ds k) ((rts p ds).getD j 0)) 0 := ((Cg.refl p _).mul z).trans (Cg.of_eq (by omega))
        have := h0.add f2
        by_cases c : j < k
        · rw [if_pos c] at this
          rw [if_pos (by omega)]
          exact this.trans (Cg.of_eq (by omega))
        · rw [if_neg c] at this
          rw [if_neg (by omega)]
          exact this.trans (Cg.of_eq (by omega))
  have := key ds.length (Nat.le_refl _)
  rwa [if_pos hj] at this
end
end K0
-- k01/K01W.lean
namespace K0
open PySem L2 K1
def prD (d : Int × Int) : PyData := .tuple [.int d.1, .int d.2]
theorem lay_prs (ds : List (Int × Int)) : PyData.canLayAll0 (ds.map prD) = true := by
  induction ds with
  | nil => rfl
  | cons n ns ih =>
    rw [List.map_cons]
    simp [prD, PyData.canLayAll0, PyData.canLay0, ih]
theorem dep_prs (ds : List (Int × Int)) : PyData.depthAll (ds.map prD) ≤ 2 := by
  induction ds with
  | nil => simp [PyData.depthAll]
  | cons n ns ih =>
    rw [List.map_cons]
    simp [prD, PyData.depthAll, PyData.depth]
    omega
theorem shP (ds : List (Int × Int)) : SeqAt.shaped (.list (ds.map prD)) = true := by
  have h1 := lay_prs ds
  have h2 := dep_prs ds
  unfold SeqAt.shaped
  simp [PyData.canLay0, PyData.depth, h1]
  omega
theorem eqP (ds : List (Int × Int)) : PyData.eqv (.list (ds.map prD)) (.list (ds.map prD)) = true := SeqAt.eqv_refl _ (SeqAt.canLay_of_shaped (shP ds))
theorem all_rep (n : Nat) : (List.replicate n true).all id = true := by
  rw [List.all_eq_true]
  intro x hx
  rw [(List.mem_replicate.mp hx).2]
  rfl
theorem dot_ok {p : Int} {ds : List (Int × Int)} (P : Prm p) (nd : (rts p ds).Nodup) {j : Nat} {d : Int × Int} (h : ds[j]? = some d) : ev (can p (tot p ds ds.length)) d.1 % p = d.2 % p := by
  have hj := (List.getElem?_eq_some_iff.mp h).1
  have e1 : (rts p ds).getD j 0 = d.1 % p := by
    refine getD_of ?_
    unfold rts
    rw [List.getElem?_map, h]
    rfl
  have e2 : ds.getD j (0, 0) = d := by
    rw [List.getD_eq_getElem?_getD, h]
    rfl
  have t := tot_ok P nd hj
  rw [e1, e2] at t
  exact Cg.iff.mp ((ev_can p _ _).trans ((ev_x _ (Cg.mod p d.1).symm).trans t))
theorem len_of_sub : ∀ (l D : List Int), l.Nodup → (∀ x ∈ l, x ∈ D) → l.length ≤ D.length
  | [], _, _, _ => Nat.zero_le _
  | x :: l, D, hn, hs => by
    obtain ⟨h1, h2⟩ := List.nodup_cons.mp hn
    have hx : x ∈ D := hs x List.mem_cons_self
    have ih := len_of_sub l (D.erase x) h2 fun y hy =>
      (List.mem_erase_of_ne (fun e : y = x => h1 (e ▸ hy))).2 (hs y (List.mem_cons_of_mem _ hy))
    have e := List.length_erase_of_mem hx
    have hp : 0 < D.length := List.length_pos_of_mem hx
    rw [List.length_cons]
    omega
/-- the walk to a free place -/
def Wk (p s0 : Int) (pool : List Int) (j : Nat) (s : Int) : Prop := s ∉ pool ∨ (s = (s0 + j) % p ∧ ∀ i, i < j → (s0 + i) % p ∈ pool)
theorem wk_turn {p s0 s : Int} {pool : List Int} {j : Nat} (h : Wk p s0 pool j s) (hs : s ∈ pool) : Wk p s0 pool (j + 1) ((s + 1) % p) := by
  rcases h with h | ⟨e, h⟩
  · exact absurd hs h
  · refine .inr ⟨?_, fun i hi => ?_⟩
    · rw [e]
      refine Cg.iff.mp (((Cg.mod p _).add (Cg.refl p 1)).trans (Cg.of_eq ?_))
      omega
    · by_cases c : i < j
      · exact h i c
      · have : i = j := by omega
        rw [this, ← e]
        exact hs
theorem wk_stay {p s0 s : Int} {pool : List Int} {j : Nat} (hs : s ∉ pool) : Wk p s0 pool (j + 1) s := .inl hs
theorem wk_end {p s0 s : Int} {pool : List Int} {n : Nat} (h : Wk p s0 pool n s) (hl : pool.length < n) (hn : (n : Int) ≤ p) : s ∉ pool := by
  rcases h with h | ⟨_, h⟩
  · exact h
  · exfalso
    have q := len_of_sub ((List.range n).map fun i => (s0 + (i : Nat)) % p) pool ?_ ?_
    · rw [List.length_map, List.length_range] at q
      omega
    · refine List.pairwise_map.mpr (List.Pairwise.imp_of_mem (R := fun a b => a < b) ?_ List.pairwise_lt_range)
      intro a c ha hc hac e
      have ha' := List.mem_range.mp ha
      have hc' := List.mem_range.mp hc
      obtain ⟨k, hk⟩ := Cg.iff.mpr e
      have hk2 : (a : Int) - c = p * k := by omega
      have k0 : k ≠ 0 := fun z => by
        rw [z] at hk2
        omega
      have hp : 0 < p := by omega
      rcases Int.lt_or_gt_of_ne k0 with z | z
      · have : p * k ≤ p * (-1) := Int.mul_le_mul_of_nonneg_left (by omega) (by omega)
        omega
      · have : p * 1 ≤ p * k := Int.mul_le_mul_of_nonneg_left (by omega) (by omega)
        omega
    · intro x hx
      obtain ⟨i, hi, rfl⟩ := List.mem_map.mp hx
      exact h i (List.mem_range.mp hi)
section
end
end K0

set_option maxRecDepth 100000
set_option maxHeartbeats 4000000
/-! sums, the inverse of the stretching, interpolation is unique -/
namespace K0
open PySem L2 K1
def sm (n : Nat) (f : Nat → Int) : Int := match n with
  | 0 => 0
  | n + 1 => sm n f + f n
theorem sm_cg {p : Int} {f g : Nat → Int} : ∀ n, (∀ i, i < n → Cg p (f i) (g i)) → Cg p (sm n f) (sm n g)
  | 0, _ => Cg.refl p 0
  | n + 1, h => (sm_cg n fun i hi => h i (by omega)).add (h n (by omega))
theorem sm_eq {f g : Nat → Int} : ∀ n, (∀ i, i < n → f i = g i) → sm n f = sm n g
  | 0, _ => rfl
  | n + 1, h => by
    show sm n f + f n = sm n g + g n
    rw [sm_eq n fun i hi => h i (by omega), h n (by omega)]
theorem sm_add (f g : Nat → Int) : ∀ n, sm n (fun i => f i + g i) = sm n f + sm n g
  | 0 => rfl
  | n + 1 => by
    show sm n _ + (f n + g n) = sm n f + f n + (sm n g + g n)
    rw [sm_add f g n]
    omega
theorem sm_mul (c : Int) (f : Nat → Int) : ∀ n, sm n (fun i => c * f i) = c * sm n f
  | 0 => by show (0 : Int) = c * 0; omega
  | n + 1 => by
    show sm n _ + c * f n = c * (sm n f + f n)
    rw [sm_mul c f n, Int.mul_add]
theorem sm_zero (n : Nat) : sm n (fun _ => 0) = 0 := by
  induction n with
  | zero => rfl
  | succ n ih => show sm n _ + 0 = 0; rw [ih]; rfl
theorem sm_swap (f : Nat → Nat → Int) (m : Nat) : ∀ n, sm n (fun i => sm m (f i)) = sm m (fun j => sm n fun i => f i j)
  | 0 => (sm_zero m).symm
  | n + 1 => by
    show sm n _ + sm m (f n) = sm m (fun j => sm n (fun i => f i j) + f n j)
    rw [sm_swap f m n, ← sm_add]
theorem sm_one (n : Nat) : sm n (fun _ => 1) = n := by
  induction n with
  | zero => rfl
  | succ n ih => show sm n _ + 1 = _; rw [ih]; omega
theorem sm_pick (c : Int) (k : Nat) (f : Nat → Int) : ∀ n, k < n → (∀ i, i < n → i ≠ k → f i = 0) → f k = c → sm n f = c
  | 0, h, _, _ => absurd h (by omega)
  | n + 1, h, hz, hc => by
    show sm n f + f n = c
    by_cases e : k = n
    · subst e
      rw [sm_eq (g := fun _ => 0) k fun i hi => hz i (by omega) (by omega), sm_zero, hc, Int.zero_add]
    · rw [sm_pick c k f n (by omega) (fun i hi => hz i (by omega)) hc, hz n (by omega) (fun z => e z.symm), Int.add_zero]
theorem ev_sm (f : Nat → Int) (x : Int) : ∀ n, ev ((List.range n).map f) x = sm n fun i => f i * x ^ i
  | 0 => rfl
  | n + 1 => by
    rw [range_map, ev_snoc, ev_sm f x n, List.length_map, List.length_range]
    show _ + x ^ n * f n = _ + f n * x ^ n
    rw [Int.mul_comm]
theorem sum_sm (f : Nat → Int) : ∀ n, ((List.range n).map f).sum = sm n f
  | 0 => rfl
  | n + 1 => by
    rw [range_map, List.sum_append, sum_sm f n]
    show _ + (f n + 0) = _
    rw [Int.add_zero]
    rfl
theorem geo {p y : Int} (n : Nat) : (y - 1) * sm n (fun k => y ^ k) = y ^ n - 1 := by
  induction n with
  | zero => show (y - 1) * 0 = y ^ 0 - 1; rw [Int.pow_zero]; omega
  | succ n ih =>
    show (y - 1) * (sm n _ + y ^ n) = _
    rw [Int.mul_add, ih, Int.sub_mul, Int.pow_succ, Int.one_mul, Int.mul_comm y]
    omega
theorem geo_zero {p y : Int} {n : Nat} (P : Prm p) (h : Cg p (y ^ n) 1) (ny : ¬ Cg p y 1) : Cg p (sm n fun k => y ^ k) 0 := by
  refine prm_mul P (a := y - 1) ?_ fun z => ny ?_
  · rw [geo (p := p)]
    have := h.sub (Cg.refl p 1)
    simpa using this
  · have := z.add (Cg.refl p 1)
    simpa using this
theorem pow_per {p h : Int} {n : Nat} (hn : Cg p (h ^ n) 1) (a : Nat) : Cg p (h ^ a) (h ^ (a % n)) := by
  have e : h ^ a = (h ^ n) ^ (a / n) * h ^ (a % n) := by
    rw [← Int.pow_mul, ← Int.pow_add, Nat.div_add_mod]
  rw [e]
  have := (hn.pow (a / n)).mul (Cg.refl p (h ^ (a % n)))
  rwa [Int.one_pow, Int.one_mul] at this
theorem pow_same {p h : Int} {n a b : Nat} (hn : Cg p (h ^ n) 1) (e : a % n = b % n) : Cg p (h ^ a) (h ^ b) := by
  have h1 := pow_per hn a
  rw [e] at h1
  exact h1.trans (pow_per hn b).symm
/-- h: a root of 1 of order n -/
structure Rt (p h : Int) (n : Nat) : Prop where
  P : Prm p
  one : Cg p (h ^ n) 1
  ord : ∀ d, 0 < d → d < n → ¬ Cg p (h ^ d) 1
  n0 : 0 < n
  np : (n : Int) < p
def ngm (n k m : Nat) : Nat := ((0 - (k : Int) * m) % n).toNat
/-- one coefficient as the law reckons it -/
def dft (p turn : Int) (lane hs : List Int) (k : Nat) : Int := turn * sm hs.length (fun m => lane.getD m 0 * hs.getD (ngm hs.length k m) 0) % p
def dfts (p turn : Int) (lane hs : List Int) : List Int := (List.range hs.length).map (dft p turn lane hs)
theorem ngm_lt {n : Nat} (h : 0 < n) (k m : Nat) : ngm n k m < n := by
  unfold ngm
  have := Int.emod_lt_of_pos (0 - (k : Int) * m) (show (0 : Int) < n by omega)
  have := Int.emod_nonneg (0 - (k : Int) * m) (show (n : Int) ≠ 0 by omega)
  omega
theorem orth {p h : Int} {n : Nat} (R : Rt p h n) {m m' : Nat} (hm : m < n) (hm' : m' < n) : Cg p (sm n fun k => h ^ (m * k) * h ^ ngm n k m') (if m = m' then n else 0) := by
  have n0 := R.n0
  have key : ∀ k, k < n → Cg p (h ^ (m * k) * h ^ ngm n k m') ((h ^ (((m : Int) - m') % n).toNat) ^ k) := fun k _ => by
    rw [← Int.pow_add, ← Int.pow_mul]
    refine pow_same R.one ?_
    have a1 := Int.emod_nonneg ((m : Int) - m') (show (n : Int) ≠ 0 by omega)
    have a2 := Int.emod_nonneg (0 - (k : Int) * m') (show (n : Int) ≠ 0 by omega)
    apply Int.ofNat_inj.mp
    unfold ngm
    push_cast
    rw [Int.toNat_of_nonneg a1, Int.toNat_of_nonneg a2, Int.add_emod_emod, show ((m : Int) - m') % n * k % n = ((m : Int) - m') * k % n from Cg.iff.mp ((Cg.mod n _).mul (Cg.refl n _))]
    congr 1
    rw [Int.sub_mul, Int.mul_comm (m' : Int) (k : Int)]
    omega
  refine (sm_cg n key).trans ?_
  by_cases e : m = m'
  · subst e
    rw [if_pos rfl, Int.sub_self, Int.zero_emod]
    refine Cg.of_eq ?_
    have : ∀ k : Nat, (h ^ (0 : Int).toNat) ^ k = 1 := fun k => by
      show (h ^ 0) ^ k = 1
      rw [Int.pow_zero, Int.one_pow]
    rw [sm_eq (g := fun _ => 1) n fun i _ => this i, sm_one]
  · rw [if_neg e]
    have d0 : 0 < (((m : Int) - m') % n).toNat ∧ (((m : Int) - m') % n).toNat < n := by
      have a1 := Int.emod_nonneg ((m : Int) - m') (show (n : Int) ≠ 0 by omega)
      have a2 := Int.emod_lt_of_pos ((m : Int) - m') (show (0 : Int) < n by omega)
      refine ⟨?_, by omega⟩
      rcases Nat.eq_zero_or_pos (((m : Int) - m') % n).toNat with z | z
      · have z : ((m : Int) - m') % n = 0 := by omega
        exfalso
        have dv := Int.dvd_of_emod_eq_zero z
        obtain ⟨c, hc⟩ := dv
        rcases Int.lt_trichotomy c 0 with h | h | h
        · have : (n : Int) * c ≤ (n : Int) * (-1) := Int.mul_le_mul_of_nonneg_left (by omega) (by omega)
          omega
        · subst h
          omega
        · have : (n : Int) * 1 ≤ (n : Int) * c := Int.mul_le_mul_of_nonneg_left (by omega) (by omega)
          omega
      · exact z
    refine geo_zero R.P ?_ (R.ord _ d0.1 d0.2)
    rw [← Int.pow_mul, Nat.mul_comm, Int.pow_mul]
    have := R.one.pow (((m : Int) - m') % n).toNat
    rwa [Int.one_pow] at this
theorem getD_rng {α : Type} {f : Nat → α} {n k : Nat} {d : α} (h : k < n) : ((List.range n).map f).getD k d = f k := by
  rw [List.getD_eq_getElem?_getD, List.getElem?_map, List.getElem?_range h]
  rfl
/-- the coefficients have the lane's worths -/
theorem dft_ok {p h turn : Int} {lane hs : List Int} (R : Rt p h hs.length) (hh : ∀ k, k < hs.length → Cg p (hs.getD k 0) (h ^ k)) (ht : Cg p (turn * hs.length) 1) {m : Nat} (hm : m < hs.length) :
    Cg p (ev (dfts p turn lane hs) (hs.getD m 0)) (lane.getD m 0) := by
  have n0 := R.n0
  refine (ev_x _ (hh m hm)).trans ?_
  unfold dfts
  rw [ev_sm]
  generalize hn : hs.length = n at *
  have s1 : Cg p (sm n fun k => dft p turn lane hs k * (h ^ m) ^ k) (sm n fun k => turn * sm n fun m' => lane.getD m' 0 * (h ^ (m * k) * h ^ ngm n k m')) := sm_cg n fun k hk => by
    unfold dft
    rw [hn, ← Int.pow_mul]
    refine ((Cg.mod p _).mul (Cg.refl p _)).trans ?_
    rw [Int.mul_assoc, Int.mul_comm (sm n _), ← sm_mul]
    refine (Cg.refl p turn).mul (sm_cg n fun m' hm' => ?_)
    have := (Cg.refl p (lane.getD m' 0)).mul ((Cg.refl p (h ^ (m * k))).mul (hh _ (ngm_lt n0 k m')))
    refine Cg.trans (Cg.of_eq ?_) this
    rw [← Int.mul_assoc, ← Int.mul_assoc, Int.mul_comm (h ^ (m * k))]
  refine s1.trans ?_
  rw [sm_mul, sm_swap]
  have s2 : Cg p (sm n fun m' => sm n fun k => lane.getD m' 0 * (h ^ (m * k) * h ^ ngm n k m')) (lane.getD m 0 * n) := by
    refine Cg.trans (sm_cg (g := fun m' => lane.getD m' 0 * (if m = m' then (n : Int) else 0)) n fun m' hm' => ?_) (Cg.of_eq ?_)
    · rw [sm_mul]
      exact (Cg.refl p _).mul (orth R hm hm')
    · refine sm_pick _ m _ n hm (fun i _ hi => ?_) ?_
      · rw [if_neg (fun z => hi z.symm), Int.mul_zero]
      · rw [if_pos rfl]
  refine ((Cg.refl p turn).mul s2).trans ?_
  have := (Cg.refl p (lane.getD m 0)).mul ht
  rw [Int.mul_one] at this
  refine Cg.trans (Cg.of_eq ?_) this
  rw [← Int.mul_assoc, Int.mul_comm turn, Int.mul_assoc]
/-! two lists that agree at as many places -/
def subL (A B : List Int) (n : Nat) : List Int := (List.range n).map fun i => A.getD i 0 - B.getD i 0
theorem ev_pad (A : List Int) (n : Nat) (h : A.length ≤ n) (x : Int) : sm n (fun i => A.getD i 0 * x ^ i) = ev A x := by
  have e : ev ((List.range n).map fun i => A.getD i 0) x = ev A x := by
    have e2 : (List.range n).map (fun i => A.getD i 0) = A ++ List.replicate (n - A.length) 0 := by
      apply List.ext_getElem?
      intro i
      by_cases hi : i < n
      · rw [List.getElem?_map, List.getElem?_range hi]
        show some (A.getD i 0) = _
        rw [List.getElem?_append]
        by_cases ha : i < A.length
        · rw [if_pos ha, List.getD_eq_getElem?_getD, List.getElem?_eq_getElem ha]
          rfl
        · rw [if_neg ha, List.getElem?_replicate, if_pos (by omega), List.getD_eq_getElem?_getD, List.getElem?_eq_none (by omega)]
          rfl
      · rw [List.getElem?_eq_none (by simp; omega), List.getElem?_eq_none (by simp; omega)]
    rw [e2, ← ev_trim, trimZ_zeros, ev_trim]
  rw [← e, ev_sm]
theorem ev_sub {A B : List Int} {n : Nat} (ha : A.length ≤ n) (hb : B.length ≤ n) (x : Int) : ev (subL A B n) x = ev A x - ev B x := by
  unfold subL
  rw [ev_sm, ← ev_pad A n ha, ← ev_pad B n hb]
  have : ∀ f g : Nat → Int, sm n f - sm n g = sm n fun i => f i - g i := fun f g => by
    have h1 := sm_add f (fun i => -1 * g i) n
    rw [sm_mul] at h1
    have h2 : sm n (fun i => f i - g i) = sm n fun i => f i + -1 * g i := sm_eq n fun i _ => by omega
    omega
  rw [this]
  exact sm_eq n fun i _ => Int.sub_mul _ _ _
theorem can_nil {p : Int} {l : List Int} (h : can p l = []) : ∀ i, l.getD i 0 % p = 0 := fun i => by
  have key : ∀ m : List Int, trimZ m = [] → ∀ z ∈ m, z = 0 := by
    intro m
    induction m with
    | nil => intro _ z hz; cases hz
    | cons a m ih =>
      intro h z hz
      rw [trimZ_cons] at h
      split at h
      · rename_i hh
        rcases List.mem_cons.mp hz with rfl | hz
        · exact hh.2
        · exact ih hh.1 z hz
      · cases h
  by_cases hi : i < l.length
  · have hm : l.getD i 0 % p ∈ red p l := by
      unfold red
      refine List.mem_map.mpr ⟨l.getD i 0, ?_, rfl⟩
      rw [List.getD_eq_getElem?_getD, List.getElem?_eq_getElem hi]
      exact List.getElem_mem hi
    exact key _ h _ hm
  · rw [List.getD_eq_getElem?_getD, List.getElem?_eq_none (by omega)]
    exact Int.zero_emod p
theorem can_ext {p : Int} {A B : List Int} {n : Nat} (ha : A.length ≤ n) (hb : B.length ≤ n) (h : can p (subL A B n) = []) : can p A = can p B := by
  have h1 : can p A = can p (padL A n) := by unfold padL; rw [can_zeros]
  have h2 : can p B = can p (padL B n) := by unfold padL; rw [can_zeros]
  rw [h1, h2]
  unfold can
  congr 1
  refine red_ext (by rw [padL_len ha, padL_len hb]) fun i hi => ?_
  rw [padL_len ha] at hi
  have z := can_nil h i
  unfold subL at z
  rw [getD_rng hi] at z
  have pad : ∀ {A : List Int}, (padL A n).getD i 0 = A.getD i 0 := fun {A} => by
    unfold padL
    rw [List.getD_eq_getElem?_getD, List.getD_eq_getElem?_getD, List.getElem?_append]
    by_cases hA : i < A.length
    · rw [if_pos hA]
    · rw [if_neg hA, List.getElem?_eq_none (l := A) (by omega), List.getElem?_replicate]
      split <;> rfl
  rw [pad, pad]
  have := (cg_zero.mpr z).add (Cg.refl p (B.getD i 0))
  simpa using this
/-- two lists of at most as many coefficients as places, that agree at the places -/
theorem can_uniq {p : Int} (P : Prm p) {A B hs : List Int} (nd : hs.Nodup) (hb : ∀ h ∈ hs, 0 ≤ h ∧ h < p) (hA : A.length ≤ hs.length) (hB : B.length ≤ hs.length) (hR : (hs.length : Int) ≤ p - 1) (h : ∀ z ∈ hs, Cg p (ev A z) (ev B z)) : can p A = can p B := by
  refine can_ext hA hB (roots_zero P nd hb (by unfold subL; simp) (by unfold subL; simpa using hR) fun z hz => ?_)
  rw [ev_sub hA hB]
  have := (h z hz).sub (Cg.refl p (ev B z))
  simpa using this
/-- .. and where they don't agree they part -/
theorem agree_few {p : Int} (P : Prm p) {A B ws : List Int} {n : Nat} (nd : ws.Nodup) (hb : ∀ h ∈ ws, 0 ≤ h ∧ h < p) (hA : A.length ≤ n) (hB : B.length ≤ n) (hR : (n : Int) ≤ p - 1) {x : Int} (hx : ¬ Cg p (ev A x) (ev B x)) :
    (ws.filter fun z => decide (ev A z % p = ev B z % p)).length < n := by
  refine Nat.lt_of_not_le fun hle => hx ?_
  have z := roots_zero P (R := subL A B n) (hs := ws.filter fun z => decide (ev A z % p = ev B z % p)) (nd.filter _) (fun h hm => hb h (List.mem_filter.mp hm).1) (by unfold subL; simpa using hle) (by unfold subL; simpa using hR) fun z hz => by
    have := of_decide_eq_true (List.mem_filter.mp hz).2
    rw [ev_sub hA hB]
    have := (Cg.iff.mpr this).sub (Cg.refl p (ev B z))
    simpa using this
  have e := can_ext hA hB z
  have h1 := (ev_can p A x).symm
  rw [e] at h1
  exact h1.trans (ev_can p B x)
end K0

set_option maxRecDepth 100000
set_option maxHeartbeats 4000000
namespace DL
open PySem L2 K0 K1
theorem hsP_bd {p k r : Int} (F : FitP p k r) : ∀ z ∈ hsP p k r, 0 ≤ z ∧ z < p := fun z hz => by
  have := F.p0
  unfold hsP pws at hz
  obtain ⟨i, _, rfl⟩ := List.mem_map.mp hz
  exact pw_bd (by omega) (by omega) (by omega) i
theorem inv_tbl : ∀ e ∈ listedP, ∀ r ∈ ([4, 8, 16, 32] : List Int), fitsB (.int e.1) (.int r) = true → (tbl.any fun t => decide (t.1 = e.1) && (decide (t.2.1 = e.2) && ([0, 1, 2, 3] : List Int).any fun q => decide (rOf t.2.2 q = r))) = true := by decide +kernel
theorem tbl_of {p k r : Int} (F : FitP p k r) (r32 : r ≤ 32) : ∃ m q, (p, k, m) ∈ tbl ∧ q ∈ ([0, 1, 2, 3] : List Int) ∧ r = rOf m q := by
  have h := inv_tbl _ (root_cases F.root) r (by have := rows_in F; simp only [List.mem_cons, List.not_mem_nil, or_false]; omega) F.fits
  obtain ⟨t, ht, h⟩ := List.any_eq_true.mp h
  rw [Bool.and_eq_true, Bool.and_eq_true] at h
  obtain ⟨h1, h2, h3⟩ := h
  obtain ⟨q, hq, h3⟩ := List.any_eq_true.mp h3
  have h1 := of_decide_eq_true h1
  have h2 := of_decide_eq_true h2
  obtain ⟨a, b, c⟩ := t
  have h1 : a = p := h1
  have h2 : b = k := h2
  subst h1 h2
  exact ⟨c, q, ht, hq, (of_decide_eq_true h3).symm⟩
theorem over_all {p k r : Int} (F : FitP p k r) (r32 : r ≤ 32) : ovr p (hsP p k r) = (p - 1) :: (List.replicate (r.toNat - 1) 0 ++ [1]) := by
  obtain ⟨m, q, h1, h2, rfl⟩ := tbl_of F r32
  rw [hs_eq F]
  exact ovr_tbl _ h1 q h2
theorem primes_tbl : ∀ e ∈ tbl, e.1 ∈ primes := by decide +kernel
theorem prm_fit {p k r : Int} (F : FitP p k r) (r32 : r ≤ 32) : Prm p := by
  obtain ⟨m, q, h1, h2, rfl⟩ := tbl_of F r32
  exact prm_all _ (primes_tbl _ h1)
/-- no place is a row's place -/
theorem ws_nz {p k r : Int} (F : FitP p k r) (r32 : r ≤ 32) : ∀ x ∈ wsP p k r, x ^ r.toNat % p ≠ 1 := fun x hx => by
  obtain ⟨m, q, h1, h2, rfl⟩ := tbl_of F r32
  have h := ws_tbl _ h1 q h2
  rw [ws_eq F] at hx
  have h3 := of_decide_eq_true (List.all_eq_true.mp h x hx)
  have h4 := F.r1
  have e := pm_eq p 7 x (rOf m q).toNat (by have : (2 : Nat) ^ 7 = 128 := rfl; omega)
  intro z
  exact h3 (e.trans z)
theorem can_mem {p : Int} (p0 : 0 < p) {l : List Int} {z : Int} (h : z ∈ can p l) : 0 ≤ z ∧ z < p := by
  have e := red_fix (l := l) z (trimZ_mem z h)
  have := Int.emod_nonneg z (show p ≠ 0 by omega)
  have := Int.emod_lt_of_pos z p0
  omega
theorem ovr_can {p : Int} {l : List Int} (h : l ≠ []) : ∃ y, ovr p l = can p y := by
  have e : l = l.dropLast ++ [l.getLast h] := (List.dropLast_concat_getLast h).symm
  rw [e, ovr_snoc]
  exact ⟨_, rfl⟩
theorem lin_app (a b : List Int) (x : Int) : BM.lin (a ++ b) x = BM.lin a x * BM.lin b x := by
  induction a with
  | nil => show _ = 1 * _; rw [Int.one_mul]; rfl
  | cons z a ih => show (x - z) * BM.lin (a ++ b) x = (x - z) * BM.lin a x * _; rw [ih, Int.mul_assoc]
theorem lin_zero {a : List Int} {x : Int} (h : x ∈ a) : BM.lin a x = 0 := by
  induction a with
  | nil => cases h
  | cons z a ih =>
    show (x - z) * BM.lin a x = 0
    rcases List.mem_cons.mp h with rfl | h
    · rw [Int.sub_self, Int.zero_mul]
    · rw [ih h, Int.mul_zero]
theorem ev_top (x : Int) : ∀ n : Nat, ev (List.replicate n 0 ++ [1]) x = x ^ n
  | 0 => by show 1 + x * 0 = _; rw [Int.mul_zero, Int.pow_zero]; rfl
  | n + 1 => by
    show 0 + x * ev (List.replicate n 0 ++ [1]) x = _
    rw [ev_top x n, Int.zero_add, Int.pow_succ, Int.mul_comm]
/-- the product over all rows is x to the number of rows, less 1 -/
theorem lin_all {p k r : Int} (F : FitP p k r) (r32 : r ≤ 32) (x : Int) : Cg p (BM.lin (hsP p k r) x) (x ^ r.toNat - 1) := by
  have r0 := F.r0
  refine (ev_ovr p x (hsP p k r)).symm.trans ?_
  rw [over_all F r32]
  show Cg p (p - 1 + x * ev (List.replicate (r.toNat - 1) 0 ++ [1]) x) _
  rw [ev_top]
  have e : x * x ^ (r.toNat - 1) = x ^ r.toNat := by
    obtain ⟨n, hn⟩ : ∃ n, r.toNat = n + 1 := ⟨r.toNat - 1, by omega⟩
    rw [hn, Nat.add_sub_cancel, Int.pow_succ, Int.mul_comm]
  rw [e]
  exact ⟨1, by omega⟩
theorem hs0 {p k r : Int} (F : FitP p k r) : (hsP p k r).getD 0 0 = 1 := by
  have r0 := F.r0
  have p0 := F.p0
  unfold hsP pws
  obtain ⟨n, hn⟩ : ∃ n, r.toNat = n + 1 := ⟨r.toNat - 1, by omega⟩
  rw [hn, List.range_succ_eq_map]
  rfl
theorem hs_nodup_tbl : ∀ e ∈ tbl, ∀ q ∈ ([0, 1, 2, 3] : List Int), (hsF e.1 e.2.1 (rOf e.2.2 q)).Nodup := by decide +kernel
theorem hs_nodup {p k r : Int} (F : FitP p k r) (r32 : r ≤ 32) : (hsP p k r).Nodup := by
  obtain ⟨m, q, h1, h2, rfl⟩ := tbl_of F r32
  rw [hs_eq F]
  exact hs_nodup_tbl _ h1 q h2
theorem getD_mem {l : List Int} {i : Nat} (h : i < l.length) : l.getD i 0 ∈ l := by
  rw [List.getD_eq_getElem?_getD, List.getElem?_eq_getElem h]
  exact List.getElem_mem h

theorem pw_cg {p f k : Int} : ∀ i, Cg p (pw p f k i) (f * k ^ i)
  | 0 => by
    show Cg p f (f * k ^ 0)
    rw [Int.pow_zero, Int.mul_one]
    exact Cg.refl p f
  | i + 1 => by
    show Cg p (pw p f k i * k % p) (f * k ^ (i + 1))
    rw [Int.pow_succ, ← Int.mul_assoc]
    exact (Cg.mod p _).trans ((pw_cg i).mul (Cg.refl p k))
theorem pws_at {p f k : Int} {n i : Nat} (h : i < n) : (pws p f k n).getD i 0 = pw p f k i := getD_rng h
theorem hs_at {p k r : Int} {i : Nat} (h : i < r.toNat) : Cg p ((hsP p k r).getD i 0) (rrP p k r ^ i) := by
  unfold hsP
  rw [pws_at h]
  have := pw_cg (p := p) (f := 1) (k := rrP p k r) i
  rwa [Int.one_mul] at this
theorem rr_bd {p k r : Int} (p0 : 0 < p) : 0 ≤ rrP p k r ∧ rrP p k r < p := ⟨Int.emod_nonneg _ (by omega), Int.emod_lt_of_pos _ p0⟩
theorem nodup_at {l : List Int} (nd : l.Nodup) {i j : Nat} (hi : i < l.length) (hj : j < l.length) (h : l.getD i 0 = l.getD j 0) : i = j := by
  rw [List.getD_eq_getElem?_getD, List.getD_eq_getElem?_getD, List.getElem?_eq_getElem hi, List.getElem?_eq_getElem hj] at h
  exact (List.getElem_inj nd).mp h
theorem rt_fit {p k r : Int} (F : FitP p k r) (r32 : r ≤ 32) : Rt p (rrP p k r) (hsP p k r).length := by
  have P := prm_fit F r32
  have p0 := F.p0
  have r0 := F.r0
  have lh := hsP_len F
  have len : (hsP p k r).length = r.toNat := by omega
  have nd := hs_nodup F r32
  have one : Cg p (rrP p k r ^ r.toNat) 1 := by
    have h1 := lin_all F r32 ((hsP p k r).getD 1 0)
    rw [lin_zero (getD_mem (by omega))] at h1
    have h2 : Cg p ((hsP p k r).getD 1 0) (rrP p k r) := by
      have := hs_at (p := p) (k := k) (r := r) (i := 1) (by omega)
      rwa [Int.pow_succ, Int.pow_zero, Int.one_mul] at this
    have h3 := (h2.pow r.toNat).symm.trans (Cg.trans (b := (hsP p k r).getD 1 0 ^ r.toNat - 1 + 1) (Cg.of_eq (Int.sub_add_cancel _ _).symm) ((h1.symm.add (Cg.refl p 1)).trans (Cg.of_eq (Int.zero_add 1))))
    exact h3
  rw [len]
  refine ⟨P, one, fun d d0 d1 z => ?_, by omega, by omega⟩
  have e0 : (hsP p k r).getD 0 0 = 1 := hs0 F
  have hd := (hs_at (p := p) (k := k) (r := r) d1).trans z
  have bd := hsP_bd F _ (getD_mem (l := hsP p k r) (i := d) (by omega))
  have e1 : (hsP p k r).getD d 0 = 1 := Cg.eq_of hd bd.1 bd.2 (by decide) (by omega)
  have := nodup_at nd (i := d) (j := 0) (by omega) (by omega) (by rw [e1, e0])
  omega
theorem rt_tbl : ∀ e ∈ tbl, ∀ q ∈ ([0, 1, 2, 3] : List Int), ((pws e.1 1 (rtF e.1 e.2.1 (rOf e.2.2 q)) (16 * rOf e.2.2 q).toNat).tail).all (fun x => decide (x ≠ 1)) = true := by decide +kernel
theorem rt_ord {p k r : Int} (F : FitP p k r) (r32 : r ≤ 32) {d : Nat} (d0 : 0 < d) (d1 : d < (16 * r).toNat) : ¬ Cg p (rtP p k r ^ d) 1 := fun z => by
  have p0 := F.p0
  obtain ⟨m, q, h1, h2, rfl⟩ := tbl_of F r32
  have h := rt_tbl _ h1 q h2
  rw [← rt_eq F] at h
  have lt : ∀ i, i < (pws p 1 (rtP p k (rOf m q)) (16 * rOf m q).toNat).tail.length → (pws p 1 (rtP p k (rOf m q)) (16 * rOf m q).toNat).tail.getD i 0 ≠ 1 := fun i hi => of_decide_eq_true (List.all_eq_true.mp h _ (getD_mem hi))
  have len := pws_len p 1 (rtP p k (rOf m q)) (16 * rOf m q).toNat
  have := lt (d - 1) (by rw [List.length_tail, len]; omega)
  refine this ?_
  rw [List.getD_eq_getElem?_getD, List.getElem?_tail, ← List.getD_eq_getElem?_getD, show d - 1 + 1 = d by omega, pws_at d1]
  have hd := (pw_cg (p := p) (f := 1) (k := rtP p k (rOf m q)) d).trans ((Cg.of_eq (Int.one_mul _)).trans z)
  have b := pw_bd (p := p) (f := 1) (k := rtP p k (rOf m q)) (by omega) (by decide) (by omega) d
  exact Cg.eq_of hd b.1 b.2 (by decide) (by omega)
theorem ws_nodup {p k r : Int} (F : FitP p k r) (r32 : r ≤ 32) : (wsP p k r).Nodup := by
  have P := prm_fit F r32
  have p0 := F.p0
  have g0 := F.g0
  have g1 := F.g1
  have ls := wsP_len F
  rw [List.nodup_iff_pairwise_ne, List.pairwise_iff_getElem]
  intro i j hi hj hij e
  have ei : (wsP p k r).getD i 0 = (wsP p k r).getD j 0 := by
    rw [List.getD_eq_getElem?_getD, List.getD_eq_getElem?_getD, List.getElem?_eq_getElem hi, List.getElem?_eq_getElem hj, e]
  unfold wsP at ei
  rw [pws_at (by omega), pws_at (by omega)] at ei
  have h1 := (pw_cg (p := p) (f := k) (k := rtP p k r) i).symm.trans ((Cg.of_eq ei).trans (pw_cg (p := p) (f := k) (k := rtP p k r) j))
  have gz : ¬ Cg p (k * rtP p k r ^ i) 0 := fun z => by
    have hz : ¬ Cg p k 0 := fun z => by
      have := Cg.eq_of z (by omega) (by omega) (by decide) (by omega)
      omega
    have z2 := prm_mul P z hz
    -- a power of the root is no 0
    have rz : ¬ Cg p (rtP p k r) 0 := fun y => by
      have one := (rt_fit F r32).one
      have e16 : Cg p (rrP p k r) 0 := by
        unfold rrP
        refine (Cg.mod p _).trans ((y.pow 16).trans (Cg.of_eq ?_))
        decide
      have r0 := F.r0
      have lh := hsP_len F
      have := one.symm.trans ((e16.pow _).trans (Cg.of_eq (by rw [Int.zero_pow (by omega)])))
      have := Cg.eq_of this (by decide) (by omega) (by decide) (by omega)
      omega
    have key : ∀ n : Nat, ¬ Cg p (rtP p k r ^ n) 0 := by
      intro n
      induction n with
      | zero => intro q; rw [Int.pow_zero] at q; have := Cg.eq_of q (by decide) (by omega) (by decide) (by omega); omega
      | succ n ih => intro q; rw [Int.pow_succ] at q; exact rz (prm_mul P q ih)
    exact key i z2
  have h2 : Cg p (k * rtP p k r ^ i * (rtP p k r ^ (j - i) - 1)) 0 := by
    have e1 : k * rtP p k r ^ i * (rtP p k r ^ (j - i) - 1) = k * rtP p k r ^ j - k * rtP p k r ^ i := by
      rw [Int.mul_sub, Int.mul_one, Int.mul_assoc, ← Int.pow_add, show i + (j - i) = j by omega]
    rw [e1]
    have := h1.symm.sub (Cg.refl p (k * rtP p k r ^ i))
    simpa using this
  have h3 := prm_mul P h2 gz
  refine rt_ord F r32 (d := j - i) (by omega) (by omega) ?_
  have := h3.add (Cg.refl p 1)
  simpa using this
end DL

set_option maxRecDepth 100000
set_option maxHeartbeats 4000000
namespace DL
open PySem L2 K0 K1

/-- a Code -/
abbrev CodeD (C : Addr) (p : Int) (ns : List Int) (d : Int) : D := .ins C ["places", "p", "_degree"] [TI' ns, .int p, .int d]
def spCIniD (C : Addr) : DSp := fun g Q _ => ∃ (x : D) (ns : List Int) (d p : Int), g = [.bx 0 (.ins C [] []), .sh x, .sh (.int d), .sh (.int p)] ∧ SeqI x ns ∧ 0 < p ∧ ns.length ≤ 2000 ∧ Q (.sh .non) [.ins C ["places", "p", "_degree"] [TI' (red p ns), .int p, .int d]]
def spCDgD (C : Addr) : DSp := fun g Q _ => ∃ (p : Int) (ns : List Int) (d : Int), g = [.sh (CodeD C p ns d)] ∧ Q (.sh (.int d)) []
def spCWdD (C C2 : Addr) : DSp := fun g Q _ => ∃ (p : Int) (ns : List Int) (d : Int) (cs : List Int), g = [.sh (CodeD C p ns d), .sh (PolyD C2 p cs)] ∧ (0 < p ∧ p < 18446744073709551616) ∧ ns.length ≤ 2000 ∧ Q (.sh (TI' (ns.map fun x => ev cs x % p))) []
def spIsNmD : DSp := fun g Q _ => ∃ v a b : Int, g = [.sh (.int v), .sh (.int a), .sh (.int b)] ∧ Q (.sh (.bl (decide (a ≤ v) && decide (v ≤ b)))) []
def spRtsD : DSp := fun g Q _ => ∃ (rs : List Int) (p : Int), g = [.sh (LI rs), .sh (.int p)] ∧ 0 < p ∧ rs.length ≤ 300 ∧ Sm rs ∧ Q (OI (wr p rs)) []
def spSynD : DSp := fun g Q _ => ∃ (cs : List Int) (r p : Int), g = [.sh (LI cs), .sh (.int r), .sh (.int p)] ∧ (0 < p ∧ p < 18446744073709551616) ∧ cs.length ≤ 1000 ∧ Q (OI (synL p r cs)) []
/-- points -/
abbrev dotD (d : Int × Int) : D := .tup [.int d.1, .int d.2]
def spThrD (C : Addr) : DSp := fun g Q _ => ∃ (ds : List (Int × Int)) (p : Int), g = [.sh (.lst (ds.map dotD)), .sh (.int p)] ∧ Prm p ∧ p < 2 ^ 64 ∧ ds.length ≤ 100 ∧ (∀ i, i < ds.length → ev (prt p ds i) ((rts p ds).getD i 0) % p ≠ 0) ∧
  Q (.ow (.ins C ["coefficients", "p"] [TI' (can p (tot p ds ds.length)), .int p])) []
def spLysD (C : Addr) : DSp := fun g Q _ => ∃ p k r : Int, g = [.sh (PlD C p k r)] ∧ Q (.sh (.int (lyP r))) []
/-- the worths of a layer -/
def lyW (p : Int) (l : List Int) : Nat → List Int
  | 0 => l
  | i + 1 => (lyW p l i).map fun x => x * x % p
theorem lyW_len (p : Int) (l : List Int) (i : Nat) : (lyW p l i).length = l.length := by
  induction i with
  | zero => rfl
  | succ i ih => show (List.map _ _).length = _; rw [List.length_map, ih]
def lyr (p g r : Int) (i : Nat) : List Int := lyW p ((wsP p g r).take (16 * r / 2 ^ i).toNat) i
def spLyrD (C C2 : Addr) : DSp := fun g Q _ => ∃ (p k r : Int) (i : Nat), g = [.sh (PlD C p k r), .sh (.int i)] ∧ FitP p k r ∧ (i : Int) ≤ lyP r + 1 ∧ Q (.ow (.ins C2 ["places", "p", "_degree"] [TI' (red p (lyr p k r i)), .int p, .int (2 * r / 2 ^ i)])) []
/-- the polynomial of a column -/
def strP (p g r : Int) (ys : List Int) : List Int := can p (tot p ((hsP p g r).zip ys) r.toNat)
def spStpD (C C2 : Addr) : DSp := fun g Q _ => ∃ (p k r : Int) (x : D) (ys : List Int), g = [.sh (PlD C p k r), .sh x] ∧ SeqI x ys ∧ FitP p k r ∧ r ≤ 32 ∧ (ys.length : Int) = r ∧ Q (.ow (.ins C2 ["coefficients", "p"] [TI' (strP p k r ys), .int p])) []
def spStrD (C : Addr) : DSp := fun g Q _ => ∃ (p k r : Int) (x : D) (ys : List Int), g = [.sh (PlD C p k r), .sh x] ∧ SeqI x ys ∧ FitP p k r ∧ r ≤ 32 ∧ (ys.length : Int) = r ∧ Q (.sh (TI' ((wsP p k r).map fun x => ev (strP p k r ys) x % p))) []
theorem cut_from1 (l : List D) : cut l (some 1) none = l.drop 1 := by
  unfold cut
  rw [HT.sIx_none, show (some (1 : Int)) = some ((1 : Nat) : Int) from rfl, HT.sIx_nat]
  cases l with
  | nil => rfl
  | cons x xs =>
    rw [List.length_cons, Nat.min_eq_left (by omega)]
    show xs.take (xs.length + 1 - 1) = xs
    exact List.take_of_length_le (by omega)
theorem zipI_get {as bs : List Int} {i : Nat} {z : D} (h : (zipD (as.map .int) (bs.map .int))[i]? = some z) : ∃ a b, as[i]? = some a ∧ bs[i]? = some b ∧ z = .tup [.int a, .int b] := by
  obtain ⟨x, y, hx, hy, rfl⟩ := zipD_get h
  obtain ⟨a, ha, rfl⟩ := at_intD hx
  obtain ⟨b, hb, rfl⟩ := at_intD hy
  exact ⟨a, b, ha, hb, rfl⟩
theorem take_zip {f : Int → Int → Int} {as bs : List Int} {i : Nat} {a b : Int} (ha : as[i]? = some a) (hb : bs[i]? = some b) : ((List.zipWith f as bs).take i).map D.int ++ [.int (f a b)] = ((List.zipWith f as bs).take (i + 1)).map D.int := by
  refine take_map ?_
  rw [List.getElem?_zipWith, ha, hb]

end DL

set_option maxRecDepth 100000
set_option maxHeartbeats 4000000
namespace DL
open PySem L2 K0 K1
section
variable {P : Program} {w : World} {K : PySem.W.Frag} {mg : Str → Option Value} {base : Heap}
theorem ok_is_number (T : Txt K mg) : FnOk P w K mg base CX0 2 T.f_is_number T.fd_is_number ["value", "least", "most"] (spD K 3 spIsNmD) := by
  refine fnD T.F_is_number sc_is_number rfl (fun cdv A outer s H E hr => ⟨_, (bd_one (sd_ret (ED.x (ed_and (EX.d (ex_call (ok_is_whole T) (hr.mono (by decide)) (by rfl) T.g_is_whole T.F_is_whole.kp T.b_is_whole .nil (fun _ => .nil) (qd_cons (dv 0) qd_nil) rfl)) (ed_one (ed_chain d_le d_le (dv 1) (dv 0) (dv 2))))))), fun g Qd Ed h => ?_⟩)
  obtain ⟨v, a, b, rfl, q⟩ := h
  refine ⟨v, rfl, ?_⟩
  show if decide (a ≤ v) = true then _ else _
  refine ite2 (fun c => ?_) (fun c => ?_)
  · rw [c] at q
    exact q
  · rw [Bool.eq_false_iff.mpr c] at q
    exact q

theorem ok_Code_init_ (T : Txt K mg) : FnOk P w K mg base CX0 2 T.f_Code_init_ T.fd_Code_init_ ["self", "places", "degree", "p"] (spD K 4 (spCIniD T.C_Code)) := by
  refine fnD T.F_Code_init_ sc_Code_init_ rfl (fun cdv A outer s H E hr => ⟨_, (bd_cons (fld 0 T.cl_Code T.n_Code_places (EX.d (ex_call (ok_worths_of T) (hr.mono (by decide)) (by rfl) T.g_worths_of T.F_worths_of.kp T.b_worths_of .nil (fun _ => .nil) (qd_cons (dv 1) (qd_cons (dv 3) qd_nil)) rfl)))
      (bd_cons (fld 0 T.cl_Code T.n_Code_p (dv 3))
      (bd_one (fld 0 T.cl_Code T.n_Code__degree (dv 2))))), fun g Qd Ed h => ?_⟩)
  obtain ⟨x, ns, d, p, rfl, hx, p0, hl, q⟩ := h
  refine ⟨x, ns, p, rfl, hx, p0, hl, rfl, by decide, rfl, (show 1 < 900 by decide), rfl, (show 2 < 900 by decide), q⟩

theorem ok_Code_degree (T : Txt K mg) : FnOk P w K mg base CX0 1 T.f_Code_degree T.fd_Code_degree ["self"] (spD K 1 (spCDgD T.C_Code)) := by
  refine fnD T.F_Code_degree sc_Code_degree rfl (fun cdv A outer s H E hr => ⟨_, (bd_one (sd_ret (ED.x (ed_fld (dv 0) rfl)))), fun g Qd Ed h => ?_⟩)
  obtain ⟨p, ns, d, rfl, q⟩ := h
  exact q

theorem ok_Code_word (T : Txt K mg) : FnOk P w K mg base CX0 4 T.f_Code_word T.fd_Code_word ["self", "poly"] (spD K 2 (spCWdD T.C_Code T.C_Poly)) := by
  refine fnD T.F_Code_word sc_Code_word rfl (fun cdv A outer s H E hr => ⟨_, (bd_one (sd_ret (ex_callTy b_tuple (by rfl) T.z_tuple (by decide +kernel) (ad_cons (EX.d (ex_lc (own := [("x", 2)]) (by rfl) sc_Code_word.nd (id_seq (ed_fld (dv 0) rfl)) (blkOk_by (own := [("x", 2)]) (N := ["self", "poly", "x"]) (sc := defScope s_Code_word) (by decide +kernel)) (fun _ _ _ _ _ => (gd_name (i := 2) sc_Code_word.nd rfl (Or.inl rfl))) (fun _ _ _ _ _ => tsd_nil) (fun _ _ _ _ _ => (EX.d (ex_callO (dv 1) T.cO_Poly (ok_Poly_call_ T) T.b_Poly_call_ (hr.mono (by decide)) (ad_cons (dv 2) ad_nil) rfl))))) ad_nil)))), fun g Qd Ed h => ?_⟩)
  obtain ⟨p, ns, d, cs, rfl, hp, hl, q⟩ := h
  refine ⟨?_, fun i acc g => g = [.sh (CodeD T.C_Code p ns d), .sh (PolyD T.C_Poly p cs), .no] ∧ acc = ((ns.map fun x => ev cs x % p).take i).map .int, ⟨rfl, rfl⟩, ?_, ?_⟩
  · rw [List.length_map]
    exact small_line (by omega)
  · rintro i x acc g2 hx _ ⟨rfl, rfl⟩
    obtain ⟨n, hn, rfl⟩ := mapI_get hx
    refine ⟨rfl, cs, n, p, rfl, hp, rfl, ?_⟩
    exact take_map (by rw [List.getElem?_map, hn]; rfl)
  · rintro acc g2 _ ⟨rfl, rfl⟩
    rw [List.length_map, List.take_of_length_le (by rw [List.length_map]; exact Nat.le_refl _)]
    exact q

theorem ok_with_roots (T : Txt K mg) : FnOk P w K mg base CX0 1 T.f_with_roots T.fd_with_roots ["roots", "p"] (spD K 2 spRtsD) := by
  refine fnD T.F_with_roots sc_with_roots rfl (fun cdv A outer s H E hr => ⟨_, (bd_cons (sd_set (i := 2) sc_with_roots.nd rfl (Or.inl rfl) (ex_lst (ad_cons ed_int ad_nil)))
      (bd_cons (sd_for PassesOwn.never rfl (id_seq (dv 0)) (gd_name (i := 3) sc_with_roots.nd rfl (Or.inr rfl)) (bd_one (sd_setLc (i := 2) (own := [("low", 4), ("high", 5)]) (by rfl) sc_with_roots.nd rfl rfl (sw_true rfl rfl rfl (by decide +kernel)) (id_zip (by rfl) T.z_zip (ad_cons (EX.d (ex_op d_add (EX.d (ex_lst (ad_cons ed_int ad_nil))) (dv 2))) (ad_cons (EX.d (ex_op d_add (dv 2) (EX.d (ex_lst (ad_cons ed_int ad_nil))))) ad_nil))) (blkOk_by (own := [("low", 4), ("high", 5)]) (N := ["roots", "p", "made", "root", "low", "high"]) (sc := defScope s_with_roots) (by decide +kernel)) (fun _ _ _ _ _ => (gd_tup (n := 2) (by rfl) (gsd_cons (gd_name (i := 4) sc_with_roots.nd rfl (Or.inl rfl)) (gsd_cons (gd_name (i := 5) sc_with_roots.nd rfl (Or.inl rfl)) gsd_nil)))) (fun _ _ _ _ _ => tsd_nil) (fun _ _ _ _ _ => (EX.d (ex_op d_mod (EX.d (ex_op d_sub (dv 4) (EX.d (ex_op d_mul (dv 3) (dv 5))))) (dv 1)))))))
      (bd_one (sd_ret (xv 2))))), fun g Qd Ed h => ?_⟩)
  obtain ⟨rs, p, rfl, p0, hl, hs, q⟩ := h
  refine ⟨fun i g => ∃ s3, g = [.sh (LI rs), .sh (.int p), .ow (.lst ((wr p (rs.take i)).map .int)), s3, .no, .no], ⟨.no, rfl⟩, ?_, ?_⟩
  · rintro i x g2 hx ⟨s3, rfl⟩
    obtain ⟨r, hr, rfl⟩ := mapI_get hx
    have hi : i < rs.length := (List.getElem?_eq_some_iff.mp hr).1
    have rb := hs r (List.mem_of_getElem? hr)
    have lm : (wr p (rs.take i)).length = i + 1 := by
      rw [wr_len, List.length_take]
      omega
    have e1 := wr_take (p := p) hr
    generalize wr p (rs.take i) = m at lm e1
    have ea : [D.int 0] ++ m.map D.int = (0 :: m).map D.int := rfl
    have eb : m.map D.int ++ [D.int 0] = (m ++ [0]).map D.int := by simp
    refine ⟨?_, ?_, ?_⟩
    · rw [List.length_map]
      exact small_line (show 1 + m.length ≤ 100000 by omega)
    · rw [List.length_map]
      exact small_line (show m.length + 1 ≤ 100000 by omega)
    rw [ea, eb]
    refine ⟨?_, fun j acc g => g = [.sh (LI rs), .sh (.int p), .sh (LI m), .sh (.int r), .no, .no] ∧ acc = ((linL p r m).take j).map .int, ⟨rfl, rfl⟩, ?_, ?_⟩
    · rw [zipD_len]
      exact small_line (by simp; omega)
    · rintro j z acc g2 hz _ ⟨rfl, rfl⟩
      obtain ⟨a, b, ha, hb, rfl⟩ := zipI_get hz
      exact ⟨rfl, .l ⟨by omega, by omega⟩, p0, rfl, take_zip ha hb⟩
    · rintro acc g2 _ ⟨rfl, rfl⟩
      refine ⟨.sh (.int r), ?_⟩
      rw [e1, List.take_of_length_le (by rw [linL_len, zipD_len]; simp)]
      rfl
  · rintro g2 ⟨s3, rfl⟩
    rw [List.length_map, List.take_length]
    exact q

theorem ok_without_root (T : Txt K mg) : FnOk P w K mg base CX0 1 T.f_without_root T.fd_without_root ["coefficients", "root", "p"] (spD K 3 spSynD) := by
  refine fnD T.F_without_root sc_without_root rfl (fun cdv A outer s H E hr => ⟨_, (bd_cons (sd_par (i := 3) (j := 4) (by rfl) sc_without_root.nd rfl rfl (by decide) rfl rfl (ex_lst ad_nil) (ED.x ed_int) (by rfl))
      (bd_cons (sd_for PassesOwn.never rfl (id_rev (by rfl) T.z_reversed (EX.d (ex_slice (dv 0) (pd_some ed_int) pd_none))) (gd_name (i := 5) sc_without_root.nd rfl (Or.inl rfl)) (bd_cons (sd_set (i := 4) sc_without_root.nd rfl (Or.inl rfl) (ex_op d_mod (EX.d (ex_op d_add (EX.d (ex_op d_mul (dv 4) (dv 1))) (dv 5))) (dv 2)))
      (bd_one (sd_expr (app 3 (dv 4))))))
      (bd_one (sd_ret (ex_rev (dv 3)))))), fun g Qd Ed h => ?_⟩)
  obtain ⟨cs, r, p, rfl, ⟨p0, p1⟩, hl, q⟩ := h
  have ec : cut (cs.map D.int) (some 1) none = (cs.drop 1).map D.int := by rw [cut_from1, List.map_drop]
  generalize hd : cs.drop 1 = d at ec
  have ld : d.length ≤ 1000 := by rw [← hd, List.length_drop]; omega
  show _
  refine ⟨fun i g => ∃ s5, g = [.sh (LI cs), .sh (.int r), .sh (.int p), .ow (.lst (((List.range i).map fun j => ev (d.drop (d.length - (j + 1))) r % p).map .int)), .sh (.int (ev (d.drop (d.length - i)) r % p)), s5], ⟨.no, ?_⟩, ?_, ?_⟩
  · rw [Nat.sub_zero, List.drop_length]
    show _ = [_, _, _, _, Sl.sh (.int (0 % p)), _]
    rw [Int.zero_emod]
    rfl
  · rintro i x g2 hx ⟨s5, rfl⟩
    rw [ec] at hx
    have hi : i < d.length := by
      have := (List.getElem?_eq_some_iff.mp hx).1
      simpa using this
    rw [List.getElem?_reverse (by simpa using hi), List.length_map] at hx
    obtain ⟨n, hn, rfl⟩ := mapI_get hx
    have e := ev_turn (p := p) (x := r) hi hn
    have b0 := Int.emod_nonneg (ev (d.drop (d.length - i)) r) (show p ≠ 0 by omega)
    have b1 := Int.emod_lt_of_pos (ev (d.drop (d.length - i)) r) p0
    refine ⟨.l ⟨by omega, by omega⟩, p0, ?_, .sh (.int n), ?_⟩
    · rw [List.length_map, List.length_map, List.length_range]
      exact Nat.lt_of_lt_of_le (m := 100000) (by omega) (by decide)
    · rw [range_map, List.map_append, ← e]
      rfl
  · rintro g2 ⟨s5, rfl⟩
    rw [ec, List.length_reverse, List.length_map]
    have e : (((List.range d.length).map fun j => ev (d.drop (d.length - (j + 1))) r % p).map D.int).reverse = (synL p r cs).map .int := by
      rw [← List.map_reverse]
      unfold synL
      rw [hd]
      congr 1
      have := rev_range (g := fun k => ev (d.drop k) r % p) d.length
      exact this
    show Qd (.ow (.lst (List.reverse _))) []
    rw [e]
    exact q

theorem ok_Poly_through (T : Txt K mg) : FnOk P w K mg base CX0 5 T.f_Poly_through T.fd_Poly_through ["points", "p"] (spD K 2 (spThrD T.C_Poly)) := by
  refine fnD T.F_Poly_through sc_Poly_through rfl (fun cdv A outer s H E hr => ⟨_, (bd_cons (sd_setLc (i := 4) (own := [("x", 2), ("_", 3)]) (by rfl) sc_Poly_through.nd rfl rfl (sw_true rfl rfl rfl (by decide +kernel)) (id_seq (dv 0)) (blkOk_by (own := [("x", 2), ("_", 3)]) (N := ["points", "p", "x", "_", "roots", "product", "total", "root", "worth", "part", "factor", "low", "high"]) (sc := defScope s_Poly_through) (by decide +kernel)) (fun _ _ _ _ _ => (gd_tup (n := 2) (by rfl) (gsd_cons (gd_name (i := 2) sc_Poly_through.nd rfl (Or.inl rfl)) (gsd_cons (gd_name (i := 3) sc_Poly_through.nd rfl (Or.inl rfl)) gsd_nil)))) (fun _ _ _ _ _ => tsd_nil) (fun _ _ _ _ _ => (EX.d (ex_op d_mod (dv 2) (dv 1)))))
      (bd_cons (sd_set (i := 5) sc_Poly_through.nd rfl (Or.inl rfl) (ex_call (ok_with_roots T) (hr.mono (by decide)) (by rfl) T.g_with_roots T.F_with_roots.kp T.b_with_roots .nil (fun _ => .nil) (qd_cons (dv 4) (qd_cons (dv 1) qd_nil)) rfl))
      (bd_cons (sd_set (i := 6) sc_Poly_through.nd rfl (Or.inl rfl) (ex_op d_mul (EX.d (ex_lst (ad_cons ed_int ad_nil))) (EX.d (ex_callB b_len (by rfl) T.z_len (by decide +kernel) (ad_cons (dv 4) ad_nil)))))
      (bd_cons (sd_for PassesOwn.never rfl (id_zip (by rfl) T.z_zip (ad_cons (dv 4) (ad_cons (dv 0) ad_nil))) (gd_tup (n := 2) (by rfl) (gsd_cons (gd_name (i := 7) sc_Poly_through.nd rfl (Or.inl rfl)) (gsd_cons (gd_tup (n := 2) (by rfl) (gsd_cons (gd_name (i := 3) sc_Poly_through.nd rfl (Or.inl rfl)) (gsd_cons (gd_name (i := 8) sc_Poly_through.nd rfl (Or.inl rfl)) gsd_nil))) gsd_nil))) (bd_cons (sd_set (i := 9) sc_Poly_through.nd rfl (Or.inl rfl) (ex_call (ok_without_root T) (hr.mono (by decide)) (by rfl) T.g_without_root T.F_without_root.kp T.b_without_root .nil (fun _ => .nil) (qd_cons (dv 5) (qd_cons (dv 7) (qd_cons (dv 1) qd_nil))) rfl))
      (bd_cons (sd_set (i := 10) sc_Poly_through.nd rfl (Or.inr rfl) (ex_op d_mul (dv 8) (EX.d (ex_call (ok_inverse T) (hr.mono (by decide)) (by rfl) T.g_inverse T.F_inverse.kp T.b_inverse .nil (fun _ => .nil) (qd_cons (EX.d (ex_call (ok_worth_at T) (hr.mono (by decide)) (by rfl) T.g_worth_at T.F_worth_at.kp T.b_worth_at .nil (fun _ => .nil) (qd_cons (dv 9) (qd_cons (dv 7) (qd_cons (dv 1) qd_nil))) rfl)) (qd_cons (dv 1) qd_nil)) rfl))))
      (bd_one (sd_setLc (i := 6) (own := [("low", 11), ("high", 12)]) (by rfl) sc_Poly_through.nd rfl rfl (sw_true rfl rfl rfl (by decide +kernel)) (id_zip (by rfl) T.z_zip (ad_cons (dv 6) (ad_cons (dv 9) ad_nil))) (blkOk_by (own := [("low", 11), ("high", 12)]) (N := ["points", "p", "x", "_", "roots", "product", "total", "root", "worth", "part", "factor", "low", "high"]) (sc := defScope s_Poly_through) (by decide +kernel)) (fun _ _ _ _ _ => (gd_tup (n := 2) (by rfl) (gsd_cons (gd_name (i := 11) sc_Poly_through.nd rfl (Or.inl rfl)) (gsd_cons (gd_name (i := 12) sc_Poly_through.nd rfl (Or.inl rfl)) gsd_nil)))) (fun _ _ _ _ _ => tsd_nil) (fun _ _ _ _ _ => (EX.d (ex_op d_mod (EX.d (ex_op d_add (dv 11) (EX.d (ex_op d_mul (dv 10) (dv 12))))) (dv 1)))))))))
      (bd_one (sd_ret (ex_makeK T.cl_Poly T.mk_Poly (ok_Poly_init_ T) (hr.mono (by decide)) (by rfl) T.gC_Poly T.kb_Poly_init__2_p (fun _ _ _ => rfl) (kwd_app rfl) rfl (ad_cons (dv 6) ad_nil) (kd_cons (dv 1) kd_nil) rfl))))))), fun g Qd Ed h => ?_⟩)
  obtain ⟨ds, p, rfl, P1, p2, hl, hz, q⟩ := h
  have p1 := P1.1
  have p0 : 0 < p := by omega
  have dget : ∀ {i : Nat} {x : D}, (ds.map dotD)[i]? = some x → ∃ d, ds[i]? = some d ∧ x = .tup [.int d.1, .int d.2] := fun {i x} hx => by
    rw [List.getElem?_map, Option.map_eq_some_iff] at hx
    obtain ⟨d, hd, rfl⟩ := hx
    exact ⟨d, hd, rfl⟩
  have lr : (rts p ds).length = ds.length := by unfold rts; rw [List.length_map]
  refine ⟨?_, fun i acc g => g = [.sh (.lst (ds.map dotD)), .sh (.int p), .no, .no, .no, .no, .no, .no, .no, .no, .no, .no, .no] ∧ acc = ((rts p ds).take i).map .int, ⟨rfl, rfl⟩, ?_, ?_⟩
  · rw [List.length_map]
    exact small_line (by omega)
  · rintro i x acc g2 hx _ ⟨rfl, rfl⟩
    obtain ⟨d, hd, rfl⟩ := dget hx
    refine ⟨rfl, p0, rfl, ?_⟩
    exact take_map (by unfold rts; rw [List.getElem?_map, hd]; rfl)
  rintro acc g2 _ ⟨rfl, rfl⟩
  rw [List.length_map, List.take_of_length_le (by omega)]
  have sr : Sm (rts p ds) := fun z hz => by
    obtain ⟨d, _, rfl⟩ := List.mem_map.mp hz
    have := Int.emod_nonneg d.1 (show p ≠ 0 by omega)
    have := Int.emod_lt_of_pos d.1 p0
    omega
  refine ⟨rts p ds, p, rfl, p0, by omega, sr, ?_⟩
  refine ⟨⟨by omega, ?_, ?_⟩, ?_⟩
  · rw [List.length_map]; omega
  · rw [List.length_map]
    exact small_line (show 1 * _ ≤ 100000 by omega)
  have e0 : (List.replicate (((rts p ds).map D.int).length : Int).toNat [D.int 0]).flatten = (tot p ds 0).map D.int := by
    rw [rep_zero, Int.toNat_natCast, List.length_map, lr]
    rfl
  rw [e0]
  have StT : ∀ i : Nat, ∃ s5 : Sl, (s5 = .sh (LI (wr p (rts p ds))) ∨ s5 = .ow (.lst ((wr p (rts p ds)).map .int))) ∧ (i = 0 ∨ s5 = .sh (LI (wr p (rts p ds)))) := fun i => ⟨.sh (LI (wr p (rts p ds))), .inl rfl, .inr rfl⟩
  refine ⟨fun i g => ∃ s3 s5 s7 s8 s9 s10, (s5 = Sl.sh (LI (wr p (rts p ds))) ∨ s5 = .ow (.lst ((wr p (rts p ds)).map .int))) ∧ g = [.sh (.lst (ds.map dotD)), .sh (.int p), .no, s3, .sh (LI (rts p ds)), s5, .ow (.lst ((tot p ds i).map .int)), s7, s8, s9, s10, .no, .no], ⟨.no, _, .no, .no, .no, .no, .inr rfl, rfl⟩, ?_, ?_⟩
  · rintro i x g2 hx ⟨s3, s5, s7, s8, s9, s10, h5, rfl⟩
    obtain ⟨a, b, ha, hb, rfl⟩ := zipD_get hx
    obtain ⟨r, hr, rfl⟩ := mapI_get ha
    obtain ⟨d, hd, rfl⟩ := dget hb
    have hi : i < ds.length := (List.getElem?_eq_some_iff.mp hd).1
    have er : (rts p ds).getD i 0 = r := getD_of hr
    have ed : ds.getD i (0, 0) = d := by rw [List.getD_eq_getElem?_getD, hd]; rfl
    have rb := sr r (List.mem_of_getElem? hr)
    have nz := hz i hi
    rw [er] at nz
    have ep : prt p ds i = synL p r (wr p (rts p ds)) := by unfold prt; rw [er]
    have lw : (wr p (rts p ds)).length ≤ 1000 := by rw [wr_len]; omega
    have lp := prt_len p ds i
    have lt := tot_len p ds i
    rcases h5 with rfl | rfl
    · refine ⟨rfl, rfl, _, r, p, rfl, ⟨p0, by omega⟩, lw, _, synL p r (wr p (rts p ds)), r, p, rfl, .inl rfl, ⟨p0, by omega⟩, ?_⟩
      rw [← ep]
      refine ⟨_, p, rfl, P1, p2, by rw [Int.emod_emod_of_dvd _ (Int.dvd_refl p)]; exact nz, fun v v0 v1 v2 => ?_⟩
      have ev' : v = invF p (ev (prt p ds i) r % p) := invF_eq P1 (by rw [Int.emod_emod_of_dvd _ (Int.dvd_refl p)]; exact nz) v0 v1 v2
      have ef : d.2 * v = fct p ds i := by unfold fct; rw [ed, er, ← ev']
      refine ⟨.r ⟨by omega, by omega⟩, ?_⟩
      rw [ef]
      refine ⟨?_, fun j acc g => g = [.sh (.lst (ds.map dotD)), .sh (.int p), .no, .sh (.int d.1), .sh (LI (rts p ds)), .sh (LI (wr p (rts p ds))), .sh (LI (tot p ds i)), .sh (.int r), .sh (.int d.2), .sh (LI (prt p ds i)), .sh (.int (fct p ds i)), .no, .no] ∧ acc = ((tot p ds (i + 1)).take j).map .int, ⟨rfl, rfl⟩, ?_, ?_⟩
      · rw [zipD_len]
        exact small_line (by simp; omega)
      · rintro j z acc g2 hz _ ⟨rfl, rfl⟩
        obtain ⟨a, b, ha, hb, rfl⟩ := zipI_get hz
        have bb := syn_sm (p := p) (r := r) (cs := wr p (rts p ds)) p0 b (by rw [← ep]; exact List.mem_of_getElem? hb)
        exact ⟨rfl, .r ⟨by omega, by omega⟩, p0, rfl, take_zip ha hb⟩
      · rintro acc g2 _ ⟨rfl, rfl⟩
        refine ⟨.sh (.int d.1), _, .sh (.int r), .sh (.int d.2), .sh (LI (prt p ds i)), .sh (.int (fct p ds i)), .inl rfl, ?_⟩
        rw [List.take_of_length_le (by rw [tot_len, zipD_len]; simp; omega)]
        rfl
    · refine ⟨rfl, rfl, _, r, p, rfl, ⟨p0, by omega⟩, lw, _, synL p r (wr p (rts p ds)), r, p, rfl, .inl rfl, ⟨p0, by omega⟩, ?_⟩
      rw [← ep]
      refine ⟨_, p, rfl, P1, p2, by rw [Int.emod_emod_of_dvd _ (Int.dvd_refl p)]; exact nz, fun v v0 v1 v2 => ?_⟩
      have ev' : v = invF p (ev (prt p ds i) r % p) := invF_eq P1 (by rw [Int.emod_emod_of_dvd _ (Int.dvd_refl p)]; exact nz) v0 v1 v2
      have ef : d.2 * v = fct p ds i := by unfold fct; rw [ed, er, ← ev']
      refine ⟨.r ⟨by omega, by omega⟩, ?_⟩
      rw [ef]
      refine ⟨?_, fun j acc g => g = [.sh (.lst (ds.map dotD)), .sh (.int p), .no, .sh (.int d.1), .sh (LI (rts p ds)), .sh (LI (wr p (rts p ds))), .sh (LI (tot p ds i)), .sh (.int r), .sh (.int d.2), .sh (LI (prt p ds i)), .sh (.int (fct p ds i)), .no, .no] ∧ acc = ((tot p ds (i + 1)).take j).map .int, ⟨rfl, rfl⟩, ?_, ?_⟩
      · rw [zipD_len]
        exact small_line (by simp; omega)
      · rintro j z acc g2 hz _ ⟨rfl, rfl⟩
        obtain ⟨a, b, ha, hb, rfl⟩ := zipI_get hz
        have bb := syn_sm (p := p) (r := r) (cs := wr p (rts p ds)) p0 b (by rw [← ep]; exact List.mem_of_getElem? hb)
        exact ⟨rfl, .r ⟨by omega, by omega⟩, p0, rfl, take_zip ha hb⟩
      · rintro acc g2 _ ⟨rfl, rfl⟩
        refine ⟨.sh (.int d.1), _, .sh (.int r), .sh (.int d.2), .sh (LI (prt p ds i)), .sh (.int (fct p ds i)), .inl rfl, ?_⟩
        rw [List.take_of_length_le (by rw [tot_len, zipD_len]; simp; omega)]
        rfl
  · rintro g2 ⟨s3, s5, s7, s8, s9, s10, h5, rfl⟩
    rw [zipD_len, List.length_map, List.length_map, lr, Nat.min_self]
    refine ⟨_, tot p ds ds.length, p, rfl, .inl rfl, p0, by rw [tot_len]; omega, ?_⟩
    exact q
end
end DL

set_option maxRecDepth 100000
set_option maxHeartbeats 4000000
namespace DL
open PySem L2 K0 K1

def spLaneD : DSp := fun g Q _ => ∃ (bs : List D) (p r : Int), g = [.bx 0 (.lst bs), .sh (.int p), .sh (.int r)] ∧ IsBox bs ∧ (0 < p ∧ p < 10000000000) ∧ (4 ≤ r ∧ r ≤ 64) ∧ ∀ bs' (ys : List Int), IsBox bs' → (ys.length : Int) = r → Q (OI ys) [.lst bs']
/-- the law's coefficients of a column -/
def lwP (p g r : Int) (ys : List Int) : List Int := can p (dfts p (invF p r) ys (hsP p g r))
def spLStD : DSp := fun g Q _ => ∃ (ys : List Int) (p k r : Int), g = [.sh (LI ys), .sh (LI (hsP p k r)), .sh (.int p)] ∧ FitP p k r ∧ r ≤ 32 ∧ (ys.length : Int) = r ∧ Q (OI (lwP p k r ys)) []
def spIsPD (C : Addr) : DSp := fun g Q _ => ∃ (cs : List Int) (p : Int), g = [.sh (PolyD C p cs), .sh (LI cs), .sh (.int p)] ∧ cs.length ≤ 1000 ∧ Q (.sh (.bl true)) []
abbrev wdP (p k r : Int) (cs : List Int) : List Int := (wsP p k r).map fun x => ev cs x % p
def spLWdD (C : Addr) : DSp := fun g Q _ => ∃ (bs : List D) (p k r : Int) (ys : List Int), g = [.bx 0 (.lst bs), .sh (PlD C p k r), .sh (LI ys), .sh (LI (strP p k r ys)), .sh (LI (wsP p k r)), .sh (.int p)] ∧ IsBox bs ∧ FitP p k r ∧ r ≤ 32 ∧ (ys.length : Int) = r ∧ ∀ bs', IsBox bs' → Q (.sh (TI' (wdP p k r (strP p k r ys)))) [.lst bs']
theorem rep_int (n : Int) (k : Nat) : (List.replicate k [D.int n]).flatten = (List.replicate k n).map D.int := by
  induction k with
  | zero => rfl
  | succ k ih => rw [List.replicate_succ, List.flatten_cons, ih]; rfl
theorem zip_dot : ∀ (as bs : List Int), zipD (as.map .int) (bs.map .int) = (as.zip bs).map dotD
  | [], _ => rfl
  | _ :: _, [] => rfl
  | a :: as, b :: bs => by
    show D.tup [.int a, .int b] :: zipD (as.map .int) (bs.map .int) = _ :: _
    rw [zip_dot as bs]
    rfl
theorem cut_to {l : List D} {n : Int} (h : 0 ≤ n) : cut l none (some n) = l.take n.toNat := by
  unfold cut
  have e : n = ((n.toNat : Nat) : Int) := by omega
  rw [e, HT.sIx_nat]
  show (l.drop 0).take (min n.toNat l.length - 0) = _
  rw [List.drop_zero, Nat.sub_zero, Int.toNat_natCast]
  rw [Nat.min_def]
  split
  · rfl
  · rw [List.take_length, List.take_of_length_le (by omega)]
theorem rts_hs {p k r : Int} (F : FitP p k r) {ys : List Int} (hl : (ys.length : Int) = r) : rts p ((hsP p k r).zip ys) = hsP p k r := by
  have lh := hsP_len F
  unfold rts
  have e : ((hsP p k r).zip ys).map (fun d => d.1 % p) = (hsP p k r).map fun x => x % p := by
    have : ((hsP p k r).zip ys).map (fun d => d.1 % p) = (((hsP p k r).zip ys).map Prod.fst).map fun x => x % p := by rw [List.map_map]; rfl
    rw [this, List.map_fst_zip (by omega)]
  rw [e]
  exact red_of fun a ha => by
    have b := hsP_bd F a ha
    exact Int.emod_eq_of_lt b.1 b.2
theorem zip_len {p k r : Int} (F : FitP p k r) {ys : List Int} (hl : (ys.length : Int) = r) : ((hsP p k r).zip ys).length = r.toNat := by
  have lh := hsP_len F
  rw [List.length_zip]
  omega
/-- the polynomial of a column has its worths at the rows' places -/
theorem str_at {p k r : Int} (F : FitP p k r) (r32 : r ≤ 32) {ys : List Int} (hl : (ys.length : Int) = r) {m : Nat} (hm : m < r.toNat) : Cg p (ev (strP p k r ys) ((hsP p k r).getD m 0)) (ys.getD m 0) := by
  have lz := zip_len F hl
  have lh := hsP_len F
  unfold strP
  refine (ev_can p _ _).trans ?_
  have h := tot_ok (p := p) (ds := (hsP p k r).zip ys) (prm_fit F r32) (by rw [rts_hs F hl]; exact hs_nodup F r32) (j := m) (by omega)
  rw [rts_hs F hl, lz] at h
  refine h.trans (Cg.of_eq ?_)
  rw [List.getD_eq_getElem?_getD, List.getElem?_eq_getElem (by omega), List.getElem_zip, List.getD_eq_getElem?_getD, List.getElem?_eq_getElem (by omega)]
  rfl
theorem hs_le {p k r : Int} (F : FitP p k r) : ((hsP p k r).length : Int) ≤ p - 1 := by
  have := hsP_len F
  have := F.p0
  have := F.r1
  omega
theorem strP_len {p k r : Int} (F : FitP p k r) {ys : List Int} (hl : (ys.length : Int) = r) : (strP p k r ys).length ≤ r.toNat := by
  unfold strP
  refine Nat.le_trans (can_len p _) ?_
  rw [tot_len, zip_len F hl]
  exact Nat.le_refl _
theorem inv_r {p k r : Int} (F : FitP p k r) (r32 : r ≤ 32) : Cg p (invF p r * (hsP p k r).length) 1 := by
  have P := prm_fit F r32
  have p0 := F.p0
  have r0 := F.r0
  have lh := hsP_len F
  rw [lh]
  have h := fermat_inv P (x := r) (by rw [Int.emod_eq_of_lt (by omega) (by omega)]; omega)
  exact Cg.iff.mpr (by unfold invF; rw [h, Int.emod_eq_of_lt (by decide) (by omega)])
theorem dft_at {p k r : Int} (F : FitP p k r) (r32 : r ≤ 32) {ys : List Int} {m : Nat} (hm : m < r.toNat) : Cg p (ev (dfts p (invF p r) ys (hsP p k r)) ((hsP p k r).getD m 0)) (ys.getD m 0) := by
  have lh := hsP_len F
  exact dft_ok (rt_fit F r32) (fun i hi => hs_at (by omega)) (inv_r F r32) (by omega)
/-- the law's coefficients are the program's -/
theorem lw_str {p k r : Int} (F : FitP p k r) (r32 : r ≤ 32) {ys : List Int} (hl : (ys.length : Int) = r) : lwP p k r ys = strP p k r ys := by
  have lh := hsP_len F
  have h := can_uniq (prm_fit F r32) (A := dfts p (invF p r) ys (hsP p k r)) (B := strP p k r ys) (hs_nodup F r32) (hsP_bd F) (by unfold dfts; simp) (by have := strP_len F hl; omega) (hs_le F) fun z hz => by
    obtain ⟨i, hi, rfl⟩ := List.getElem_of_mem hz
    have e : (hsP p k r)[i] = (hsP p k r).getD i 0 := by rw [List.getD_eq_getElem?_getD, List.getElem?_eq_getElem hi]; rfl
    rw [e]
    exact (dft_at F r32 (by omega)).trans (str_at F r32 hl (by omega)).symm
  unfold lwP
  rw [h]
  unfold strP
  rw [can_can]

end DL

set_option maxRecDepth 100000
set_option maxHeartbeats 4000000
namespace DL
open PySem L2 K0 K1
section
variable {P : Program} {w : World} {K : PySem.W.Frag} {mg : Str → Option Value} {base : Heap}
theorem ok_Places_layers (T : Txt K mg) : FnOk P w K mg base CX0 1 T.f_Places_layers T.fd_Places_layers ["self"] (spD K 1 (spLysD T.C_Places)) := by
  refine fnD T.F_Places_layers sc_Places_layers rfl (fun cdv A outer s H E hr => ⟨_, (bd_one (sd_ret (ex_op d_sub (ed_bits (ed_fld (dv 0) rfl)) ed_int))), fun g Qd Ed h => ?_⟩)
  obtain ⟨p, k, r, rfl, q⟩ := h
  exact q

theorem ok_Places_layer (T : Txt K mg) : FnOk P w K mg base CX0 4 T.f_Places_layer T.fd_Places_layer ["self", "at"] (spD K 2 (spLyrD T.C_Places T.C_Code)) := by
  refine fnD T.F_Places_layer sc_Places_layer rfl (fun cdv A outer s H E hr => ⟨_, (bd_cons (sd_if (td_not (td_truth (EX.d (ex_call (ok_is_number T) (hr.mono (by decide)) (by rfl) T.g_is_number T.F_is_number.kp T.b_is_number .nil (fun _ => .nil) (qd_cons (dv 1) (qd_cons ed_int (qd_cons (EX.d (ex_op d_add (EX.d (ex_prop (dv 0) T.cl_Places T.pp_Places_layers (ok_Places_layers T) (hr.mono (by decide)) T.b_Places_layers rfl)) ed_int)) qd_nil))) rfl)))) (bd_one sd_never) bd_nil)
      (bd_cons (sd_set (i := 2) sc_Places_layer.nd rfl (Or.inl rfl) (ex_slice (ed_fld (dv 0) rfl) pd_none (pd_some (EX.d (ex_op d_shr (EX.d (ex_prop (dv 0) T.cl_Places T.pp_Places_size (ok_Places_size T) (hr.mono (by decide)) T.b_Places_size rfl)) (dv 1))))))
      (bd_cons (sd_for PassesOwn.never rfl (id_range1 (by rfl) T.z_range (ad_cons (dv 1) ad_nil)) (gd_name (i := 3) sc_Places_layer.nd rfl (Or.inl rfl)) (bd_one (sd_setLc (i := 2) (own := [("x", 4)]) (by rfl) sc_Places_layer.nd rfl rfl (sw_true rfl rfl rfl (by decide +kernel)) (id_seq (dv 2)) (blkOk_by (own := [("x", 4)]) (N := ["self", "at", "worths", "_", "x"]) (sc := defScope s_Places_layer) (by decide +kernel)) (fun _ _ _ _ _ => (gd_name (i := 4) sc_Places_layer.nd rfl (Or.inl rfl))) (fun _ _ _ _ _ => tsd_nil) (fun _ _ _ _ _ => (EX.d (ex_op d_mod (EX.d (ex_op d_mul (dv 4) (dv 4))) (ed_fld (dv 0) rfl)))))))
      (bd_one (sd_ret (ex_makeK T.cl_Code T.mk_Code (ok_Code_init_ T) (hr.mono (by decide)) (by rfl) T.gC_Code T.kb_Code_init__3_p (fun _ _ _ => rfl) (kwd_app rfl) rfl (ad_cons (dv 2) (ad_cons (EX.d (ex_op d_shr (EX.d (ex_prop (dv 0) T.cl_Places T.pp_Places_degree (ok_Places_degree T) (hr.mono (by decide)) T.b_Places_degree rfl)) (dv 1))) ad_nil)) (kd_cons (ed_fld (dv 0) rfl) kd_nil) rfl)))))), fun g Qd Ed h => ?_⟩)
  obtain ⟨p, k, r, i, rfl, F, hi, q⟩ := h
  have p0 := F.p0
  have p1 := F.p1
  have r0 := F.r0
  have r1 := F.r1
  have l := wsP_len F
  have lb : i ≤ 100 := by
    have : lyP r ≤ 6 := by
      rcases rows_in F with h | h | h | h | h <;> rw [h] <;> decide
    omega
  have hc : (decide ((0 : Int) ≤ (i : Nat)) && decide (((i : Nat) : Int) ≤ lyP r + 1)) = true := by
    rw [decide_eq_true hi, decide_eq_true (Int.natCast_nonneg i)]
    rfl
  refine ⟨rfl, p, k, r, rfl, (i : Nat), 0, lyP r + 1, rfl, ?_⟩
  rw [hc]
  refine ⟨rfl, p, k, r, rfl, Int.natCast_nonneg i, ?_⟩
  have q0 : 0 ≤ 16 * r / 2 ^ ((i : Nat) : Int).toNat := Int.ediv_nonneg (by omega) (Int.pow_nonneg (by decide))
  have ec : cut ((wsP p k r).map D.int) none (some (16 * r / 2 ^ ((i : Nat) : Int).toNat)) = ((wsP p k r).take (16 * r / 2 ^ i).toNat).map .int := by
    rw [cut_to q0, List.map_take, Int.toNat_natCast]
  have lt : ((wsP p k r).take (16 * r / 2 ^ i).toNat).length ≤ 1024 := by rw [List.length_take]; omega
  have bt : ∀ z ∈ (wsP p k r).take (16 * r / 2 ^ i).toNat, 0 ≤ z ∧ z < p := fun z hz => wsP_bd F z (List.mem_of_mem_take hz)
  have el : lyr p k r i = lyW p ((wsP p k r).take (16 * r / 2 ^ i).toNat) i := rfl
  generalize (wsP p k r).take (16 * r / 2 ^ i).toNat = l0 at ec lt bt el
  have bd : ∀ j, ∀ z ∈ lyW p l0 j, 0 ≤ z ∧ z < p := fun j => by
    cases j with
    | zero => exact bt
    | succ j =>
      intro z hz
      obtain ⟨y, _, rfl⟩ := List.mem_map.mp hz
      exact ⟨Int.emod_nonneg _ (by omega), Int.emod_lt_of_pos _ (by omega)⟩
  have SqL' : ∀ j, SeqI (.lst ((lyW p l0 j).map .int)) (lyW p l0 j) := fun j => .inl rfl
  refine ⟨⟨by omega, by omega⟩, fun j g => ∃ s2 s3, (s2 = Sl.sh (TI' (lyW p l0 j)) ∨ s2 = .ow (.lst ((lyW p l0 j).map .int))) ∧ g = [.sh (PlD T.C_Places p k r), .sh (.int (i : Nat)), s2, s3, .no], ⟨_, .no, .inl rfl, ?_⟩, ?_, ?_⟩
  · show [_, _, Sl.sh (.tup (cut ((wsP p k r).map D.int) none (some (16 * r / 2 ^ ((i : Nat) : Int).toNat)))), _, _] = _
    rw [ec]
    rfl
  · rintro j x g2 hx ⟨s2, s3, h2, rfl⟩
    obtain ⟨hj, rfl⟩ := range_at hx
    have lj := lyW_len p l0 j
    rcases h2 with rfl | rfl
    · refine ⟨?_, fun m acc g => g = [.sh (PlD T.C_Places p k r), .sh (.int (i : Nat)), .sh (TI' (lyW p l0 j)), .sh (.int (0 + (j : Nat))), .no] ∧ acc = ((lyW p l0 (j + 1)).take m).map .int, ⟨rfl, rfl⟩, ?_, ?_⟩
      · rw [List.length_map]
        exact small_line (by omega)
      · rintro m z acc g2 hz _ ⟨rfl, rfl⟩
        obtain ⟨n, hn, rfl⟩ := mapI_get hz
        have b := bd j n (List.mem_of_getElem? hn)
        exact ⟨.l ⟨by omega, by omega⟩, (by show (0 : Int) < p; omega), rfl, take_map (by show ((lyW p l0 j).map _)[m]? = _; rw [List.getElem?_map, hn]; rfl)⟩
      · rintro acc g2 _ ⟨rfl, rfl⟩
        refine ⟨_, .sh (.int (0 + (j : Nat))), .inr rfl, ?_⟩
        rw [List.length_map, List.take_of_length_le (by rw [lj, lyW_len]; exact Nat.le_refl _)]
        rfl
    · refine ⟨?_, fun m acc g => g = [.sh (PlD T.C_Places p k r), .sh (.int (i : Nat)), .sh (LI (lyW p l0 j)), .sh (.int (0 + (j : Nat))), .no] ∧ acc = ((lyW p l0 (j + 1)).take m).map .int, ⟨rfl, rfl⟩, ?_, ?_⟩
      · rw [List.length_map]
        exact small_line (by omega)
      · rintro m z acc g2 hz _ ⟨rfl, rfl⟩
        obtain ⟨n, hn, rfl⟩ := mapI_get hz
        have b := bd j n (List.mem_of_getElem? hn)
        exact ⟨.l ⟨by omega, by omega⟩, (by show (0 : Int) < p; omega), rfl, take_map (by show ((lyW p l0 j).map _)[m]? = _; rw [List.getElem?_map, hn]; rfl)⟩
      · rintro acc g2 _ ⟨rfl, rfl⟩
        refine ⟨_, .sh (.int (0 + (j : Nat))), .inr rfl, ?_⟩
        rw [List.length_map, List.take_of_length_le (by rw [lj, lyW_len]; exact Nat.le_refl _)]
        rfl
  · rintro g2 ⟨s2, s3, h2, rfl⟩
    rw [rng_len, Int.toNat_natCast] at h2
    have ll := lyW_len p l0 i
    rw [el] at q
    have e2 : ((i : Nat) : Int).toNat = i := Int.toNat_natCast i
    rcases h2 with rfl | rfl
    · refine ⟨rfl, p, k, r, rfl, Int.natCast_nonneg i, _, lyW p l0 i, 2 * r / 2 ^ ((i : Nat) : Int).toNat, p, rfl, .inr rfl, (by omega), by omega, ?_⟩
      rw [e2]
      exact q
    · refine ⟨rfl, p, k, r, rfl, Int.natCast_nonneg i, _, lyW p l0 i, 2 * r / 2 ^ ((i : Nat) : Int).toNat, p, rfl, .inl rfl, (by omega), by omega, ?_⟩
      rw [e2]
      exact q

theorem ok_Places_stretched_poly (T : Txt K mg) : FnOk P w K mg base CX0 6 T.f_Places_stretched_poly T.fd_Places_stretched_poly ["self", "column"] (spD K 2 (spStpD T.C_Places T.C_Poly)) := by
  refine fnD T.F_Places_stretched_poly sc_Places_stretched_poly rfl (fun cdv A outer s H E hr => ⟨_, (bd_one (sd_ret (ex_st (ed_glob (v := .ref T.C_Poly) (by rfl) T.gC_Poly rfl fun _ => Rep.ofRaw _) T.st_Poly_through (ok_Poly_through T) (hr.mono (by decide)) T.kb_Poly_through_1_p (kwd_app rfl) (ad_cons (EX.d (ex_listZip (by rfl) T.z_list T.z_zip (ad_cons (ed_fld (dv 0) rfl) (ad_cons (dv 1) ad_nil)))) ad_nil) (kd_cons (ed_fld (dv 0) rfl) kd_nil) rfl))), fun g Qd Ed h => ?_⟩)
  obtain ⟨p, k, r, x, ys, rfl, hx, F, r32, hl, q⟩ := h
  have lh := hsP_len F
  have p0 := F.p0
  have p1 := F.p1
  have lz := zip_len F hl
  have P1 := prm_fit F r32
  refine ⟨rfl, (hsP p k r).map .int, ys.map .int, rfl, ?_, ?_, ?_⟩
  · rcases hx with rfl | rfl <;> rfl
  · rw [zipD_len]
    exact small_line (by simp; omega)
  rw [zip_dot]
  refine ⟨(hsP p k r).zip ys, p, rfl, P1, by omega, by omega, fun i hi => ?_, ?_⟩
  · exact prt_self P1 (by rw [rts_hs F hl]; exact hs_nodup F r32) hi
  · rw [lz]
    exact q

theorem ok_Places_stretched (T : Txt K mg) : FnOk P w K mg base CX0 7 T.f_Places_stretched T.fd_Places_stretched ["self", "column"] (spD K 2 (spStrD T.C_Places)) := by
  refine fnD T.F_Places_stretched sc_Places_stretched rfl (fun cdv A outer s H E hr => ⟨_, (bd_cons (sd_set (i := 2) sc_Places_stretched.nd rfl (Or.inr rfl) (ex_meth (dv 0) T.cl_Places T.me_Places_stretched_poly (ok_Places_stretched_poly T) (hr.mono (by decide)) T.b_Places_stretched_poly .nil (fun _ => .nil) (qd_cons (dv 1) qd_nil) rfl))
      (bd_one (sd_ret (ex_callTy b_tuple (by rfl) T.z_tuple (by decide +kernel) (ad_cons (EX.d (ex_lc (own := [("x", 3)]) (by rfl) sc_Places_stretched.nd (id_seq (ed_fld (dv 0) rfl)) (blkOk_by (own := [("x", 3)]) (N := ["self", "column", "poly", "x"]) (sc := defScope s_Places_stretched) (by decide +kernel)) (fun _ _ _ _ _ => (gd_name (i := 3) sc_Places_stretched.nd rfl (Or.inl rfl))) (fun _ _ _ _ _ => tsd_nil) (fun _ _ _ _ _ => (EX.d (ex_callO (dv 2) T.cO_Poly (ok_Poly_call_ T) T.b_Poly_call_ (hr.mono (by decide)) (ad_cons (dv 3) ad_nil) rfl))))) ad_nil))))), fun g Qd Ed h => ?_⟩)
  obtain ⟨p, k, r, x, ys, rfl, hx, F, r32, hl, q⟩ := h
  have p0 := F.p0
  have p1 := F.p1
  have l := wsP_len F
  refine ⟨rfl, p, k, r, x, ys, rfl, hx, F, r32, hl, ?_⟩
  refine ⟨?_, fun i acc g => ∃ s2, (s2 = Sl.sh (PolyD T.C_Poly p (strP p k r ys)) ∨ s2 = .ow (.ins T.C_Poly ["coefficients", "p"] [TI' (strP p k r ys), .int p])) ∧ g = [.sh (PlD T.C_Places p k r), .sh x, s2, .no] ∧ acc = (((wsP p k r).map fun x => ev (strP p k r ys) x % p).take i).map .int, ⟨_, .inr rfl, rfl, rfl⟩, ?_, ?_⟩
  · rw [List.length_map]
    exact small_line (by omega)
  · rintro i z acc g2 hz _ ⟨s2, h2, rfl, rfl⟩
    obtain ⟨n, hn, rfl⟩ := mapI_get hz
    rcases h2 with rfl | rfl
    · exact ⟨rfl, _, n, p, rfl, ⟨by omega, by omega⟩, _, .inl rfl, rfl, take_map (by rw [List.getElem?_map, hn]; rfl)⟩
    · exact ⟨rfl, _, n, p, rfl, ⟨by omega, by omega⟩, _, .inl rfl, rfl, take_map (by rw [List.getElem?_map, hn]; rfl)⟩
  · rintro acc g2 _ ⟨s2, h2, rfl, rfl⟩
    rw [List.length_map, List.take_of_length_le (by rw [List.length_map]; exact Nat.le_refl _)]
    exact q

theorem ok_law_lane (T : Txt K mg) : FnOk P w K mg base CX0 4 T.f_law_lane T.fd_law_lane ["box", "prime", "high"] (spD K 3 spLaneD) := by
  refine fnD T.F_law_lane sc_law_lane rfl (fun cdv A outer s H E hr => ⟨_, (bd_cons (sd_set (i := 3) sc_law_lane.nd rfl (Or.inl rfl) (ex_call (ok_law_draw T) (hr.mono (by decide)) (by rfl) T.g_law_draw T.F_law_draw.kp T.b_law_draw .nil (fun _ => .nil) (qv 0 (qd_cons ed_int qd_nil)) rfl))
      (bd_cons (sd_if (td_cmp (d_eq hr.units) (dv 3) ed_int (nomark _)) (bd_one (sd_ret (ex_op d_mul (EX.d (ex_lst (ad_cons (EX.d (ex_call (ok_law_number T) (hr.mono (by decide)) (by rfl) T.g_law_number T.F_law_number.kp T.b_law_number .nil (fun _ => .nil) (qv 0 (qd_cons (dv 1) qd_nil)) rfl)) ad_nil))) (dv 2)))) bd_nil)
      (bd_cons (sd_if (td_cmp (d_eq hr.units) (dv 3) ed_int (nomark _)) (bd_cons (sd_asg (ed_tup (ad_cons (EX.d (ex_call (ok_law_draw T) (hr.mono (by decide)) (by rfl) T.g_law_draw T.F_law_draw.kp T.b_law_draw .nil (fun _ => .nil) (qv 0 (qd_cons (dv 2) qd_nil)) rfl)) (ad_cons (EX.d (ex_call (ok_law_number T) (hr.mono (by decide)) (by rfl) T.g_law_number T.F_law_number.kp T.b_law_number .nil (fun _ => .nil) (qv 0 (qd_cons (dv 1) qd_nil)) rfl)) ad_nil))) (gd_tup (n := 2) (by rfl) (gsd_cons (gd_name (i := 4) sc_law_lane.nd rfl (Or.inr rfl)) (gsd_cons (gd_name (i := 5) sc_law_lane.nd rfl (Or.inr rfl)) gsd_nil))))
      (bd_one (sd_ret (ex_lc (own := [("k", 6)]) (by rfl) sc_law_lane.nd (id_range1 (by rfl) T.z_range (ad_cons (dv 2) ad_nil)) (blkOk_by (own := [("k", 6)]) (N := ["box", "prime", "high", "way", "pick", "gain", "k", "start", "step"]) (sc := defScope s_law_lane) (by decide +kernel)) (fun _ _ _ _ _ => (gd_name (i := 6) sc_law_lane.nd rfl (Or.inl rfl))) (fun _ _ _ _ _ => tsd_nil) (fun _ _ _ _ _ => (EX.d (ex_ifExp (td_cmp (d_eq hr.units) (dv 6) (dv 4) (nomark _)) (ED.x (dv 5)) (ED.x ed_int)))))))) bd_nil)
      (bd_cons (sd_if (td_cmp (d_eq hr.units) (dv 3) ed_int (nomark _)) (bd_cons (sd_asg (ed_tup (ad_cons (EX.d (ex_call (ok_law_draw T) (hr.mono (by decide)) (by rfl) T.g_law_draw T.F_law_draw.kp T.b_law_draw .nil (fun _ => .nil) (qv 0 (qd_cons (dv 1) qd_nil)) rfl)) (ad_cons (EX.d (ex_call (ok_law_draw T) (hr.mono (by decide)) (by rfl) T.g_law_draw T.F_law_draw.kp T.b_law_draw .nil (fun _ => .nil) (qv 0 (qd_cons (dv 1) qd_nil)) rfl)) ad_nil))) (gd_tup (n := 2) (by rfl) (gsd_cons (gd_name (i := 7) sc_law_lane.nd rfl (Or.inr rfl)) (gsd_cons (gd_name (i := 8) sc_law_lane.nd rfl (Or.inr rfl)) gsd_nil))))
      (bd_one (sd_ret (ex_lc (own := [("k", 6)]) (by rfl) sc_law_lane.nd (id_range1 (by rfl) T.z_range (ad_cons (dv 2) ad_nil)) (blkOk_by (own := [("k", 6)]) (N := ["box", "prime", "high", "way", "pick", "gain", "k", "start", "step"]) (sc := defScope s_law_lane) (by decide +kernel)) (fun _ _ _ _ _ => (gd_name (i := 6) sc_law_lane.nd rfl (Or.inl rfl))) (fun _ _ _ _ _ => tsd_nil) (fun _ _ _ _ _ => (EX.d (ex_op d_mod (EX.d (ex_callTy b_int (by rfl) T.z_int (by decide +kernel) (ad_cons (EX.d (ex_op d_add (dv 7) (EX.d (ex_op d_mul (dv 8) (dv 6))))) ad_nil))) (dv 1)))))))) bd_nil)
      (bd_one (sd_ret (ex_lc (own := [("k", 6)]) (by rfl) sc_law_lane.nd (id_range1 (by rfl) T.z_range (ad_cons (dv 2) ad_nil)) (blkOk_by (own := [("k", 6)]) (N := ["box", "prime", "high", "way", "pick", "gain", "k", "start", "step"]) (sc := defScope s_law_lane) (by decide +kernel)) (fun _ _ _ _ _ => (gd_name (i := 6) sc_law_lane.nd rfl (Or.inl rfl))) (fun _ _ _ _ _ => tsd_nil) (fun _ _ _ _ _ => (EX.d (ex_call (ok_law_number T) (hr.mono (by decide)) (by rfl) T.g_law_number T.F_law_number.kp T.b_law_number .nil (fun _ => .nil) (qv 0 (qd_cons (dv 1) qd_nil)) rfl)))))))))), fun g Qd Ed h => ?_⟩)
  obtain ⟨bs, p, r, rfl, hb, hp, ⟨r0, r1⟩, q⟩ := h
  refine ⟨bs, _, rfl, hb, ⟨by decide, by decide⟩, fun b1 way h1 _ _ => ?_⟩
  have hrl : r.toNat ≤ 100000 := by omega
  refine ite2 (fun c => ?_) (fun c => ?_)
  · refine ⟨b1, p, rfl, h1, hp, fun b2 n h2 _ _ => ⟨⟨by omega, by omega, small_line (by show 1 * r.toNat ≤ 100000; omega)⟩, ?_⟩⟩
    have e : (List.replicate r.toNat [D.int n]).flatten = (List.replicate r.toNat n).map D.int := rep_int n _
    show Qd (.ow (.lst (List.replicate r.toNat [D.int n]).flatten)) [.lst b2]
    rw [e]
    exact q b2 _ h2 (by rw [List.length_replicate]; omega)
  refine ite2 (fun c => ?_) (fun c => ?_)
  · refine ⟨b1, r, rfl, h1, ⟨by omega, by omega⟩, fun b2 pick h2 _ _ => ⟨b2, p, rfl, h2, hp, fun b3 gain h3 _ _ => ?_⟩⟩
    refine ⟨rfl, ⟨by omega, by omega⟩, small_line (by rw [rng_len]; omega), fun j acc g => g = [.bx 0 (.lst b3), .sh (.int p), .sh (.int r), .sh (.int way), .sh (.int pick), .sh (.int gain), .no, .no, .no] ∧ acc = ((List.range j).map fun k : Nat => if (0 + (k : Int)) = pick then gain else 0).map .int, ⟨rfl, rfl⟩, ?_, ?_⟩
    · rintro j x acc g2 hx _ ⟨rfl, rfl⟩
      obtain ⟨hj, rfl⟩ := range_at hx
      refine ite2 (fun c => ⟨rfl, ?_⟩) (fun c => ⟨rfl, ?_⟩)
      · rw [range_map, List.map_append, if_pos (of_decide_eq_true c)]
        rfl
      · rw [range_map, List.map_append, if_neg (fun z => c (decide_eq_true z))]
        rfl
    · rintro acc g2 _ ⟨rfl, rfl⟩
      exact q b3 _ h3 (by rw [List.length_map, List.length_range, rng_len]; omega)
  refine ite2 (fun c => ?_) (fun c => ?_)
  · refine ⟨b1, p, rfl, h1, ⟨by omega, by omega⟩, fun b2 start h2 _ _ => ⟨b2, p, rfl, h2, ⟨by omega, by omega⟩, fun b3 step h3 s0 s1 => ?_⟩⟩
    refine ⟨rfl, ⟨by omega, by omega⟩, small_line (by rw [rng_len]; omega), fun j acc g => g = [.bx 0 (.lst b3), .sh (.int p), .sh (.int r), .sh (.int way), .no, .no, .no, .sh (.int start), .sh (.int step)] ∧ acc = ((List.range j).map fun k : Nat => (start + step * (0 + (k : Int))) % p).map .int, ⟨rfl, rfl⟩, ?_, ?_⟩
    · rintro j x acc g2 hx _ ⟨rfl, rfl⟩
      obtain ⟨hj, rfl⟩ := range_at hx
      refine ⟨.r ⟨by omega, by omega⟩, hp.1, rfl, ?_⟩
      rw [range_map, List.map_append]
      rfl
    · rintro acc g2 _ ⟨rfl, rfl⟩
      exact q b3 _ h3 (by rw [List.length_map, List.length_range, rng_len]; omega)
  refine ⟨⟨by omega, by omega⟩, small_line (by rw [rng_len]; omega), fun j acc g => ∃ (b : List D) (l : List Int), IsBox b ∧ l.length = j ∧ g = [.bx 0 (.lst b), .sh (.int p), .sh (.int r), .sh (.int way), .no, .no, .no, .no, .no] ∧ acc = l.map .int, ⟨b1, [], h1, rfl, rfl, rfl⟩, ?_, ?_⟩
  · rintro j x acc g2 hx _ ⟨b, l, hb, hl, rfl, rfl⟩
    refine ⟨b, p, rfl, hb, hp, fun b' n h' _ _ => ⟨b', l ++ [n], h', by simp [hl], rfl, by show l.map D.int ++ [D.int n] = _; simp⟩⟩
  · rintro acc g2 _ ⟨b, l, hb, hl, rfl, rfl⟩
    exact q b l hb (by rw [hl, rng_len]; omega)

theorem ok_law_stretch (T : Txt K mg) : FnOk P w K mg base CX0 4 T.f_law_stretch T.fd_law_stretch ["lane", "hops", "prime"] (spD K 3 spLStD) := by
  refine fnD T.F_law_stretch sc_law_stretch rfl (fun cdv A outer s H E hr => ⟨_, (bd_cons (sd_set (i := 3) sc_law_stretch.nd rfl (Or.inr rfl) (ex_callB b_len (by rfl) T.z_len (by decide +kernel) (ad_cons (dv 1) ad_nil)))
      (bd_cons (sd_par (i := 4) (j := 5) (by rfl) sc_law_stretch.nd rfl rfl (by decide) rfl rfl (ex_call (ok_law_inverse T) (hr.mono (by decide)) (by rfl) T.g_law_inverse T.F_law_inverse.kp T.b_law_inverse .nil (fun _ => .nil) (qd_cons (dv 3) (qd_cons (dv 2) qd_nil)) rfl) (ex_lst ad_nil) (by rfl))
      (bd_cons (sd_for PassesOwn.never rfl (id_range1 (by rfl) T.z_range (ad_cons (dv 3) ad_nil)) (gd_name (i := 6) sc_law_stretch.nd rfl (Or.inr rfl)) (bd_one (sd_expr (app 5 (EX.d (ex_op d_mod (EX.d (ex_callTy b_int (by rfl) T.z_int (by decide +kernel) (ad_cons (EX.d (ex_op d_mul (dv 4) (EX.d (ex_callB (b_sum rfl) (by rfl) T.z_sum (by decide +kernel) (ad_cons (EX.d (ex_lc (own := [("m", 7)]) (by rfl) sc_law_stretch.nd (id_range1 (by rfl) T.z_range (ad_cons (dv 3) ad_nil)) (blkOk_by (own := [("m", 7)]) (N := ["lane", "hops", "prime", "many", "turn", "found", "k", "m"]) (sc := defScope s_law_stretch) (by decide +kernel)) (fun _ _ _ _ _ => (gd_name (i := 7) sc_law_stretch.nd rfl (Or.inl rfl))) (fun _ _ _ _ _ => tsd_nil) (fun _ _ _ _ _ => (EX.d (ex_op d_mul (ed_ix (dv 0) (dv 7) (fun _ _ => rfl)) (ed_ix (dv 1) (EX.d (ex_op d_mod (EX.d (ex_callTy b_int (by rfl) T.z_int (by decide +kernel) (ad_cons (EX.d (ex_op d_sub ed_int (EX.d (ex_op d_mul (dv 6) (dv 7))))) ad_nil))) (dv 3))) (fun _ _ => rfl))))))) ad_nil))))) ad_nil))) (dv 2)))))))
      (bd_cons (sd_for PassesOwn.never rfl (id_range1 (by rfl) T.z_range (ad_cons (dv 3) ad_nil)) (gd_name (i := 7) sc_law_stretch.nd rfl (Or.inl rfl)) (bd_one (sd_if (td_cmp (d_ne hr.units) (EX.d (ex_call (ok_law_worth T) (hr.mono (by decide)) (by rfl) T.g_law_worth T.F_law_worth.kp T.b_law_worth .nil (fun _ => .nil) (qd_cons (dv 5) (qd_cons (ed_ix (dv 1) (dv 7) (fun _ _ => rfl)) (qd_cons (dv 2) qd_nil))) rfl)) (EX.d (ex_op d_mod (EX.d (ex_callTy b_int (by rfl) T.z_int (by decide +kernel) (ad_cons (ed_ix (dv 0) (dv 7) (fun _ _ => rfl)) ad_nil))) (dv 2))) (nomark _)) (bd_one (sd_ret (ED.x ed_non))) bd_nil)))
      (bd_one (sd_ret (ex_call (ok_law_trim T) (hr.mono (by decide)) (by rfl) T.g_law_trim T.F_law_trim.kp T.b_law_trim .nil (fun _ => .nil) (qd_cons (dv 5) (qd_cons (dv 2) qd_nil)) rfl))))))), fun g Qd Ed h => ?_⟩)
  obtain ⟨ys, p, k, r, rfl, F, r32, hl, q⟩ := h
  have p0 := F.p0
  have p1 := F.p1
  have r0 := F.r0
  have lh := hsP_len F
  have hb := hsP_bd F
  have hn : (hsP p k r).length = r.toNat := by omega
  generalize hM : (((hsP p k r).map D.int).length : Int) = M
  have er : M = r := by rw [← hM, List.length_map]; exact lh
  have ivb : 0 ≤ invF p M ∧ invF p M < p := ⟨Int.emod_nonneg _ (by omega), Int.emod_lt_of_pos _ (by omega)⟩
  refine ⟨((hsP p k r).map D.int).length, p, rfl, ⟨by omega, by omega⟩, ?_⟩
  rw [hM]
  refine ⟨⟨by omega, by omega⟩, fun i g => ∃ s6, g = [.sh (LI ys), .sh (LI (hsP p k r)), .sh (.int p), .sh (.int M), .sh (.int (invF p M)), .ow (.lst (((List.range i).map (dft p (invF p M) ys (hsP p k r))).map .int)), s6, .no], ⟨.no, ?_⟩, ?_, ?_⟩
  · rfl
  · rintro i x g2 hx ⟨s6, rfl⟩
    obtain ⟨hi, rfl⟩ := range_at hx
    refine ⟨⟨by omega, by omega⟩, small_line (by rw [rng_len]; omega), fun j acc g => g = [.sh (LI ys), .sh (LI (hsP p k r)), .sh (.int p), .sh (.int M), .sh (.int (invF p M)), .ow (.lst (((List.range i).map (dft p (invF p M) ys (hsP p k r))).map .int)), .sh (.int (0 + (i : Nat))), .no] ∧ acc = ((List.range j).map fun m => ys.getD m 0 * (hsP p k r).getD (ngm (hsP p k r).length i m) 0).map .int, ⟨rfl, rfl⟩, ?_, ?_⟩
    · rintro j x acc g2 hx _ ⟨rfl, rfl⟩
      obtain ⟨hj, rfl⟩ := range_at hx
      have en : ((ngm (hsP p k r).length i j : Nat) : Int) = (0 - (0 + (i : Nat)) * (0 + (j : Nat))) % M := by
        unfold ngm
        rw [lh, ← er, Int.zero_add, Int.zero_add]
        have := Int.emod_nonneg (0 - (i : Int) * (j : Int)) (show M ≠ 0 by omega)
        omega
      have nl := ngm_lt (n := (hsP p k r).length) (by omega) i j
      have e1 : L2.atI ((hsP p k r).map D.int) ((0 - (0 + (i : Nat)) * (0 + (j : Nat))) % M) = some (.int ((hsP p k r).getD (ngm (hsP p k r).length i j) 0)) := by
        rw [← en]
        exact atI_getD nl
      have e2 : L2.atI (ys.map D.int) (0 + (j : Nat)) = some (.int (ys.getD j 0)) := by
        rw [Int.zero_add]
        exact atI_getD (by omega)
      have bb := hb _ (getD_mem nl)
      refine ⟨_, e2, .l ⟨by omega, by omega⟩, (by show (0 : Int) < M; omega), _, e1, .r ⟨by omega, by omega⟩, rfl, ?_⟩
      rw [range_map, List.map_append]
      rfl
    · rintro acc g2 _ ⟨rfl, rfl⟩
      have es : ((List.range (rngD 0 M.toNat).length).map fun m => ys.getD m 0 * (hsP p k r).getD (ngm (hsP p k r).length i m) 0).sum = sm (hsP p k r).length fun m => ys.getD m 0 * (hsP p k r).getD (ngm (hsP p k r).length i m) 0 := by
        rw [sum_sm, rng_len, er, hn]
      refine ⟨_, rfl, .l ⟨by omega, by omega⟩, (by show (0 : Int) < p; omega), ?_, .sh (.int (0 + (i : Nat))), ?_⟩
      · rw [List.length_map, List.length_map, List.length_range]
        exact Nat.lt_of_lt_of_le (m := 100000) (by omega) (by decide)
      · rw [es, range_map, List.map_append]
        rfl
  · rintro g2 ⟨s6, rfl⟩
    have ed : (List.range (rngD 0 M.toNat).length).map (dft p (invF p M) ys (hsP p k r)) = dfts p (invF p r) ys (hsP p k r) := by
      unfold dfts
      rw [rng_len, er, hn]
    rw [ed]
    generalize hF : dfts p (invF p r) ys (hsP p k r) = fnd
    have lf : fnd.length = r.toNat := by rw [← hF]; unfold dfts; rw [List.length_map, List.length_range, hn]
    refine ⟨⟨by omega, by omega⟩, fun i g => ∃ s5 s6 s7, (s5 = Sl.sh (LI fnd) ∨ s5 = .ow (.lst (fnd.map .int))) ∧ g = [.sh (LI ys), .sh (LI (hsP p k r)), .sh (.int p), .sh (.int M), .sh (.int (invF p M)), s5, s6, s7], ⟨_, s6, .no, .inr rfl, rfl⟩, ?_, ?_⟩
    · rintro i x g2 hx ⟨s5, s6, s7, h5, rfl⟩
      obtain ⟨hi, rfl⟩ := range_at hx
      have e1 : L2.atI ((hsP p k r).map D.int) (0 + (i : Nat)) = some (.int ((hsP p k r).getD i 0)) := by
        rw [Int.zero_add]
        exact atI_getD (by omega)
      have e2 : L2.atI (ys.map D.int) (0 + (i : Nat)) = some (.int (ys.getD i 0)) := by
        rw [Int.zero_add]
        exact atI_getD (by omega)
      have ee : ev fnd ((hsP p k r).getD i 0) % p = ys.getD i 0 % p := by
        rw [← hF]
        exact Cg.iff.mp (dft_at F r32 (by omega))
      rcases h5 with rfl | rfl
      · refine ⟨_, e1, fnd, _, p, rfl, ⟨by omega, by omega⟩, _, e2, (by show (0 : Int) < p; omega), ?_⟩
        refine ite2 (fun c => ?_) (fun _ => ⟨_, _, _, .inl rfl, rfl⟩)
        have c : (!decide (ev fnd ((hsP p k r).getD i 0) % p = ys.getD i 0 % p)) = true := c
        rw [ee, decide_eq_true rfl] at c
        cases c
      · refine ⟨_, e1, fnd, _, p, rfl, ⟨by omega, by omega⟩, _, e2, (by show (0 : Int) < p; omega), ?_⟩
        refine ite2 (fun c => ?_) (fun _ => ⟨_, _, _, .inl rfl, rfl⟩)
        have c : (!decide (ev fnd ((hsP p k r).getD i 0) % p = ys.getD i 0 % p)) = true := c
        rw [ee, decide_eq_true rfl] at c
        cases c
    · rintro g2 ⟨s5, s6, s7, h5, rfl⟩
      have q' : Qd (OI (can p fnd)) [] := by rw [← hF]; exact q
      rcases h5 with rfl | rfl
      · exact ⟨fnd, p, rfl, by omega, by omega, q'⟩
      · exact ⟨fnd, p, rfl, by omega, by omega, q'⟩

theorem ok_law_is_poly (T : Txt K mg) : FnOk P w K mg base CX0 4 T.f_law_is_poly T.fd_law_is_poly ["found", "coefs", "prime"] (spD K 3 (spIsPD T.C_Poly)) := by
  refine fnD T.F_law_is_poly sc_law_is_poly rfl (fun cdv A outer s H E hr => ⟨_, (bd_cons (sd_if (WD.t (wd_or (td_not (td_truth (EX.d (ex_isiC (dv 0) (pe_glob (v := .ref T.C_Poly) (by rfl) T.gC_Poly rfl) T.ct_Poly T.kk_Poly T.kf_Poly (by rfl) T.z_isinstance)))) (wd_or1 (td_not (td_truth (EX.d (ex_call (ok_law_same T 2) (hr.mono (by decide)) (by rfl) T.g_law_same T.F_law_same.kp T.b_law_same .nil (fun _ => .nil) (qd_cons (ed_fld (dv 0) rfl) (qd_cons (EX.d (ex_callTy b_tuple (by rfl) T.z_tuple (by decide +kernel) (ad_cons (dv 1) ad_nil))) qd_nil)) rfl))))))) (bd_one (sd_ret (ED.x ed_bl))) bd_nil)
      (bd_one (sd_ret (ex_call (ok_law_same T 2) (hr.mono (by decide)) (by rfl) T.g_law_same T.F_law_same.kp T.b_law_same .nil (fun _ => .nil) (qd_cons (ed_fld (dv 0) rfl) (qd_cons (dv 2) qd_nil)) rfl)))), fun g Qd Ed h => ?_⟩)
  obtain ⟨cs, p, rfl, hl, q⟩ := h
  exact ⟨rfl, TI' cs, rfl, plain_tup hl, .int p, rfl, trivial, q⟩
end
end DL

set_option maxRecDepth 100000
set_option maxHeartbeats 4000000
namespace DL
open PySem L2
/-! ### own things that are only read: what comes back has no list and no object in it, so they stay own -/
mutual
def nref : D → Prop
  | .lst _ => False
  | .ins _ _ _ => False
  | .tup ds => nrefs ds
  | _ => True
def nrefs : List D → Prop
  | [] => True
  | d :: ds => nref d ∧ nrefs ds
end
theorem nrefs_all : ∀ {ds : List D}, (∀ d ∈ ds, nref d) → nrefs ds
  | [], _ => by unfold nrefs; trivial
  | d :: ds, h => by
    unfold nrefs
    exact ⟨h d List.mem_cons_self, nrefs_all fun x hx => h x (List.mem_cons_of_mem _ hx)⟩
theorem nrefs_ints (l : List Int) : nrefs (l.map .int) := nrefs_all fun d hd => by
  obtain ⟨n, _, rfl⟩ := List.mem_map.mp hd
  unfold nref
  trivial
def nrR : R → Prop
  | .sh d => nref d
  | .ow (.lst ds) => nrefs ds
  | .ow (.ins _ _ ds) => nrefs ds
section
variable {K : PySem.W.Frag} {S S' : Hp}
mutual
/-- what has no list and no object in it hangs on tuples alone -/
theorem Rep.nref (hS : ∀ a xs, S a = some (.tup xs) → S' a = some (.tup xs)) (hF : ∀ a o xs, S a = some (.frz o (.tup xs)) → S' a = some (.frz o (.tup xs))) : ∀ (d : D) (v : V), DL.nref d → Rep K S d v → Rep K S' d v
  | .non, v, _, h => by unfold Rep at h ⊢; exact h
  | .bl b, v, _, h => by unfold Rep at h ⊢; exact h
  | .int i, v, _, h => by unfold Rep at h ⊢; exact h
  | .str x, v, _, h => by unfold Rep at h ⊢; exact h
  | .raw u, v, _, h => by unfold Rep at h ⊢; exact h
  | .lst ds, v, n, h => by unfold DL.nref at n; exact n.elim
  | .ins C ns ds, v, n, h => by unfold DL.nref at n; exact n.elim
  | .tup ds, v, n, h => by
    unfold DL.nref at n
    unfold Rep at h ⊢
    obtain ⟨a, vs, e, q, r⟩ := h
    refine ⟨a, vs, e, ?_, Reps.nref hS hF ds vs n r⟩
    rcases q with q | q
    · rcases q with q | ⟨o, q⟩
      · exact .inl (.inl (hS _ _ q))
      · exact .inl (.inr ⟨o, hF _ _ _ q⟩)
    · exact .inr q
theorem Reps.nref (hS : ∀ a xs, S a = some (.tup xs) → S' a = some (.tup xs)) (hF : ∀ a o xs, S a = some (.frz o (.tup xs)) → S' a = some (.frz o (.tup xs))) : ∀ (ds : List D) (vs : List V), DL.nrefs ds → Reps K S ds vs → Reps K S' ds vs
  | [], vs, _, h => by unfold Reps at h ⊢; exact h
  | d :: ds, vs, n, h => by
    unfold DL.nrefs at n
    unfold Reps at h ⊢
    obtain ⟨v, r, e, h1, h2⟩ := h
    exact ⟨v, r, e, Rep.nref hS hF d v n.1 h1, Reps.nref hS hF ds r n.2 h2⟩
end
end
def shut : Sl → Sl
  | .ow o => .sh o.data
  | .bx _ o => .sh o.data
  | s => s
open Classical in
/-- all that is own is shared -/
noncomputable def opn (g : G) (σ : St) (S H : Hp) : Hp := fun a => if Ows g σ a then H a else S a
open Classical in
noncomputable def cls (g : G) (σ : St) (S : Hp) : Hp := fun a => if Ows g σ a then none else S a
section
variable {K : PySem.W.Frag} {b : Bs} {g : G} {σ : St} {S H S' H' : Hp}
theorem opn_own {a : Addr} (h : Ows g σ a) : opn g σ S H a = H a := by unfold opn; rw [if_pos h]
theorem opn_not {a : Addr} (h : ¬ Ows g σ a) : opn g σ S H a = S a := by unfold opn; rw [if_neg h]
theorem cls_own {a : Addr} (h : Ows g σ a) : cls g σ S a = none := by unfold cls; rw [if_pos h]
theorem cls_not {a : Addr} (h : ¬ Ows g σ a) : cls g σ S a = S a := by unfold cls; rw [if_neg h]
theorem Rel.ows (R : Rel K b g σ S H) {a : Addr} (h : Ows g σ a) : S a = none ∧ ∃ u, H a = some u := by
  obtain ⟨i, h⟩ := h
  exact R.ownS h
theorem Rel.le_opn (R : Rel K b g σ S H) : Le S (opn g σ S H) := fun a o e => by
  by_cases h : Ows g σ a
  · rw [(R.ows h).1] at e; cases e
  · rw [opn_not h]; exact e
theorem OOk.repO {a : Addr} {o : O} (R : Rel K b g σ S H) (own : Ows g σ a) (h : OOk K S H a o) : Rep K (opn g σ S H) o.data (.ref a) := by
  cases o with
  | lst ds =>
    obtain ⟨vs, q, r⟩ := h
    exact Rep.ofLst (by rw [opn_own own]; exact q) (Reps.le R.le_opn _ _ r)
  | ins C ns ds =>
    obtain ⟨dx, vs, q, z, io, r⟩ := h
    show Rep K _ (.ins C ns ds) _
    unfold Rep
    exact ⟨a, dx, vs, rfl, by rw [opn_own own]; exact q, z, io, Reps.le R.le_opn _ _ r⟩
theorem Rel.open (R : Rel K b g σ S H) : Rel K ⟨H, opn g σ S H, []⟩ (g.map shut) σ (opn g σ S H) H where
  len := by rw [List.length_map]; exact R.len
  le := fun a o e => by
    by_cases h : Ows g σ a
    · rw [opn_own h] at e; exact e
    · rw [opn_not h] at e; exact R.le a o e
  dom := fun a o h => ⟨o, h⟩
  keep := fun a o h _ => h
  grow := fun a o h => .inl h
  base := Le.rfl
  slot := fun i s e => by
    rw [List.getElem?_map, Option.map_eq_some_iff] at e
    obtain ⟨s0, e0, rfl⟩ := e
    have q := R.slot i s0 e0
    cases s0 with
    | no => trivial
    | sh d =>
      obtain ⟨v, h1, h2⟩ := q
      exact ⟨v, h1, Rep.le R.le_opn _ _ h2⟩
    | ow o =>
      obtain ⟨a, h1, _, _, ok⟩ := q
      exact ⟨_, h1, ok.repO R ⟨i, _, e0, rfl, h1⟩⟩
    | bx n o =>
      obtain ⟨a, h1, _, _, ok⟩ := q
      exact ⟨_, h1, ok.repO R ⟨i, _, e0, rfl, h1⟩⟩
  dis := fun i j a x _ => by
    obtain ⟨s, e, w, _⟩ := x
    rw [List.getElem?_map, Option.map_eq_some_iff] at e
    obtain ⟨s0, e0, rfl⟩ := e
    cases s0 <;> cases w
theorem no_own {σ : St} {a : Addr} : ¬ Ows (g.map shut) σ a := fun ⟨i, s, e, w, _⟩ => by
  rw [List.getElem?_map, Option.map_eq_some_iff] at e
  obtain ⟨s0, e0, rfl⟩ := e
  cases s0 <;> cases w
theorem Rel.le_cls (R : Rel K b g σ S H) (l : Le (opn g σ S H) S') : Le S (cls g σ S') := fun a o e => by
  by_cases h : Ows g σ a
  · rw [(R.ows h).1] at e; cases e
  · rw [cls_not h]
    exact l a o (by rw [opn_not h]; exact e)
theorem Rel.shutBack {g' : G} (R : Rel K b g σ S H) (R' : Rel K ⟨H, opn g σ S H, []⟩ g' σ S' H') : Rel K b g σ (cls g σ S') H' ∧ Ext g σ S H g (cls g σ S') H' := by
  have kp : ∀ a o, H a = some o → H' a = some o := fun a o h => R'.keep a o h (fun z => by cases z)
  refine ⟨⟨R.len, fun a o e => ?_, fun a o h => ?_, fun a o h n => kp a o (R.keep a o h n), fun a o e => ?_, R.base.trans (R.le_cls R'.base), fun i s e => ?_, R.dis⟩, R.le_cls R'.base, fun a o h _ => kp a o h, fun a o h => ⟨o, kp a o h⟩, fun a o e => ?_, fun a h => h⟩
  · by_cases h : Ows g σ a
    · rw [cls_own h] at e; cases e
    · rw [cls_not h] at e; exact R'.le a o e
  · obtain ⟨o1, h1⟩ := R.dom a o h
    exact ⟨o1, kp a o1 h1⟩
  · by_cases h : Ows g σ a
    · rw [cls_own h] at e; cases e
    · rw [cls_not h] at e
      rcases R'.grow a o e with z | z
      · have z : opn g σ S H a = some o := z
        rw [opn_not h] at z
        exact R.grow a o z
      · exact .inr (R.H00 z)
  · have q := R.slot i s e
    refine (q.le (R.le_cls R'.base) fun a w x => cls_own ⟨i, s, e, w, x⟩).at fun a w x => ?_
    obtain ⟨_, u, hu⟩ := R.ownS (i := i) ⟨s, e, w, x⟩
    rw [hu]
    exact kp a u hu
  · by_cases h : Ows g σ a
    · rw [cls_own h] at e; cases e
    · rw [cls_not h] at e
      rcases R'.grow a o e with z | z
      · have z : opn g σ S H a = some o := z
        rw [opn_not h] at z
        exact .inl z
      · exact .inr (.inl z)
/-- own things are lists and objects, no tuples -/
theorem Rel.own_kind (R : Rel K b g σ S H) {a : Addr} (h : Ows g σ a) : (∀ xs, H a ≠ some (.tup xs)) ∧ ∀ o xs, H a ≠ some (.frz o (.tup xs)) := by
  obtain ⟨i, s, e, w, x⟩ := h
  have q := R.slot i s e
  have key : ∀ o, OOk K S H a o → (∀ xs, H a ≠ some (.tup xs)) ∧ ∀ o xs, H a ≠ some (.frz o (.tup xs)) := fun o ok => by
    cases o with
    | lst ds => obtain ⟨vs, q, _⟩ := ok; rw [q]; exact ⟨fun _ z => (by cases z), fun _ _ z => (by cases z)⟩
    | ins C ns ds => obtain ⟨dx, vs, q, _⟩ := ok; rw [q]; exact ⟨fun _ z => (by cases z), fun _ _ z => (by cases z)⟩
  cases s with
  | no => cases w
  | sh _ => cases w
  | ow o =>
    obtain ⟨a', h1, _, _, ok⟩ := q
    rw [x] at h1
    cases h1
    exact key o ok
  | bx n o =>
    obtain ⟨a', h1, _, _, ok⟩ := q
    rw [x] at h1
    cases h1
    exact key o ok
theorem Rel.nrefBack {g' : G} (R : Rel K b g σ S H) (R' : Rel K ⟨H, opn g σ S H, []⟩ g' σ S' H') : (∀ a xs, S' a = some (.tup xs) → cls g σ S' a = some (.tup xs)) ∧ ∀ a o xs, S' a = some (.frz o (.tup xs)) → cls g σ S' a = some (.frz o (.tup xs)) := by
  have kp : ∀ a o, H a = some o → H' a = some o := fun a o h => R'.keep a o h (fun z => by cases z)
  refine ⟨fun a xs e => ?_, fun a o xs e => ?_⟩
  · by_cases h : Ows g σ a
    · obtain ⟨_, u, hu⟩ := R.ows h
      have := R'.le a _ e
      rw [kp a u hu] at this
      rw [this] at hu
      exact absurd hu ((R.own_kind h).1 xs)
    · rw [cls_not h]; exact e
  · by_cases h : Ows g σ a
    · obtain ⟨_, u, hu⟩ := R.ows h
      have := R'.le a _ e
      rw [kp a u hu] at this
      rw [this] at hu
      exact absurd hu ((R.own_kind h).2 o xs)
    · rw [cls_not h]; exact e
end
def xBor (d : DX) : DX := fun g Q => d (g.map shut) fun r _ => nrR r ∧ Q r g
theorem snd_bor {K : PySem.W.Frag} {t : TE} {d : DX} (s : SndX K t d) : SndX K t (xBor d) := fun {b g σ S H Qd Q} R hd k =>
  s R.open hd fun r g' v S' H' ⟨n, q⟩ R' x rp => by
    obtain ⟨Rb, xb⟩ := R.shutBack R'
    obtain ⟨n1, n2⟩ := R.nrefBack R'
    refine k r g v _ H' q Rb xb ?_
    cases r with
    | sh d => exact Rep.nref n1 n2 d v n rp
    | ow o =>
      obtain ⟨a, rfl, z, z0, ok, na, fr⟩ := rp
      have z0 : H a = none := z0
      have nown : ¬ Ows g σ a := fun h => by
        obtain ⟨_, u, hu⟩ := R.ows h
        rw [hu] at z0; cases z0
      refine ⟨a, rfl, by rw [cls_not nown]; exact z, R.H00 z0, ?_, nown, .inl z0⟩
      cases o with
      | lst ds => obtain ⟨vs, q, r⟩ := ok; exact ⟨vs, q, Reps.nref n1 n2 _ _ n r⟩
      | ins C ns ds => obtain ⟨dx, vs, q, l, io, r⟩ := ok; exact ⟨dx, vs, q, l, io, Reps.nref n1 n2 _ _ n r⟩
def tBor (d : DT) : DT := fun g Q => d (g.map shut) fun c _ => Q c g
theorem snd_borT {K : PySem.W.Frag} {t : TT} {d : DT} (s : SndT K t d) : SndT K t (tBor d) := fun {b g σ S H Qd Q} R hd k =>
  s R.open hd fun c g' S' H' q R' x => by
    obtain ⟨Rb, xb⟩ := R.shutBack R'
    exact k c g _ H' q Rb xb
section
variable {X : Cx} {e : Expr}
theorem ex_bor {d : DX} (h : EX X e d) : EX X e (xBor d) := by
  obtain ⟨t, p, s⟩ := h
  exact ⟨t, p, snd_bor s⟩
theorem td_bor {d : DT} (h : TD X e d) : TD X e (tBor d) := by
  obtain ⟨t, p, s⟩ := h
  exact ⟨t, p, snd_borT s⟩
end
end DL

set_option maxRecDepth 100000
set_option maxHeartbeats 4000000
namespace DL
open PySem L2 K0 K1

theorem nref_ints (l : List Int) : nref (TI' l) := by
  unfold nref
  exact nrefs_ints l
theorem tup_ints {ns : List Int} {i : Nat} (h : i < ns.length) : L2.atI (ns.map D.int) (i : Int) = some (.int (ns.getD i 0)) := atI_getD h
theorem wdP_at {p k r : Int} {cs : List Int} {i : Nat} (h : i < (wsP p k r).length) : (wdP p k r cs).getD i 0 = ev cs ((wsP p k r).getD i 0) % p := by
  unfold wdP
  rw [List.getD_eq_getElem?_getD, List.getElem?_map, List.getD_eq_getElem?_getD, List.getElem?_eq_getElem h]
  rfl
theorem wdP_len (p k r : Int) (cs : List Int) : (wdP p k r cs).length = (wsP p k r).length := by unfold wdP; rw [List.length_map]

end DL

set_option maxRecDepth 100000
set_option maxHeartbeats 4000000
namespace DL
open PySem L2 K0 K1
section
variable {P : Program} {w : World} {K : PySem.W.Frag} {mg : Str → Option Value} {base : Heap}
theorem ok_law_word (T : Txt K mg) : FnOk P w K mg base CX0 8 T.f_law_word T.fd_law_word ["box", "places", "lane", "coefs", "spots", "prime"] (spD K 6 (spLWdD T.C_Places)) := by
  refine fnD T.F_law_word sc_law_word rfl (fun cdv A outer s H E hr => ⟨_, (bd_cons (sd_set (i := 6) sc_law_word.nd rfl (Or.inl rfl) (ex_callTy b_list (by rfl) T.z_list (by decide +kernel) (ad_cons (dv 2) ad_nil)))
      (bd_cut (sd_if (td_cmp (d_eq hr.units) (EX.d (ex_call (ok_law_draw T) (hr.mono (by decide)) (by rfl) T.g_law_draw T.F_law_draw.kp T.b_law_draw .nil (fun _ => .nil) (qv 0 (qd_cons ed_int qd_nil)) rfl)) ed_int (nomark _)) (bd_one (sd_set (i := 7) sc_law_word.nd rfl (Or.inl rfl) (ex_methK (dv 1) T.cl_Places T.me_Places_stretched (ok_Places_stretched T) (hr.mono (by decide)) T.kb_Places_stretched_1_column (kwd_app rfl) (kd_cons (EX.d (ex_callTy b_tuple (by rfl) T.z_tuple (by decide +kernel) (ad_cons (dv 2) ad_nil))) kd_nil) rfl))) (bd_one (sd_set (i := 7) sc_law_word.nd rfl (Or.inl rfl) (ex_bor (ex_meth (dv 1) T.cl_Places T.me_Places_stretched (ok_Places_stretched T) (hr.mono (by decide)) T.b_Places_stretched .nil (fun _ => .nil) (qd_cons (dv 6) qd_nil) rfl)))))
      (bd_cons (sd_if (WD.t (wd_or (td_bor (td_cmp (d_ne hr.units) (dv 6) (dv 2) (nomark _))) (wd_or (td_not (td_truth (EX.d (ex_isi (dv 7) (pe_bltn (v := .ty "tuple") (by rfl) T.z_tuple (by decide +kernel) rfl) (.ty _) isi_tup (by rfl) T.z_isinstance)))) (wd_or1 (td_cmp (d_ne hr.units) (EX.d (ex_callB b_len (by rfl) T.z_len (by decide +kernel) (ad_cons (dv 7) ad_nil))) (EX.d (ex_callB b_len (by rfl) T.z_len (by decide +kernel) (ad_cons (dv 4) ad_nil))) (nomark _)))))) (bd_one (sd_ret (ED.x ed_non))) bd_nil)
      (bd_cons (sd_set (i := 8) sc_law_word.nd rfl (Or.inl rfl) (ex_listRg1 (by rfl) T.z_list T.z_range (EX.d (ex_callB b_len (by rfl) T.z_len (by decide +kernel) (ad_cons (dv 4) ad_nil)))))
      (bd_cut (sd_if (td_cmp d_gt (EX.d (ex_callB b_len (by rfl) T.z_len (by decide +kernel) (ad_cons (dv 4) ad_nil))) ed_int (nomark _)) (bd_one (sd_setLc (i := 8) (own := [("k", 9)]) (by rfl) sc_law_word.nd rfl rfl (sw_true rfl rfl rfl (by decide +kernel)) (id_range1 (by rfl) T.z_range (ad_cons ed_int ad_nil)) (blkOk_by (own := [("k", 9)]) (N := ["box", "places", "lane", "coefs", "spots", "prime", "passed", "told", "picks", "k"]) (sc := defScope s_law_word) (by decide +kernel)) (fun _ _ _ _ _ => (gd_name (i := 9) sc_law_word.nd rfl (Or.inl rfl))) (fun _ _ _ _ _ => tsd_nil) (fun _ _ _ _ _ => (EX.d (ex_call (ok_law_draw T) (hr.mono (by decide)) (by rfl) T.g_law_draw T.F_law_draw.kp T.b_law_draw .nil (fun _ => .nil) (qv 0 (qd_cons (EX.d (ex_callB b_len (by rfl) T.z_len (by decide +kernel) (ad_cons (dv 4) ad_nil))) qd_nil)) rfl))))) bd_nil)
      (bd_cons (sd_for PassesOwn.never rfl (id_seq (dv 8)) (gd_name (i := 9) sc_law_word.nd rfl (Or.inl rfl)) (bd_one (sd_if (td_not (td_truth (EX.d (ex_call (ok_law_same T 2) (hr.mono (by decide)) (by rfl) T.g_law_same T.F_law_same.kp T.b_law_same .nil (fun _ => .nil) (qd_cons (ed_ix (dv 7) (dv 9) (fun _ _ => rfl)) (qd_cons (EX.d (ex_call (ok_law_worth T) (hr.mono (by decide)) (by rfl) T.g_law_worth T.F_law_worth.kp T.b_law_worth .nil (fun _ => .nil) (qd_cons (dv 3) (qd_cons (ed_ix (dv 4) (dv 9) (fun _ _ => rfl)) (qd_cons (dv 5) qd_nil))) rfl)) qd_nil)) rfl)))) (bd_one (sd_ret (ED.x ed_non))) bd_nil)))
      (bd_cons (setix 6 (EX.d (ex_op d_add (ixv 6 ed_int) ed_int)) ed_int)
      (bd_one (sd_ret (xv 7)))))))))), fun g Qd Ed h => ?_⟩)
  obtain ⟨bs, p, k, r, ys, rfl, hb, F, r32, hl, q⟩ := h
  have p0 := F.p0
  have p1 := F.p1
  have r0 := F.r0
  have l := wsP_len F
  have lw := wdP_len p k r (strP p k r ys)
  have ne : (!deq (LI ys) (LI ys)) = false := by rw [deq_lst, decide_eq_true rfl]; rfl
  have hl0 : (((wsP p k r).map D.int).length : Int) = 16 * r := by rw [List.length_map]; exact l
  have hl1 : (((wdP p k r (strP p k r ys)).map D.int).length : Int) = 16 * r := by rw [List.length_map, lw]; exact l
  have el : (!decide ((((wdP p k r (strP p k r ys)).map D.int).length : Int) = (((wsP p k r).map D.int).length : Int))) = false := by rw [hl0, hl1, decide_eq_true rfl]; rfl
  have atW : ∀ i, i < (wsP p k r).length → L2.atI ((wdP p k r (strP p k r ys)).map D.int) (i : Nat) = some (.int (ev (strP p k r ys) ((wsP p k r).getD i 0) % p)) := fun i hi => by
    rw [← wdP_at hi]
    exact atI_getD (by omega)
  generalize hcs : strP p k r ys = cs at *
  generalize hws : wsP p k r = ws at *
  generalize hwd : wdP p k r cs = wd at *
  refine ⟨fun g => ∃ b1, IsBox b1 ∧ g = [.bx 0 (.lst b1), .sh (PlD T.C_Places p k r), .sh (LI ys), .sh (LI cs), .sh (LI ws), .sh (.int p), .ow (.lst (ys.map .int)), .sh (TI' wd), .no, .no], ?_, ?_⟩
  · refine ⟨bs, _, rfl, hb, ⟨by decide, by decide⟩, fun b1 way h1 _ _ => ?_⟩
    have ed : ws.map (fun x => ev cs x % p) = wd := by rw [← hwd]; unfold wdP; rw [hws]
    refine ite2 (fun c => ?_) (fun c => ?_)
    · refine ⟨rfl, p, k, r, _, ys, rfl, .inr rfl, F, r32, hl, b1, h1, ?_⟩
      rw [hws, hcs, ed]
      rfl
    · refine ⟨rfl, p, k, r, _, ys, rfl, .inl rfl, F, r32, hl, ?_, b1, h1, ?_⟩
      · exact nref_ints _
      · rw [hws, hcs, ed]
        rfl
  rintro g2 ⟨b1, h1, rfl⟩
  refine ⟨dep_lst _, dep_lst _, ite2 (fun c => absurd (ne.symm.trans c) (by decide)) (fun _ => ?_)⟩
  refine ite2 (fun c => absurd (el.symm.trans c) (by decide)) (fun _ => ?_)
  refine ⟨⟨by omega, by omega⟩, ?_⟩
  have gd : ∀ z ∈ rngD 0 (((ws.map D.int).length : Nat) : Int).toNat, ∃ i : Nat, i < ws.length ∧ z = .int (i : Nat) := fun z hz => by
    obtain ⟨i, hi⟩ := List.mem_iff_getElem?.mp hz
    obtain ⟨h1, rfl⟩ := range_at hi
    exact ⟨i, by omega, by rw [Int.zero_add]⟩
  refine ⟨fun g => ∃ b1 pk, IsBox b1 ∧ (∀ z ∈ pk, ∃ i : Nat, i < ws.length ∧ z = D.int (i : Nat)) ∧ g = [.bx 0 (.lst b1), .sh (PlD T.C_Places p k r), .sh (LI ys), .sh (LI cs), .sh (LI ws), .sh (.int p), .ow (.lst (ys.map .int)), .sh (TI' wd), .ow (.lst pk), .no], ?_, ?_⟩
  · refine ite2 (fun c => ?_) (fun c => ⟨b1, _, h1, gd, rfl⟩)
    refine ⟨⟨by decide, by decide⟩, small_line (by rw [rng_len]; decide), fun j acc g => ∃ b', IsBox b' ∧ (∀ z ∈ acc, ∃ i : Nat, i < ws.length ∧ z = D.int (i : Nat)) ∧ g = [.bx 0 (.lst b'), .sh (PlD T.C_Places p k r), .sh (LI ys), .sh (LI cs), .sh (LI ws), .sh (.int p), .ow (.lst (ys.map .int)), .sh (TI' wd), .ow (.lst (rngD 0 (((ws.map D.int).length : Nat) : Int).toNat)), .no], ⟨b1, h1, fun z hz => absurd hz List.not_mem_nil, rfl⟩, ?_, ?_⟩
    · rintro j x acc g2 hx _ ⟨b', hb', ha, rfl⟩
      refine ⟨b', _, rfl, hb', ⟨by omega, by omega⟩, fun b2 n h2 n0 n1 => ⟨b2, h2, fun z hz => ?_, rfl⟩⟩
      rcases List.mem_append.mp hz with hz | hz
      · exact ha z hz
      · obtain rfl := List.mem_singleton.mp hz
        exact ⟨n.toNat, by omega, by show D.int n = _; rw [Int.toNat_of_nonneg n0]⟩
    · rintro acc g2 _ ⟨b', hb', ha, rfl⟩
      exact ⟨b', _, hb', ha, rfl⟩
  rintro g2 ⟨b2, pk, h2, hpk, rfl⟩
  refine ⟨fun i g => ∃ s9, g = [.bx 0 (.lst b2), .sh (PlD T.C_Places p k r), .sh (LI ys), .sh (LI cs), .sh (LI ws), .sh (.int p), .ow (.lst (ys.map .int)), .sh (TI' wd), .sh (.lst pk), s9], ⟨.no, rfl⟩, ?_, ?_⟩
  · rintro i x g2 hx ⟨s9, rfl⟩
    obtain ⟨n, hn, rfl⟩ := hpk x (List.mem_of_getElem? hx)
    exact ⟨_, atW n hn, _, atI_getD hn, cs, _, p, rfl, ⟨by omega, by omega⟩, _, rfl, trivial, _, rfl⟩
  · rintro g2 ⟨s9, rfl⟩
    have e0 : L2.atI (ys.map D.int) 0 = some (.int (ys.getD 0 0)) := atI_getD (i := 0) (by omega)
    have e1 : L2.ixN (ys.map D.int).length 0 = some 0 := by rw [List.length_map]; exact ixN_nat (i := 0) (by omega)
    exact ⟨_, e0, 0, e1, q b2 h2⟩
end
end DL

set_option maxRecDepth 100000
set_option maxHeartbeats 4000000
namespace DL
open PySem L2
/-! ### a tuple * a whole number -/
def fMulT : G2 := fun x y Q => match x, y with
  | .tup xs, .int k => (xs ≠ [] ∧ xs.length ≤ 1000 ∧ 2 ≤ k ∧ k ≤ 1000) ∧ Q (.sh (.tup (List.replicate k.toNat xs).flatten))
  | _, _ => False
section
variable {X : Cx}
theorem d_mulT : OpD X (binaryOp .Mult) fMulT := by
  refine ⟨_, op_repT, fun {b g σ S H x y v w Qd Q} R rx ry hd k => ?_⟩
  cases x with
  | tup xs =>
    cases y with
    | int n =>
      obtain ⟨⟨h0, h1, h2, h3⟩, q⟩ := hd
      obtain ⟨l, vs, e1, hq, r1⟩ := rx.tup
      have e2 := ry.int
      have lv := r1.len
      have hv : vs ≠ [] := fun z => by
        rw [z] at lv
        exact h0 (List.eq_nil_of_length_eq_zero lv.symm)
      refine ⟨l, n, vs, e1, e2, SqT.le R.le hq, hv, h2, h3, by omega, fun p hp => ?_⟩
      obtain ⟨R', x', rp⟩ := R.tup hp (r1.flatRep n.toNat)
      exact k (.sh _) _ _ _ q R' x' rp
    | _ => exact hd.elim
  | _ => cases y <;> exact hd.elim
end
end DL

set_option maxRecDepth 100000
set_option maxHeartbeats 4000000
namespace DL
open PySem L2 K0 K1

abbrev L3 (d : D) (b : List D) (p k r : Int) (l : List Sl) : G := .sh d :: .ow (.lst b) :: .sh (.int p) :: .sh (.int k) :: .sh (.int r) :: .sh (LI (wsP p k r)) :: .sh (LI (hsP p k r)) :: l
theorem ly0 {p k r : Int} (F : FitP p k r) : red p (lyr p k r 0) = wsP p k r := by
  have l := wsP_len F
  have e : lyr p k r 0 = wsP p k r := by
    show (wsP p k r).take (16 * r / 2 ^ 0).toNat = _
    rw [Int.pow_zero, Int.ediv_one]
    exact List.take_of_length_le (by omega)
  rw [e]
  exact red_of fun a ha => by
    have b := wsP_bd F a ha
    exact Int.emod_eq_of_lt b.1 b.2
/-- the way back -/
theorem str_back {p k r : Int} (F : FitP p k r) (r32 : r ≤ 32) {ys : List Int} (hl : (ys.length : Int) = r) : (hsP p k r).map (fun x => ev (strP p k r ys) x % p) = red p ys := by
  have lh := hsP_len F
  apply List.ext_getElem?
  intro i
  by_cases hi : i < r.toNat
  · unfold red
    rw [List.getElem?_map, List.getElem?_map, List.getElem?_eq_getElem (by omega), List.getElem?_eq_getElem (by omega)]
    have h := Cg.iff.mp (str_at F r32 hl hi)
    rw [List.getD_eq_getElem?_getD, List.getD_eq_getElem?_getD, List.getElem?_eq_getElem (by omega), List.getElem?_eq_getElem (by omega)] at h
    exact congrArg some h
  · rw [List.getElem?_eq_none (by rw [List.length_map]; omega), List.getElem?_eq_none (by unfold red; rw [List.length_map]; omega)]
theorem can_str (p k r : Int) (ys : List Int) : can p (strP p k r ys) = strP p k r ys := by unfold strP; rw [can_can]
theorem map_can {p : Int} (l cs : List Int) : l.map (fun x => ev (can p cs) x % p) = l.map fun x => ev cs x % p := by
  apply List.map_congr_left
  intro x _
  exact Cg.iff.mp (ev_can p cs x)
/-- words of columns that differ in a row part at more than N - T places -/
theorem part_many {p k r : Int} (F : FitP p k r) (r32 : r ≤ 32) {ys zs : List Int} (hy : (ys.length : Int) = r) (hz : (zs.length : Int) = r) {i : Nat} (hi : i < r.toNat) (ne : ys.getD i 0 % p ≠ zs.getD i 0 % p) :
    16 * r - r < (((List.range (wsP p k r).length).filter fun j => decide ((wdP p k r (strP p k r ys)).getD j 0 ≠ (wdP p k r (strP p k r zs)).getD j 0)).length : Int) := by
  have P := prm_fit F r32
  have lw := wsP_len F
  have lh := hsP_len F
  have p0 := F.p0
  have r0 := F.r0
  have h := agree_few P (A := strP p k r ys) (B := strP p k r zs) (ws := wsP p k r) (n := r.toNat) (ws_nodup F r32) (wsP_bd F) (strP_len F hy) (strP_len F hz) (by omega) (x := (hsP p k r).getD i 0) fun z => ne (Cg.iff.mp ((str_at F r32 hy hi).symm.trans (z.trans (str_at F r32 hz hi))))
  have e : ((List.range (wsP p k r).length).filter fun j => decide ((wdP p k r (strP p k r ys)).getD j 0 = (wdP p k r (strP p k r zs)).getD j 0)).length = ((wsP p k r).filter fun z => decide (ev (strP p k r ys) z % p = ev (strP p k r zs) z % p)).length := by
    have e1 : wsP p k r = (List.range (wsP p k r).length).map fun j => (wsP p k r).getD j 0 := by
      apply List.ext_getElem?
      intro j
      by_cases hj : j < (wsP p k r).length
      · rw [List.getElem?_map, List.getElem?_range hj, List.getElem?_eq_getElem hj]
        show _ = some ((wsP p k r).getD j 0)
        rw [List.getD_eq_getElem?_getD, List.getElem?_eq_getElem hj]
        rfl
      · rw [List.getElem?_eq_none (by omega), List.getElem?_eq_none (by rw [List.length_map, List.length_range]; omega)]
    have e2 : (wsP p k r).filter (fun z => decide (ev (strP p k r ys) z % p = ev (strP p k r zs) z % p)) = ((List.range (wsP p k r).length).filter fun j => decide (ev (strP p k r ys) ((wsP p k r).getD j 0) % p = ev (strP p k r zs) ((wsP p k r).getD j 0) % p)).map fun j => (wsP p k r).getD j 0 := by
      conv => lhs; rw [e1]
      rw [List.filter_map]
      rfl
    rw [e2, List.length_map]
    congr 1
    apply List.filter_congr
    intro j hj
    have hj := List.mem_range.mp hj
    rw [wdP_at hj, wdP_at hj]
  have tot : ∀ (l : List Nat) (q : Nat → Bool), (l.filter q).length + (l.filter fun j => !q j).length = l.length := by
    intro l q
    induction l with
    | nil => rfl
    | cons a l ih =>
      rw [List.filter_cons, List.filter_cons]
      cases q a <;> simp <;> omega
  have t := tot (List.range (wsP p k r).length) fun j => decide ((wdP p k r (strP p k r ys)).getD j 0 = (wdP p k r (strP p k r zs)).getD j 0)
  rw [e, List.length_range] at t
  have e3 : ((List.range (wsP p k r).length).filter fun j => !decide ((wdP p k r (strP p k r ys)).getD j 0 = (wdP p k r (strP p k r zs)).getD j 0)) = ((List.range (wsP p k r).length).filter fun j => decide ((wdP p k r (strP p k r ys)).getD j 0 ≠ (wdP p k r (strP p k r zs)).getD j 0)) := by
    apply List.filter_congr
    intro j _
    simp
  rw [e3] at t
  omega
theorem str_zero {p k r : Int} (F : FitP p k r) (r32 : r ≤ 32) : strP p k r (List.replicate r.toNat 0) = [] := by
  have lh := hsP_len F
  have r0 := F.r0
  have hl : ((List.replicate r.toNat (0 : Int)).length : Int) = r := by rw [List.length_replicate]; omega
  rw [← can_str]
  have h := can_uniq (prm_fit F r32) (A := strP p k r (List.replicate r.toNat 0)) (B := []) (hs_nodup F r32) (hsP_bd F) (by have := strP_len F hl; omega) (Nat.zero_le _) (hs_le F) fun z hz => by
    obtain ⟨i, hi, rfl⟩ := List.getElem_of_mem hz
    have e : (hsP p k r)[i] = (hsP p k r).getD i 0 := by rw [List.getD_eq_getElem?_getD, List.getElem?_eq_getElem hi]; rfl
    rw [e]
    refine (str_at F r32 hl (by omega)).trans (Cg.of_eq ?_)
    rw [List.getD_eq_getElem?_getD, List.getElem?_replicate, if_pos (by omega)]
    rfl
  rw [h]
  rfl
theorem wd_zero {p k r : Int} (F : FitP p k r) (r32 : r ≤ 32) : wdP p k r (strP p k r (List.replicate r.toNat 0)) = List.replicate (wsP p k r).length 0 := by
  rw [str_zero F r32]
  unfold wdP
  rw [← List.map_const]
  apply List.map_congr_left
  intro x _
  show (0 : Int) % p = 0
  exact Int.zero_emod p

end DL

set_option maxRecDepth 100000
set_option maxHeartbeats 4000000
namespace DL
open PySem L2 K0 K1
section
variable {P : Program} {w : World} {K : PySem.W.Frag} {mg : Str → Option Value} {base : Heap}
theorem ok_law (T : Txt K mg) : FnOk P w K mg base CX0 9 T.f_law T.fd_law ["script"] (spD K 1 (spLawD K)) := by
  refine fnD T.F_law sc_law rfl (fun cdv A outer s H E hr => ⟨_, (bd_cut (sd_set (i := 1) sc_law.nd rfl (Or.inr rfl) (ex_call (ok_law_box T) (hr.mono (by decide)) (by rfl) T.g_law_box T.F_law_box.kp T.b_law_box .nil (fun _ => .nil) (qd_cons (dv 0) qd_nil) rfl))
      (bd_cut (sd_asg (EX.d (ex_call (ok_law_fit T) (hr.mono (by decide)) (by rfl) T.g_law_fit T.F_law_fit.kp T.b_law_fit .nil (fun _ => .nil) (qv 1 qd_nil) rfl)) (gd_tup (n := 3) (by rfl) (gsd_cons (gd_name (i := 2) sc_law.nd rfl (Or.inr rfl)) (gsd_cons (gd_name (i := 3) sc_law.nd rfl (Or.inl rfl)) (gsd_cons (gd_name (i := 4) sc_law.nd rfl (Or.inl rfl)) gsd_nil)))))
      (bd_cut (sd_asg (EX.d (ex_call (ok_law_spots T) (hr.mono (by decide)) (by rfl) T.g_law_spots T.F_law_spots.kp T.b_law_spots .nil (fun _ => .nil) (qd_cons (dv 2) (qd_cons (dv 3) (qd_cons (dv 4) qd_nil))) rfl)) (gd_tup (n := 2) (by rfl) (gsd_cons (gd_name (i := 5) sc_law.nd rfl (Or.inl rfl)) (gsd_cons (gd_name (i := 6) sc_law.nd rfl (Or.inl rfl)) gsd_nil))))
      (bd_cut (sd_par (i := 7) (j := 8) (by rfl) sc_law.nd rfl rfl (by decide) rfl rfl (ex_make T.cl_Places T.mk_Places (ok_Places_init_ T) (hr.mono (by decide)) (by rfl) T.gC_Places T.b_Places_init_ .nil (fun _ => .nil) (ad_cons (dv 2) (ad_cons (dv 4) ad_nil)) rfl) (ex_call (ok_law_lane T) (hr.mono (by decide)) (by rfl) T.g_law_lane T.F_law_lane.kp T.b_law_lane .nil (fun _ => .nil) (qv 1 (qd_cons (dv 2) (qd_cons (dv 4) qd_nil))) rfl) (by rfl))
      (bd_cut (sd_set (i := 9) sc_law.nd rfl (Or.inl rfl) (ex_call (ok_law_stretch T) (hr.mono (by decide)) (by rfl) T.g_law_stretch T.F_law_stretch.kp T.b_law_stretch .nil (fun _ => .nil) (qd_cons (dv 8) (qd_cons (dv 6) (qd_cons (dv 2) qd_nil))) rfl))
      (bd_cut (sd_if (td_cmp d_isN (dv 9) ed_non (nomark _)) (bd_one (sd_ret (ED.x ed_bl))) bd_nil)
      (bd_cut (sd_set (i := 10) sc_law.nd rfl (Or.inr rfl) (ex_call (ok_law_word T) (hr.mono (by decide)) (by rfl) T.g_law_word T.F_law_word.kp T.b_law_word .nil (fun _ => .nil) (qv 1 (qd_cons (dv 7) (qd_cons (dv 8) (qd_cons (dv 9) (qd_cons (dv 5) (qd_cons (dv 2) qd_nil)))))) rfl))
      (bd_cut (sd_if (td_cmp d_isN (dv 10) ed_non (nomark _)) (bd_one (sd_ret (ED.x ed_bl))) bd_nil)
      (bd_cut (sd_set (i := 11) sc_law.nd rfl (Or.inl rfl) (ex_meth (dv 7) T.cl_Places T.me_Places_stretched_poly (ok_Places_stretched_poly T) (hr.mono (by decide)) T.b_Places_stretched_poly .nil (fun _ => .nil) (qd_cons (EX.d (ex_callTy b_list (by rfl) T.z_list (by decide +kernel) (ad_cons (dv 8) ad_nil))) qd_nil) rfl))
      (bd_cut (sd_if (WD.t (wd_or (td_not (td_truth (EX.d (ex_call (ok_law_is_poly T) (hr.mono (by decide)) (by rfl) T.g_law_is_poly T.F_law_is_poly.kp T.b_law_is_poly .nil (fun _ => .nil) (qd_cons (dv 11) (qd_cons (dv 9) (qd_cons (dv 2) qd_nil))) rfl)))) (wd_or1 (td_cmp d_ge (EX.d (ex_prop (dv 11) T.cl_Poly T.pp_Poly_degree (ok_Poly_degree T) (hr.mono (by decide)) T.b_Poly_degree rfl)) (dv 4) (nomark _))))) (bd_one (sd_ret (ED.x ed_bl))) bd_nil)
      (bd_cut (sd_set (i := 13) sc_law.nd rfl (Or.inl rfl) (ex_callTy b_tuple (by rfl) T.z_tuple (by decide +kernel) (ad_cons (EX.d (ex_lc (own := [("height", 12)]) (by rfl) sc_law.nd (id_seq (dv 8)) (blkOk_by (own := [("height", 12)]) (N := ["script", "box", "prime", "root", "high", "spots", "hops", "places", "lane", "coefs", "told", "curve", "height", "back", "pick", "near", "turned", "other", "k", "long", "hop", "due"]) (sc := defScope s_law) (by decide +kernel)) (fun _ _ _ _ _ => (gd_name (i := 12) sc_law.nd rfl (Or.inl rfl))) (fun _ _ _ _ _ => tsd_nil) (fun _ _ _ _ _ => (EX.d (ex_op d_mod (EX.d (ex_callTy b_int (by rfl) T.z_int (by decide +kernel) (ad_cons (dv 12) ad_nil))) (dv 2)))))) ad_nil)))
      (bd_cut (sd_if (WD.t (wd_or (td_not (td_truth (EX.d (ex_call (ok_law_same T 2) (hr.mono (by decide)) (by rfl) T.g_law_same T.F_law_same.kp T.b_law_same .nil (fun _ => .nil) (qd_cons (EX.d (ex_meth (dv 7) T.cl_Places T.me_Places_column (ok_Places_column T) (hr.mono (by decide)) T.b_Places_column .nil (fun _ => .nil) (qd_cons (dv 11) qd_nil) rfl)) (qd_cons (dv 13) qd_nil)) rfl)))) (wd_or1 (td_not (td_truth (EX.d (ex_call (ok_law_same T 2) (hr.mono (by decide)) (by rfl) T.g_law_same T.F_law_same.kp T.b_law_same .nil (fun _ => .nil) (qd_cons (EX.d (ex_methK (dv 7) T.cl_Places T.me_Places_column (ok_Places_column T) (hr.mono (by decide)) T.kb_Places_column_1_poly (kwd_app rfl) (kd_cons (EX.d (ex_makeK T.cl_Poly T.mk_Poly (ok_Poly_init_ T) (hr.mono (by decide)) (by rfl) T.gC_Poly T.kb_Poly_init__2_p (fun _ _ _ => rfl) (kwd_app rfl) rfl (ad_cons (dv 9) ad_nil) (kd_cons (dv 2) kd_nil) rfl)) kd_nil) rfl)) (qd_cons (dv 13) qd_nil)) rfl))))))) (bd_one (sd_ret (ED.x ed_bl))) bd_nil)
      (bd_cut (sd_if (td_not (td_truth (EX.d (ex_call (ok_law_same T 2) (hr.mono (by decide)) (by rfl) T.g_law_same T.F_law_same.kp T.b_law_same .nil (fun _ => .nil) (qd_cons (EX.d (ex_meth (EX.d (ex_meth (dv 7) T.cl_Places T.me_Places_layer (ok_Places_layer T) (hr.mono (by decide)) T.b_Places_layer .nil (fun _ => .nil) (qd_cons ed_int qd_nil) rfl)) T.cl_Code T.me_Code_word (ok_Code_word T) (hr.mono (by decide)) T.b_Code_word .nil (fun _ => .nil) (qd_cons (dv 11) qd_nil) rfl)) (qd_cons (dv 10) qd_nil)) rfl)))) (bd_one (sd_ret (ED.x ed_bl))) bd_nil)
      (bd_cut (sd_set (i := 14) sc_law.nd rfl (Or.inl rfl) (ex_call (ok_law_draw T) (hr.mono (by decide)) (by rfl) T.g_law_draw T.F_law_draw.kp T.b_law_draw .nil (fun _ => .nil) (qv 1 (qd_cons (dv 4) qd_nil)) rfl))
      (bd_cut (sd_set (i := 15) sc_law.nd rfl (Or.inl rfl) (ex_callTy b_list (by rfl) T.z_list (by decide +kernel) (ad_cons (dv 8) ad_nil)))
      (bd_cut (setix 15 (EX.d (ex_op d_mod (EX.d (ex_callTy b_int (by rfl) T.z_int (by decide +kernel) (ad_cons (EX.d (ex_op d_add (EX.d (ex_op d_add (ed_ix (dv 13) (dv 14) (fun _ _ => rfl)) ed_int)) (EX.d (ex_call (ok_law_draw T) (hr.mono (by decide)) (by rfl) T.g_law_draw T.F_law_draw.kp T.b_law_draw .nil (fun _ => .nil) (qv 1 (qd_cons (EX.d (ex_op d_sub (dv 2) ed_int)) qd_nil)) rfl)))) ad_nil))) (dv 2))) (dv 14))
      (bd_cut (sd_set (i := 16) sc_law.nd rfl (Or.inl rfl) (ex_call (ok_law_stretch T) (hr.mono (by decide)) (by rfl) T.g_law_stretch T.F_law_stretch.kp T.b_law_stretch .nil (fun _ => .nil) (qd_cons (dv 15) (qd_cons (dv 6) (qd_cons (dv 2) qd_nil))) rfl))
      (bd_cut (sd_if (td_cmp d_isN (dv 16) ed_non (nomark _)) (bd_one (sd_ret (ED.x ed_bl))) bd_nil)
      (bd_cut (sd_set (i := 17) sc_law.nd rfl (Or.inr rfl) (ex_call (ok_law_word T) (hr.mono (by decide)) (by rfl) T.g_law_word T.F_law_word.kp T.b_law_word .nil (fun _ => .nil) (qv 1 (qd_cons (dv 7) (qd_cons (dv 15) (qd_cons (dv 16) (qd_cons (dv 5) (qd_cons (dv 2) qd_nil)))))) rfl))
      (bd_cut (sd_if (td_cmp d_isN (dv 17) ed_non (nomark _)) (bd_one (sd_ret (ED.x ed_bl))) bd_nil)
      (bd_cut (sd_if (td_cmp d_le (EX.d (ex_callB b_len (by rfl) T.z_len (by decide +kernel) (ad_cons (EX.d (ex_lc (own := [("k", 18)]) (by rfl) sc_law.nd (id_range1 (by rfl) T.z_range (ad_cons (EX.d (ex_callB b_len (by rfl) T.z_len (by decide +kernel) (ad_cons (dv 5) ad_nil))) ad_nil)) (blkOk_by (own := [("k", 18)]) (N := ["script", "box", "prime", "root", "high", "spots", "hops", "places", "lane", "coefs", "told", "curve", "height", "back", "pick", "near", "turned", "other", "k", "long", "hop", "due"]) (sc := defScope s_law) (by decide +kernel)) (fun _ _ _ _ _ => (gd_name (i := 18) sc_law.nd rfl (Or.inl rfl))) (fun _ _ _ _ _ => tsd_one (td_cmp (d_ne hr.units) (ed_ix (dv 10) (dv 18) (fun _ _ => rfl)) (ed_ix (dv 17) (dv 18) (fun _ _ => rfl)) (nomark _))) (fun _ _ _ _ _ => (dv 18)))) ad_nil))) (EX.d (ex_op d_sub (EX.d (ex_callB b_len (by rfl) T.z_len (by decide +kernel) (ad_cons (dv 5) ad_nil))) (dv 4))) (nomark _)) (bd_one (sd_ret (ED.x ed_bl))) bd_nil)
      (bd_cut (sd_if (td_not (td_truth (EX.d (ex_call (ok_law_is_poly T) (hr.mono (by decide)) (by rfl) T.g_law_is_poly T.F_law_is_poly.kp T.b_law_is_poly .nil (fun _ => .nil) (qd_cons (EX.d (ex_methK (dv 7) T.cl_Places T.me_Places_stretched_poly (ok_Places_stretched_poly T) (hr.mono (by decide)) T.kb_Places_stretched_poly_1_column (kwd_app rfl) (kd_cons (dv 15) kd_nil) rfl)) (qd_cons (dv 16) (qd_cons (dv 2) qd_nil))) rfl)))) (bd_one (sd_ret (ED.x ed_bl))) bd_nil)
      (bd_cut (sd_set (i := 19) sc_law.nd rfl (Or.inr rfl) (ex_lc (own := [("k", 18)]) (by rfl) sc_law.nd (id_range1 (by rfl) T.z_range (ad_cons (EX.d (ex_call (ok_law_draw T) (hr.mono (by decide)) (by rfl) T.g_law_draw T.F_law_draw.kp T.b_law_draw .nil (fun _ => .nil) (qv 1 (qd_cons (EX.d (ex_op d_add (EX.d (ex_op d_mul ed_int (dv 4))) ed_int)) qd_nil)) rfl)) ad_nil)) (blkOk_by (own := [("k", 18)]) (N := ["script", "box", "prime", "root", "high", "spots", "hops", "places", "lane", "coefs", "told", "curve", "height", "back", "pick", "near", "turned", "other", "k", "long", "hop", "due"]) (sc := defScope s_law) (by decide +kernel)) (fun _ _ _ _ _ => (gd_name (i := 18) sc_law.nd rfl (Or.inl rfl))) (fun _ _ _ _ _ => tsd_nil) (fun _ _ _ _ _ => (EX.d (ex_call (ok_law_number T) (hr.mono (by decide)) (by rfl) T.g_law_number T.F_law_number.kp T.b_law_number .nil (fun _ => .nil) (qv 1 (qd_cons (dv 2) qd_nil)) rfl)))))
      (bd_cut (sd_set (i := 21) sc_law.nd rfl (Or.inl rfl) (ex_callTy b_tuple (by rfl) T.z_tuple (by decide +kernel) (ad_cons (EX.d (ex_lc (own := [("hop", 20)]) (by rfl) sc_law.nd (id_seq (dv 6)) (blkOk_by (own := [("hop", 20)]) (N := ["script", "box", "prime", "root", "high", "spots", "hops", "places", "lane", "coefs", "told", "curve", "height", "back", "pick", "near", "turned", "other", "k", "long", "hop", "due"]) (sc := defScope s_law) (by decide +kernel)) (fun _ _ _ _ _ => (gd_name (i := 20) sc_law.nd rfl (Or.inl rfl))) (fun _ _ _ _ _ => tsd_nil) (fun _ _ _ _ _ => (EX.d (ex_call (ok_law_worth T) (hr.mono (by decide)) (by rfl) T.g_law_worth T.F_law_worth.kp T.b_law_worth .nil (fun _ => .nil) (qd_cons (dv 19) (qd_cons (dv 20) (qd_cons (dv 2) qd_nil))) rfl))))) ad_nil)))
      (bd_cut (sd_if (td_not (td_truth (EX.d (ex_call (ok_law_same T 2) (hr.mono (by decide)) (by rfl) T.g_law_same T.F_law_same.kp T.b_law_same .nil (fun _ => .nil) (qd_cons (EX.d (ex_meth (dv 7) T.cl_Places T.me_Places_column (ok_Places_column T) (hr.mono (by decide)) T.b_Places_column .nil (fun _ => .nil) (qd_cons (EX.d (ex_makeK T.cl_Poly T.mk_Poly (ok_Poly_init_ T) (hr.mono (by decide)) (by rfl) T.gC_Poly T.kb_Poly_init__2_p (fun _ _ _ => rfl) (kwd_app rfl) rfl (ad_cons (dv 19) ad_nil) (kd_cons (dv 2) kd_nil) rfl)) qd_nil) rfl)) (qd_cons (dv 21) qd_nil)) rfl)))) (bd_one (sd_ret (ED.x ed_bl))) bd_nil)
      (bd_one (sd_ret (ED.x (ed_and (EX.d (ex_call (ok_law_same T 2) (hr.mono (by decide)) (by rfl) T.g_law_same T.F_law_same.kp T.b_law_same .nil (fun _ => .nil) (qd_cons (EX.d (ex_meth (dv 7) T.cl_Places T.me_Places_stretched (ok_Places_stretched T) (hr.mono (by decide)) T.b_Places_stretched .nil (fun _ => .nil) (qd_cons (dv 8) qd_nil) rfl)) (qd_cons (dv 10) qd_nil)) rfl)) (ed_one (EX.d (ex_call (ok_law_same T 2) (hr.mono (by decide)) (by rfl) T.g_law_same T.F_law_same.kp T.b_law_same .nil (fun _ => .nil) (qd_cons (EX.d (ex_meth (dv 7) T.cl_Places T.me_Places_stretched (ok_Places_stretched T) (hr.mono (by decide)) T.b_Places_stretched .nil (fun _ => .nil) (qd_cons (EX.d (ex_op d_mul (EX.d (ex_lst (ad_cons ed_int ad_nil))) (dv 4))) qd_nil) rfl)) (qd_cons (EX.d (ex_op d_mulT (ed_tup (ad_cons ed_int ad_nil)) (EX.d (ex_callB b_len (by rfl) T.z_len (by decide +kernel) (ad_cons (dv 5) ad_nil))))) qd_nil)) rfl)))))))))))))))))))))))))))))))), fun g Qd Ed h => ?_⟩)
  obtain ⟨d, cs, rfl, hd, hl, q⟩ := h
  refine ⟨fun g => ∃ b : List D, IsBox b ∧ g = [.sh d, .ow (.lst b), .no, .no, .no, .no, .no, .no, .no, .no, .no, .no, .no, .no, .no, .no, .no, .no, .no, .no, .no, .no], ?_, ?_⟩
  · exact ⟨d, cs, rfl, hd, hl, fun b0 h0 => ⟨b0, h0, rfl⟩⟩
  rintro g2 ⟨b, hb, rfl⟩
  refine ⟨fun g => ∃ (b : List D) (p k r : Int), IsBox b ∧ FitP p k r ∧ r ≤ 32 ∧ g = [.sh d, .ow (.lst b), .sh (.int p), .sh (.int k), .sh (.int r), .no, .no, .no, .no, .no, .no, .no, .no, .no, .no, .no, .no, .no, .no, .no, .no, .no], ?_, ?_⟩
  · exact ⟨b, rfl, hb, fun b1 p k r h1 F r32 => ⟨rfl, b1, p, k, r, h1, F, r32, rfl⟩⟩
  rintro g2 ⟨b, p, k, r, hb, F, r32, rfl⟩
  have p0 := F.p0
  have p1 := F.p1
  have r0 := F.r0
  have lh := hsP_len F
  have lw := wsP_len F
  refine ⟨fun g => g = L3 d b p k r [.no, .no, .no, .no, .no, .no, .no, .no, .no, .no, .no, .no, .no, .no, .no], ?_, ?_⟩
  · exact ⟨p, k, r, rfl, F, rfl, rfl⟩
  rintro g2 rfl
  refine ⟨fun g => ∃ (b : List D) (ys : List Int), IsBox b ∧ (ys.length : Int) = r ∧ g = L3 d b p k r [.ow (.ins T.C_Places ["p", "rows", "_root", "_row_root", "_worths", "_row_worths"] [.int p, .int r, .int (rtP p k r), .int (rrP p k r), TI' (wsP p k r), TI' (hsP p k r)]), .ow (.lst (ys.map .int)), .no, .no, .no, .no, .no, .no, .no, .no, .no, .no, .no, .no, .no], ?_, ?_⟩
  · exact ⟨p, k, r, rfl, F, b, p, r, rfl, hb, ⟨by omega, by omega⟩, ⟨by omega, by omega⟩, fun b2 ys h2 hy => ⟨b2, ys, h2, hy, rfl⟩⟩
  rintro g2 ⟨b, ys, hb, hy, rfl⟩
  have ls := strP_len F hy
  refine ⟨fun g => g = L3 d b p k r [.ow (.ins T.C_Places ["p", "rows", "_root", "_row_root", "_worths", "_row_worths"] [.int p, .int r, .int (rtP p k r), .int (rrP p k r), TI' (wsP p k r), TI' (hsP p k r)]), .sh (LI ys), .ow (.lst ((strP p k r ys).map .int)), .no, .no, .no, .no, .no, .no, .no, .no, .no, .no, .no, .no], ?_, ?_⟩
  · refine ⟨ys, p, k, r, rfl, F, r32, hy, ?_⟩
    rw [lw_str F r32 hy]
    rfl
  rintro g2 rfl
  refine ⟨fun g => g = L3 d b p k r [.ow (.ins T.C_Places ["p", "rows", "_root", "_row_root", "_worths", "_row_worths"] [.int p, .int r, .int (rtP p k r), .int (rrP p k r), TI' (wsP p k r), TI' (hsP p k r)]), .sh (LI ys), .sh (LI (strP p k r ys)), .no, .no, .no, .no, .no, .no, .no, .no, .no, .no, .no, .no], ?_, ?_⟩
  · exact ⟨rfl, rfl⟩
  rintro g2 rfl
  refine ⟨fun g => ∃ b : List D, IsBox b ∧ g = L3 d b p k r [.sh (PlD T.C_Places p k r), .sh (LI ys), .sh (LI (strP p k r ys)), .sh (TI' (wdP p k r (strP p k r ys))), .no, .no, .no, .no, .no, .no, .no, .no, .no, .no, .no], ?_, ?_⟩
  · exact ⟨b, p, k, r, ys, rfl, hb, F, r32, hy, fun b3 h3 => ⟨b3, h3, rfl⟩⟩
  rintro g2 ⟨b, hb, rfl⟩
  refine ⟨fun g => g = L3 d b p k r [.sh (PlD T.C_Places p k r), .sh (LI ys), .sh (LI (strP p k r ys)), .sh (TI' (wdP p k r (strP p k r ys))), .no, .no, .no, .no, .no, .no, .no, .no, .no, .no, .no], ?_, ?_⟩
  · exact ⟨rfl, rfl⟩
  rintro g2 rfl
  refine ⟨fun g => g = L3 d b p k r [.sh (PlD T.C_Places p k r), .sh (LI ys), .sh (LI (strP p k r ys)), .sh (TI' (wdP p k r (strP p k r ys))), .ow (.ins T.C_Poly ["coefficients", "p"] [TI' (strP p k r ys), .int p]), .no, .no, .no, .no, .no, .no, .no, .no, .no, .no], ?_, ?_⟩
  · exact ⟨rfl, p, k, r, _, ys, rfl, .inl rfl, F, r32, hy, rfl⟩
  rintro g2 rfl
  have ndeg : ¬ r ≤ ((strP p k r ys).length : Int) - 1 := by omega
  refine ⟨fun g => g = L3 d b p k r [.sh (PlD T.C_Places p k r), .sh (LI ys), .sh (LI (strP p k r ys)), .sh (TI' (wdP p k r (strP p k r ys))), .sh (PolyD T.C_Poly p (strP p k r ys)), .no, .no, .no, .no, .no, .no, .no, .no, .no, .no], ?_, ?_⟩
  · exact ⟨strP p k r ys, p, rfl, by omega, rfl, strP p k r ys, p, rfl, ite2 (fun c => absurd (of_decide_eq_true c) ndeg) (fun _ => rfl)⟩
  rintro g2 rfl
  have lr : (red p ys).length = ys.length := by unfold red; rw [List.length_map]
  refine ⟨fun g => g = L3 d b p k r [.sh (PlD T.C_Places p k r), .sh (LI ys), .sh (LI (strP p k r ys)), .sh (TI' (wdP p k r (strP p k r ys))), .sh (PolyD T.C_Poly p (strP p k r ys)), .no, .sh (TI' (red p ys)), .no, .no, .no, .no, .no, .no, .no, .no], ?_, ?_⟩
  · refine ⟨?_, fun i acc g => g = L3 d b p k r [.sh (PlD T.C_Places p k r), .sh (LI ys), .sh (LI (strP p k r ys)), .sh (TI' (wdP p k r (strP p k r ys))), .sh (PolyD T.C_Poly p (strP p k r ys)), .no, .no, .no, .no, .no, .no, .no, .no, .no, .no] ∧ acc = ((red p ys).take i).map .int, ⟨rfl, rfl⟩, ?_, ?_⟩
    · rw [List.length_map]
      exact small_line (by omega)
    · rintro i x acc g2 hx _ ⟨rfl, rfl⟩
      obtain ⟨n, hn, rfl⟩ := mapI_get hx
      exact ⟨(by show (0 : Int) < p; omega), rfl, take_map (by unfold red; rw [List.getElem?_map, hn]; rfl)⟩
    rintro acc g2 _ ⟨rfl, rfl⟩
    rw [List.length_map, List.take_of_length_le (by omega)]
    rfl
  rintro g2 rfl
  refine ⟨fun g => g = L3 d b p k r [.sh (PlD T.C_Places p k r), .sh (LI ys), .sh (LI (strP p k r ys)), .sh (TI' (wdP p k r (strP p k r ys))), .sh (PolyD T.C_Poly p (strP p k r ys)), .no, .sh (TI' (red p ys)), .no, .no, .no, .no, .no, .no, .no, .no], ?_, ?_⟩
  · refine ⟨rfl, strP p k r ys, p, k, r, rfl, F, ?_⟩
    rw [str_back F r32 hy]
    refine ⟨TI' (red p ys), rfl, plain_tup (by omega), rfl, _, strP p k r ys, p, rfl, .inl rfl, by omega, by omega, ?_⟩
    rw [can_str]
    refine ⟨strP p k r ys, p, k, r, rfl, F, ?_⟩
    rw [str_back F r32 hy]
    exact ⟨TI' (red p ys), rfl, plain_tup (by omega), rfl⟩
  rintro g2 rfl
  refine ⟨fun g => g = L3 d b p k r [.sh (PlD T.C_Places p k r), .sh (LI ys), .sh (LI (strP p k r ys)), .sh (TI' (wdP p k r (strP p k r ys))), .sh (PolyD T.C_Poly p (strP p k r ys)), .no, .sh (TI' (red p ys)), .no, .no, .no, .no, .no, .no, .no, .no], ?_, ?_⟩
  · refine ⟨rfl, p, k, r, 0, rfl, F, by rcases rows_in F with h | h | h | h | h <;> rw [h] <;> decide, ?_⟩
    rw [ly0 F]
    refine ⟨rfl, p, wsP p k r, _, strP p k r ys, rfl, ⟨by omega, by omega⟩, by omega, ?_⟩
    exact ⟨TI' (wdP p k r (strP p k r ys)), rfl, plain_tup (by rw [wdP_len]; omega), rfl⟩
  rintro g2 rfl
  refine ⟨fun g => ∃ b : List D, ∃ i : Nat, IsBox b ∧ i < r.toNat ∧ g = L3 d b p k r [.sh (PlD T.C_Places p k r), .sh (LI ys), .sh (LI (strP p k r ys)), .sh (TI' (wdP p k r (strP p k r ys))), .sh (PolyD T.C_Poly p (strP p k r ys)), .no, .sh (TI' (red p ys)), .sh (.int (i : Nat)), .no, .no, .no, .no, .no, .no, .no], ?_, ?_⟩
  · exact ⟨b, r, rfl, hb, ⟨by omega, by omega⟩, fun b2 n h2 n0 n1 => ⟨b2, n.toNat, h2, by omega, by rw [Int.toNat_of_nonneg n0]; rfl⟩⟩
  rintro g2 ⟨b, i, hb, hi, rfl⟩
  refine ⟨fun g => g = L3 d b p k r [.sh (PlD T.C_Places p k r), .sh (LI ys), .sh (LI (strP p k r ys)), .sh (TI' (wdP p k r (strP p k r ys))), .sh (PolyD T.C_Poly p (strP p k r ys)), .no, .sh (TI' (red p ys)), .sh (.int (i : Nat)), .ow (.lst (ys.map .int)), .no, .no, .no, .no, .no, .no], ?_, ?_⟩
  · rfl
  rintro g2 rfl
  refine ⟨fun g => ∃ (b : List D) (zs : List Int), IsBox b ∧ (zs.length : Int) = r ∧ ys.getD i 0 % p ≠ zs.getD i 0 % p ∧ g = L3 d b p k r [.sh (PlD T.C_Places p k r), .sh (LI ys), .sh (LI (strP p k r ys)), .sh (TI' (wdP p k r (strP p k r ys))), .sh (PolyD T.C_Poly p (strP p k r ys)), .no, .sh (TI' (red p ys)), .sh (.int (i : Nat)), .ow (.lst (zs.map .int)), .no, .no, .no, .no, .no, .no], ?_, ?_⟩
  · have e1 : L2.atI ((red p ys).map D.int) (i : Nat) = some (.int ((red p ys).getD i 0)) := atI_getD (by omega)
    have e2 : L2.ixN (ys.map D.int).length (i : Nat) = some i := by rw [List.length_map]; exact ixN_nat (by omega)
    have e3 : (red p ys).getD i 0 = ys.getD i 0 % p := by
      unfold red
      rw [List.getD_eq_getElem?_getD, List.getElem?_map, List.getD_eq_getElem?_getD, List.getElem?_eq_getElem (by omega)]
      rfl
    refine ⟨_, e1, b, _, rfl, hb, ⟨by omega, by omega⟩, fun b2 n h2 n0 n1 => ⟨(by show (0 : Int) < p; omega), i, e2, b2, ys.set i (((red p ys).getD i 0 + 1 + n) % p), h2, by rw [List.length_set]; exact hy, ?_, ?_⟩⟩
    · have e4 : (ys.set i (((red p ys).getD i 0 + 1 + n) % p)).getD i 0 = ((red p ys).getD i 0 + 1 + n) % p := by
        rw [List.getD_eq_getElem?_getD, List.getElem?_set_self (by omega)]
        rfl
      rw [e4, e3, Int.emod_emod_of_dvd _ (Int.dvd_refl p)]
      intro z
      have h1 : Cg p (ys.getD i 0 % p) (ys.getD i 0 % p + 1 + n) := Cg.iff.mpr (by rw [Int.emod_emod_of_dvd _ (Int.dvd_refl p)]; exact z)
      have h3 := h1.symm.sub (Cg.refl p (ys.getD i 0 % p))
      have h2 : Cg p (1 + n) 0 := Cg.trans (Cg.of_eq (by omega)) (h3.trans (Cg.of_eq (by omega)))
      have := Cg.eq_of h2 (by omega) (by omega) (by decide) (by omega)
      omega
    · rw [List.map_set]
      rfl
  rintro g2 ⟨b, zs, hb, hz, nyz, rfl⟩
  have ls2 := strP_len F hz
  refine ⟨fun g => g = L3 d b p k r [.sh (PlD T.C_Places p k r), .sh (LI ys), .sh (LI (strP p k r ys)), .sh (TI' (wdP p k r (strP p k r ys))), .sh (PolyD T.C_Poly p (strP p k r ys)), .no, .sh (TI' (red p ys)), .sh (.int (i : Nat)), .sh (LI zs), .ow (.lst ((strP p k r zs).map .int)), .no, .no, .no, .no, .no], ?_, ?_⟩
  · refine ⟨zs, p, k, r, rfl, F, r32, hz, ?_⟩
    rw [lw_str F r32 hz]
    rfl
  rintro g2 rfl
  refine ⟨fun g => g = L3 d b p k r [.sh (PlD T.C_Places p k r), .sh (LI ys), .sh (LI (strP p k r ys)), .sh (TI' (wdP p k r (strP p k r ys))), .sh (PolyD T.C_Poly p (strP p k r ys)), .no, .sh (TI' (red p ys)), .sh (.int (i : Nat)), .sh (LI zs), .sh (LI (strP p k r zs)), .no, .no, .no, .no, .no], ?_, ?_⟩
  · exact ⟨rfl, rfl⟩
  rintro g2 rfl
  refine ⟨fun g => ∃ b : List D, IsBox b ∧ g = L3 d b p k r [.sh (PlD T.C_Places p k r), .sh (LI ys), .sh (LI (strP p k r ys)), .sh (TI' (wdP p k r (strP p k r ys))), .sh (PolyD T.C_Poly p (strP p k r ys)), .no, .sh (TI' (red p ys)), .sh (.int (i : Nat)), .sh (LI zs), .sh (LI (strP p k r zs)), .sh (TI' (wdP p k r (strP p k r zs))), .no, .no, .no, .no], ?_, ?_⟩
  · exact ⟨b, p, k, r, zs, rfl, hb, F, r32, hz, fun b3 h3 => ⟨b3, h3, rfl⟩⟩
  rintro g2 ⟨b, hb, rfl⟩
  refine ⟨fun g => g = L3 d b p k r [.sh (PlD T.C_Places p k r), .sh (LI ys), .sh (LI (strP p k r ys)), .sh (TI' (wdP p k r (strP p k r ys))), .sh (PolyD T.C_Poly p (strP p k r ys)), .no, .sh (TI' (red p ys)), .sh (.int (i : Nat)), .sh (LI zs), .sh (LI (strP p k r zs)), .sh (TI' (wdP p k r (strP p k r zs))), .no, .no, .no, .no], ?_, ?_⟩
  · exact ⟨rfl, rfl⟩
  rintro g2 rfl
  have hl0 : (((wsP p k r).map D.int).length : Int) = 16 * r := by rw [List.length_map]; exact lw
  refine ⟨fun g => g = L3 d b p k r [.sh (PlD T.C_Places p k r), .sh (LI ys), .sh (LI (strP p k r ys)), .sh (TI' (wdP p k r (strP p k r ys))), .sh (PolyD T.C_Poly p (strP p k r ys)), .no, .sh (TI' (red p ys)), .sh (.int (i : Nat)), .sh (LI zs), .sh (LI (strP p k r zs)), .sh (TI' (wdP p k r (strP p k r zs))), .no, .no, .no, .no], ?_, ?_⟩
  · refine ⟨⟨by omega, by omega⟩, small_line (by rw [rng_len]; omega), fun j acc g => g = L3 d b p k r [.sh (PlD T.C_Places p k r), .sh (LI ys), .sh (LI (strP p k r ys)), .sh (TI' (wdP p k r (strP p k r ys))), .sh (PolyD T.C_Poly p (strP p k r ys)), .no, .sh (TI' (red p ys)), .sh (.int (i : Nat)), .sh (LI zs), .sh (LI (strP p k r zs)), .sh (TI' (wdP p k r (strP p k r zs))), .no, .no, .no, .no] ∧ acc = ((List.range j).filter fun j => decide ((wdP p k r (strP p k r ys)).getD j 0 ≠ (wdP p k r (strP p k r zs)).getD j 0)).map fun j : Nat => D.int (j : Nat), ⟨rfl, rfl⟩, ?_, ?_⟩
    · rintro j x acc g2 hx _ ⟨rfl, rfl⟩
      obtain ⟨hj, rfl⟩ := range_at hx
      have l1 := wdP_len p k r (strP p k r ys)
      have l2 := wdP_len p k r (strP p k r zs)
      have e1 : L2.atI ((wdP p k r (strP p k r ys)).map D.int) (0 + (j : Nat)) = some (.int ((wdP p k r (strP p k r ys)).getD j 0)) := by
        rw [Int.zero_add]
        exact atI_getD (by omega)
      have e2 : L2.atI ((wdP p k r (strP p k r zs)).map D.int) (0 + (j : Nat)) = some (.int ((wdP p k r (strP p k r zs)).getD j 0)) := by
        rw [Int.zero_add]
        exact atI_getD (by omega)
      refine ⟨_, e1, _, e2, ite2 (fun c => ⟨rfl, ?_⟩) (fun c => ⟨rfl, ?_⟩)⟩
      · have c : (!decide ((wdP p k r (strP p k r ys)).getD j 0 = (wdP p k r (strP p k r zs)).getD j 0)) = true := c
        rw [List.range_succ, List.filter_append, List.map_append, List.filter_cons, if_pos (by simpa using c)]
        show _ ++ [D.int (0 + (j : Int))] = _ ++ [D.int (j : Int)]
        rw [Int.zero_add]
      · have c : ¬ (!decide ((wdP p k r (strP p k r ys)).getD j 0 = (wdP p k r (strP p k r zs)).getD j 0)) = true := c
        rw [List.range_succ, List.filter_append, List.filter_cons, if_neg (by simpa using c)]
        simp
    rintro acc g2 _ ⟨rfl, rfl⟩
    have pm := part_many F r32 hy hz hi nyz
    refine ite2 (fun c => ?_) (fun _ => rfl)
    have c := of_decide_eq_true c
    exfalso
    rw [List.length_map, rng_len, Int.toNat_natCast, List.length_map] at c
    omega
  rintro g2 rfl
  refine ⟨fun g => g = L3 d b p k r [.sh (PlD T.C_Places p k r), .sh (LI ys), .sh (LI (strP p k r ys)), .sh (TI' (wdP p k r (strP p k r ys))), .sh (PolyD T.C_Poly p (strP p k r ys)), .no, .sh (TI' (red p ys)), .sh (.int (i : Nat)), .sh (LI zs), .sh (LI (strP p k r zs)), .sh (TI' (wdP p k r (strP p k r zs))), .no, .no, .no, .no], ?_, ?_⟩
  · refine ⟨rfl, p, k, r, _, zs, rfl, .inl rfl, F, r32, hz, ?_⟩
    exact ⟨strP p k r zs, p, rfl, by omega, rfl⟩
  rintro g2 rfl
  refine ⟨fun g => ∃ (b : List D) (lg : List Int), IsBox b ∧ lg.length ≤ 100 ∧ g = L3 d b p k r [.sh (PlD T.C_Places p k r), .sh (LI ys), .sh (LI (strP p k r ys)), .sh (TI' (wdP p k r (strP p k r ys))), .sh (PolyD T.C_Poly p (strP p k r ys)), .no, .sh (TI' (red p ys)), .sh (.int (i : Nat)), .sh (LI zs), .sh (LI (strP p k r zs)), .sh (TI' (wdP p k r (strP p k r zs))), .no, .ow (.lst (lg.map .int)), .no, .no], ?_, ?_⟩
  · refine ⟨.l ⟨by decide, by decide⟩, b, _, rfl, hb, ⟨by omega, by omega⟩, fun b2 n h2 n0 n1 => ?_⟩
    refine ⟨⟨by omega, by omega⟩, small_line (by rw [rng_len]; omega), fun j acc g => ∃ (b : List D) (l : List Int), IsBox b ∧ l.length = j ∧ g = L3 d b p k r [.sh (PlD T.C_Places p k r), .sh (LI ys), .sh (LI (strP p k r ys)), .sh (TI' (wdP p k r (strP p k r ys))), .sh (PolyD T.C_Poly p (strP p k r ys)), .no, .sh (TI' (red p ys)), .sh (.int (i : Nat)), .sh (LI zs), .sh (LI (strP p k r zs)), .sh (TI' (wdP p k r (strP p k r zs))), .no, .no, .no, .no] ∧ acc = l.map .int, ⟨b2, [], h2, rfl, rfl, rfl⟩, ?_, ?_⟩
    · rintro j x acc g2 hx _ ⟨b, l, hb, hl, rfl, rfl⟩
      exact ⟨b, p, rfl, hb, ⟨by omega, by omega⟩, fun b' n h' _ _ => ⟨b', l ++ [n], h', by simp [hl], rfl, by show l.map D.int ++ [D.int n] = _; simp⟩⟩
    · rintro acc g2 _ ⟨b, l, hb, hl, rfl, rfl⟩
      exact ⟨b, l, hb, by rw [hl, rng_len]; omega, rfl⟩
  rintro g2 ⟨b, lg, hb, hlg, rfl⟩
  refine ⟨fun g => g = L3 d b p k r [.sh (PlD T.C_Places p k r), .sh (LI ys), .sh (LI (strP p k r ys)), .sh (TI' (wdP p k r (strP p k r ys))), .sh (PolyD T.C_Poly p (strP p k r ys)), .no, .sh (TI' (red p ys)), .sh (.int (i : Nat)), .sh (LI zs), .sh (LI (strP p k r zs)), .sh (TI' (wdP p k r (strP p k r zs))), .no, .sh (LI lg), .no, .sh (TI' ((hsP p k r).map fun x => ev lg x % p))], ?_, ?_⟩
  · refine ⟨?_, fun i' acc g => ∃ s, (s = Sl.sh (LI lg) ∨ (i' = 0 ∧ s = .ow (.lst (lg.map .int)))) ∧ g = L3 d b p k r [.sh (PlD T.C_Places p k r), .sh (LI ys), .sh (LI (strP p k r ys)), .sh (TI' (wdP p k r (strP p k r ys))), .sh (PolyD T.C_Poly p (strP p k r ys)), .no, .sh (TI' (red p ys)), .sh (.int (i : Nat)), .sh (LI zs), .sh (LI (strP p k r zs)), .sh (TI' (wdP p k r (strP p k r zs))), .no, s, .no, .no] ∧ acc = (((hsP p k r).map fun x => ev lg x % p).take i').map .int, ⟨_, .inr ⟨rfl, rfl⟩, rfl, rfl⟩, ?_, ?_⟩
    · rw [List.length_map]
      exact small_line (by omega)
    · rintro i' x acc g2 hx _ ⟨s, hs, rfl, rfl⟩
      obtain ⟨n, hn, rfl⟩ := mapI_get hx
      rcases hs with rfl | ⟨_, rfl⟩
      · exact ⟨lg, n, p, rfl, ⟨by omega, by omega⟩, _, .inl rfl, rfl, take_map (by rw [List.getElem?_map, hn]; rfl)⟩
      · exact ⟨lg, n, p, rfl, ⟨by omega, by omega⟩, _, .inl rfl, rfl, take_map (by rw [List.getElem?_map, hn]; rfl)⟩
    rintro acc g2 _ ⟨s, hs, rfl, rfl⟩
    have hs : s = .sh (LI lg) := by
      rcases hs with h | ⟨h, _⟩
      · exact h
      · rw [List.length_map] at h
        omega
    subst hs
    rw [List.length_map, List.take_of_length_le (by rw [List.length_map]; exact Nat.le_refl _)]
    rfl
  rintro g2 rfl
  refine ⟨fun g => g = L3 d b p k r [.sh (PlD T.C_Places p k r), .sh (LI ys), .sh (LI (strP p k r ys)), .sh (TI' (wdP p k r (strP p k r ys))), .sh (PolyD T.C_Poly p (strP p k r ys)), .no, .sh (TI' (red p ys)), .sh (.int (i : Nat)), .sh (LI zs), .sh (LI (strP p k r zs)), .sh (TI' (wdP p k r (strP p k r zs))), .no, .sh (LI lg), .no, .sh (TI' ((hsP p k r).map fun x => ev lg x % p))], ?_, ?_⟩
  · refine ⟨rfl, _, lg, p, rfl, .inl rfl, by omega, by omega, can p lg, p, k, r, rfl, F, ?_⟩
    rw [map_can]
    exact ⟨TI' ((hsP p k r).map fun x => ev lg x % p), rfl, plain_tup (by rw [List.length_map]; omega), rfl⟩
  rintro g2 rfl
  refine ⟨rfl, p, k, r, _, ys, rfl, .inl rfl, F, r32, hy, TI' (wdP p k r (strP p k r ys)), rfl, plain_tup (by rw [wdP_len]; omega), ?_⟩
  refine ⟨rfl, ⟨by omega, by omega, small_line (by show 1 * r.toNat ≤ 100000; omega)⟩, p, k, r, _, List.replicate r.toNat 0, rfl, ?_, F, r32, by rw [List.length_replicate]; omega, ?_⟩
  · exact .inl (congrArg D.lst (rep_int 0 r.toNat))
  have ez : (List.replicate ((((wsP p k r).map D.int).length : Nat) : Int).toNat [D.int 0]).flatten = (List.replicate (wsP p k r).length 0).map D.int := by
    rw [rep_int, Int.toNat_natCast, List.length_map]
  refine ⟨⟨by simp, by decide, by omega, by omega⟩, ?_⟩
  have e2 : (wsP p k r).map (fun x => ev (strP p k r (List.replicate r.toNat 0)) x % p) = List.replicate (wsP p k r).length 0 := wd_zero F r32
  rw [e2, ez]
  exact ⟨TI' (List.replicate (wsP p k r).length 0), rfl, plain_tup (by rw [List.length_replicate]; omega), q⟩
end
end DL

set_option maxRecDepth 100000
set_option maxHeartbeats 4000000
namespace DL
open PySem L2
/-! ### from what the top has written to Txt -/
theorem def_ex {K : PySem.W.Frag} {h : Heap} {mg : Str → Option Value} (X : K.In h) (G : h.Ns mainGlobals mg) {x : Str} {st : Stmt} {f : Addr} {oc : Value} {od an : Option Addr} {osl : Array (Option Value)} {kV doc pm cdv ct : Value}
    (a : PySem.W.nsIn K mainGlobals x = some (some (.ref f)))
    (l : K.lookup f = some ⟨oc, od, .func (PySem.W.fnOf x x (defArgs st) (defBody st) (defScope st) .none kV doc pm an cdv ct), osl⟩)
    (c : PySem.W.codeIn K cdv x = true) (k : PySem.W.keepIn K (.ref f) = true) : ∃ (f : Addr) (fd : FuncData), Fun K x x st f fd ∧ mg x = some (.ref f) :=
  ⟨f, _, fun_mk l c k, PySem.W.mg_of X G a⟩
theorem meth_ex {K : PySem.W.Frag} {C : Addr} {q : Str} {st : Stmt} {f : Addr} {oc : Value} {od an : Option Addr} {osl : Array (Option Value)} {kV doc pm cdv ct : Value} {m : Str}
    (a : PySem.W.findIn K (.ref C) m = some (some (.ref f))) (n : PySem.W.isFn K (.ref f) = true)
    (l : K.lookup f = some ⟨oc, od, .func (PySem.W.fnOf m q (defArgs st) (defBody st) (defScope st) .none kV doc pm an cdv ct), osl⟩)
    (c : PySem.W.codeIn K cdv q = true) (k : PySem.W.keepIn K (.ref f) = true) : ∃ (f : Addr) (fd : FuncData), Fun K m q st f fd ∧ Meth K C m f :=
  ⟨f, _, fun_mk l c k, a, n, k⟩
theorem own_ex {K : PySem.W.Frag} {C : Addr} {q : Str} {st : Stmt} {f : Addr} {oc : Value} {od an : Option Addr} {osl : Array (Option Value)} {kV doc pm cdv ct : Value} {m : Str}
    (a : PySem.W.findIn K (.ref C) m = some (some (.ref f))) (n : PySem.W.isFn K (.ref f) = true)
    (l : K.lookup f = some ⟨oc, od, .func (PySem.W.fnOf m q (defArgs st) (defBody st) (defScope st) .none kV doc pm an cdv ct), osl⟩)
    (c : PySem.W.codeIn K cdv q = true) (k : PySem.W.keepIn K (.ref f) = true) : ∃ (f : Addr) (fd : FuncData), Fun K m q st f fd ∧ PySem.W.findIn K (.ref C) m = some (some (.ref f)) ∧ PySem.W.isFn K (.ref f) = true :=
  ⟨f, _, fun_mk l c k, a, n⟩
theorem call_ex {K : PySem.W.Frag} {C : Addr} {q : Str} {st : Stmt} {f : Addr} {oc : Value} {od an : Option Addr} {osl : Array (Option Value)} {kV doc pm cdv ct : Value}
    (a : PySem.W.findIn K (.ref C) "__call__" = some (some (.ref f))) (n : PySem.W.isFn K (.ref f) = true) (i : PySem.W.fnIn K f = true)
    (l : K.lookup f = some ⟨oc, od, .func (PySem.W.fnOf "__call__" q (defArgs st) (defBody st) (defScope st) .none kV doc pm an cdv ct), osl⟩)
    (c : PySem.W.codeIn K cdv q = true) (k : PySem.W.keepIn K (.ref f) = true) : ∃ (f : Addr) (fd : FuncData), Fun K "__call__" q st f fd ∧ StX.CallO K C f :=
  ⟨f, _, fun_mk l c k, a, n, i⟩
theorem prop_ex {K : PySem.W.Frag} {C : Addr} {q : Str} {st : Stmt} {f : Addr} {oc : Value} {od an : Option Addr} {osl : Array (Option Value)} {kV doc pm cdv ct : Value} {m : Str} {p : Addr} {rest : List Value}
    (a : PySem.W.findIn K (.ref C) m = some (some (.ref p))) (g : PySem.W.specialIn K (.ref p) "__get__" = some (some (.builtin "property.__get__"))) (t : PySem.W.takesIn K (.ref p) = some true) (r : PySem.W.recIn K p "property" = some (.ref f :: rest))
    (l : K.lookup f = some ⟨oc, od, .func (PySem.W.fnOf m q (defArgs st) (defBody st) (defScope st) .none kV doc pm an cdv ct), osl⟩)
    (c : PySem.W.codeIn K cdv q = true) (k : PySem.W.keepIn K (.ref f) = true) : ∃ (p f : Addr) (fd : FuncData), Fun K m q st f fd ∧ PropOf K C m p f :=
  ⟨p, f, _, fun_mk l c k, a, g, t, rest, r⟩
theorem st_ex {K : PySem.W.Frag} {C : Addr} {q : Str} {st : Stmt} {f : Addr} {oc : Value} {od an : Option Addr} {osl : Array (Option Value)} {kV doc pm cdv ct : Value} {m : Str} {p : Addr} {rest : List Value}
    (ty : PySem.W.typeIn K (.ref C) = some (.type "type")) (rd : PySem.W.readsIn K C (.type "type") = true) (ga : PySem.W.specialIn K (.ref C) "__getattribute__" = some (some (.builtin "type.__getattribute__")))
    (a : PySem.W.findCls K (.ref C) (.type "type") m = some (.get (.builtin "staticmethod.__get__") (.ref p) .none (.ref C))) (r : PySem.W.recIn K p "staticmethod" = some (.ref f :: rest))
    (l : K.lookup f = some ⟨oc, od, .func (PySem.W.fnOf m q (defArgs st) (defBody st) (defScope st) .none kV doc pm an cdv ct), osl⟩)
    (c : PySem.W.codeIn K cdv q = true) (k : PySem.W.keepIn K (.ref f) = true) : ∃ (p f : Addr) (fd : FuncData), Fun K m q st f fd ∧ OV.SMet K C (.type "type") m p f :=
  ⟨p, f, _, fun_mk l c k, ty, rd, ga, a, ⟨rest, r⟩, k⟩
theorem init_ex {K : PySem.W.Frag} {C : Addr} {q : Str} {st : Stmt} {f : Addr} {oc : Value} {od an : Option Addr} {osl : Array (Option Value)} {kV doc pm cdv ct : Value}
    (mk : PySem.W.makesIn K C = true) (a : PySem.W.findIn K (.ref C) "__init__" = some (some (.ref f))) (n : PySem.W.isFn K (.ref f) = true) (kc : PySem.W.keepIn K (.ref C) = true)
    (l : K.lookup f = some ⟨oc, od, .func (PySem.W.fnOf "__init__" q (defArgs st) (defBody st) (defScope st) .none kV doc pm an cdv ct), osl⟩)
    (c : PySem.W.codeIn K cdv q = true) (k : PySem.W.keepIn K (.ref f) = true) : ∃ (f : Addr) (fd : FuncData), Fun K "__init__" q st f fd ∧ Mk K C f :=
  ⟨f, _, fun_mk l c k, mk, a, n, kc⟩
theorem ini_ex {K : PySem.W.Frag} {C : Addr} {q : Str} {st : Stmt} {f T t0 : Addr} {oc : Value} {od an dd : Option Addr} {osl sl : Array (Option Value)} {kV doc pm cdv ct : Value} {n : Nat}
    (mk : PySem.W.makesIn K C = true) (a : PySem.W.findIn K (.ref C) "__init__" = some (some (.ref f))) (n' : PySem.W.isFn K (.ref f) = true) (kc : PySem.W.keepIn K (.ref C) = true)
    (l : K.lookup f = some ⟨oc, od, .func (PySem.W.fnOf "__init__" q (defArgs st) (defBody st) (defScope st) (.ref T) kV doc pm an cdv ct), osl⟩)
    (c : PySem.W.codeIn K cdv q = true) (k : PySem.W.keepIn K (.ref f) = true)
    (lT : K.lookup T = some ⟨.type "tuple", dd, .seq [Value.ref t0].toArray n, sl⟩) :
    ∃ (t0 f : Addr) (fd : FuncData), FunD K "__init__" q (defArgs st) (defBody st) (defScope st) [.ref t0] [] f fd ∧ Mk K C f :=
  ⟨t0, f, _, ⟨⟨oc, od, _, kV, doc, pm, an, cdv, ct, osl, rfl, l, c, .inr ⟨by simp, T, _, _, n, rfl, lT, rfl, .cons rfl .nil⟩, .inl rfl⟩, k⟩, mk, a, n', kc⟩
theorem one_of {K : PySem.W.Frag} {x q nm : Str} {st : Stmt} {f : Addr} {fd : FuncData} (F : Fun K x q st f fd)
    (h : ∀ (kV doc pm : Value) (an : Option Addr) (cdv ct v : Value), bindArgs (PySem.W.fnOf x q (defArgs st) (defBody st) (defScope st) .none kV doc pm an cdv ct) ⟨[v], []⟩ = pure [(nm, v)]) :
    ∀ (s : Shared) (v : Value), BindsTo s fd ⟨[v], []⟩ [(nm, v)] := fun s v => by
  obtain ⟨oc, od, kV, doc, pm, an, cdv, ct, osl, rfl, lk, hcd⟩ := F.ex
  exact .of_eq (h kV doc pm an cdv ct v)
theorem kbn1 {K : PySem.W.Frag} {x qual : Str} {st : Stmt} {f : Addr} {fd : FuncData} {ps ks : List Str} {n : Nat} {g : {α : Type} → List α → List α → List α} (F : Fun K x qual st f fd)
    (h : ∀ (kV doc pm : Value) (an : Option Addr) (cdv ct : Value) (us ws : List Value), us.length = n → ws.length = ks.length → bindArgs (PySem.W.fnOf x qual (defArgs st) (defBody st) (defScope st) .none kV doc pm an cdv ct) ⟨us, ks.zip ws⟩ = pure (ps.zip (g us ws)))
    (hr : ∀ {vs : List V} {us : List Value} {zs : List V} {ws : List Value}, Vals vs us → Vals zs ws → Vals (g vs zs) (g us ws)) : KBn K fd ps n ks g g := by
  obtain ⟨oc, od, kV, doc, pm, an, cdv, ct, osl, rfl, lk, hcd⟩ := F.ex
  exact ⟨fun s us ws _ hu hl => .of_eq (h kV doc pm an cdv ct us ws hu hl), hr⟩
theorem vals_rev : ∀ {vs : List V} {us : List Value}, Vals vs us → Vals vs.reverse us.reverse := fun r => by
  induction r with
  | nil => exact .nil
  | cons a r ih =>
    rw [List.reverse_cons, List.reverse_cons]
    exact ih.append (.cons a .nil)
theorem tup_at {K : PySem.W.Frag} {p : Addr} {us : List Value} {n : Nat} {sl : Array (Option Value)} {vs : List V} (l : K.lookup p = some ⟨.type "tuple", none, .seq us.toArray n, sl⟩) (hl : us.length ≤ sizeLine) (r : Vals vs us) :
    ∃ (o : Obj) (its : Array Value) (n : Nat), K.lookup p = some o ∧ o.cls = .type "tuple" ∧ o.dict = none ∧ o.data = .seq its n ∧ its.size ≤ sizeLine ∧ Vals vs its.toList :=
  ⟨_, us.toArray, n, l, rfl, rfl, rfl, by simpa using hl, by simpa using r⟩
theorem tup_at' {K : PySem.W.Frag} {p : Addr} {us : List Value} {n : Nat} {sl : Array (Option Value)} {vs : List V} (l : K.lookup p = some ⟨.type "tuple", none, .seq us.toArray n, sl⟩) (hl : us.length ≤ sizeLine) (r : Vals vs us) :
    ∃ (o : Obj) (its : Array Value) (n : Nat), K.lookup p = some o ∧ o.cls = .type "tuple" ∧ o.data = .seq its n ∧ its.size ≤ sizeLine ∧ Vals vs its.toList :=
  ⟨_, us.toArray, n, l, rfl, rfl, by simpa using hl, by simpa using r⟩
abbrev Pr (K : PySem.W.Frag) (p : Addr) (kv : Int × Int) : Prop := ∃ (o : Obj) (its : Array Value) (n : Nat), K.lookup p = some o ∧ o.cls = .type "tuple" ∧ o.data = .seq its n ∧ its.size ≤ sizeLine ∧ Vals [.int kv.1, .int kv.2] its.toList
theorem pr_mk {K : PySem.W.Frag} {p : Addr} {a b : Int} {t1 t2 : Tok} {n : Nat} {sl : Array (Option Value)} (l : K.lookup p = some ⟨.type "tuple", none, .seq [Value.int a t1, Value.int b t2].toArray n, sl⟩) : Pr K p (a, b) :=
  tup_at' l (by show 2 ≤ sizeLine; decide) (.cons ⟨_, rfl⟩ (.cons ⟨_, rfl⟩ .nil))

theorem build {P : Program} {w : World} {K : PySem.W.Frag} {h : Heap} {mg : Str → Option Value} {fa : Addr} (X : K.In h) (G : h.Ns mainGlobals mg) (hfa : mg "law" = some (.ref fa)) {C_Code C_Poly C_Places : Addr} {tP p0 p1 p2 p3 p4 p5 p6 : Addr} {nP : Nat} {slP : Array (Option Value)} {tR : Addr} {nR : Nat} {slR : Array (Option Value)} {u0 u1 u2 u3 u4 : Tok} {nk_ROWS : Nat} {sk_ROWS : Array (Option Value)} {u_ROWS_0 u_ROWS_1 u_ROWS_2 u_ROWS_3 u_ROWS_4 : Tok}
    (gC_Code : PySem.W.nsIn K mainGlobals "Code" = some (some (.ref C_Code)))
    (gC_Poly : PySem.W.nsIn K mainGlobals "Poly" = some (some (.ref C_Poly)))
    (gC_Places : PySem.W.nsIn K mainGlobals "Places" = some (some (.ref C_Places)))
    (D_is_whole : ∃ (f : Addr) (fd : FuncData), Fun K "is_whole" "is_whole" s_is_whole f fd ∧ mg "is_whole" = some (.ref f))
    (D_worths_of : ∃ (f : Addr) (fd : FuncData), Fun K "worths_of" "worths_of" s_worths_of f fd ∧ mg "worths_of" = some (.ref f))
    (D_Code_init_ : ∃ (f : Addr) (fd : FuncData), Fun K "__init__" "Code.__init__" s_Code_init_ f fd ∧ Mk K C_Code f)
    (D_Code_degree : ∃ (p f : Addr) (fd : FuncData), Fun K "degree" "Code.degree" s_Code_degree f fd ∧ PropOf K C_Code "degree" p f)
    (D_Code_word : ∃ (f : Addr) (fd : FuncData), Fun K "word" "Code.word" s_Code_word f fd ∧ Meth K C_Code "word" f)
    (D_is_number : ∃ (f : Addr) (fd : FuncData), Fun K "is_number" "is_number" s_is_number f fd ∧ mg "is_number" = some (.ref f))
    (D_fits : ∃ (f : Addr) (fd : FuncData), Fun K "fits" "fits" s_fits f fd ∧ mg "fits" = some (.ref f))
    (D_generator : ∃ (f : Addr) (fd : FuncData), Fun K "generator" "generator" s_generator f fd ∧ mg "generator" = some (.ref f))
    (D_inverse : ∃ (f : Addr) (fd : FuncData), Fun K "inverse" "inverse" s_inverse f fd ∧ mg "inverse" = some (.ref f))
    (D_power : ∃ (f : Addr) (fd : FuncData), Fun K "power" "power" s_power f fd ∧ mg "power" = some (.ref f))
    (D_trimmed : ∃ (f : Addr) (fd : FuncData), Fun K "_trimmed" "_trimmed" s_trimmed f fd ∧ mg "_trimmed" = some (.ref f))
    (D_worth_at : ∃ (f : Addr) (fd : FuncData), Fun K "_worth_at" "_worth_at" s_worth_at f fd ∧ mg "_worth_at" = some (.ref f))
    (D_with_roots : ∃ (f : Addr) (fd : FuncData), Fun K "with_roots" "with_roots" s_with_roots f fd ∧ mg "with_roots" = some (.ref f))
    (D_without_root : ∃ (f : Addr) (fd : FuncData), Fun K "_without_root" "_without_root" s_without_root f fd ∧ mg "_without_root" = some (.ref f))
    (D_Poly_init_ : ∃ (t0 f : Addr) (fd : FuncData), FunD K "__init__" "Poly.__init__" (defArgs s_Poly_init_) (defBody s_Poly_init_) (defScope s_Poly_init_) [.ref t0] [] f fd ∧ Mk K C_Poly f)
    (D_Poly_through : ∃ (p f : Addr) (fd : FuncData), Fun K "through" "Poly.through" s_Poly_through f fd ∧ OV.SMet K C_Poly (.type "type") "through" p f)
    (D_Poly_degree : ∃ (p f : Addr) (fd : FuncData), Fun K "degree" "Poly.degree" s_Poly_degree f fd ∧ PropOf K C_Poly "degree" p f)
    (D_Poly_call_ : ∃ (f : Addr) (fd : FuncData), Fun K "__call__" "Poly.__call__" s_Poly_call_ f fd ∧ StX.CallO K C_Poly f)
    (D_powers : ∃ (f : Addr) (fd : FuncData), Fun K "_powers" "_powers" s_powers f fd ∧ mg "_powers" = some (.ref f))
    (D_Places_init_ : ∃ (f : Addr) (fd : FuncData), Fun K "__init__" "Places.__init__" s_Places_init_ f fd ∧ Mk K C_Places f)
    (D_Places_size : ∃ (p f : Addr) (fd : FuncData), Fun K "size" "Places.size" s_Places_size f fd ∧ PropOf K C_Places "size" p f)
    (D_Places_degree : ∃ (p f : Addr) (fd : FuncData), Fun K "degree" "Places.degree" s_Places_degree f fd ∧ PropOf K C_Places "degree" p f)
    (D_Places_layers : ∃ (p f : Addr) (fd : FuncData), Fun K "layers" "Places.layers" s_Places_layers f fd ∧ PropOf K C_Places "layers" p f)
    (D_Places_layer : ∃ (f : Addr) (fd : FuncData), Fun K "layer" "Places.layer" s_Places_layer f fd ∧ Meth K C_Places "layer" f)
    (D_Places_stretched_poly : ∃ (f : Addr) (fd : FuncData), Fun K "stretched_poly" "Places.stretched_poly" s_Places_stretched_poly f fd ∧ Meth K C_Places "stretched_poly" f)
    (D_Places_stretched : ∃ (f : Addr) (fd : FuncData), Fun K "stretched" "Places.stretched" s_Places_stretched f fd ∧ Meth K C_Places "stretched" f)
    (D_Places_column : ∃ (f : Addr) (fd : FuncData), Fun K "column" "Places.column" s_Places_column f fd ∧ Meth K C_Places "column" f)
    (D_law_box : ∃ (f : Addr) (fd : FuncData), Fun K "_law_box" "_law_box" s_law_box f fd ∧ mg "_law_box" = some (.ref f))
    (D_law_draw : ∃ (f : Addr) (fd : FuncData), Fun K "_law_draw" "_law_draw" s_law_draw f fd ∧ mg "_law_draw" = some (.ref f))
    (D_law_of : ∃ (f : Addr) (fd : FuncData), Fun K "_law_of" "_law_of" s_law_of f fd ∧ mg "_law_of" = some (.ref f))
    (D_law_same : ∃ (f : Addr) (fd : FuncData), Fun K "_law_same" "_law_same" s_law_same f fd ∧ mg "_law_same" = some (.ref f))
    (D_law_number : ∃ (f : Addr) (fd : FuncData), Fun K "_law_number" "_law_number" s_law_number f fd ∧ mg "_law_number" = some (.ref f))
    (D_law_raised : ∃ (f : Addr) (fd : FuncData), Fun K "_law_raised" "_law_raised" s_law_raised f fd ∧ mg "_law_raised" = some (.ref f))
    (D_law_inverse : ∃ (f : Addr) (fd : FuncData), Fun K "_law_inverse" "_law_inverse" s_law_inverse f fd ∧ mg "_law_inverse" = some (.ref f))
    (D_law_worth : ∃ (f : Addr) (fd : FuncData), Fun K "_law_worth" "_law_worth" s_law_worth f fd ∧ mg "_law_worth" = some (.ref f))
    (D_law_trim : ∃ (f : Addr) (fd : FuncData), Fun K "_law_trim" "_law_trim" s_law_trim f fd ∧ mg "_law_trim" = some (.ref f))
    (D_law_fit : ∃ (f : Addr) (fd : FuncData), Fun K "_law_fit" "_law_fit" s_law_fit f fd ∧ mg "_law_fit" = some (.ref f))
    (D_law_spots : ∃ (f : Addr) (fd : FuncData), Fun K "_law_spots" "_law_spots" s_law_spots f fd ∧ mg "_law_spots" = some (.ref f))
    (D_law_lane : ∃ (f : Addr) (fd : FuncData), Fun K "_law_lane" "_law_lane" s_law_lane f fd ∧ mg "_law_lane" = some (.ref f))
    (D_law_stretch : ∃ (f : Addr) (fd : FuncData), Fun K "_law_stretch" "_law_stretch" s_law_stretch f fd ∧ mg "_law_stretch" = some (.ref f))
    (D_law_word : ∃ (f : Addr) (fd : FuncData), Fun K "_law_word" "_law_word" s_law_word f fd ∧ mg "_law_word" = some (.ref f))
    (D_law_is_poly : ∃ (f : Addr) (fd : FuncData), Fun K "_law_is_poly" "_law_is_poly" s_law_is_poly f fd ∧ mg "_law_is_poly" = some (.ref f))
    (D_law : ∃ (f : Addr) (fd : FuncData), Fun K "law" "law" s_law f fd ∧ mg "law" = some (.ref f))
    (cl_Code : Cls K C_Code)
    (ct_Code : ClsT K C_Code)
    (n_Code_places : PySem.W.findIn K (.ref C_Code) "places" = some none)
    (n_Code_p : PySem.W.findIn K (.ref C_Code) "p" = some none)
    (n_Code__degree : PySem.W.findIn K (.ref C_Code) "_degree" = some none)
    (kk_Code : PySem.W.kitOne K (.ref C_Code) (.ref C_Code) = some true)
    (k_Code_list : PySem.W.kitOne K (.type "list") (.ref C_Code) = some false)
    (k_Code_tuple : PySem.W.kitOne K (.type "tuple") (.ref C_Code) = some false)
    (k_Code_str : PySem.W.kitOne K (.type "str") (.ref C_Code) = some false)
    (k_Code_NoneType : PySem.W.kitOne K (.type "NoneType") (.ref C_Code) = some false)
    (k_Code_int : PySem.W.kitOne K (.type "int") (.ref C_Code) = some false)
    (k_Code_bool : PySem.W.kitOne K (.type "bool") (.ref C_Code) = some false)
    (cl_Poly : Cls K C_Poly)
    (ct_Poly : ClsT K C_Poly)
    (n_Poly_coefficients : PySem.W.findIn K (.ref C_Poly) "coefficients" = some none)
    (n_Poly_p : PySem.W.findIn K (.ref C_Poly) "p" = some none)
    (kk_Poly : PySem.W.kitOne K (.ref C_Poly) (.ref C_Poly) = some true)
    (k_Poly_list : PySem.W.kitOne K (.type "list") (.ref C_Poly) = some false)
    (k_Poly_tuple : PySem.W.kitOne K (.type "tuple") (.ref C_Poly) = some false)
    (k_Poly_str : PySem.W.kitOne K (.type "str") (.ref C_Poly) = some false)
    (k_Poly_NoneType : PySem.W.kitOne K (.type "NoneType") (.ref C_Poly) = some false)
    (k_Poly_int : PySem.W.kitOne K (.type "int") (.ref C_Poly) = some false)
    (k_Poly_bool : PySem.W.kitOne K (.type "bool") (.ref C_Poly) = some false)
    (cl_Places : Cls K C_Places)
    (ct_Places : ClsT K C_Places)
    (n_Places_p : PySem.W.findIn K (.ref C_Places) "p" = some none)
    (n_Places_rows : PySem.W.findIn K (.ref C_Places) "rows" = some none)
    (n_Places__root : PySem.W.findIn K (.ref C_Places) "_root" = some none)
    (n_Places__row_root : PySem.W.findIn K (.ref C_Places) "_row_root" = some none)
    (n_Places__worths : PySem.W.findIn K (.ref C_Places) "_worths" = some none)
    (n_Places__row_worths : PySem.W.findIn K (.ref C_Places) "_row_worths" = some none)
    (kk_Places : PySem.W.kitOne K (.ref C_Places) (.ref C_Places) = some true)
    (k_Places_list : PySem.W.kitOne K (.type "list") (.ref C_Places) = some false)
    (k_Places_tuple : PySem.W.kitOne K (.type "tuple") (.ref C_Places) = some false)
    (k_Places_str : PySem.W.kitOne K (.type "str") (.ref C_Places) = some false)
    (k_Places_NoneType : PySem.W.kitOne K (.type "NoneType") (.ref C_Places) = some false)
    (k_Places_int : PySem.W.kitOne K (.type "int") (.ref C_Places) = some false)
    (k_Places_bool : PySem.W.kitOne K (.type "bool") (.ref C_Places) = some false)
    (aP : PySem.W.nsIn K mainGlobals "PRIMES" = some (some (.ref tP)))
    (lP : K.lookup tP = some ⟨.type "tuple", none, .seq [Value.ref p0, Value.ref p1, Value.ref p2, Value.ref p3, Value.ref p4, Value.ref p5, Value.ref p6].toArray nP, slP⟩)
    (l0 : Pr K p0 (193, 5))
    (l1 : Pr K p1 (257, 3))
    (l2 : Pr K p2 (769, 11))
    (l3 : Pr K p3 (7681, 17))
    (l4 : Pr K p4 (12289, 11))
    (l5 : Pr K p5 (998244353, 3))
    (l6 : Pr K p6 (2013265921, 31))
    (aR : PySem.W.nsIn K mainGlobals "ROWS" = some (some (.ref tR)))
    (lR : K.lookup tR = some ⟨.type "tuple", none, .seq [Value.int 4 u0, Value.int 8 u1, Value.int 16 u2, Value.int 32 u3, Value.int 64 u4].toArray nR, slR⟩)
    (gk_ROWS : PySem.W.nsIn K mainGlobals "ROWS" = some (some (.ref tR)))
    (lk_ROWS : K.lookup tR = some ⟨.type "tuple", none, .seq [Value.int 4 u_ROWS_0, Value.int 8 u_ROWS_1, Value.int 16 u_ROWS_2, Value.int 32 u_ROWS_3, Value.int 64 u_ROWS_4].toArray nk_ROWS, sk_ROWS⟩)
    (z_abs : PySem.W.nsIn K mainGlobals "abs" = some none)
    (z_all : PySem.W.nsIn K mainGlobals "all" = some none)
    (z_bool : PySem.W.nsIn K mainGlobals "bool" = some none)
    (z_dict : PySem.W.nsIn K mainGlobals "dict" = some none)
    (z_int : PySem.W.nsIn K mainGlobals "int" = some none)
    (z_isinstance : PySem.W.nsIn K mainGlobals "isinstance" = some none)
    (z_len : PySem.W.nsIn K mainGlobals "len" = some none)
    (z_list : PySem.W.nsIn K mainGlobals "list" = some none)
    (z_min : PySem.W.nsIn K mainGlobals "min" = some none)
    (z_property : PySem.W.nsIn K mainGlobals "property" = some none)
    (z_range : PySem.W.nsIn K mainGlobals "range" = some none)
    (z_reversed : PySem.W.nsIn K mainGlobals "reversed" = some none)
    (z_str : PySem.W.nsIn K mainGlobals "str" = some none)
    (z_sum : PySem.W.nsIn K mainGlobals "sum" = some none)
    (z_tuple : PySem.W.nsIn K mainGlobals "tuple" = some none)
    (z_zip : PySem.W.nsIn K mainGlobals "zip" = some none)
    : ∃ fd : FuncData, (∀ (s : Shared) (v : Value), BindsTo s fd ⟨[v], []⟩ [("script", v)]) ∧ ∀ base : Heap, K.In base → base.Ns mainGlobals mg → FnOk P w K mg base CX0 9 fa fd ["script"] (spLaw K) := by
  obtain ⟨f_is_whole, fd_is_whole, F_is_whole, g_is_whole⟩ := D_is_whole
  obtain ⟨f_worths_of, fd_worths_of, F_worths_of, g_worths_of⟩ := D_worths_of
  obtain ⟨f_Code_init_, fd_Code_init_, F_Code_init_, mk_Code⟩ := D_Code_init_
  obtain ⟨pa_Code_degree, f_Code_degree, fd_Code_degree, F_Code_degree, pp_Code_degree⟩ := D_Code_degree
  obtain ⟨f_Code_word, fd_Code_word, F_Code_word, me_Code_word⟩ := D_Code_word
  obtain ⟨f_is_number, fd_is_number, F_is_number, g_is_number⟩ := D_is_number
  obtain ⟨f_fits, fd_fits, F_fits, g_fits⟩ := D_fits
  obtain ⟨f_generator, fd_generator, F_generator, g_generator⟩ := D_generator
  obtain ⟨f_inverse, fd_inverse, F_inverse, g_inverse⟩ := D_inverse
  obtain ⟨f_power, fd_power, F_power, g_power⟩ := D_power
  obtain ⟨f_trimmed, fd_trimmed, F_trimmed, g_trimmed⟩ := D_trimmed
  obtain ⟨f_worth_at, fd_worth_at, F_worth_at, g_worth_at⟩ := D_worth_at
  obtain ⟨f_with_roots, fd_with_roots, F_with_roots, g_with_roots⟩ := D_with_roots
  obtain ⟨f_without_root, fd_without_root, F_without_root, g_without_root⟩ := D_without_root
  obtain ⟨t0_Poly_init_, f_Poly_init_, fd_Poly_init_, F_Poly_init_, mk_Poly⟩ := D_Poly_init_
  obtain ⟨pa_Poly_through, f_Poly_through, fd_Poly_through, F_Poly_through, st_Poly_through⟩ := D_Poly_through
  obtain ⟨pa_Poly_degree, f_Poly_degree, fd_Poly_degree, F_Poly_degree, pp_Poly_degree⟩ := D_Poly_degree
  obtain ⟨f_Poly_call_, fd_Poly_call_, F_Poly_call_, cO_Poly⟩ := D_Poly_call_
  obtain ⟨f_powers, fd_powers, F_powers, g_powers⟩ := D_powers
  obtain ⟨f_Places_init_, fd_Places_init_, F_Places_init_, mk_Places⟩ := D_Places_init_
  obtain ⟨pa_Places_size, f_Places_size, fd_Places_size, F_Places_size, pp_Places_size⟩ := D_Places_size
  obtain ⟨pa_Places_degree, f_Places_degree, fd_Places_degree, F_Places_degree, pp_Places_degree⟩ := D_Places_degree
  obtain ⟨pa_Places_layers, f_Places_layers, fd_Places_layers, F_Places_layers, pp_Places_layers⟩ := D_Places_layers
  obtain ⟨f_Places_layer, fd_Places_layer, F_Places_layer, me_Places_layer⟩ := D_Places_layer
  obtain ⟨f_Places_stretched_poly, fd_Places_stretched_poly, F_Places_stretched_poly, me_Places_stretched_poly⟩ := D_Places_stretched_poly
  obtain ⟨f_Places_stretched, fd_Places_stretched, F_Places_stretched, me_Places_stretched⟩ := D_Places_stretched
  obtain ⟨f_Places_column, fd_Places_column, F_Places_column, me_Places_column⟩ := D_Places_column
  obtain ⟨f_law_box, fd_law_box, F_law_box, g_law_box⟩ := D_law_box
  obtain ⟨f_law_draw, fd_law_draw, F_law_draw, g_law_draw⟩ := D_law_draw
  obtain ⟨f_law_of, fd_law_of, F_law_of, g_law_of⟩ := D_law_of
  obtain ⟨f_law_same, fd_law_same, F_law_same, g_law_same⟩ := D_law_same
  obtain ⟨f_law_number, fd_law_number, F_law_number, g_law_number⟩ := D_law_number
  obtain ⟨f_law_raised, fd_law_raised, F_law_raised, g_law_raised⟩ := D_law_raised
  obtain ⟨f_law_inverse, fd_law_inverse, F_law_inverse, g_law_inverse⟩ := D_law_inverse
  obtain ⟨f_law_worth, fd_law_worth, F_law_worth, g_law_worth⟩ := D_law_worth
  obtain ⟨f_law_trim, fd_law_trim, F_law_trim, g_law_trim⟩ := D_law_trim
  obtain ⟨f_law_fit, fd_law_fit, F_law_fit, g_law_fit⟩ := D_law_fit
  obtain ⟨f_law_spots, fd_law_spots, F_law_spots, g_law_spots⟩ := D_law_spots
  obtain ⟨f_law_lane, fd_law_lane, F_law_lane, g_law_lane⟩ := D_law_lane
  obtain ⟨f_law_stretch, fd_law_stretch, F_law_stretch, g_law_stretch⟩ := D_law_stretch
  obtain ⟨f_law_word, fd_law_word, F_law_word, g_law_word⟩ := D_law_word
  obtain ⟨f_law_is_poly, fd_law_is_poly, F_law_is_poly, g_law_is_poly⟩ := D_law_is_poly
  obtain ⟨f_law, fd_law, F_law, g_law⟩ := D_law
  have b_is_whole := F_is_whole.binds (ps := ["value"]) fun _ _ _ _ _ _ us hl => match us, hl with | [_], _ => rfl
  have b_worths_of := F_worths_of.binds (ps := ["numbers", "p"]) fun _ _ _ _ _ _ us hl => match us, hl with | [_, _], _ => rfl
  have b_Code_degree := F_Code_degree.binds (ps := ["self"]) fun _ _ _ _ _ _ us hl => match us, hl with | [_], _ => rfl
  have b_Code_word := F_Code_word.binds (ps := ["self", "poly"]) fun _ _ _ _ _ _ us hl => match us, hl with | [_, _], _ => rfl
  have b_is_number := F_is_number.binds (ps := ["value", "least", "most"]) fun _ _ _ _ _ _ us hl => match us, hl with | [_, _, _], _ => rfl
  have b_fits := F_fits.binds (ps := ["p", "rows"]) fun _ _ _ _ _ _ us hl => match us, hl with | [_, _], _ => rfl
  have b_generator := F_generator.binds (ps := ["p"]) fun _ _ _ _ _ _ us hl => match us, hl with | [_], _ => rfl
  have b_inverse := F_inverse.binds (ps := ["worth", "p"]) fun _ _ _ _ _ _ us hl => match us, hl with | [_, _], _ => rfl
  have b_power := F_power.binds (ps := ["worth", "count", "p"]) fun _ _ _ _ _ _ us hl => match us, hl with | [_, _, _], _ => rfl
  have b_trimmed := F_trimmed.binds (ps := ["worths"]) fun _ _ _ _ _ _ us hl => match us, hl with | [_], _ => rfl
  have b_worth_at := F_worth_at.binds (ps := ["coefficients", "x", "p"]) fun _ _ _ _ _ _ us hl => match us, hl with | [_, _, _], _ => rfl
  have b_with_roots := F_with_roots.binds (ps := ["roots", "p"]) fun _ _ _ _ _ _ us hl => match us, hl with | [_, _], _ => rfl
  have b_without_root := F_without_root.binds (ps := ["coefficients", "root", "p"]) fun _ _ _ _ _ _ us hl => match us, hl with | [_, _, _], _ => rfl
  have b_Poly_degree := F_Poly_degree.binds (ps := ["self"]) fun _ _ _ _ _ _ us hl => match us, hl with | [_], _ => rfl
  have b_Poly_call_ := F_Poly_call_.binds (ps := ["self", "x"]) fun _ _ _ _ _ _ us hl => match us, hl with | [_, _], _ => rfl
  have b_powers := F_powers.binds (ps := ["first", "factor", "count", "p"]) fun _ _ _ _ _ _ us hl => match us, hl with | [_, _, _, _], _ => rfl
  have b_Places_init_ := F_Places_init_.binds (ps := ["self", "p", "rows"]) fun _ _ _ _ _ _ us hl => match us, hl with | [_, _, _], _ => rfl
  have b_Places_size := F_Places_size.binds (ps := ["self"]) fun _ _ _ _ _ _ us hl => match us, hl with | [_], _ => rfl
  have b_Places_degree := F_Places_degree.binds (ps := ["self"]) fun _ _ _ _ _ _ us hl => match us, hl with | [_], _ => rfl
  have b_Places_layers := F_Places_layers.binds (ps := ["self"]) fun _ _ _ _ _ _ us hl => match us, hl with | [_], _ => rfl
  have b_Places_layer := F_Places_layer.binds (ps := ["self", "at"]) fun _ _ _ _ _ _ us hl => match us, hl with | [_, _], _ => rfl
  have b_Places_stretched_poly := F_Places_stretched_poly.binds (ps := ["self", "column"]) fun _ _ _ _ _ _ us hl => match us, hl with | [_, _], _ => rfl
  have b_Places_stretched := F_Places_stretched.binds (ps := ["self", "column"]) fun _ _ _ _ _ _ us hl => match us, hl with | [_, _], _ => rfl
  have b_Places_column := F_Places_column.binds (ps := ["self", "poly"]) fun _ _ _ _ _ _ us hl => match us, hl with | [_, _], _ => rfl
  have b_law_box := F_law_box.binds (ps := ["script"]) fun _ _ _ _ _ _ us hl => match us, hl with | [_], _ => rfl
  have b_law_draw := F_law_draw.binds (ps := ["box", "sides"]) fun _ _ _ _ _ _ us hl => match us, hl with | [_, _], _ => rfl
  have b_law_of := F_law_of.binds (ps := ["box", "things"]) fun _ _ _ _ _ _ us hl => match us, hl with | [_, _], _ => rfl
  have b_law_same := F_law_same.binds (ps := ["found", "due"]) fun _ _ _ _ _ _ us hl => match us, hl with | [_, _], _ => rfl
  have b_law_number := F_law_number.binds (ps := ["box", "prime"]) fun _ _ _ _ _ _ us hl => match us, hl with | [_, _], _ => rfl
  have b_law_raised := F_law_raised.binds (ps := ["base", "times", "prime"]) fun _ _ _ _ _ _ us hl => match us, hl with | [_, _, _], _ => rfl
  have b_law_inverse := F_law_inverse.binds (ps := ["digit", "prime"]) fun _ _ _ _ _ _ us hl => match us, hl with | [_, _], _ => rfl
  have b_law_worth := F_law_worth.binds (ps := ["coefs", "spot", "prime"]) fun _ _ _ _ _ _ us hl => match us, hl with | [_, _, _], _ => rfl
  have b_law_trim := F_law_trim.binds (ps := ["coefs", "prime"]) fun _ _ _ _ _ _ us hl => match us, hl with | [_, _], _ => rfl
  have b_law_fit := F_law_fit.binds (ps := ["box"]) fun _ _ _ _ _ _ us hl => match us, hl with | [_], _ => rfl
  have b_law_spots := F_law_spots.binds (ps := ["prime", "root", "high"]) fun _ _ _ _ _ _ us hl => match us, hl with | [_, _, _], _ => rfl
  have b_law_lane := F_law_lane.binds (ps := ["box", "prime", "high"]) fun _ _ _ _ _ _ us hl => match us, hl with | [_, _, _], _ => rfl
  have b_law_stretch := F_law_stretch.binds (ps := ["lane", "hops", "prime"]) fun _ _ _ _ _ _ us hl => match us, hl with | [_, _, _], _ => rfl
  have b_law_word := F_law_word.binds (ps := ["box", "places", "lane", "coefs", "spots", "prime"]) fun _ _ _ _ _ _ us hl => match us, hl with | [_, _, _, _, _, _], _ => rfl
  have b_law_is_poly := F_law_is_poly.binds (ps := ["found", "coefs", "prime"]) fun _ _ _ _ _ _ us hl => match us, hl with | [_, _, _], _ => rfl
  have b_law := F_law.binds (ps := ["script"]) fun _ _ _ _ _ _ us hl => match us, hl with | [_], _ => rfl
  obtain ⟨_, kb_Poly_init__2_p⟩ := F_Poly_init_.kbindsD (ps := ["self", "coefficients", "p"]) 2 ["p"] (fun us _ ws => us ++ ws) (by simp) (fun r1 _ r2 => r1.append r2) (fun _ _ _ _ _ _ _ us its ws hu hi hl => match us, its, ws, hu, hi, hl with | [_, _], [_], [_], _, _, _ => ⟨_, rfl, rfl⟩)
  have kb_Code_init__3_p := kbn1 F_Code_init_ (ps := ["self", "places", "degree", "p"]) (n := 3) (ks := ["p"]) (g := fun us ws => us ++ ws) (fun _ _ _ _ _ _ us ws hu hl => match us, ws, hu, hl with | [_, _, _], [_], _, _ => rfl) (fun r1 r2 => r1.append r2)
  have kb_Poly_through_1_p := kbn1 F_Poly_through (ps := ["points", "p"]) (n := 1) (ks := ["p"]) (g := fun us ws => us ++ ws) (fun _ _ _ _ _ _ us ws hu hl => match us, ws, hu, hl with | [_], [_], _, _ => rfl) (fun r1 r2 => r1.append r2)
  have kb_Places_stretched_1_column := kbn1 F_Places_stretched (ps := ["self", "column"]) (n := 1) (ks := ["column"]) (g := fun us ws => us ++ ws) (fun _ _ _ _ _ _ us ws hu hl => match us, ws, hu, hl with | [_], [_], _, _ => rfl) (fun r1 r2 => r1.append r2)
  have kb_Places_column_1_poly := kbn1 F_Places_column (ps := ["self", "poly"]) (n := 1) (ks := ["poly"]) (g := fun us ws => us ++ ws) (fun _ _ _ _ _ _ us ws hu hl => match us, ws, hu, hl with | [_], [_], _, _ => rfl) (fun r1 r2 => r1.append r2)
  have kb_Places_stretched_poly_1_column := kbn1 F_Places_stretched_poly (ps := ["self", "column"]) (n := 1) (ks := ["column"]) (g := fun us ws => us ++ ws) (fun _ _ _ _ _ _ us ws hu hl => match us, ws, hu, hl with | [_], [_], _, _ => rfl) (fun r1 r2 => r1.append r2)
  have T : Txt K mg :=
    { f_is_whole := f_is_whole
      fd_is_whole := fd_is_whole
      F_is_whole := F_is_whole
      g_is_whole := g_is_whole
      b_is_whole := b_is_whole
      f_worths_of := f_worths_of
      fd_worths_of := fd_worths_of
      F_worths_of := F_worths_of
      g_worths_of := g_worths_of
      b_worths_of := b_worths_of
      f_Code_init_ := f_Code_init_
      fd_Code_init_ := fd_Code_init_
      F_Code_init_ := F_Code_init_
      f_Code_degree := f_Code_degree
      fd_Code_degree := fd_Code_degree
      F_Code_degree := F_Code_degree
      b_Code_degree := b_Code_degree
      f_Code_word := f_Code_word
      fd_Code_word := fd_Code_word
      F_Code_word := F_Code_word
      b_Code_word := b_Code_word
      f_is_number := f_is_number
      fd_is_number := fd_is_number
      F_is_number := F_is_number
      g_is_number := g_is_number
      b_is_number := b_is_number
      f_fits := f_fits
      fd_fits := fd_fits
      F_fits := F_fits
      g_fits := g_fits
      b_fits := b_fits
      f_generator := f_generator
      fd_generator := fd_generator
      F_generator := F_generator
      g_generator := g_generator
      b_generator := b_generator
      f_inverse := f_inverse
      fd_inverse := fd_inverse
      F_inverse := F_inverse
      g_inverse := g_inverse
      b_inverse := b_inverse
      f_power := f_power
      fd_power := fd_power
      F_power := F_power
      g_power := g_power
      b_power := b_power
      f_trimmed := f_trimmed
      fd_trimmed := fd_trimmed
      F_trimmed := F_trimmed
      g_trimmed := g_trimmed
      b_trimmed := b_trimmed
      f_worth_at := f_worth_at
      fd_worth_at := fd_worth_at
      F_worth_at := F_worth_at
      g_worth_at := g_worth_at
      b_worth_at := b_worth_at
      f_with_roots := f_with_roots
      fd_with_roots := fd_with_roots
      F_with_roots := F_with_roots
      g_with_roots := g_with_roots
      b_with_roots := b_with_roots
      f_without_root := f_without_root
      fd_without_root := fd_without_root
      F_without_root := F_without_root
      g_without_root := g_without_root
      b_without_root := b_without_root
      f_Poly_init_ := f_Poly_init_
      fd_Poly_init_ := fd_Poly_init_
      t0_Poly_init_ := t0_Poly_init_
      F_Poly_init_ := F_Poly_init_
      f_Poly_through := f_Poly_through
      fd_Poly_through := fd_Poly_through
      F_Poly_through := F_Poly_through
      f_Poly_degree := f_Poly_degree
      fd_Poly_degree := fd_Poly_degree
      F_Poly_degree := F_Poly_degree
      b_Poly_degree := b_Poly_degree
      f_Poly_call_ := f_Poly_call_
      fd_Poly_call_ := fd_Poly_call_
      F_Poly_call_ := F_Poly_call_
      b_Poly_call_ := b_Poly_call_
      f_powers := f_powers
      fd_powers := fd_powers
      F_powers := F_powers
      g_powers := g_powers
      b_powers := b_powers
      f_Places_init_ := f_Places_init_
      fd_Places_init_ := fd_Places_init_
      F_Places_init_ := F_Places_init_
      b_Places_init_ := b_Places_init_
      f_Places_size := f_Places_size
      fd_Places_size := fd_Places_size
      F_Places_size := F_Places_size
      b_Places_size := b_Places_size
      f_Places_degree := f_Places_degree
      fd_Places_degree := fd_Places_degree
      F_Places_degree := F_Places_degree
      b_Places_degree := b_Places_degree
      f_Places_layers := f_Places_layers
      fd_Places_layers := fd_Places_layers
      F_Places_layers := F_Places_layers
      b_Places_layers := b_Places_layers
      f_Places_layer := f_Places_layer
      fd_Places_layer := fd_Places_layer
      F_Places_layer := F_Places_layer
      b_Places_layer := b_Places_layer
      f_Places_stretched_poly := f_Places_stretched_poly
      fd_Places_stretched_poly := fd_Places_stretched_poly
      F_Places_stretched_poly := F_Places_stretched_poly
      b_Places_stretched_poly := b_Places_stretched_poly
      f_Places_stretched := f_Places_stretched
      fd_Places_stretched := fd_Places_stretched
      F_Places_stretched := F_Places_stretched
      b_Places_stretched := b_Places_stretched
      f_Places_column := f_Places_column
      fd_Places_column := fd_Places_column
      F_Places_column := F_Places_column
      b_Places_column := b_Places_column
      f_law_box := f_law_box
      fd_law_box := fd_law_box
      F_law_box := F_law_box
      g_law_box := g_law_box
      b_law_box := b_law_box
      f_law_draw := f_law_draw
      fd_law_draw := fd_law_draw
      F_law_draw := F_law_draw
      g_law_draw := g_law_draw
      b_law_draw := b_law_draw
      f_law_of := f_law_of
      fd_law_of := fd_law_of
      F_law_of := F_law_of
      g_law_of := g_law_of
      b_law_of := b_law_of
      f_law_same := f_law_same
      fd_law_same := fd_law_same
      F_law_same := F_law_same
      g_law_same := g_law_same
      b_law_same := b_law_same
      f_law_number := f_law_number
      fd_law_number := fd_law_number
      F_law_number := F_law_number
      g_law_number := g_law_number
      b_law_number := b_law_number
      f_law_raised := f_law_raised
      fd_law_raised := fd_law_raised
      F_law_raised := F_law_raised
      g_law_raised := g_law_raised
      b_law_raised := b_law_raised
      f_law_inverse := f_law_inverse
      fd_law_inverse := fd_law_inverse
      F_law_inverse := F_law_inverse
      g_law_inverse := g_law_inverse
      b_law_inverse := b_law_inverse
      f_law_worth := f_law_worth
      fd_law_worth := fd_law_worth
      F_law_worth := F_law_worth
      g_law_worth := g_law_worth
      b_law_worth := b_law_worth
      f_law_trim := f_law_trim
      fd_law_trim := fd_law_trim
      F_law_trim := F_law_trim
      g_law_trim := g_law_trim
      b_law_trim := b_law_trim
      f_law_fit := f_law_fit
      fd_law_fit := fd_law_fit
      F_law_fit := F_law_fit
      g_law_fit := g_law_fit
      b_law_fit := b_law_fit
      f_law_spots := f_law_spots
      fd_law_spots := fd_law_spots
      F_law_spots := F_law_spots
      g_law_spots := g_law_spots
      b_law_spots := b_law_spots
      f_law_lane := f_law_lane
      fd_law_lane := fd_law_lane
      F_law_lane := F_law_lane
      g_law_lane := g_law_lane
      b_law_lane := b_law_lane
      f_law_stretch := f_law_stretch
      fd_law_stretch := fd_law_stretch
      F_law_stretch := F_law_stretch
      g_law_stretch := g_law_stretch
      b_law_stretch := b_law_stretch
      f_law_word := f_law_word
      fd_law_word := fd_law_word
      F_law_word := F_law_word
      g_law_word := g_law_word
      b_law_word := b_law_word
      f_law_is_poly := f_law_is_poly
      fd_law_is_poly := fd_law_is_poly
      F_law_is_poly := F_law_is_poly
      g_law_is_poly := g_law_is_poly
      b_law_is_poly := b_law_is_poly
      f_law := f_law
      fd_law := fd_law
      F_law := F_law
      g_law := g_law
      b_law := b_law
      kb_Poly_init__2_p := kb_Poly_init__2_p
      kb_Code_init__3_p := kb_Code_init__3_p
      kb_Poly_through_1_p := kb_Poly_through_1_p
      kb_Places_stretched_1_column := kb_Places_stretched_1_column
      kb_Places_column_1_poly := kb_Places_column_1_poly
      kb_Places_stretched_poly_1_column := kb_Places_stretched_poly_1_column
      C_Code := C_Code
      gC_Code := PySem.W.mg_of X G gC_Code
      cl_Code := cl_Code
      mk_Code := mk_Code
      n_Code_places := n_Code_places
      n_Code_p := n_Code_p
      n_Code__degree := n_Code__degree
      ct_Code := ct_Code
      kk_Code := kk_Code
      k_Code_list := k_Code_list
      k_Code_tuple := k_Code_tuple
      k_Code_str := k_Code_str
      k_Code_NoneType := k_Code_NoneType
      k_Code_int := k_Code_int
      k_Code_bool := k_Code_bool
      pa_Code_degree := pa_Code_degree
      pp_Code_degree := pp_Code_degree
      me_Code_word := me_Code_word
      C_Poly := C_Poly
      gC_Poly := PySem.W.mg_of X G gC_Poly
      cl_Poly := cl_Poly
      mk_Poly := mk_Poly
      n_Poly_coefficients := n_Poly_coefficients
      n_Poly_p := n_Poly_p
      ct_Poly := ct_Poly
      kk_Poly := kk_Poly
      k_Poly_list := k_Poly_list
      k_Poly_tuple := k_Poly_tuple
      k_Poly_str := k_Poly_str
      k_Poly_NoneType := k_Poly_NoneType
      k_Poly_int := k_Poly_int
      k_Poly_bool := k_Poly_bool
      pa_Poly_through := pa_Poly_through
      st_Poly_through := st_Poly_through
      pa_Poly_degree := pa_Poly_degree
      pp_Poly_degree := pp_Poly_degree
      cO_Poly := cO_Poly
      C_Places := C_Places
      gC_Places := PySem.W.mg_of X G gC_Places
      cl_Places := cl_Places
      mk_Places := mk_Places
      n_Places_p := n_Places_p
      n_Places_rows := n_Places_rows
      n_Places__root := n_Places__root
      n_Places__row_root := n_Places__row_root
      n_Places__worths := n_Places__worths
      n_Places__row_worths := n_Places__row_worths
      ct_Places := ct_Places
      kk_Places := kk_Places
      k_Places_list := k_Places_list
      k_Places_tuple := k_Places_tuple
      k_Places_str := k_Places_str
      k_Places_NoneType := k_Places_NoneType
      k_Places_int := k_Places_int
      k_Places_bool := k_Places_bool
      pa_Places_size := pa_Places_size
      pp_Places_size := pp_Places_size
      pa_Places_degree := pa_Places_degree
      pp_Places_degree := pp_Places_degree
      pa_Places_layers := pa_Places_layers
      pp_Places_layers := pp_Places_layers
      me_Places_layer := me_Places_layer
      me_Places_stretched_poly := me_Places_stretched_poly
      me_Places_stretched := me_Places_stretched
      me_Places_column := me_Places_column
      t_PRIMES := tP
      gP := PySem.W.mg_of X G aP
      pairs := [p0, p1, p2, p3, p4, p5, p6]
      lP := tup_at lP (by show 7 ≤ sizeLine; decide) (.cons rfl (.cons rfl (.cons rfl (.cons rfl (.cons rfl (.cons rfl (.cons rfl (.nil))))))))
      lPs := .cons l0 (.cons l1 (.cons l2 (.cons l3 (.cons l4 (.cons l5 (.cons l6 (.nil)))))))
      t_ROWS := tR
      gR := PySem.W.mg_of X G aR
      lR := tup_at' lR (by show 5 ≤ sizeLine; decide) (.cons ⟨_, rfl⟩ (.cons ⟨_, rfl⟩ (.cons ⟨_, rfl⟩ (.cons ⟨_, rfl⟩ (.cons ⟨_, rfl⟩ (.nil))))))
      gk_ROWS := PySem.W.mg_of X G gk_ROWS
      lk_ROWS := tup_at' lk_ROWS (by show 5 ≤ sizeLine; decide) (.cons ⟨_, rfl⟩ (.cons ⟨_, rfl⟩ (.cons ⟨_, rfl⟩ (.cons ⟨_, rfl⟩ (.cons ⟨_, rfl⟩ (.nil))))))
      z_abs := PySem.W.mg_none_of X G z_abs
      z_all := PySem.W.mg_none_of X G z_all
      z_bool := PySem.W.mg_none_of X G z_bool
      z_dict := PySem.W.mg_none_of X G z_dict
      z_int := PySem.W.mg_none_of X G z_int
      z_isinstance := PySem.W.mg_none_of X G z_isinstance
      z_len := PySem.W.mg_none_of X G z_len
      z_list := PySem.W.mg_none_of X G z_list
      z_min := PySem.W.mg_none_of X G z_min
      z_property := PySem.W.mg_none_of X G z_property
      z_range := PySem.W.mg_none_of X G z_range
      z_reversed := PySem.W.mg_none_of X G z_reversed
      z_str := PySem.W.mg_none_of X G z_str
      z_sum := PySem.W.mg_none_of X G z_sum
      z_tuple := PySem.W.mg_none_of X G z_tuple
      z_zip := PySem.W.mg_none_of X G z_zip }
  have e : fa = T.f_law := by
    have := hfa.symm.trans T.g_law
    cases this
    rfl
  subst e
  exact ⟨T.fd_law, one_of T.F_law (fun _ _ _ _ _ _ _ => rfl), fun base _ _ => FnOk.ofLaw (ok_law T)⟩
end DL

namespace DL
open PySem L2
theorem walk {l : PySem.W.OpenLaw} {q : Program} {loose : List Str} {XP : (Str → Option Value) → Heap → Prop} {YP : World → Heap → Prop} {d : DefRec} {K : Params → PySem.W.Frag} (hn : l.most = some 63) (hdf : d.params.defaults = [])
    (hY : ∀ (w : World) (h : Heap), YP w h → (K w.params).In h)
    (F : ∀ (w : World) (mg : Str → Option Value) (fa : Addr) (h : Heap), (K w.params).In h → h.Ns mainGlobals mg → mg d.name = some (.ref fa) →
      ∃ fd : FuncData, (∀ (s : Shared) (u : Value), BindsTo s fd ⟨[u], []⟩ [("script", u)]) ∧ ∀ base : Heap, (K w.params).In base → base.Ns mainGlobals mg → FnOk l.prog w (K w.params) mg base CX0 9 fa fd ["script"] (spLaw (K w.params))) :
    PySem.W.WalkO q loose XP YP l.row.toRowW d [] (fun f vs => PySem.call f vs) :=
  L2.walk_of (n := 63) (k := 9) (x := "script") (CX := fun _ => CX0) (sp := fun w => spLaw (K w.params)) hn (by decide) hdf ⟨rfl, by decide, by decide⟩ hY F (fun _ _ a ns hl _ hS => ⟨a, ns, rfl, hS, hl, fun _ => rfl⟩) fun _ _ _ _ _ z => z
end DL
open PySem PySem.W PyProof.Rows in
set_option maxRecDepth 100000 in
set_option maxHeartbeats 0 in
theorem PySem.Challenge.cw_shownrun_k03_stretched_and_back_holds : PySem.Challenge.rw_shownrun_k03_stretched_and_back.Holds := by
  w_on; o_law; k_head; (case hw => w_witness2)
  k_fill
  refine DL.walk (l := PySem.Challenge.rw_shownrun_k03_stretched_and_back) rfl rfl (fun w h Y => PySem.W.kIn_of Y) ?F
  case F =>
    intro w mg fa h KX G hmg
    refine' DL.build KX G hmg ?gC_Code ?gC_Poly ?gC_Places ?D_is_whole ?D_worths_of ?D_Code_init_ ?D_Code_degree ?D_Code_word ?D_is_number ?D_fits ?D_generator ?D_inverse ?D_power ?D_trimmed ?D_worth_at ?D_with_roots ?D_without_root ?D_Poly_init_ ?D_Poly_through ?D_Poly_degree ?D_Poly_call_ ?D_powers ?D_Places_init_ ?D_Places_size ?D_Places_degree ?D_Places_layers ?D_Places_layer ?D_Places_stretched_poly ?D_Places_stretched ?D_Places_column ?D_law_box ?D_law_draw ?D_law_of ?D_law_same ?D_law_number ?D_law_raised ?D_law_inverse ?D_law_worth ?D_law_trim ?D_law_fit ?D_law_spots ?D_law_lane ?D_law_stretch ?D_law_word ?D_law_is_poly ?D_law ?cl_Code ?ct_Code ?n_Code_places ?n_Code_p ?n_Code__degree ?kk_Code ?k_Code_list ?k_Code_tuple ?k_Code_str ?k_Code_NoneType ?k_Code_int ?k_Code_bool ?cl_Poly ?ct_Poly ?n_Poly_coefficients ?n_Poly_p ?kk_Poly ?k_Poly_list ?k_Poly_tuple ?k_Poly_str ?k_Poly_NoneType ?k_Poly_int ?k_Poly_bool ?cl_Places ?ct_Places ?n_Places_p ?n_Places_rows ?n_Places__root ?n_Places__row_root ?n_Places__worths ?n_Places__row_worths ?kk_Places ?k_Places_list ?k_Places_tuple ?k_Places_str ?k_Places_NoneType ?k_Places_int ?k_Places_bool ?aP ?lP ?l0 ?l1 ?l2 ?l3 ?l4 ?l5 ?l6 ?aR ?lR ?gk_ROWS ?lk_ROWS ?z_abs ?z_all ?z_bool ?z_dict ?z_int ?z_isinstance ?z_len ?z_list ?z_min ?z_property ?z_range ?z_reversed ?z_str ?z_sum ?z_tuple ?z_zip
    (case gC_Code => k_is)
    (case gC_Poly => k_is)
    (case gC_Places => k_is)
    (case D_is_whole => refine' DL.def_ex KX G ?a ?l ?c ?k; (case a => k_is); (case l => k_is); (case c => k_is); (case k => k_is))
    (case D_worths_of => refine' DL.def_ex KX G ?a ?l ?c ?k; (case a => k_is); (case l => k_is); (case c => k_is); (case k => k_is))
    (case D_Code_init_ => refine' DL.init_ex ?mk ?a ?n ?kc ?l ?c ?k; (case mk => k_is); (case a => k_is); (case n => k_is); (case kc => k_is); (case l => k_is); (case c => k_is); (case k => k_is))
    (case D_Code_degree => refine' DL.prop_ex ?a ?g ?t ?r ?l ?c ?k; (case a => k_is); (case g => k_is); (case t => k_is); (case r => k_is); (case l => k_is); (case c => k_is); (case k => k_is))
    (case D_Code_word => refine' DL.meth_ex ?a ?n ?l ?c ?k; (case a => k_is); (case n => k_is); (case l => k_is); (case c => k_is); (case k => k_is))
    (case D_is_number => refine' DL.def_ex KX G ?a ?l ?c ?k; (case a => k_is); (case l => k_is); (case c => k_is); (case k => k_is))
    (case D_fits => refine' DL.def_ex KX G ?a ?l ?c ?k; (case a => k_is); (case l => k_is); (case c => k_is); (case k => k_is))
    (case D_generator => refine' DL.def_ex KX G ?a ?l ?c ?k; (case a => k_is); (case l => k_is); (case c => k_is); (case k => k_is))
    (case D_inverse => refine' DL.def_ex KX G ?a ?l ?c ?k; (case a => k_is); (case l => k_is); (case c => k_is); (case k => k_is))
    (case D_power => refine' DL.def_ex KX G ?a ?l ?c ?k; (case a => k_is); (case l => k_is); (case c => k_is); (case k => k_is))
    (case D_trimmed => refine' DL.def_ex KX G ?a ?l ?c ?k; (case a => k_is); (case l => k_is); (case c => k_is); (case k => k_is))
    (case D_worth_at => refine' DL.def_ex KX G ?a ?l ?c ?k; (case a => k_is); (case l => k_is); (case c => k_is); (case k => k_is))
    (case D_with_roots => refine' DL.def_ex KX G ?a ?l ?c ?k; (case a => k_is); (case l => k_is); (case c => k_is); (case k => k_is))
    (case D_without_root => refine' DL.def_ex KX G ?a ?l ?c ?k; (case a => k_is); (case l => k_is); (case c => k_is); (case k => k_is))
    (case D_Poly_init_ => refine' DL.ini_ex ?mk ?a ?n ?kc ?l ?c ?k ?lT; (case mk => k_is); (case a => k_is); (case n => k_is); (case kc => k_is); (case l => k_is); (case c => k_is); (case k => k_is); (case lT => k_is))
    (case D_Poly_through => refine' DL.st_ex ?ty ?rd ?ga ?a ?r ?l ?c ?k; (case ty => k_is); (case rd => k_is); (case ga => k_is); (case a => k_is); (case r => k_is); (case l => k_is); (case c => k_is); (case k => k_is))
    (case D_Poly_degree => refine' DL.prop_ex ?a ?g ?t ?r ?l ?c ?k; (case a => k_is); (case g => k_is); (case t => k_is); (case r => k_is); (case l => k_is); (case c => k_is); (case k => k_is))
    (case D_Poly_call_ => refine' DL.call_ex ?a ?n ?i ?l ?c ?k; (case a => k_is); (case n => k_is); (case i => k_is); (case l => k_is); (case c => k_is); (case k => k_is))
    (case D_powers => refine' DL.def_ex KX G ?a ?l ?c ?k; (case a => k_is); (case l => k_is); (case c => k_is); (case k => k_is))
    (case D_Places_init_ => refine' DL.init_ex ?mk ?a ?n ?kc ?l ?c ?k; (case mk => k_is); (case a => k_is); (case n => k_is); (case kc => k_is); (case l => k_is); (case c => k_is); (case k => k_is))
    (case D_Places_size => refine' DL.prop_ex ?a ?g ?t ?r ?l ?c ?k; (case a => k_is); (case g => k_is); (case t => k_is); (case r => k_is); (case l => k_is); (case c => k_is); (case k => k_is))
    (case D_Places_degree => refine' DL.prop_ex ?a ?g ?t ?r ?l ?c ?k; (case a => k_is); (case g => k_is); (case t => k_is); (case r => k_is); (case l => k_is); (case c => k_is); (case k => k_is))
    (case D_Places_layers => refine' DL.prop_ex ?a ?g ?t ?r ?l ?c ?k; (case a => k_is); (case g => k_is); (case t => k_is); (case r => k_is); (case l => k_is); (case c => k_is); (case k => k_is))
    (case D_Places_layer => refine' DL.meth_ex ?a ?n ?l ?c ?k; (case a => k_is); (case n => k_is); (case l => k_is); (case c => k_is); (case k => k_is))
    (case D_Places_stretched_poly => refine' DL.meth_ex ?a ?n ?l ?c ?k; (case a => k_is); (case n => k_is); (case l => k_is); (case c => k_is); (case k => k_is))
    (case D_Places_stretched => refine' DL.meth_ex ?a ?n ?l ?c ?k; (case a => k_is); (case n => k_is); (case l => k_is); (case c => k_is); (case k => k_is))
    (case D_Places_column => refine' DL.meth_ex ?a ?n ?l ?c ?k; (case a => k_is); (case n => k_is); (case l => k_is); (case c => k_is); (case k => k_is))
    (case D_law_box => refine' DL.def_ex KX G ?a ?l ?c ?k; (case a => k_is); (case l => k_is); (case c => k_is); (case k => k_is))
    (case D_law_draw => refine' DL.def_ex KX G ?a ?l ?c ?k; (case a => k_is); (case l => k_is); (case c => k_is); (case k => k_is))
    (case D_law_of => refine' DL.def_ex KX G ?a ?l ?c ?k; (case a => k_is); (case l => k_is); (case c => k_is); (case k => k_is))
    (case D_law_same => refine' DL.def_ex KX G ?a ?l ?c ?k; (case a => k_is); (case l => k_is); (case c => k_is); (case k => k_is))
    (case D_law_number => refine' DL.def_ex KX G ?a ?l ?c ?k; (case a => k_is); (case l => k_is); (case c => k_is); (case k => k_is))
    (case D_law_raised => refine' DL.def_ex KX G ?a ?l ?c ?k; (case a => k_is); (case l => k_is); (case c => k_is); (case k => k_is))
    (case D_law_inverse => refine' DL.def_ex KX G ?a ?l ?c ?k; (case a => k_is); (case l => k_is); (case c => k_is); (case k => k_is))
    (case D_law_worth => refine' DL.def_ex KX G ?a ?l ?c ?k; (case a => k_is); (case l => k_is); (case c => k_is); (case k => k_is))
    (case D_law_trim => refine' DL.def_ex KX G ?a ?l ?c ?k; (case a => k_is); (case l => k_is); (case c => k_is); (case k => k_is))
    (case D_law_fit => refine' DL.def_ex KX G ?a ?l ?c ?k; (case a => k_is); (case l => k_is); (case c => k_is); (case k => k_is))
    (case D_law_spots => refine' DL.def_ex KX G ?a ?l ?c ?k; (case a => k_is); (case l => k_is); (case c => k_is); (case k => k_is))
    (case D_law_lane => refine' DL.def_ex KX G ?a ?l ?c ?k; (case a => k_is); (case l => k_is); (case c => k_is); (case k => k_is))
    (case D_law_stretch => refine' DL.def_ex KX G ?a ?l ?c ?k; (case a => k_is); (case l => k_is); (case c => k_is); (case k => k_is))
    (case D_law_word => refine' DL.def_ex KX G ?a ?l ?c ?k; (case a => k_is); (case l => k_is); (case c => k_is); (case k => k_is))
    (case D_law_is_poly => refine' DL.def_ex KX G ?a ?l ?c ?k; (case a => k_is); (case l => k_is); (case c => k_is); (case k => k_is))
    (case D_law => refine' DL.def_ex KX G ?a ?l ?c ?k; (case a => k_is); (case l => k_is); (case c => k_is); (case k => k_is))
    (case cl_Code => refine' ⟨?a, ?b, ?c, ?d⟩; (case a => k_is); (case b => k_is); (case c => k_is); (case d => k_is))
    (case ct_Code => refine' ⟨?a, ?b, ?c, ?d⟩; (case a => k_is); (case b => k_is); (case c => k_is); (case d => k_is))
    (case n_Code_places => k_is)
    (case n_Code_p => k_is)
    (case n_Code__degree => k_is)
    (case kk_Code => first | k_is | rfl | decide +kernel)
    (case k_Code_list => first | k_is | rfl | decide +kernel)
    (case k_Code_tuple => first | k_is | rfl | decide +kernel)
    (case k_Code_str => first | k_is | rfl | decide +kernel)
    (case k_Code_NoneType => first | k_is | rfl | decide +kernel)
    (case k_Code_int => first | k_is | rfl | decide +kernel)
    (case k_Code_bool => first | k_is | rfl | decide +kernel)
    (case cl_Poly => refine' ⟨?a, ?b, ?c, ?d⟩; (case a => k_is); (case b => k_is); (case c => k_is); (case d => k_is))
    (case ct_Poly => refine' ⟨?a, ?b, ?c, ?d⟩; (case a => k_is); (case b => k_is); (case c => k_is); (case d => k_is))
    (case n_Poly_coefficients => k_is)
    (case n_Poly_p => k_is)
    (case kk_Poly => first | k_is | rfl | decide +kernel)
    (case k_Poly_list => first | k_is | rfl | decide +kernel)
    (case k_Poly_tuple => first | k_is | rfl | decide +kernel)
    (case k_Poly_str => first | k_is | rfl | decide +kernel)
    (case k_Poly_NoneType => first | k_is | rfl | decide +kernel)
    (case k_Poly_int => first | k_is | rfl | decide +kernel)
    (case k_Poly_bool => first | k_is | rfl | decide +kernel)
    (case cl_Places => refine' ⟨?a, ?b, ?c, ?d⟩; (case a => k_is); (case b => k_is); (case c => k_is); (case d => k_is))
    (case ct_Places => refine' ⟨?a, ?b, ?c, ?d⟩; (case a => k_is); (case b => k_is); (case c => k_is); (case d => k_is))
    (case n_Places_p => k_is)
    (case n_Places_rows => k_is)
    (case n_Places__root => k_is)
    (case n_Places__row_root => k_is)
    (case n_Places__worths => k_is)
    (case n_Places__row_worths => k_is)
    (case kk_Places => first | k_is | rfl | decide +kernel)
    (case k_Places_list => first | k_is | rfl | decide +kernel)
    (case k_Places_tuple => first | k_is | rfl | decide +kernel)
    (case k_Places_str => first | k_is | rfl | decide +kernel)
    (case k_Places_NoneType => first | k_is | rfl | decide +kernel)
    (case k_Places_int => first | k_is | rfl | decide +kernel)
    (case k_Places_bool => first | k_is | rfl | decide +kernel)
    (case aP => k_is)
    (case lP => k_is)
    (case l0 => refine' DL.pr_mk ?l; (case l => k_is))
    (case l1 => refine' DL.pr_mk ?l; (case l => k_is))
    (case l2 => refine' DL.pr_mk ?l; (case l => k_is))
    (case l3 => refine' DL.pr_mk ?l; (case l => k_is))
    (case l4 => refine' DL.pr_mk ?l; (case l => k_is))
    (case l5 => refine' DL.pr_mk ?l; (case l => k_is))
    (case l6 => refine' DL.pr_mk ?l; (case l => k_is))
    (case aR => k_is)
    (case lR => k_is)
    (case gk_ROWS => k_is)
    (case lk_ROWS => k_is)
    (case z_abs => first | k_is | rfl | decide +kernel)
    (case z_all => first | k_is | rfl | decide +kernel)
    (case z_bool => first | k_is | rfl | decide +kernel)
    (case z_dict => first | k_is | rfl | decide +kernel)
    (case z_int => first | k_is | rfl | decide +kernel)
    (case z_isinstance => first | k_is | rfl | decide +kernel)
    (case z_len => first | k_is | rfl | decide +kernel)
    (case z_list => first | k_is | rfl | decide +kernel)
    (case z_min => first | k_is | rfl | decide +kernel)
    (case z_property => first | k_is | rfl | decide +kernel)
    (case z_range => first | k_is | rfl | decide +kernel)
    (case z_reversed => first | k_is | rfl | decide +kernel)
    (case z_str => first | k_is | rfl | decide +kernel)
    (case z_sum => first | k_is | rfl | decide +kernel)
    (case z_tuple => first | k_is | rfl | decide +kernel)
    (case z_zip => first | k_is | rfl | decide +kernel)

