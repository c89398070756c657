import PyProof.Rows.All
import Wide.All
import OpenK.AllK
import Wide.FinOn
import HandS.ForMost
import HandS.Flow
import HandS.IsInst
import HandS.Deep
import HandS.TupAny
import HandS.TupMul
import HandS.Zip
import HandS.Wide
import HandS.Defaults
import PySem.Challenge.RW_lateshown_k00_names_deeds_and_lines
set_option Elab.async false
set_option linter.all false
set_option maxRecDepth 100000
set_option maxHeartbeats 8000000
/-! Dv1: plain data, what stands for it in a heap, and how a heap may grow. -/
namespace Dv
open PySem PySem.Spec PyProof.Rows L2

/-- plain data; urn is the one mutable thing (three numbers), known by its place -/
inductive D where
  | non | bl (b : Bool) | int (i : Int) | str (x : Str) | lst (xs : List D) | tup (xs : List D) | ins (c : Str) (ns : List Str) (xs : List D) | urn
structure U where
  a : Int
  b : Int
  c : Int
/-- what is fixed through a law -/
structure InsOk (K : PySem.W.Frag) (C : Addr) : Prop where
  cl : Cls K C
  ha : PySem.W.findIn K (.ref C) "__class__" = some (some (.builtin "object.__class__"))
  hn : PySem.W.specialIn K (.builtin "object.__class__") "__get__" = some (some (.builtin "getset_descriptor.__get__"))
  htk : PySem.W.takesIn K (.builtin "object.__class__") = some true
  hm : PySem.W.mroIn K C (.type "object") = some true
  kStr : PySem.W.kitOne K (.ref C) (.type "str") = some false
  kInt : PySem.W.kitOne K (.ref C) (.type "int") = some false
  kBool : PySem.W.kitOne K (.ref C) (.type "bool") = some false
  kList : PySem.W.kitOne K (.ref C) (.type "list") = some false
  kTup : PySem.W.kitOne K (.ref C) (.type "tuple") = some false
structure Gx (K : PySem.W.Frag) where
  cls : Str → Option Addr
  ok : ∀ c C, cls c = some C → InsOk K C

mutual
def Rep {K : PySem.W.Frag} (G : Gx K) (ua : Option Addr) : D → V → Hp → Prop
  | .non, v, _ => v = .non
  | .bl b, v, _ => v = .bl b
  | .int i, v, _ => v = .int i
  | .str x, v, _ => v = .str x
  | .lst ds, v, H => ∃ a vs, v = .ref a ∧ H a = some (HO.lst vs) ∧ Reps G ua ds vs H
  | .tup ds, v, H => ∃ a vs, v = .ref a ∧ H a = some (HO.tup vs) ∧ Reps G ua ds vs H
  | .ins c ns ds, v, H => ∃ a C dx vs, v = .ref a ∧ G.cls c = some C ∧ H a = some (HO.ins C dx (ns.zip vs)) ∧ ns.length = vs.length ∧ Reps G ua ds vs H
  | .urn, v, _ => ∃ a, ua = some a ∧ v = .ref a
def Reps {K : PySem.W.Frag} (G : Gx K) (ua : Option Addr) : List D → List V → Hp → Prop
  | [], vs, _ => vs = []
  | d :: ds, vs, H => ∃ v r, vs = v :: r ∧ Rep G ua d v H ∧ Reps G ua ds r H
end
theorem Same.seqT {K : PySem.W.Frag} {H H' : Hp} {a : Addr} {xs : List V} (e : Same H H') (h : SqT K H a xs) : SqT K H' a xs := by
  rcases h with (h | ⟨o, h⟩) | h
  · exact .inl (.inl (e _ _ h))
  · exact .inl (.inr ⟨o, e _ _ h⟩)
  · exact .inr h
section
variable {K : PySem.W.Frag} {G : Gx K} {ua : Option Addr}
mutual
theorem Rep.mono : ∀ (d : D) (v : V) {H H' : Hp}, Same H H' → Rep G ua d v H → Rep G ua d v H'
  | .non, v, H, H', s, h => by unfold Rep at h ⊢; exact h
  | .bl _, v, H, H', s, h => by unfold Rep at h ⊢; exact h
  | .int _, v, H, H', s, h => by unfold Rep at h ⊢; exact h
  | .str _, v, H, H', s, h => by unfold Rep at h ⊢; exact h
  | .lst ds, v, H, H', s, h => by
    unfold Rep at h ⊢
    obtain ⟨a, vs, e, q, r⟩ := h
    exact ⟨a, vs, e, s _ _ q, Reps.mono ds vs s r⟩
  | .tup ds, v, H, H', s, h => by
    unfold Rep at h ⊢
    obtain ⟨a, vs, e, q, r⟩ := h
    exact ⟨a, vs, e, s _ _ q, Reps.mono ds vs s r⟩
  | .ins c ns ds, v, H, H', s, h => by
    unfold Rep at h ⊢
    obtain ⟨a, C, dx, vs, e, c1, q, l, r⟩ := h
    exact ⟨a, C, dx, vs, e, c1, s _ _ q, l, Reps.mono ds vs s r⟩
  | .urn, v, H, H', s, h => by unfold Rep at h ⊢; exact h
theorem Reps.mono : ∀ (ds : List D) (vs : List V) {H H' : Hp}, Same H H' → Reps G ua ds vs H → Reps G ua ds vs H'
  | [], vs, H, H', s, h => by unfold Reps at h ⊢; exact h
  | d :: ds, vs, H, H', s, h => by
    unfold Reps at h ⊢
    obtain ⟨v, r, e, q, t⟩ := h
    exact ⟨v, r, e, Rep.mono d v s q, Reps.mono ds r s t⟩
end
variable {H H' : Hp} {ds es : List D} {vs ws : List V} {d : D} {v : V}
theorem Reps.nil : Reps G ua [] [] H := by unfold Reps; rfl
theorem Reps.cons (h : Rep G ua d v H) (t : Reps G ua ds vs H) : Reps G ua (d :: ds) (v :: vs) H := by unfold Reps; exact ⟨v, vs, rfl, h, t⟩
theorem Reps.of_nil (h : Reps G ua [] vs H) : vs = [] := by unfold Reps at h; exact h
theorem Reps.of_cons (h : Reps G ua (d :: ds) vs H) : ∃ v r, vs = v :: r ∧ Rep G ua d v H ∧ Reps G ua ds r H := by unfold Reps at h; exact h
theorem Reps.len : ∀ {ds : List D} {vs : List V}, Reps G ua ds vs H → ds.length = vs.length
  | [], vs, h => by rw [h.of_nil]; rfl
  | d :: ds, vs, h => by
    obtain ⟨v, r, rfl, _, t⟩ := h.of_cons
    rw [List.length_cons, List.length_cons, Reps.len t]
theorem Reps.append : ∀ {ds : List D} {vs : List V}, Reps G ua ds vs H → Reps G ua es ws H → Reps G ua (ds ++ es) (vs ++ ws) H
  | [], vs, h, g => by rw [h.of_nil]; exact g
  | d :: ds, vs, h, g => by
    obtain ⟨v, r, rfl, q, t⟩ := h.of_cons
    exact .cons q (Reps.append t g)
theorem Reps.get : ∀ {ds : List D} {vs : List V} {i : Nat} {d : D}, Reps G ua ds vs H → ds[i]? = some d → ∃ v, vs[i]? = some v ∧ Rep G ua d v H
  | [], vs, i, d, h, e => by simp at e
  | d :: ds, vs, 0, d', h, e => by
    obtain ⟨v, r, rfl, q, t⟩ := h.of_cons
    simp at e; subst e
    exact ⟨v, rfl, q⟩
  | d :: ds, vs, i + 1, d', h, e => by
    obtain ⟨v, r, rfl, q, t⟩ := h.of_cons
    exact Reps.get (i := i) t (by simpa using e)
theorem Reps.take : ∀ {ds : List D} {vs : List V} (n : Nat), Reps G ua ds vs H → Reps G ua (ds.take n) (vs.take n) H
  | _, _, 0, h => .nil
  | [], vs, n + 1, h => by rw [h.of_nil]; exact .nil
  | d :: ds, vs, n + 1, h => by
    obtain ⟨v, r, rfl, q, t⟩ := h.of_cons
    exact .cons q (Reps.take n t)
theorem Reps.drop : ∀ {ds : List D} {vs : List V} (n : Nat), Reps G ua ds vs H → Reps G ua (ds.drop n) (vs.drop n) H
  | _, _, 0, h => h
  | [], vs, n + 1, h => by rw [h.of_nil]; exact .nil
  | d :: ds, vs, n + 1, h => by
    obtain ⟨v, r, rfl, q, t⟩ := h.of_cons
    exact Reps.drop n t
theorem Reps.set : ∀ {ds : List D} {vs : List V} (n : Nat), Reps G ua ds vs H → Rep G ua d v H → Reps G ua (ds.set n d) (vs.set n v) H
  | [], vs, n, h, q => by rw [h.of_nil]; exact .nil
  | _ :: ds, vs, 0, h, q => by
    obtain ⟨_, r, rfl, _, t⟩ := h.of_cons
    exact .cons q t
  | _ :: ds, vs, n + 1, h, q => by
    obtain ⟨_, r, rfl, q', t⟩ := h.of_cons
    exact .cons q' (Reps.set n t q)
theorem Reps.replicate (n : Nat) (h : Reps G ua ds vs H) : Reps G ua (List.replicate n ds).flatten (List.replicate n vs).flatten H := by
  induction n with
  | zero => exact .nil
  | succ n ih => rw [List.replicate_succ, List.replicate_succ, List.flatten_cons, List.flatten_cons]; exact h.append ih
theorem Reps.ints : ∀ {ns : List Int}, Reps G ua (ns.map .int) (ns.map .int) H
  | [] => .nil
  | n :: ns => .cons (by unfold Rep; rfl) Reps.ints
theorem Reps.strs_of : ∀ {xs : List Str} {vs : List V}, Reps G ua (xs.map .str) vs H → vs = xs.map .str
  | [], vs, h => h.of_nil
  | x :: xs, vs, h => by
    obtain ⟨v, r, rfl, q, t⟩ := h.of_cons
    unfold Rep at q
    rw [q, Reps.strs_of t]; rfl
theorem Reps.strs : ∀ {xs : List Str}, Reps G ua (xs.map .str) (xs.map .str) H
  | [] => .nil
  | n :: ns => .cons (by unfold Rep; rfl) Reps.strs
theorem Reps.ints_of : ∀ {xs : List Int} {vs : List V}, Reps G ua (xs.map .int) vs H → vs = xs.map .int
  | [], vs, h => h.of_nil
  | x :: xs, vs, h => by
    obtain ⟨v, r, rfl, q, t⟩ := h.of_cons
    unfold Rep at q
    rw [q, Reps.ints_of t]; rfl
theorem Reps.bls_of : ∀ {xs : List Bool} {vs : List V}, Reps G ua (xs.map .bl) vs H → vs = xs.map .bl
  | [], vs, h => h.of_nil
  | x :: xs, vs, h => by
    obtain ⟨v, r, rfl, q, t⟩ := h.of_cons
    unfold Rep at q
    rw [q, Reps.bls_of t]; rfl
end

/-! ### states -/
/-- B: the part of the heap that plain data may name; the urn stands beside it -/
structure Wd (ua : Option Addr) (u : U) (B H : Hp) : Prop where
  sub : Same B H
  urn : ∀ a, ua = some a → B a = none ∧ H a = some (.lst [.int u.a, .int u.b, .int u.c])
structure Grow (ua : Option Addr) (B H B' H' : Hp) : Prop where
  keep : ∀ a o, H a = some o → ua ≠ some a → H' a = some o
  live : ∀ a, H' a = none → H a = none
  pub : Same B B'
  new : ∀ a o, B' a = some o → B a = some o ∨ H a = none
theorem Grow.refl {ua : Option Addr} {B H : Hp} : Grow ua B H B H := ⟨fun _ _ h _ => h, fun _ h => h, fun _ _ h => h, fun _ _ h => .inl h⟩
theorem Grow.trans {ua : Option Addr} {B H B1 H1 B2 H2 : Hp} (x : Grow ua B H B1 H1) (y : Grow ua B1 H1 B2 H2) : Grow ua B H B2 H2 :=
  ⟨fun a o h n => y.keep a o (x.keep a o h n) n, fun a h => x.live a (y.live a h), fun a o h => y.pub a o (x.pub a o h), fun a o h => by
    rcases y.new a o h with h | h
    · exact x.new a o h
    · exact .inr (x.live a h)⟩
theorem same_new {H : Hp} {p : Addr} {o : HO} (h : H p = none) : Same H (upd H p o) := fun b x e => by
  rw [upd_ne (ne_of_none e h)]
  exact e
section
variable {ua : Option Addr} {u : U} {B H : Hp} {p : Addr} {o : HO}
theorem Wd.none_of (w : Wd ua u B H) (h : H p = none) : B p = none := by
  cases e : B p with
  | none => rfl
  | some o => rw [w.sub p o e] at h; cases h
theorem Wd.ne_urn (w : Wd ua u B H) (h : H p = none) : ua ≠ some p := fun e => by
  rw [(w.urn p e).2] at h; cases h
/-- a new object that anyone may see -/
theorem Grow.new1 (w : Wd ua u B H) (h : H p = none) : Grow ua B H (upd B p o) (upd H p o) := by
  have hp := w.none_of h
  refine ⟨fun a x e _ => same_new h a x e, fun a e => ?_, same_new hp, fun a x e => ?_⟩
  · by_cases q : a = p
    · subst q; exact h
    · rw [upd_ne q] at e; exact e
  · by_cases q : a = p
    · subst q; exact .inr h
    · rw [upd_ne q] at e; exact .inl e
theorem Wd.new1 (w : Wd ua u B H) (h : H p = none) : Wd ua u (upd B p o) (upd H p o) := by
  refine ⟨fun a x e => ?_, fun a e => ?_⟩
  · by_cases q : a = p
    · subst q; rw [upd_same] at e ⊢; exact e
    · rw [upd_ne q] at e ⊢; exact w.sub a x e
  · have := w.urn a e
    have q : a ≠ p := fun z => by subst z; rw [this.2] at h; cases h
    rw [upd_ne q, upd_ne q]; exact this
/-- a new object of one's own -/
theorem Grow.own1 (w : Wd ua u B H) (h : H p = none) : Grow ua B H B (upd H p o) := by
  refine ⟨fun a x e _ => same_new h a x e, fun a e => ?_, fun _ _ e => e, fun a x e => .inl e⟩
  by_cases q : a = p
  · subst q; exact h
  · rw [upd_ne q] at e; exact e
theorem Wd.own1 (w : Wd ua u B H) (h : H p = none) : Wd ua u B (upd H p o) := by
  refine ⟨fun a x e => same_new h a x (w.sub a x e), fun a e => ?_⟩
  have := w.urn a e
  have q : a ≠ p := fun z => by subst z; rw [this.2] at h; cases h
  rw [upd_ne q]; exact this
/-- one's own object is changed -/
theorem Wd.put (w : Wd ua u B H) (h : B p = none) (n : ua ≠ some p) : Wd ua u B (upd H p o) := by
  refine ⟨fun a x e => ?_, fun a e => ?_⟩
  · rw [upd_ne (ne_of_none e h)]; exact w.sub a x e
  · have := w.urn a e
    rw [upd_ne (fun z => n (by rw [← z]; exact e))]; exact this
end

/-! ### the names' slots -/
inductive Sl where
  | no | pub (d : D) | own (ds : List D)
structure EnvOk {K : PySem.W.Frag} (G : Gx K) (ua : Option Addr) (env : List Sl) (σ : List (Option V)) (B H : Hp) : Prop where
  len : env.length = σ.length
  pub : ∀ (i : Nat) d, env[i]? = some (Sl.pub d) → ∃ v, σ[i]? = some (some v) ∧ Rep G ua d v B
  own : ∀ (i : Nat) ds, env[i]? = some (Sl.own ds) → ∃ p vs, σ[i]? = some (some (V.ref p)) ∧ H p = some (HO.lst vs) ∧ B p = none ∧ Reps G ua ds vs B ∧ ua ≠ some p
  inj : ∀ (i j : Nat) ds es p, env[i]? = some (Sl.own ds) → env[j]? = some (Sl.own es) → σ[i]? = some (some (V.ref p)) → σ[j]? = some (some (V.ref p)) → i = j
section
variable {K : PySem.W.Frag} {G : Gx K} {ua : Option Addr} {u : U} {env : List Sl} {σ : List (Option V)} {B H B' H' : Hp} {d : D} {v : V} {i : Nat}
theorem EnvOk.grow (e : EnvOk G ua env σ B H) (g : Grow ua B H B' H') : EnvOk G ua env σ B' H' := by
  refine ⟨e.len, fun i d h => ?_, fun i ds h => ?_, e.inj⟩
  · obtain ⟨v, h1, h2⟩ := e.pub i d h
    exact ⟨v, h1, h2.mono _ _ g.pub⟩
  · obtain ⟨p, vs, h1, h2, h3, h4, h5⟩ := e.own i ds h
    refine ⟨p, vs, h1, g.keep _ _ h2 h5, ?_, h4.mono _ _ g.pub, h5⟩
    cases q : B' p with
    | none => rfl
    | some o =>
      rcases g.new p o q with z | z
      · rw [z] at h3; cases h3
      · rw [z] at h2; cases h2
theorem get_set {α : Type} {l : List α} {i j : Nat} {a x : α} (h : (l.set i a)[j]? = some x) : (j = i ∧ x = a) ∨ (j ≠ i ∧ l[j]? = some x) := by
  by_cases q : i = j
  · subst q
    left
    by_cases hl : i < l.length
    · rw [List.getElem?_set_self hl] at h
      exact ⟨rfl, (Option.some.inj h).symm⟩
    · rw [List.getElem?_eq_none (by rw [List.length_set]; omega)] at h; cases h
  · rw [List.getElem?_set_ne q] at h
    exact .inr ⟨fun z => q z.symm, h⟩
theorem set_get {α : Type} {l : List α} {i : Nat} {a : α} (hl : i < l.length) : (l.set i a)[i]? = some a := by rw [List.getElem?_set_self hl]
theorem lt_of_get {α : Type} {l : List α} {i : Nat} {x : α} (h : l[i]? = some x) : i < l.length := (List.getElem?_eq_some_iff.mp h).1
theorem EnvOk.set (e : EnvOk G ua env σ B H) (r : Rep G ua d v B) (i : Nat) : EnvOk G ua (env.set i (Sl.pub d)) (σ.set i (some v)) B H := by
  refine ⟨by rw [List.length_set, List.length_set]; exact e.len, fun j d' h => ?_, fun j ds h => ?_, fun j k ds es p h1 h2 h3 h4 => ?_⟩
  · have hl := lt_of_get h
    rw [List.length_set, e.len] at hl
    rcases get_set h with ⟨rfl, q⟩ | ⟨q, h⟩
    · cases q; exact ⟨v, set_get hl, r⟩
    · rw [List.getElem?_set_ne (fun z => q z.symm)]; exact e.pub j d' h
  · rcases get_set h with ⟨rfl, q⟩ | ⟨q, h⟩
    · cases q
    · rw [List.getElem?_set_ne (fun z => q z.symm)]; exact e.own j ds h
  · rcases get_set h1 with ⟨rfl, q⟩ | ⟨q1, h1⟩
    · cases q
    · rcases get_set h2 with ⟨rfl, q⟩ | ⟨q2, h2⟩
      · cases q
      · rw [List.getElem?_set_ne (fun z => q1 z.symm)] at h3
        rw [List.getElem?_set_ne (fun z => q2 z.symm)] at h4
        exact e.inj j k ds es p h1 h2 h3 h4
theorem EnvOk.setOwn {p : Addr} {ds : List D} {vs : List V} (e : EnvOk G ua env σ B H) (hp : H p = some (HO.lst vs)) (np : B p = none) (r : Reps G ua ds vs B) (nu : ua ≠ some p)
    (far : ∀ (j : Nat) es q, env[j]? = some (Sl.own es) → σ[j]? = some (some (V.ref q)) → j ≠ i → q ≠ p) : EnvOk G ua (env.set i (Sl.own ds)) (σ.set i (some (V.ref p))) B H := by
  refine ⟨by rw [List.length_set, List.length_set]; exact e.len, fun j d' h => ?_, fun j ds' h => ?_, fun j k ds' es q h1 h2 h3 h4 => ?_⟩
  · rcases get_set h with ⟨rfl, q⟩ | ⟨q, h⟩
    · cases q
    · rw [List.getElem?_set_ne (fun z => q z.symm)]; exact e.pub j d' h
  · have hl := lt_of_get h
    rw [List.length_set, e.len] at hl
    rcases get_set h with ⟨rfl, q⟩ | ⟨q, h⟩
    · cases q; exact ⟨p, vs, set_get hl, hp, np, r, nu⟩
    · rw [List.getElem?_set_ne (fun z => q z.symm)]; exact e.own j ds' h
  · rcases get_set h1 with ⟨rfl, q1⟩ | ⟨q1, g1⟩
    · rcases get_set h2 with ⟨rfl, q2⟩ | ⟨q2, g2⟩
      · rfl
      · rw [List.getElem?_set_ne (fun z => q2 z.symm)] at h4
        have hl := lt_of_get h3
        rw [List.length_set] at hl
        rw [set_get hl] at h3
        cases h3
        exact absurd rfl (far k es p g2 h4 q2)
    · rcases get_set h2 with ⟨rfl, q2⟩ | ⟨q2, g2⟩
      · rw [List.getElem?_set_ne (fun z => q1 z.symm)] at h3
        have hl := lt_of_get h4
        rw [List.length_set] at hl
        rw [set_get hl] at h4
        cases h4
        exact absurd rfl (far j ds' p g1 h3 q1)
      · rw [List.getElem?_set_ne (fun z => q1 z.symm)] at h3
        rw [List.getElem?_set_ne (fun z => q2 z.symm)] at h4
        exact e.inj j k ds' es q g1 g2 h3 h4
/-- forgotten slots -/
def wipeE (env : List Sl) : List Nat → List Sl
  | [] => env
  | v :: vs => (wipeE env vs).set v Sl.no
theorem EnvOk.wipe1 (e : EnvOk G ua env σ B H) (i : Nat) (o : Option V) : EnvOk G ua (env.set i Sl.no) (σ.set i o) B H := by
  refine ⟨by rw [List.length_set, List.length_set]; exact e.len, fun j d' h => ?_, fun j ds h => ?_, fun j k ds es p h1 h2 h3 h4 => ?_⟩
  · rcases get_set h with ⟨rfl, q⟩ | ⟨q, h⟩
    · cases q
    · rw [List.getElem?_set_ne (fun z => q z.symm)]; exact e.pub j d' h
  · rcases get_set h with ⟨rfl, q⟩ | ⟨q, h⟩
    · cases q
    · rw [List.getElem?_set_ne (fun z => q z.symm)]; exact e.own j ds h
  · rcases get_set h1 with ⟨rfl, q⟩ | ⟨q1, h1⟩
    · cases q
    · rcases get_set h2 with ⟨rfl, q⟩ | ⟨q2, h2⟩
      · cases q
      · rw [List.getElem?_set_ne (fun z => q1 z.symm)] at h3
        rw [List.getElem?_set_ne (fun z => q2 z.symm)] at h4
        exact e.inj j k ds es p h1 h2 h3 h4
theorem EnvOk.wipe (e : EnvOk G ua env σ B H) : ∀ vs : List Nat, EnvOk G ua (wipeE env vs) (wipe σ vs) B H
  | [] => e
  | v :: vs => by unfold wipeE L2.wipe; exact (e.wipe vs).wipe1 v none
end
end Dv

/-! Dv2: operations on plain data, and that the machine does the same. -/
namespace Dv
open PySem PySem.Spec PyProof.Rows L2

def Aft {K : PySem.W.Frag} (G : Gx K) (ua : Option Addr) (B H : Hp) (u' : U) (d : D) : V → Hp → Prop := fun v H' => ∃ B', Grow ua B H B' H' ∧ Wd ua u' B' H' ∧ Rep G ua d v B'
theorem Aft.up {K : PySem.W.Frag} {G : Gx K} {ua : Option Addr} {B H B1 H1 H' : Hp} {u' : U} {d : D} {v : V} (g : Grow ua B H B1 H1) (a : Aft G ua B1 H1 u' d v H') : Aft G ua B H u' d v H' := by
  obtain ⟨B', g', w, r⟩ := a
  exact ⟨B', g.trans g', w, r⟩
theorem Aft.here {K : PySem.W.Frag} {G : Gx K} {ua : Option Addr} {B H : Hp} {u : U} {d : D} {v : V} (w : Wd ua u B H) (r : Rep G ua d v B) : Aft G ua B H u d v H := ⟨B, .refl, w, r⟩
theorem Aft.lst {K : PySem.W.Frag} {G : Gx K} {ua : Option Addr} {B H : Hp} {u : U} {ds : List D} {vs : List V} {p : Addr} (w : Wd ua u B H) (h : H p = none) (r : Reps G ua ds vs B) : Aft G ua B H u (.lst ds) (.ref p) (upd H p (.lst vs)) :=
  ⟨upd B p (.lst vs), .new1 w h, w.new1 h, by unfold Rep; exact ⟨p, vs, rfl, upd_same, r.mono _ _ (same_new (w.none_of h))⟩⟩
theorem Aft.tup {K : PySem.W.Frag} {G : Gx K} {ua : Option Addr} {B H : Hp} {u : U} {ds : List D} {vs : List V} {p : Addr} (w : Wd ua u B H) (h : H p = none) (r : Reps G ua ds vs B) : Aft G ua B H u (.tup ds) (.ref p) (upd H p (.tup vs)) :=
  ⟨upd B p (.tup vs), .new1 w h, w.new1 h, by unfold Rep; exact ⟨p, vs, rfl, upd_same, r.mono _ _ (same_new (w.none_of h))⟩⟩

section
variable {K : PySem.W.Frag} {G : Gx K} {ua : Option Addr} {B H : Hp} {v : V}
theorem Rep.int {i : Int} (r : Rep G ua (.int i) v B) : v = .int i := by unfold Rep at r; exact r
theorem Rep.bl {i : Bool} (r : Rep G ua (.bl i) v B) : v = .bl i := by unfold Rep at r; exact r
theorem Rep.str {i : Str} (r : Rep G ua (.str i) v B) : v = .str i := by unfold Rep at r; exact r
theorem Rep.non (r : Rep G ua .non v B) : v = .non := by unfold Rep at r; exact r
theorem Rep.lst {ds : List D} (r : Rep G ua (.lst ds) v B) : ∃ a vs, v = .ref a ∧ B a = some (.lst vs) ∧ Reps G ua ds vs B := by unfold Rep at r; exact r
theorem Rep.tup {ds : List D} (r : Rep G ua (.tup ds) v B) : ∃ a vs, v = .ref a ∧ B a = some (.tup vs) ∧ Reps G ua ds vs B := by unfold Rep at r; exact r
theorem rep_int {i : Int} : Rep G ua (.int i) (.int i) B := by unfold Rep; rfl
theorem rep_bl {i : Bool} : Rep G ua (.bl i) (.bl i) B := by unfold Rep; rfl
theorem rep_str {i : Str} : Rep G ua (.str i) (.str i) B := by unfold Rep; rfl
theorem rep_non : Rep G ua .non .non B := by unfold Rep; rfl
end

/-! ### data for == -/
mutual
def toPy : D → Option PyData
  | .non => some .none
  | .bl b => some (.bool b)
  | .int i => some (.int i)
  | .str x => some (.str x)
  | .lst ds => (toPys ds).map .list
  | .tup ds => (toPys ds).map .tuple
  | .ins _ _ _ => none
  | .urn => none
def toPys : List D → Option (List PyData)
  | [] => some []
  | d :: ds => (toPy d).bind fun p => (toPys ds).map fun ps => p :: ps
end
section
variable {K : PySem.W.Frag} {G : Gx K} {ua : Option Addr} {B H : Hp}
mutual
theorem rep_dp (s : Same B H) : ∀ (d : D) (v : V) (p : PyData), toPy d = some p → Rep G ua d v B → Dp K H v p
  | .non, v, p, e, r => by
    unfold toPy at e; cases e; cases r.non; exact .non
  | .bl b, v, p, e, r => by
    unfold toPy at e; cases e; cases r.bl; exact .bl b
  | .int i, v, p, e, r => by
    unfold toPy at e; cases e; cases r.int; exact .int i
  | .str x, v, p, e, r => by
    unfold toPy at e; cases e; cases r.str; exact .str x
  | .lst ds, v, p, e, r => by
    unfold toPy at e
    obtain ⟨a, vs, rfl, h, rs⟩ := r.lst
    cases q : toPys ds with
    | none => rw [q] at e; cases e
    | some ps => rw [q] at e; cases e; exact .lst (.of (s _ _ h)) (reps_dp s ds vs ps q rs)
  | .tup ds, v, p, e, r => by
    unfold toPy at e
    obtain ⟨a, vs, rfl, h, rs⟩ := r.tup
    cases q : toPys ds with
    | none => rw [q] at e; cases e
    | some ps => rw [q] at e; cases e; exact .tup (.of (s _ _ h)) (reps_dp s ds vs ps q rs)
  | .ins _ _ _, v, p, e, r => by unfold toPy at e; cases e
  | .urn, v, p, e, r => by unfold toPy at e; cases e
theorem reps_dp (s : Same B H) : ∀ (ds : List D) (vs : List V) (ps : List PyData), toPys ds = some ps → Reps G ua ds vs B → DpAll K H vs ps
  | [], vs, ps, e, r => by
    unfold toPys at e; cases e; rw [r.of_nil]; exact .nil
  | d :: ds, vs, ps, e, r => by
    unfold toPys at e
    obtain ⟨v, t, rfl, r1, r2⟩ := r.of_cons
    cases q : toPy d with
    | none => rw [q] at e; cases e
    | some p =>
      cases q2 : toPys ds with
      | none => rw [q, q2] at e; cases e
      | some ps' => rw [q, q2] at e; cases e; exact .cons (rep_dp s d v p q r1) (reps_dp s ds t ps' q2 r2)
end
end

/-! ### operators -/
def fAdd : D → D → Option D
  | .int i, .int j => some (.int (i + j))
  | .str a, .str b => if a.length + b.length ≤ sizeLine then some (.str (a ++ b)) else none
  | .lst a, .lst b => if a.length + b.length ≤ sizeLine then some (.lst (a ++ b)) else none
  | .tup a, .tup b => if a.length + b.length ≤ sizeLine then some (.tup (a ++ b)) else none
  | _, _ => none
def fSub : D → D → Option D
  | .int i, .int j => some (.int (i - j))
  | _, _ => none
def fMul : D → D → Option D
  | .int i, .int j => if (-(2 ^ 64) < i ∧ i < 2 ^ 64) ∨ (-(2 ^ 64) < j ∧ j < 2 ^ 64) then some (.int (i * j)) else none
  | .lst a, .int k => if -(2 ^ 63) ≤ k ∧ k < 2 ^ 63 ∧ a.length * k.toNat ≤ sizeLine then some (.lst (List.replicate k.toNat a).flatten) else none
  | _, _ => none
def fMod : D → D → Option D
  | .int i, .int j => if 0 < j then some (.int (i % j)) else none
  | _, _ => none
def fDiv : D → D → Option D
  | .int i, .int j => if 0 < j ∧ j < 1073741824 then some (.int (i / j)) else none
  | _, _ => none
def fPow : D → D → Option D
  | .int i, .int j => if 0 ≤ j ∧ j ≤ 1000000 ∧ i.natAbs < 2 ^ 64 then some (.int (i ^ j.toNat)) else none
  | _, _ => none
def BinOk {X : Cx} (G : Gx X.K) (F : Value → Value → Sem Value) (f : D → D → Option D) : Prop :=
  ∀ (ua : Option Addr) (u : U) (B H : Hp) (da db d : D) (va vb : V), f da db = some d → Rep G ua da va B → Rep G ua db vb B → Wd ua u B H → ∃ r : R2, OpR X F r ∧ r va vb H (Aft G ua B H u d)
section
variable {X : Cx} {G : Gx X.K}
theorem ok_add : BinOk G (binaryOp .Add) fAdd := by
  intro ua u B H da db d va vb e ra rb w
  unfold fAdd at e
  split at e
  · cases e; cases ra.int; cases rb.int
    exact ⟨_, op_add, _, _, rfl, rfl, .here w rep_int⟩
  · split at e
    · cases e; cases ra.str; cases rb.str
      exact ⟨_, op_add_str, _, _, rfl, rfl, ‹_›, .here w rep_str⟩
    · cases e
  · split at e
    · cases e
      obtain ⟨a, xs, rfl, h1, r1⟩ := ra.lst
      obtain ⟨b, ys, rfl, h2, r2⟩ := rb.lst
      refine ⟨_, op_cat, a, b, xs, ys, rfl, rfl, w.sub _ _ h1, w.sub _ _ h2, by rw [← r1.len, ← r2.len]; assumption, fun p hp => .lst w hp (r1.append r2)⟩
    · cases e
  · split at e
    · cases e
      have ra' := ra
      have rb' := rb
      obtain ⟨a, xs, rfl, h1, r1⟩ := ra.tup
      obtain ⟨b, ys, rfl, h2, r2⟩ := rb.tup
      refine ⟨_, op_catA, a, b, xs, ys, rfl, rfl, .of (w.sub _ _ h1), .of (w.sub _ _ h2), by rw [← r1.len, ← r2.len]; assumption, fun hx => ?_, fun _ hy => ?_, fun _ _ p hp => .tup w hp (r1.append r2)⟩
      · subst hx
        have e1 := r1.len
        rw [List.length_nil] at e1
        rw [List.eq_nil_of_length_eq_zero e1]
        exact .here w rb'
      · subst hy
        have e1 := r2.len
        rw [List.length_nil] at e1
        rw [List.eq_nil_of_length_eq_zero e1, List.append_nil]
        exact .here w ra'
    · cases e
  · cases e
theorem ok_sub : BinOk G (binaryOp .Sub) fSub := by
  intro ua u B H da db d va vb e ra rb w
  unfold fSub at e
  split at e
  · cases e; cases ra.int; cases rb.int
    exact ⟨_, op_sub, _, _, rfl, rfl, .here w rep_int⟩
  · cases e
theorem ok_mul : BinOk G (binaryOp .Mult) fMul := by
  intro ua u B H da db d va vb e ra rb w
  unfold fMul at e
  split at e
  · split at e
    · cases e; cases ra.int; cases rb.int
      exact ⟨_, op_mul, _, _, rfl, rfl, ‹_›, .here w rep_int⟩
    · cases e
  · split at e
    · rename_i k hk
      cases e
      cases rb.int
      obtain ⟨a, xs, rfl, h1, r1⟩ := ra.lst
      exact ⟨_, op_rep, a, _, xs, rfl, rfl, w.sub _ _ h1, hk.1, hk.2.1, by rw [← r1.len]; exact hk.2.2, fun p hp => .lst w hp (r1.replicate _)⟩
    · cases e
  · cases e
theorem ok_mod : BinOk G (binaryOp .Mod) fMod := by
  intro ua u B H da db d va vb e ra rb w
  unfold fMod at e
  split at e
  · split at e
    · cases e; cases ra.int; cases rb.int
      exact ⟨_, op_mod, _, _, rfl, rfl, ‹_›, .here w rep_int⟩
    · cases e
  · cases e
theorem ok_div : BinOk G (binaryOp .FloorDiv) fDiv := by
  intro ua u B H da db d va vb e ra rb w
  unfold fDiv at e
  split at e
  · split at e
    · cases e; cases ra.int; cases rb.int
      exact ⟨_, op_fdiv, _, _, rfl, rfl, ‹_›, .here w rep_int⟩
    · cases e
  · cases e
theorem ok_pow : BinOk G (binaryOp .Pow) fPow := by
  intro ua u B H da db d va vb e ra rb w
  unfold fPow at e
  split at e
  · split at e
    · cases e; cases ra.int; cases rb.int
      exact ⟨_, op_pow, _, _, rfl, rfl, ‹_›, .here w rep_int⟩
    · cases e
  · cases e
end

/-! ### comparisons -/
def eqD (a b : D) : Option Bool :=
  match a, b with
  | .int i, .int j => some (decide (i = j))
  | .str i, .str j => some (decide (i = j))
  | .bl i, .bl j => some (decide (i = j))
  | .non, .non => some true
  | a, b => match toPy a, toPy b with
    | some x, some y => if SeqAt.shaped x = true ∧ SeqAt.shaped y = true then some (PyData.eqv x y) else none
    | _, _ => none
def cEq (a b : D) : Option D := (eqD a b).map .bl
def cNe (a b : D) : Option D := (eqD a b).map fun k => .bl (!k)
def cLt : D → D → Option D
  | .int i, .int j => some (.bl (decide (i < j)))
  | .str i, .str j => some (.bl (decide (i.cps.toList < j.cps.toList)))
  | _, _ => none
def cLe : D → D → Option D
  | .int i, .int j => some (.bl (decide (i ≤ j)))
  | _, _ => none
def cGt : D → D → Option D
  | .int i, .int j => some (.bl (decide (j < i)))
  | _, _ => none
def cGe : D → D → Option D
  | .int i, .int j => some (.bl (decide (j ≤ i)))
  | _, _ => none
def cIs : D → D → Option D
  | .non, .non => some (.bl true)
  | _, .non => some (.bl false)
  | _, _ => none
def cIsN : D → D → Option D
  | .non, .non => some (.bl false)
  | _, .non => some (.bl true)
  | _, _ => none
def inD (a : D) : D → Option Bool
  | .str z => match a with
    | .str c => match c.cps.toList with
      | [k] => some (decide (k ∈ z.cps.toList))
      | _ => none
    | _ => none
  | .lst ds => match toPy a, toPys ds with
    | some x, some ys => if SeqAt.shaped x = true ∧ SeqAt.shaped (.list ys) = true then some (ys.any fun z => PyData.eqv z x) else none
    | _, _ => none
  | .tup ds => match toPy a, toPys ds with
    | some x, some ys => if SeqAt.shaped x = true ∧ SeqAt.shaped (.tuple ys) = true then some (ys.any fun z => PyData.eqv z x) else none
    | _, _ => none
  | _ => none
def cIn (a b : D) : Option D := (inD a b).map .bl
def cNotIn (a b : D) : Option D := (inD a b).map fun k => .bl (!k)
section
variable {X : Cx} {G : Gx X.K}
theorem rep_eqD {ua : Option Addr} {u : U} {B H : Hp} {a b : D} {k : Bool} {va vb : V} (e : eqD a b = some k) (ra : Rep G ua a va B) (rb : Rep G ua b vb B) (w : Wd ua u B H) :
    (scal va vb = true ∧ k = decide (va = vb)) ∨ ∃ d e, Dp X.K H va d ∧ Dp X.K H vb e ∧ SeqAt.shaped d = true ∧ SeqAt.shaped e = true ∧ k = PyData.eqv d e := by
  unfold eqD at e
  split at e
  · cases e; cases ra.int; cases rb.int; exact .inl ⟨rfl, by simp⟩
  · cases e; cases ra.str; cases rb.str; exact .inl ⟨rfl, by simp⟩
  · cases e; cases ra.bl; cases rb.bl; exact .inl ⟨rfl, by simp⟩
  · cases e; cases ra.non; cases rb.non; exact .inl ⟨rfl, by simp⟩
  · split at e
    · rename_i x y h1 h2
      split at e
      · rename_i h
        cases e
        exact .inr ⟨x, y, rep_dp w.sub _ _ _ h1 ra, rep_dp w.sub _ _ _ h2 rb, h.1, h.2, rfl⟩
      · cases e
    · cases e
theorem op_orR {F : Value → Value → Sem Value} {r r' : R2} (h : OpR X F r) (h' : OpR X F r') : OpR X F (fun x y H Q => r x y H Q ∨ r' x y H Q) := by
  intro pins s σ H x y v u Q I rx ry q
  rcases q with q | q
  · exact h pins s σ H x y v u Q I rx ry q
  · exact h' pins s σ H x y v u Q I rx ry q
theorem ok_eq (hu : X.A.units + 64 < cLine) : BinOk G (compareOp .Eq) cEq := by
  intro ua u B H da db d va vb e ra rb w
  unfold cEq at e
  cases q : eqD da db with
  | none => rw [q] at e; cases e
  | some k =>
    rw [q] at e; cases e
    rcases rep_eqD q ra rb w with ⟨h1, rfl⟩ | ⟨x, y, h1, h2, h3, h4, rfl⟩
    · exact ⟨_, op_eq, h1, .here w rep_bl⟩
    · exact ⟨_, op_eqD hu, x, y, h1, h2, h3, h4, .here w rep_bl⟩
theorem ok_ne (hu : X.A.units + 64 < cLine) : BinOk G (compareOp .NotEq) cNe := by
  intro ua u B H da db d va vb e ra rb w
  unfold cNe at e
  cases q : eqD da db with
  | none => rw [q] at e; cases e
  | some k =>
    rw [q] at e; cases e
    rcases rep_eqD q ra rb w with ⟨h1, rfl⟩ | ⟨x, y, h1, h2, h3, h4, rfl⟩
    · exact ⟨_, op_ne, h1, .here w rep_bl⟩
    · exact ⟨_, op_neD hu, x, y, h1, h2, h3, h4, .here w rep_bl⟩
theorem ok_lt : BinOk G (compareOp .Lt) cLt := by
  intro ua u B H da db d va vb e ra rb w
  unfold cLt at e
  split at e
  · cases e; cases ra.int; cases rb.int
    exact ⟨_, op_lt, _, _, rfl, rfl, .here w rep_bl⟩
  · cases e; cases ra.str; cases rb.str
    exact ⟨_, op_lt_str, _, _, rfl, rfl, .here w rep_bl⟩
  · cases e
theorem ok_le : BinOk G (compareOp .LtE) cLe := by
  intro ua u B H da db d va vb e ra rb w
  unfold cLe at e
  split at e
  · cases e; cases ra.int; cases rb.int
    exact ⟨_, op_le, _, _, rfl, rfl, .here w rep_bl⟩
  · cases e
theorem ok_gt : BinOk G (compareOp .Gt) cGt := by
  intro ua u B H da db d va vb e ra rb w
  unfold cGt at e
  split at e
  · cases e; cases ra.int; cases rb.int
    exact ⟨_, op_gt, _, _, rfl, rfl, .here w rep_bl⟩
  · cases e
theorem ok_ge : BinOk G (compareOp .GtE) cGe := by
  intro ua u B H da db d va vb e ra rb w
  unfold cGe at e
  split at e
  · cases e; cases ra.int; cases rb.int
    exact ⟨_, op_ge, _, _, rfl, rfl, .here w rep_bl⟩
  · cases e
theorem rep_nn {ua : Option Addr} {B : Hp} {d : D} {v : V} (r : Rep G ua d v B) : v = .non ↔ d = .non := by
  cases d with
  | non => cases r.non; simp
  | bl b => cases r.bl; simp
  | int b => cases r.int; simp
  | str b => cases r.str; simp
  | lst b => obtain ⟨a, vs, rfl, _⟩ := r.lst; simp
  | tup b => obtain ⟨a, vs, rfl, _⟩ := r.tup; simp
  | ins c n x => unfold Rep at r; obtain ⟨a, C, dx, vs, rfl, _⟩ := r; simp
  | urn => unfold Rep at r; obtain ⟨a, _, rfl⟩ := r; simp
theorem ok_is : BinOk G (compareOp .Is) cIs := by
  intro ua u B H da db d va vb e ra rb w
  unfold cIs at e
  split at e
  · cases e; cases ra.non; cases rb.non
    exact ⟨_, op_isN, rfl, .here w rep_bl⟩
  · rename_i hn
    cases e; cases rb.non
    refine ⟨_, op_isN, rfl, .here w ?_⟩
    rw [decide_eq_false (fun z => hn ((rep_nn ra).mp z))]
    exact rep_bl
  · cases e
theorem ok_isnot : BinOk G (compareOp .IsNot) cIsN := by
  intro ua u B H da db d va vb e ra rb w
  unfold cIsN at e
  split at e
  · cases e; cases ra.non; cases rb.non
    exact ⟨_, op_notN, rfl, .here w rep_bl⟩
  · rename_i hn
    cases e; cases rb.non
    refine ⟨_, op_notN, rfl, .here w ?_⟩
    rw [decide_eq_false (fun z => hn ((rep_nn ra).mp z))]
    exact rep_bl
  · cases e
def rInT (K : PySem.W.Frag) : R2 := fun x y H Q => ∃ d ds, Dp K H x d ∧ Dp K H y (.tuple ds) ∧ SeqAt.shaped d = true ∧ SeqAt.shaped (.tuple ds) = true ∧ Q (.bl (ds.any fun z => PyData.eqv z d)) H
def rNotInT (K : PySem.W.Frag) : R2 := fun x y H Q => ∃ d ds, Dp K H x d ∧ Dp K H y (.tuple ds) ∧ SeqAt.shaped d = true ∧ SeqAt.shaped (.tuple ds) = true ∧ Q (.bl (!ds.any fun z => PyData.eqv z d)) H
theorem op_inT (hu : X.A.units + 65 < cLine) : OpR X (compareOp .In) (rInT X.K) := by
  intro pins s σ H x y v u Q I rx ry h
  obtain ⟨d, ds, hd, he, sd, se, q⟩ := h
  obtain ⟨as, r1⟩ := Dp.reads I d x v hd rx
  obtain ⟨bs, r2⟩ := Dp.reads I (.tuple ds) y u he ry
  exact SeqAt.in_tuple_reads r2 r1 (SeqAt.canLay_of_shaped se) (SeqAt.canLay_of_shaped sd) (room_in_shaped sd hu) ⟨.bl _, H, I, rfl, q⟩
theorem op_notInT (hu : X.A.units + 65 < cLine) : OpR X (compareOp .NotIn) (rNotInT X.K) := by
  intro pins s σ H x y v u Q I rx ry h
  obtain ⟨d, ds, hd, he, sd, se, q⟩ := h
  obtain ⟨as, r1⟩ := Dp.reads I d x v hd rx
  obtain ⟨bs, r2⟩ := Dp.reads I (.tuple ds) y u he ry
  exact SeqAt.notIn_tuple_reads r2 r1 (SeqAt.canLay_of_shaped se) (SeqAt.canLay_of_shaped sd) (room_in_shaped sd hu) ⟨.bl _, H, I, rfl, q⟩
theorem rep_inD {ua : Option Addr} {u : U} {B H : Hp} {a b : D} {k : Bool} {va vb : V} (e : inD a b = some k) (ra : Rep G ua a va B) (rb : Rep G ua b vb B) (w : Wd ua u B H) :
    (∃ (c : Nat) (z : Str), va = .str ⟨#[c]⟩ ∧ vb = .str z ∧ k = decide (c ∈ z.cps.toList)) ∨
    (∃ d ds, Dp X.K H va d ∧ Dp X.K H vb (.list ds) ∧ SeqAt.shaped d = true ∧ SeqAt.shaped (.list ds) = true ∧ k = ds.any fun z => PyData.eqv z d) ∨
    (∃ d ds, Dp X.K H va d ∧ Dp X.K H vb (.tuple ds) ∧ SeqAt.shaped d = true ∧ SeqAt.shaped (.tuple ds) = true ∧ k = ds.any fun z => PyData.eqv z d) := by
  unfold inD at e
  split at e
  · split at e
    · split at e
      · rename_i c _ x hc
        cases e; cases ra.str; cases rb.str
        refine .inl ⟨x, _, ?_, rfl, rfl⟩
        obtain ⟨cp⟩ := c
        have : cp = #[x] := by
          have := congrArg List.toArray hc
          simpa using this
        rw [this]
      · cases e
    · cases e
  · split at e
    · rename_i ds _ _ x ys h1 h2
      split at e
      · rename_i h
        cases e
        refine .inr (.inl ⟨x, ys, rep_dp w.sub _ _ _ h1 ra, rep_dp w.sub (.lst ds) _ _ ?_ rb, h.1, h.2, rfl⟩)
        unfold toPy; rw [h2]; rfl
      · cases e
    · cases e
  · split at e
    · rename_i ds _ _ x ys h1 h2
      split at e
      · rename_i h
        cases e
        refine .inr (.inr ⟨x, ys, rep_dp w.sub _ _ _ h1 ra, rep_dp w.sub (.tup ds) _ _ ?_ rb, h.1, h.2, rfl⟩)
        unfold toPy; rw [h2]; rfl
      · cases e
    · cases e
  · cases e
theorem ok_in (hu : X.A.units + 65 < cLine) : BinOk G (compareOp .In) cIn := by
  intro ua u B H da db d va vb e ra rb w
  unfold cIn at e
  cases q : inD da db with
  | none => rw [q] at e; cases e
  | some k =>
    rw [q] at e; cases e
    rcases rep_inD q ra rb w with ⟨c, z, rfl, rfl, rfl⟩ | ⟨x, ys, h1, h2, h3, h4, rfl⟩ | ⟨x, ys, h1, h2, h3, h4, rfl⟩
    · exact ⟨_, op_in_sign, c, z, rfl, rfl, .here w rep_bl⟩
    · exact ⟨_, op_inD hu, x, ys, h1, h2, h3, h4, .here w rep_bl⟩
    · exact ⟨_, op_inT hu, x, ys, h1, h2, h3, h4, .here w rep_bl⟩
theorem ok_notin (hu : X.A.units + 65 < cLine) : BinOk G (compareOp .NotIn) cNotIn := by
  intro ua u B H da db d va vb e ra rb w
  unfold cNotIn at e
  cases q : inD da db with
  | none => rw [q] at e; cases e
  | some k =>
    rw [q] at e; cases e
    rcases rep_inD q ra rb w with ⟨c, z, rfl, rfl, rfl⟩ | ⟨x, ys, h1, h2, h3, h4, rfl⟩ | ⟨x, ys, h1, h2, h3, h4, rfl⟩
    · exact ⟨_, op_notIn_sign, c, z, rfl, rfl, .here w rep_bl⟩
    · exact ⟨_, op_notInD hu, x, ys, h1, h2, h3, h4, .here w rep_bl⟩
    · exact ⟨_, op_notInT hu, x, ys, h1, h2, h3, h4, .here w rep_bl⟩
end

/-! ### truth -/
def truD : D → Option Bool
  | .non => some false
  | .bl b => some b
  | .int i => some (i != 0)
  | .str x => if x.length ≤ sizeLine then some ((x.length : Int) != 0) else none
  | .lst ds => some (!ds.isEmpty)
  | .tup ds => some (!ds.isEmpty)
  | _ => none
theorem rep_tru {X : Cx} {G : Gx X.K} {ua : Option Addr} {u : U} {B H : Hp} {d : D} {k : Bool} {v : V} (e : truD d = some k) (r : Rep G ua d v B) (w : Wd ua u B H) : TruV X.K v H k := by
  cases d with
  | non => cases r.non; unfold truD at e; cases e; rfl
  | bl b => cases r.bl; unfold truD at e; cases e; rfl
  | int i => cases r.int; unfold truD at e; cases e; rfl
  | str x =>
    cases r.str
    simp only [truD] at e
    split at e
    · cases e; exact ⟨‹_›, rfl⟩
    · cases e
  | lst ds =>
    obtain ⟨a, vs, rfl, h, rs⟩ := r.lst
    unfold truD at e; cases e
    refine .inl ⟨vs, .of (w.sub _ _ h), ?_⟩
    have := rs.len
    cases ds <;> cases vs <;> simp_all
  | tup ds =>
    obtain ⟨a, vs, rfl, h, rs⟩ := r.tup
    unfold truD at e; cases e
    refine .inr (.inl ⟨vs, .of (w.sub _ _ h), ?_⟩)
    have := rs.len
    cases ds <;> cases vs <;> simp_all
  | ins c n x => unfold truD at e; cases e
  | urn => unfold truD at e; cases e
end Dv

/-! Dv3: expressions over plain data. -/
namespace Dv
open PySem PySem.Spec PyProof.Rows L2

abbrev M := List Sl → U → Option (D × U)
abbrev Ms := List Sl → U → Option (List D × U)
abbrev MB := List Sl → U → Option (Bool × U)
def bnd {α β : Type} (m : Option (α × U)) (k : α → U → Option β) : Option β := match m with
  | none => none
  | some (a, u) => k a u
theorem bnd_some {α β : Type} {m : Option (α × U)} {k : α → U → Option β} {b : β} (h : bnd m k = some b) : ∃ a u, m = some (a, u) ∧ k a u = some b := by
  unfold bnd at h
  split at h
  · cases h
  · exact ⟨_, _, rfl, h⟩
def lft {α : Type} (o : Option α) (u : U) : Option (α × U) := match o with
  | none => none
  | some a => some (a, u)
theorem lft_some {α : Type} {o : Option α} {u u' : U} {a : α} (h : lft o u = some (a, u')) : o = some a ∧ u' = u := by
  unfold lft at h
  split at h
  · cases h
  · cases h; exact ⟨rfl, rfl⟩

/-! ### weaker readings -/
theorem _root_.L2.PE.imp {X : Cx} {e : Expr} {t t' : TE} (h : PE X e t) (i : ∀ σ H Q, t' σ H Q → t σ H Q) : PE X e t' := ⟨fun pins s σ H Q I q => h.run pins s σ H Q I (i σ H Q q)⟩
theorem _root_.L2.PT.imp {X : Cx} {e : Expr} {t t' : TT} (h : PT X e t) (i : ∀ σ H Q, t' σ H Q → t σ H Q) : PT X e t' := ⟨fun pins s σ H Q I q => h.run pins s σ H Q I (i σ H Q q)⟩
theorem _root_.L2.PW.imp {X : Cx} {e : Expr} {t t' : TT} (h : PW X e t) (i : ∀ σ H Q, t' σ H Q → t σ H Q) : PW X e t' := ⟨fun wh pins s σ H Q I q => h.run wh pins s σ H Q I (i σ H Q q)⟩
theorem _root_.L2.PA.imp {X : Cx} {e : List Expr} {t t' : TA} (h : PA X e t) (i : ∀ σ H Q, t' σ H Q → t σ H Q) : PA X e t' := ⟨fun p pins s σ H Q I q => h.run p pins s σ H Q I (i σ H Q q)⟩
theorem _root_.L2.PI.imp {X : Cx} {g e : Expr} {t t' : TI} (h : PI X g e t) (i : ∀ σ H Q, t' σ H Q → t σ H Q) : PI X g e t' := ⟨fun pins s σ H Q I q => h.run pins s σ H Q I (i σ H Q q)⟩
theorem _root_.L2.PI.by {X : Cx} {g e : Expr} {t' : TI} (i : ∀ σ H Q, t' σ H Q → ∃ t, PI X g e t ∧ t σ H Q) : PI X g e t' := ⟨fun pins s σ H Q I q => by
  obtain ⟨t, h, q⟩ := i σ H Q q
  exact h.run pins s σ H Q I q⟩
theorem _root_.L2.PE.by {X : Cx} {e : Expr} {t' : TE} (i : ∀ σ H Q, t' σ H Q → ∃ t, PE X e t ∧ t σ H Q) : PE X e t' := ⟨fun pins s σ H Q I q => by
  obtain ⟨t, h, q⟩ := i σ H Q q
  exact h.run pins s σ H Q I q⟩

section
variable {K : PySem.W.Frag} (G : Gx K)
def tEv (m : M) : TE := fun σ H Q => ∃ ua u B env d u', EnvOk G ua env σ B H ∧ Wd ua u B H ∧ m env u = some (d, u') ∧ ∀ v H', Aft G ua B H u' d v H' → Q v H'
def Afts (ua : Option Addr) (B H : Hp) (u' : U) (ds : List D) : List V → Hp → Prop := fun vs H' => ∃ B', Grow ua B H B' H' ∧ Wd ua u' B' H' ∧ Reps G ua ds vs B'
def tEvs (m : Ms) : TA := fun σ H Q => ∃ ua u B env ds u', EnvOk G ua env σ B H ∧ Wd ua u B H ∧ m env u = some (ds, u') ∧ ∀ vs H', Afts G ua B H u' ds vs H' → Q vs H'
def AftB (ua : Option Addr) (B H : Hp) (u' : U) (H' : Hp) : Prop := ∃ B', Grow ua B H B' H' ∧ Wd ua u' B' H'
def tTst (m : MB) : TT := fun σ H Q => ∃ ua u B env b u', EnvOk G ua env σ B H ∧ Wd ua u B H ∧ m env u = some (b, u') ∧ ∀ H', AftB ua B H u' H' → Q b H'
end

section
variable {X : Cx} {G : Gx X.K} {a b c e : Expr} {es : List Expr} {ma mb mc : M} {ms : Ms} {pos : Pos}
/-! ### names, constants -/
def mVar (i : Nat) : M := fun env u => match env[i]? with
  | some (.pub d) => some (d, u)
  | _ => none
def mC (d : D) : M := fun _ u => some (d, u)
theorem dv_var (i : Nat) {x : Str} {pos : Pos} (hN : X.N[i]? = some x := by rfl) (hv : Vis X.env.scope x := by first | exact Or.inl rfl | exact Or.inr (Or.inl rfl) | exact Or.inr (Or.inr rfl)) (hd : (x == ("__debug__" : Str)) = false := by decide)
    (hcd : (x == ("__classdict__" : Str)) = false := by decide) : PE X (.Name x pos) (tEv G (mVar i)) := by
  refine (pe_var hN hv hd hcd).imp fun σ H Q h => ?_
  obtain ⟨ua, u, B, env, d, u', hE, hW, hm, q⟩ := h
  unfold mVar at hm
  split at hm
  · rename_i h
    cases hm
    obtain ⟨v, h1, h2⟩ := hE.pub _ _ h
    exact ⟨v, h1, q v H (.here hW h2)⟩
  · cases hm
/-- a constant's value stands for its data in any heap -/
theorem dv_c {t : TE} {v : V} {d : D} (h : PE X e (tC v)) (r : ∀ ua B, Rep G ua d v B) : PE X e (tEv G (mC d)) := by
  refine h.imp fun σ H Q h => ?_
  obtain ⟨ua, u, B, env, d', u', hE, hW, hm, q⟩ := h
  cases hm
  exact q v H (.here hW (r ua B))
theorem dv_int {i j} : PE X (.Constant (.int i) j pos) (tEv G (mC (.int i))) := dv_c (t := tC .non) pe_int fun _ _ => rep_int
theorem dv_bl {i j} : PE X (.Constant (.bool i) j pos) (tEv G (mC (.bl i))) := dv_c (t := tC .non) pe_bl fun _ _ => rep_bl
theorem dv_str {i j} : PE X (.Constant (.str i) j pos) (tEv G (mC (.str i))) := dv_c (t := tC .non) pe_str fun _ _ => rep_str
theorem dv_non {j} : PE X (.Constant .none j pos) (tEv G (mC .non)) := dv_c (t := tC .non) pe_non fun _ _ => rep_non
theorem dv_globS {x : Str} {z : Str} {t : Tok} {pos : Pos} (hg : Gl X x) (hm : X.mg x = some (.str z t)) (hd : (x == ("__debug__" : Str)) = false := by decide) : PE X (.Name x pos) (tEv G (mC (.str z))) :=
  dv_c (t := tC .non) (pe_glob (v := .str z) hg hm ⟨_, rfl⟩ hd) fun _ _ => rep_str
theorem dv_globI {x : Str} {z : Int} {t : Tok} {pos : Pos} (hg : Gl X x) (hm : X.mg x = some (.int z t)) (hd : (x == ("__debug__" : Str)) = false := by decide) : PE X (.Name x pos) (tEv G (mC (.int z))) :=
  dv_c (t := tC .non) (pe_glob (v := .int z) hg hm ⟨_, rfl⟩ hd) fun _ _ => rep_int

/-! ### lists of expressions -/
def mNil : Ms := fun _ u => some ([], u)
def mCons (m : M) (r : Ms) : Ms := fun env u => bnd (m env u) fun d u1 => bnd (r env u1) fun ds u2 => some (d :: ds, u2)
theorem dvs_nil : PA X [] (tEvs G mNil) := by
  refine pa_nil.imp fun σ H Q h => ?_
  obtain ⟨ua, u, B, env, ds, u', hE, hW, hm, q⟩ := h
  cases hm
  exact q [] H ⟨B, .refl, hW, .nil⟩
theorem dvs_cons (ha : PE X e (tEv G ma)) (hr : PA X es (tEvs G ms)) (hs : starEach (e :: es) X.env = (false, eval e X.env) :: starEach es X.env := by rfl) : PA X (e :: es) (tEvs G (mCons ma ms)) := by
  refine (pa_cons ha hr hs).imp fun σ H Q h => ?_
  obtain ⟨ua, u, B, env, ds, u', hE, hW, hm, q⟩ := h
  obtain ⟨d, u1, h1, h2⟩ := bnd_some hm
  obtain ⟨ds', u2, h2, h3⟩ := bnd_some h2
  cases h3
  refine ⟨ua, u, B, env, d, u1, hE, hW, h1, fun v H1 ⟨B1, g1, w1, r1⟩ => ⟨ua, u1, B1, env, ds', _, hE.grow g1, w1, h2, fun vs H2 ⟨B2, g2, w2, r2⟩ => q _ _ ⟨B2, g1.trans g2, w2, .cons (r1.mono _ _ g2.pub) r2⟩⟩⟩
def mLst (m : Ms) : M := fun env u => bnd (m env u) fun ds u1 => if ds.length ≤ sizeLine then some (.lst ds, u1) else none
def mTup (m : Ms) : M := fun env u => bnd (m env u) fun ds u1 => if ds.length ≤ sizeLine then some (.tup ds, u1) else none
theorem dv_lst (h : PA X es (tEvs G ms)) : PE X (.List es pos) (tEv G (mLst ms)) := by
  refine (pe_lst h).imp fun σ H Q h => ?_
  obtain ⟨ua, u, B, env, d, u', hE, hW, hm, q⟩ := h
  obtain ⟨ds, u1, h1, h2⟩ := bnd_some hm
  split at h2
  · cases h2
    refine ⟨ua, u, B, env, ds, _, hE, hW, h1, fun vs H1 ⟨B1, g1, w1, r1⟩ => ⟨by rw [← r1.len]; assumption, fun p hp => q _ _ (.up g1 (.lst w1 hp r1))⟩⟩
  · cases h2
theorem dv_tup {k : Nat} (h : PA X es (tEvs G ms)) : PE X (.Tuple es k pos) (tEv G (mTup ms)) := by
  refine (pe_tup h).imp fun σ H Q h => ?_
  obtain ⟨ua, u, B, env, d, u', hE, hW, hm, q⟩ := h
  obtain ⟨ds, u1, h1, h2⟩ := bnd_some hm
  split at h2
  · cases h2
    refine ⟨ua, u, B, env, ds, _, hE, hW, h1, fun vs H1 ⟨B1, g1, w1, r1⟩ => ⟨by rw [← r1.len]; assumption, fun p hp => q _ _ (.up g1 (.tup w1 hp r1))⟩⟩
  · cases h2

/-! ### operators -/
def rBin (G : Gx X.K) (f : D → D → Option D) : R2 := fun x y H Q => ∃ ua u B da db d, f da db = some d ∧ Rep G ua da x B ∧ Rep G ua db y B ∧ Wd ua u B H ∧ ∀ v H', Aft G ua B H u d v H' → Q v H'
theorem op_of {F : Value → Value → Sem Value} {f : D → D → Option D} (hf : BinOk G F f) : OpR X F (rBin G f) := by
  intro pins s σ H x y v u Q I rx ry h
  obtain ⟨ua, u0, B, da, db, d, e, ra, rb, w, q⟩ := h
  obtain ⟨r, ho, hr⟩ := hf ua u0 B H da db d x y e ra rb w
  exact thn (ho pins s σ H x y v u _ I rx ry hr) fun v s ⟨z, H', I', r', a⟩ => ⟨z, H', I', r', q _ _ a⟩
def mBin (f : D → D → Option D) (a b : M) : M := fun env u => bnd (a env u) fun x u1 => bnd (b env u1) fun y u2 => lft (f x y) u2
theorem bin_read {f : D → D → Option D} {σ : L2.St} {H : Hp} {Q : VK} (h : tEv G (mBin f ma mb) σ H Q) : tOp (rBin G f) (tEv G ma) (tEv G mb) σ H Q := by
  obtain ⟨ua, u, B, env, d, u', hE, hW, hm, q⟩ := h
  obtain ⟨x, u1, h1, h2⟩ := bnd_some hm
  obtain ⟨y, u2, h2, h3⟩ := bnd_some h2
  obtain ⟨l3, rfl⟩ := lft_some h3
  exact ⟨ua, u, B, env, x, u1, hE, hW, h1, fun v H1 ⟨B1, g1, w1, r1⟩ => ⟨ua, u1, B1, env, y, u', hE.grow g1, w1, h2, fun v2 H2 ⟨B2, g2, w2, r2⟩ =>
    ⟨ua, u', B2, x, y, d, l3, r1.mono _ _ g2.pub, r2, w2, fun v3 H3 a => q v3 H3 (.up g1 (.up g2 a))⟩⟩⟩
theorem dv_bin {op : Operator} {f : D → D → Option D} (hf : BinOk G (binaryOp op) f) (ha : PE X a (tEv G ma)) (hb : PE X b (tEv G mb)) : PE X (.BinOp a op b pos) (tEv G (mBin f ma mb)) :=
  (pe_op (op_of hf) ha hb).imp fun _ _ _ h => bin_read h
theorem dv_cmp {op : CmpOp} {f : D → D → Option D} (hf : BinOk G (compareOp op) f) (ha : PE X a (tEv G ma)) (hb : PE X b (tEv G mb)) (hm : behindInMarks op b = false := by rfl) : PE X (.Compare a [op] [b] pos) (tEv G (mBin f ma mb)) :=
  (pe_cmpR (op_of hf) ha hb hm).imp fun _ _ _ h => bin_read h
def mNeg (a : M) : M := fun env u => bnd (a env u) fun x u1 => match x with
  | .int i => some (.int (-i), u1)
  | _ => none
theorem dv_neg (ha : PE X a (tEv G ma)) : PE X (.UnaryOp .USub a pos) (tEv G (mNeg ma)) := by
  refine (pe_un un_neg ha).imp fun σ H Q h => ?_
  obtain ⟨ua, u, B, env, d, u', hE, hW, hm, q⟩ := h
  obtain ⟨x, u1, h1, h2⟩ := bnd_some hm
  split at h2
  · cases h2
    refine ⟨ua, u, B, env, _, _, hE, hW, h1, fun v H1 ⟨B1, g1, w1, r1⟩ => ?_⟩
    cases r1.int
    exact ⟨_, rfl, q _ _ ⟨B1, g1, w1, rep_int⟩⟩
  · cases h2
/-- what gives a bool -/
def BoolF (f : D → D → Option D) : Prop := ∀ x y d, f x y = some d → ∃ k, d = .bl k
theorem bf_eq : BoolF cEq := fun x y d h => by unfold cEq at h; cases q : eqD x y with | none => rw [q] at h; cases h | some k => rw [q] at h; cases h; exact ⟨_, rfl⟩
theorem bf_ne : BoolF cNe := fun x y d h => by unfold cNe at h; cases q : eqD x y with | none => rw [q] at h; cases h | some k => rw [q] at h; cases h; exact ⟨_, rfl⟩
theorem bf_in : BoolF cIn := fun x y d h => by unfold cIn at h; cases q : inD x y with | none => rw [q] at h; cases h | some k => rw [q] at h; cases h; exact ⟨_, rfl⟩
theorem bf_notin : BoolF cNotIn := fun x y d h => by unfold cNotIn at h; cases q : inD x y with | none => rw [q] at h; cases h | some k => rw [q] at h; cases h; exact ⟨_, rfl⟩
theorem bf_lt : BoolF cLt := fun x y d h => by unfold cLt at h; split at h <;> cases h <;> exact ⟨_, rfl⟩
theorem bf_le : BoolF cLe := fun x y d h => by unfold cLe at h; split at h <;> cases h <;> exact ⟨_, rfl⟩
theorem bf_gt : BoolF cGt := fun x y d h => by unfold cGt at h; split at h <;> cases h <;> exact ⟨_, rfl⟩
theorem bf_ge : BoolF cGe := fun x y d h => by unfold cGe at h; split at h <;> cases h <;> exact ⟨_, rfl⟩
theorem bf_is : BoolF cIs := fun x y d h => by unfold cIs at h; split at h <;> cases h <;> exact ⟨_, rfl⟩
theorem bf_isnot : BoolF cIsN := fun x y d h => by unfold cIsN at h; split at h <;> cases h <;> exact ⟨_, rfl⟩
/-- a op b op' c -/
def mChain (f g : D → D → Option D) (a b c : M) : M := fun env u => bnd (a env u) fun x u1 => bnd (b env u1) fun y u2 => match f x y with
  | some (.bl true) => bnd (c env u2) fun z u3 => lft (g y z) u3
  | some (.bl false) => some (.bl false, u2)
  | _ => none
theorem dv_chain {op op' : CmpOp} {f g : D → D → Option D} (hf : BinOk G (compareOp op) f) (hg : BinOk G (compareOp op') g) (ha : PE X a (tEv G ma)) (hb : PE X b (tEv G mb)) (hc : PE X c (tEv G mc))
    (hm : lastMarks [op, op'] [b, c] = false := by with_unfolding_all rfl) : PE X (.Compare a [op, op'] [b, c] pos) (tEv G (mChain f g ma mb mc)) := by
  refine (pe_chain (op_of hf) (op_of hg) ha hb hc hm).imp fun σ H Q h => ?_
  obtain ⟨ua, u, B, env, d, u', hE, hW, hm, q⟩ := h
  obtain ⟨x, u1, h1, h2⟩ := bnd_some hm
  obtain ⟨y, u2, h2, h3⟩ := bnd_some h2
  refine ⟨ua, u, B, env, x, u1, hE, hW, h1, fun v H1 ⟨B1, g1, w1, r1⟩ => ⟨ua, u1, B1, env, y, u2, hE.grow g1, w1, h2, fun v2 H2 ⟨B2, g2, w2, r2⟩ => ?_⟩⟩
  split at h3
  · rename_i hk
    obtain ⟨z, u3, h4, h5⟩ := bnd_some h3
    obtain ⟨l5, rfl⟩ := lft_some h5
    refine ⟨ua, u2, B2, x, y, _, hk, r1.mono _ _ g2.pub, r2, w2, fun v3 H3 a3 => ?_⟩
    obtain ⟨B3, g3, w3, r3⟩ := a3
    cases r3.bl
    refine ⟨true, rfl, ?_⟩
    rw [if_pos rfl]
    refine ⟨ua, u2, B3, env, z, u', (hE.grow (g1.trans g2)).grow g3, w3, h4, fun v4 H4 ⟨B4, g4, w4, r4⟩ => ?_⟩
    exact ⟨ua, u', B4, y, z, d, l5, (r2.mono _ _ g3.pub).mono _ _ g4.pub, r4, w4, fun v5 H5 a5 => q v5 H5 (.up g1 (.up g2 (.up g3 (.up g4 a5))))⟩
  · rename_i hk
    cases h3
    refine ⟨ua, _, B2, x, y, _, hk, r1.mono _ _ g2.pub, r2, w2, fun v3 H3 a3 => ?_⟩
    obtain ⟨B3, g3, w3, r3⟩ := a3
    cases r3.bl
    refine ⟨false, rfl, ?_⟩
    rw [if_neg Bool.false_ne_true]
    exact q _ _ ⟨B3, g1.trans (g2.trans g3), w3, rep_bl⟩
  · cases h3

/-! ### tests -/
def mTru (a : M) : MB := fun env u => bnd (a env u) fun x u1 => lft (truD x) u1
theorem dt_val (ha : PE X a (tEv G ma)) (he : ∀ whole, isTrue a X.env whole = (do let v ← whole; standAt a.pos; holding [v] (truthy v)) := by intro _; rfl) : PT X a (tTst G (mTru ma)) := by
  refine (pt_truth ha he).imp fun σ H Q h => ?_
  obtain ⟨ua, u, B, env, d, u', hE, hW, hm, q⟩ := h
  obtain ⟨x, u1, h1, h2⟩ := bnd_some hm
  obtain ⟨l2, rfl⟩ := lft_some h2
  exact ⟨ua, u, B, env, x, u', hE, hW, h1, fun v H1 ⟨B1, g1, w1, r1⟩ => ⟨d, rep_tru l2 r1 w1, q _ ⟨B1, g1, w1⟩⟩⟩
theorem dt_cmp {op : CmpOp} {f : D → D → Option D} (hf : BinOk G (compareOp op) f) (bf : BoolF f) (ha : PE X a (tEv G ma)) (hb : PE X b (tEv G mb)) (hm : behindInMarks op b = false := by rfl) : PT X (.Compare a [op] [b] pos) (tTst G (mTru (mBin f ma mb))) := by
  refine (pt_cmpR (op_of hf) ha hb hm).imp fun σ H Q h => ?_
  obtain ⟨ua, u, B, env, d, u', hE, hW, hm, q⟩ := h
  obtain ⟨x, u1, h1, h2⟩ := bnd_some hm
  obtain ⟨l2, rfl⟩ := lft_some h2
  obtain ⟨k, rfl⟩ : ∃ k, x = .bl k := by
    obtain ⟨x1, u3, h3, h4⟩ := bnd_some h1
    obtain ⟨x2, u4, h4, h5⟩ := bnd_some h4
    exact bf _ _ _ (lft_some h5).1
  unfold truD at l2; cases l2
  refine bin_read ⟨ua, u, B, env, _, u', hE, hW, h1, fun v H1 ⟨B1, g1, w1, r1⟩ => ?_⟩
  cases r1.bl
  exact ⟨_, rfl, q _ ⟨B1, g1, w1⟩⟩
theorem dt_chain {op op' : CmpOp} {f g : D → D → Option D} (hf : BinOk G (compareOp op) f) (hg : BinOk G (compareOp op') g) (bg : BoolF g) (ha : PE X a (tEv G ma)) (hb : PE X b (tEv G mb)) (hc : PE X c (tEv G mc))
    (hm : lastMarks [op, op'] [b, c] = false := by with_unfolding_all rfl) : PT X (.Compare a [op, op'] [b, c] pos) (tTst G (mTru (mChain f g ma mb mc))) := by
  refine (pt_chain (op_of hf) (op_of hg) ha hb hc hm).imp fun σ H Q h => ?_
  obtain ⟨ua, u, B, env, d, u', hE, hW, hm, q⟩ := h
  obtain ⟨x0, u0, h1, h2⟩ := bnd_some hm
  obtain ⟨h0, rfl⟩ := lft_some h2
  obtain ⟨x, u1, h1, h2⟩ := bnd_some h1
  obtain ⟨y, u2, h2, h3⟩ := bnd_some h2
  refine ⟨ua, u, B, env, x, u1, hE, hW, h1, fun v H1 ⟨B1, g1, w1, r1⟩ => ⟨ua, u1, B1, env, y, u2, hE.grow g1, w1, h2, fun v2 H2 ⟨B2, g2, w2, r2⟩ => ?_⟩⟩
  split at h3
  · rename_i hk
    obtain ⟨z, u3, h4, h5⟩ := bnd_some h3
    obtain ⟨l5, rfl⟩ := lft_some h5
    refine ⟨ua, u2, B2, x, y, _, hk, r1.mono _ _ g2.pub, r2, w2, fun v3 H3 a3 => ?_⟩
    obtain ⟨B3, g3, w3, r3⟩ := a3
    cases r3.bl
    refine ⟨true, rfl, ?_⟩
    rw [if_pos rfl]
    refine ⟨ua, u2, B3, env, z, u', (hE.grow (g1.trans g2)).grow g3, w3, h4, fun v4 H4 ⟨B4, g4, w4, r4⟩ => ?_⟩
    refine ⟨ua, u', B4, y, z, x0, l5, (r2.mono _ _ g3.pub).mono _ _ g4.pub, r4, w4, fun v5 H5 a5 => ?_⟩
    obtain ⟨k, rfl⟩ := bg _ _ _ l5
    unfold truD at h0; cases h0
    obtain ⟨B5, g5, w5, r5⟩ := a5
    cases r5.bl
    exact ⟨_, rfl, q _ ⟨B5, g1.trans (g2.trans (g3.trans (g4.trans g5))), w5⟩⟩
  · rename_i hk
    cases h3
    unfold truD at h0; cases h0
    refine ⟨ua, _, B2, x, y, _, hk, r1.mono _ _ g2.pub, r2, w2, fun v3 H3 a3 => ?_⟩
    obtain ⟨B3, g3, w3, r3⟩ := a3
    cases r3.bl
    refine ⟨false, rfl, ?_⟩
    rw [if_neg Bool.false_ne_true]
    exact ⟨false, rfl, q _ ⟨B3, g1.trans (g2.trans g3), w3⟩⟩
  · cases h3
variable {na nb : MB} {rest : List Expr}
def mNotB (a : MB) : MB := fun env u => bnd (a env u) fun k u1 => some (!k, u1)
def mAndB (a b : MB) : MB := fun env u => bnd (a env u) fun k u1 => if k = true then b env u1 else some (false, u1)
def mOrB (a b : MB) : MB := fun env u => bnd (a env u) fun k u1 => if k = true then some (true, u1) else b env u1
theorem dt_not (ha : PT X a (tTst G na)) : PT X (.UnaryOp .Not a pos) (tTst G (mNotB na)) := by
  refine (pt_not ha).imp fun σ H Q h => ?_
  obtain ⟨ua, u, B, env, d, u', hE, hW, hm, q⟩ := h
  obtain ⟨k, u1, h1, h2⟩ := bnd_some hm
  cases h2
  exact ⟨ua, u, B, env, k, _, hE, hW, h1, fun H1 g => q _ g⟩
theorem dw_and1 (ha : PT X a (tTst G na)) : PW X (.BoolOp .And [a] pos) (tTst G na) := pw_and1 ha
theorem dw_or1 (ha : PT X a (tTst G na)) : PW X (.BoolOp .Or [a] pos) (tTst G na) := pw_or1 ha
theorem dw_and (ha : PT X a (tTst G na)) (hb : PW X (.BoolOp .And (b :: rest) pos) (tTst G nb)) : PW X (.BoolOp .And (a :: b :: rest) pos) (tTst G (mAndB na nb)) := by
  refine (pw_and ha hb).imp fun σ H Q h => ?_
  obtain ⟨ua, u, B, env, d, u', hE, hW, hm, q⟩ := h
  obtain ⟨k, u1, h1, h2⟩ := bnd_some hm
  refine ⟨ua, u, B, env, k, _, hE, hW, h1, fun H1 ⟨B1, g1, w1⟩ => ?_⟩
  cases k with
  | true => rw [if_pos rfl] at h2 ⊢; exact ⟨ua, u1, B1, env, d, u', hE.grow g1, w1, h2, fun H2 ⟨B2, g2, w2⟩ => q _ ⟨B2, g1.trans g2, w2⟩⟩
  | false => rw [if_neg Bool.false_ne_true] at h2 ⊢; cases h2; exact q _ ⟨B1, g1, w1⟩
theorem dw_or (ha : PT X a (tTst G na)) (hb : PW X (.BoolOp .Or (b :: rest) pos) (tTst G nb)) : PW X (.BoolOp .Or (a :: b :: rest) pos) (tTst G (mOrB na nb)) := by
  refine (pw_or ha hb).imp fun σ H Q h => ?_
  obtain ⟨ua, u, B, env, d, u', hE, hW, hm, q⟩ := h
  obtain ⟨k, u1, h1, h2⟩ := bnd_some hm
  refine ⟨ua, u, B, env, k, _, hE, hW, h1, fun H1 ⟨B1, g1, w1⟩ => ?_⟩
  cases k with
  | false => rw [if_neg Bool.false_ne_true] at h2 ⊢; exact ⟨ua, u1, B1, env, d, u', hE.grow g1, w1, h2, fun H2 ⟨B2, g2, w2⟩ => q _ ⟨B2, g1.trans g2, w2⟩⟩
  | true => rw [if_pos rfl] at h2 ⊢; cases h2; exact q _ ⟨B1, g1, w1⟩
/-! ### not, and, or as values; a if t else b -/
def mNot (a : M) : M := fun env u => bnd (a env u) fun x u1 => bnd (lft (truD x) u1) fun k u2 => some (.bl (!k), u2)
def mAnd (a b : M) : M := fun env u => bnd (a env u) fun x u1 => bnd (lft (truD x) u1) fun k u2 => if k = true then b env u2 else some (x, u2)
def mOr (a b : M) : M := fun env u => bnd (a env u) fun x u1 => bnd (lft (truD x) u1) fun k u2 => if k = true then some (x, u2) else b env u2
theorem dv_not (ha : PE X a (tEv G ma)) : PE X (.UnaryOp .Not a pos) (tEv G (mNot ma)) := by
  refine (pe_notT ha).imp fun σ H Q h => ?_
  obtain ⟨ua, u, B, env, d, u', hE, hW, hm, q⟩ := h
  obtain ⟨x, u1, h1, h2⟩ := bnd_some hm
  obtain ⟨k, u2, h2, h3⟩ := bnd_some h2
  obtain ⟨l2, rfl⟩ := lft_some h2
  cases h3
  exact ⟨ua, u, B, env, x, _, hE, hW, h1, fun v H1 ⟨B1, g1, w1, r1⟩ => ⟨k, rep_tru l2 r1 w1, q _ _ ⟨B1, g1, w1, rep_bl⟩⟩⟩
theorem dv_one (op : PySem.BoolOp) (ha : PE X a (tEv G ma)) : PE X (.BoolOp op [a] pos) (tEv G ma) := pe_one ha
theorem dv_and (ha : PE X a (tEv G ma)) (hb : PE X (.BoolOp .And (b :: rest) pos) (tEv G mb)) : PE X (.BoolOp .And (a :: b :: rest) pos) (tEv G (mAnd ma mb)) := by
  refine (pe_andT ha hb).imp fun σ H Q h => ?_
  obtain ⟨ua, u, B, env, d, u', hE, hW, hm, q⟩ := h
  obtain ⟨x, u1, h1, h2⟩ := bnd_some hm
  obtain ⟨k, u2, h2, h3⟩ := bnd_some h2
  obtain ⟨l2, rfl⟩ := lft_some h2
  refine ⟨ua, u, B, env, x, _, hE, hW, h1, fun v H1 ⟨B1, g1, w1, r1⟩ => ⟨k, rep_tru l2 r1 w1, ?_⟩⟩
  cases k with
  | true => rw [if_pos rfl] at h3 ⊢; exact ⟨ua, _, B1, env, d, u', hE.grow g1, w1, h3, fun v2 H2 a2 => q _ _ (.up g1 a2)⟩
  | false => rw [if_neg Bool.false_ne_true] at h3 ⊢; cases h3; exact q _ _ ⟨B1, g1, w1, r1⟩
theorem dv_or (ha : PE X a (tEv G ma)) (hb : PE X (.BoolOp .Or (b :: rest) pos) (tEv G mb)) : PE X (.BoolOp .Or (a :: b :: rest) pos) (tEv G (mOr ma mb)) := by
  refine (pe_orT ha hb).imp fun σ H Q h => ?_
  obtain ⟨ua, u, B, env, d, u', hE, hW, hm, q⟩ := h
  obtain ⟨x, u1, h1, h2⟩ := bnd_some hm
  obtain ⟨k, u2, h2, h3⟩ := bnd_some h2
  obtain ⟨l2, rfl⟩ := lft_some h2
  refine ⟨ua, u, B, env, x, _, hE, hW, h1, fun v H1 ⟨B1, g1, w1, r1⟩ => ⟨k, rep_tru l2 r1 w1, ?_⟩⟩
  cases k with
  | false => rw [if_neg Bool.false_ne_true] at h3 ⊢; exact ⟨ua, _, B1, env, d, u', hE.grow g1, w1, h3, fun v2 H2 a2 => q _ _ (.up g1 a2)⟩
  | true => rw [if_pos rfl] at h3 ⊢; cases h3; exact q _ _ ⟨B1, g1, w1, r1⟩
def mIte (c : MB) (a b : M) : M := fun env u => bnd (c env u) fun k u1 => if k = true then a env u1 else b env u1
theorem dv_ite (hc : PT X c (tTst G na)) (ha : PE X a (tEv G ma)) (hb : PE X b (tEv G mb)) : PE X (.IfExp c a b pos) (tEv G (mIte na ma mb)) := by
  refine (pe_ifExp hc ha hb).imp fun σ H Q h => ?_
  obtain ⟨ua, u, B, env, d, u', hE, hW, hm, q⟩ := h
  obtain ⟨k, u1, h1, h2⟩ := bnd_some hm
  refine ⟨ua, u, B, env, k, _, hE, hW, h1, fun H1 ⟨B1, g1, w1⟩ => ?_⟩
  cases k with
  | true => rw [if_pos rfl] at h2 ⊢; exact ⟨ua, u1, B1, env, d, u', hE.grow g1, w1, h2, fun v2 H2 a2 => q _ _ (.up g1 a2)⟩
  | false => rw [if_neg Bool.false_ne_true] at h2 ⊢; exact ⟨ua, u1, B1, env, d, u', hE.grow g1, w1, h2, fun v2 H2 a2 => q _ _ (.up g1 a2)⟩
end
end Dv

/-! Dv4: calls, built-ins, subscripts, texts. -/
namespace Dv
open PySem PySem.Spec PyProof.Rows L2

/-! ### defs -/
def spF {K : PySem.W.Frag} (G : Gx K) (F : List D → U → Option (D × U)) (n : Nat) : Sp := fun vs H Q _ => ∃ ua u B ds d u', Reps G ua ds vs B ∧ ds.length = n ∧ Wd ua u B H ∧ F ds u = some (d, u') ∧ ∀ v H', Aft G ua B H u' d v H' → Q v H'
/-- the def x of the module, called by place, does F -/
def DefOk (P : Program) (w : World) {K : PySem.W.Frag} (mg : Str → Option Value) (base : Heap) (G : Gx K) (x : Str) (k n : Nat) (F : List D → U → Option (D × U)) : Prop :=
  ∃ f fd ps, FnOk P w K mg base CX0 k f fd ps (spF G F n) ∧ mg x = some (.ref f) ∧ PySem.W.keepIn K (.ref f) = true ∧ Binds K fd ps []
theorem DefOk.mono {P : Program} {w : World} {K : PySem.W.Frag} {mg : Str → Option Value} {base : Heap} {G : Gx K} {x : Str} {j k n : Nat} {F : List D → U → Option (D × U)} (h : DefOk P w mg base G x j n F) (l : j ≤ k) : DefOk P w mg base G x k n F := by
  obtain ⟨f, fd, ps, h1, h2⟩ := h
  exact ⟨f, fd, ps, h1.mono l, h2⟩
def mCall (n : Nat) (F : List D → U → Option (D × U)) (m : Ms) : M := fun env u => bnd (m env u) fun ds u1 => if ds.length = n then F ds u1 else none
section
variable {X : Cx} {G : Gx X.K} {a b c e : Expr} {es : List Expr} {ma mb mc : M} {ms : Ms} {pos p : Pos}
theorem dv_call {x : Str} {k n : Nat} {F : List D → U → Option (D × U)} (D0 : DefOk X.prog X.w X.mg X.base G x k n F) (hr : Room k X.A) (hg : Gl X x) (ha : PA X (e :: es) (tEvs G ms))
    (hdb : (x == ("__debug__" : Str)) = false := by decide) (he : starEach (e :: es) X.env = (false, eval e X.env) :: starEach es X.env := by rfl) (hpl : (backTo pos (starEach es X.env)).any (·.1) = false := by rfl) :
    PE X (.Call (.Name x p) (e :: es) [] pos) (tEv G (mCall n F ms)) := by
  obtain ⟨f, fd, ps, hf, hm, hk, hb⟩ := D0
  refine (pe_call hf hr hg hm hk hb .nil pass0 ha hdb he hpl).imp fun σ H Q h => ?_
  obtain ⟨ua, u, B, env, d, u', hE, hW, hm, q⟩ := h
  obtain ⟨ds, u1, h1, h2⟩ := bnd_some hm
  split at h2
  · refine ⟨ua, u, B, env, ds, u1, hE, hW, h1, fun vs H1 ⟨B1, g1, w1, r1⟩ => ?_⟩
    show spF G F n (vs ++ []) H1 Q E0
    rw [List.append_nil]
    exact ⟨ua, u1, B1, ds, d, u', r1, ‹_›, w1, h2, fun v H2 a => q _ _ (.up g1 a)⟩
  · cases h2
theorem dv_call0 {x : Str} {k : Nat} {F : List D → U → Option (D × U)} (D0 : DefOk X.prog X.w X.mg X.base G x k 0 F) (hr : Room k X.A) (hg : Gl X x)
    (hdb : (x == ("__debug__" : Str)) = false := by decide) : PE X (.Call (.Name x p) [] [] pos) (tEv G (mCall 0 F mNil)) := by
  obtain ⟨f, fd, ps, hf, hm, hk, hb⟩ := D0
  refine (pe_call0 hf hr hg hm hk hb .nil pass0 hdb).imp fun σ H Q h => ?_
  obtain ⟨ua, u, B, env, d, u', hE, hW, hm, q⟩ := h
  obtain ⟨ds, u1, h1, h2⟩ := bnd_some hm
  cases h1
  have h2 : F [] u = some (d, u') := h2
  exact ⟨ua, u, B, [], d, u', .nil, rfl, hW, h2, fun v H2 a => q _ _ a⟩

/-! ### built-ins -/
def BiOk {X : Cx} (G : Gx X.K) (f : Value) (sem : List D → Option D) : Prop := ∀ (ua : Option Addr) (u : U) (B H : Hp) (ds : List D) (d : D) (vs : List V), sem ds = some d → Reps G ua ds vs B → Wd ua u B H →
  ∃ r, CallR X f r ∧ r vs H (Aft G ua B H u d)
def rBi (G : Gx X.K) (sem : List D → Option D) : List V → Hp → VK → Prop := fun vs H Q => ∃ ua u B ds d, sem ds = some d ∧ Reps G ua ds vs B ∧ Wd ua u B H ∧ ∀ v H', Aft G ua B H u d v H' → Q v H'
theorem call_of {f : Value} {sem : List D → Option D} (hf : BiOk G f sem) : CallR X f (rBi G sem) := by
  intro pins s σ H xs us Q I r h
  obtain ⟨ua, u0, B, ds, d, e, rs, w, q⟩ := h
  obtain ⟨r', hr, hc⟩ := hf ua u0 B H ds d xs e rs w
  exact thn (hr pins s σ H xs us _ I r hc) fun v s ⟨z, H', I', r', a⟩ => ⟨z, H', I', r', q _ _ a⟩
def mBi (sem : List D → Option D) (m : Ms) : M := fun env u => bnd (m env u) fun ds u1 => lft (sem ds) u1
theorem bi_read {sem : List D → Option D} {σ : L2.St} {H : Hp} {Q : VK} (h : tEv G (mBi sem ms) σ H Q) : tCB (rBi G sem) (tEvs G ms) σ H Q := by
  obtain ⟨ua, u, B, env, d, u', hE, hW, hm, q⟩ := h
  obtain ⟨ds, u1, h1, h2⟩ := bnd_some hm
  obtain ⟨l2, rfl⟩ := lft_some h2
  exact ⟨ua, u, B, env, ds, u', hE, hW, h1, fun vs H1 ⟨B1, g1, w1, r1⟩ => ⟨ua, u', B1, ds, d, l2, r1, w1, fun v H2 a => q _ _ (.up g1 a)⟩⟩
theorem dv_bi {x : Str} {id : String} {sem : List D → Option D} (hc : BiOk G (.builtin id) sem) (hg : Gl X x) (hm : X.mg x = none) (hv : bootBuiltins x = some (.builtin id)) (ha : PA X (e :: es) (tEvs G ms)) (hn : x ≠ "__name__" := by decide) (hdb : (x == ("__debug__" : Str)) = false := by decide)
    (he : starEach (e :: es) X.env = (false, eval e X.env) :: starEach es X.env := by rfl) (hpl : (backTo pos (starEach es X.env)).any (·.1) = false := by rfl) : PE X (.Call (.Name x p) (e :: es) [] pos) (tEv G (mBi sem ms)) :=
  (pe_callB (call_of hc) hg hm hv ha hn hdb he hpl).imp fun _ _ _ h => bi_read h
theorem dv_ty {x : Str} {T : String} {sem : List D → Option D} (hc : BiOk G (.type T) sem) (hg : Gl X x) (hm : X.mg x = none) (hv : bootBuiltins x = some (.type T)) (ha : PA X (e :: es) (tEvs G ms)) (hn : x ≠ "__name__" := by decide) (hdb : (x == ("__debug__" : Str)) = false := by decide)
    (he : starEach (e :: es) X.env = (false, eval e X.env) :: starEach es X.env := by rfl) (hpl : (backTo pos (starEach es X.env)).any (·.1) = false := by rfl) : PE X (.Call (.Name x p) (e :: es) [] pos) (tEv G (mBi sem ms)) :=
  (pe_callTy (call_of hc) hg hm hv ha hn hdb he hpl).imp fun _ _ _ h => bi_read h

def bLen : List D → Option D
  | [.lst ds] => some (.int ds.length)
  | [.tup ds] => some (.int ds.length)
  | [.str x] => if x.length ≤ sizeLine then some (.int x.length) else none
  | _ => none
def bAbs : List D → Option D
  | [.int i] => some (.int (if i < 0 then -i else i))
  | _ => none
def bInt : List D → Option D
  | [.int i] => some (.int i)
  | [.bl k] => some (.int (if k then 1 else 0))
  | _ => none
def bMax2 : List D → Option D
  | [.int i, .int j] => some (.int (if j > i then j else i))
  | _ => none
def blsOf : List D → Option (List Bool)
  | [] => some []
  | .bl b :: r => (blsOf r).map fun bs => b :: bs
  | _ :: _ => none
def strsOf : List D → Option (List Str)
  | [] => some []
  | .str b :: r => (strsOf r).map fun bs => b :: bs
  | _ :: _ => none
theorem blsOf_eq : ∀ {ds : List D} {bs : List Bool}, blsOf ds = some bs → ds = bs.map .bl
  | [], bs, h => by unfold blsOf at h; cases h; rfl
  | d :: ds, bs, h => by
    cases d with
    | bl b =>
      unfold blsOf at h
      cases q : blsOf ds with
      | none => rw [q] at h; cases h
      | some r => rw [q] at h; cases h; rw [blsOf_eq q]; rfl
    | _ => unfold blsOf at h; cases h
theorem strsOf_eq : ∀ {ds : List D} {bs : List Str}, strsOf ds = some bs → ds = bs.map .str
  | [], bs, h => by unfold strsOf at h; cases h; rfl
  | d :: ds, bs, h => by
    cases d with
    | str b =>
      unfold strsOf at h
      cases q : strsOf ds with
      | none => rw [q] at h; cases h
      | some r => rw [q] at h; cases h; rw [strsOf_eq q]; rfl
    | _ => unfold strsOf at h; cases h
def bAll : List D → Option D
  | [.lst ds] => (blsOf ds).map fun bs => .bl (bs.all id)
  | _ => none
def bList : List D → Option D
  | [.lst ds] => some (.lst ds)
  | [.tup ds] => some (.lst ds)
  | _ => none
def bTuple : List D → Option D
  | [.lst ds] => some (.tup ds)
  | [.tup ds] => some (.tup ds)
  | _ => none
/-- insertion by the texts' order -/
def insS (x : Str) : List Str → List Str
  | [] => [x]
  | y :: r => if y.cps.toList < x.cps.toList then y :: insS x r else x :: y :: r
def sortS : List Str → List Str
  | [] => []
  | x :: r => insS x (sortS r)
def leS (a b : Str) : Prop := a.cps.toList ≤ b.cps.toList
theorem leS_refl (a : Str) : leS a a := List.not_lt.mp (List.lt_irrefl _)
theorem leS_anti {a b : Str} (h : leS a b) (h' : leS b a) : a = b := by
  have e : a.cps.toList = b.cps.toList := List.le_antisymm h h'
  obtain ⟨⟨x⟩⟩ := a
  obtain ⟨⟨y⟩⟩ := b
  have e' : x = y := e
  rw [e']
theorem insS_perm (x : Str) : ∀ l : List Str, (insS x l).Perm (x :: l)
  | [] => .refl _
  | y :: r => by
    unfold insS
    split
    · exact ((insS_perm x r).cons y).trans (.swap x y r)
    · exact .refl _
theorem sortS_perm : ∀ l : List Str, (sortS l).Perm l
  | [] => .refl _
  | x :: r => (insS_perm x _).trans ((sortS_perm r).cons x)
theorem insS_sorted (x : Str) : ∀ l : List Str, l.Pairwise leS → (insS x l).Pairwise leS
  | [], _ => by unfold insS; exact List.pairwise_singleton _ _
  | y :: r, h => by
    have h1 := List.pairwise_cons.mp h
    unfold insS
    split
    · rename_i hl
      refine List.pairwise_cons.mpr ⟨fun z hz => ?_, insS_sorted x r h1.2⟩
      rcases List.mem_cons.mp ((insS_perm x r).subset hz) with rfl | hz
      · exact List.not_lt.mp (fun q => List.lt_irrefl _ (List.lt_trans hl q))
      · exact h1.1 z hz
    · rename_i hl
      have hxy : leS x y := List.not_lt.mp hl
      refine List.pairwise_cons.mpr ⟨fun z hz => ?_, h⟩
      rcases List.mem_cons.mp hz with rfl | hz
      · exact hxy
      · exact List.le_trans hxy (h1.1 z hz)
theorem sortS_sorted : ∀ l : List Str, (sortS l).Pairwise leS
  | [] => .nil
  | x :: r => insS_sorted x _ (sortS_sorted r)
theorem rising_pw : ∀ (p : Str) (l : List Str), risingS p l = true → (p :: l).Pairwise leS
  | p, [], _ => List.pairwise_singleton _ _
  | p, x :: r, h => by
    unfold risingS at h
    simp only [Bool.and_eq_true, Bool.not_eq_true'] at h
    have h1 : leS p x := by
      have := h.1
      rw [ltCps_eq] at this
      exact List.not_lt.mp (of_decide_eq_false this)
    have h2 := rising_pw x r h.2
    refine List.pairwise_cons.mpr ⟨fun z hz => ?_, h2⟩
    rcases List.mem_cons.mp hz with rfl | hz
    · exact h1
    · exact List.le_trans h1 ((List.pairwise_cons.mp h2).1 z hz)
theorem sorted_pw (l : List Str) (h : sortedS l = true) : l.Pairwise leS := by
  cases l with
  | nil => exact .nil
  | cons x r => exact rising_pw x r h
theorem sortS_uniq {xs ys : List Str} (p : ys.Perm xs) (h : sortedS ys = true) : ys = sortS xs :=
  List.Perm.eq_of_pairwise (fun _ _ _ _ h1 h2 => leS_anti h1 h2) (sorted_pw _ h) (sortS_sorted xs) (p.trans (sortS_perm xs).symm)
def bSorted : List D → Option D
  | [.lst ds] => (strsOf ds).bind fun xs => if xs.length < 64 then some (.lst ((sortS xs).map .str)) else none
  | _ => none
theorem ok_len : BiOk G (.builtin "len") bLen := by
  intro ua u B H ds d vs e rs w
  unfold bLen at e
  split at e
  · cases e
    obtain ⟨v, t, rfl, r1, r2⟩ := rs.of_cons
    rw [r2.of_nil]
    obtain ⟨a, ys, rfl, h, r3⟩ := r1.lst
    exact ⟨_, call_len_seq, a, ys, rfl, .inl (.of (w.sub _ _ h)), .here w (by rw [← r3.len]; exact rep_int)⟩
  · cases e
    obtain ⟨v, t, rfl, r1, r2⟩ := rs.of_cons
    rw [r2.of_nil]
    obtain ⟨a, ys, rfl, h, r3⟩ := r1.tup
    exact ⟨_, call_len_seq, a, ys, rfl, .inr (.of (w.sub _ _ h)), .here w (by rw [← r3.len]; exact rep_int)⟩
  · split at e
    · cases e
      obtain ⟨v, t, rfl, r1, r2⟩ := rs.of_cons
      rw [r2.of_nil]
      cases r1.str
      exact ⟨_, call_len_str, _, rfl, ‹_›, .here w rep_int⟩
    · cases e
  · cases e
theorem ok_abs : BiOk G (.builtin "abs") bAbs := by
  intro ua u B H ds d vs e rs w
  unfold bAbs at e
  split at e
  · cases e
    obtain ⟨v, t, rfl, r1, r2⟩ := rs.of_cons
    rw [r2.of_nil]
    cases r1.int
    exact ⟨_, call_abs, _, rfl, .here w rep_int⟩
  · cases e
theorem ok_int : BiOk G (.type "int") bInt := by
  intro ua u B H ds d vs e rs w
  unfold bInt at e
  split at e
  · cases e
    obtain ⟨v, t, rfl, r1, r2⟩ := rs.of_cons
    rw [r2.of_nil]
    cases r1.int
    exact ⟨_, call_int1, .inl ⟨_, rfl, .here w rep_int⟩⟩
  · cases e
    obtain ⟨v, t, rfl, r1, r2⟩ := rs.of_cons
    rw [r2.of_nil]
    cases r1.bl
    exact ⟨_, call_int1, .inr ⟨_, rfl, .here w rep_int⟩⟩
  · cases e
theorem ok_max2 (hc : X.calm = true) : BiOk G (.builtin "max") bMax2 := by
  intro ua u B H ds d vs e rs w
  unfold bMax2 at e
  split at e
  · cases e
    obtain ⟨v, t, rfl, r1, r2⟩ := rs.of_cons
    obtain ⟨v2, t, rfl, r2, r3⟩ := r2.of_cons
    rw [r3.of_nil]
    cases r1.int
    cases r2.int
    exact ⟨_, call_max2 hc, _, _, rfl, .here w rep_int⟩
  · cases e
theorem ok_all (hc : X.calm = true) : BiOk G (.builtin "all") bAll := by
  intro ua u B H ds d vs e rs w
  unfold bAll at e
  split at e
  · rename_i ds
    cases q : blsOf ds with
    | none => rw [q] at e; cases e
    | some bs =>
      rw [q] at e; cases e
      obtain ⟨v, t, rfl, r1, r2⟩ := rs.of_cons
      rw [r2.of_nil]
      obtain ⟨a, ys, rfl, h, r3⟩ := r1.lst
      rw [blsOf_eq q] at r3
      rw [r3.bls_of] at h
      exact ⟨_, cr_all hc, a, bs, rfl, .of (w.sub _ _ h), .here w rep_bl⟩
  · cases e
theorem ok_list : BiOk G (.type "list") bList := by
  intro ua u B H ds d vs e rs w
  unfold bList at e
  split at e
  · cases e
    obtain ⟨v, t, rfl, r1, r2⟩ := rs.of_cons
    rw [r2.of_nil]
    obtain ⟨a, ys, rfl, h, r3⟩ := r1.lst
    exact ⟨_, call_list_of, a, ys, rfl, .inl (.of (w.sub _ _ h)), fun l hl => .lst w hl r3⟩
  · cases e
    obtain ⟨v, t, rfl, r1, r2⟩ := rs.of_cons
    rw [r2.of_nil]
    obtain ⟨a, ys, rfl, h, r3⟩ := r1.tup
    exact ⟨_, call_list_of, a, ys, rfl, .inr (.of (w.sub _ _ h)), fun l hl => .lst w hl r3⟩
  · cases e
theorem ok_tuple : BiOk G (.type "tuple") bTuple := by
  intro ua u B H ds d vs e rs w
  unfold bTuple at e
  split at e
  · cases e
    obtain ⟨v, t, rfl, r1, r2⟩ := rs.of_cons
    rw [r2.of_nil]
    obtain ⟨a, ys, rfl, h, r3⟩ := r1.lst
    exact ⟨_, call_tuple_of, a, ys, rfl, .inl ⟨.of (w.sub _ _ h), fun l hl => .tup w hl r3⟩⟩
  · cases e
    obtain ⟨v, t, rfl, r1, r2⟩ := rs.of_cons
    rw [r2.of_nil]
    have r1' := r1
    obtain ⟨a, ys, rfl, h, r3⟩ := r1.tup
    exact ⟨_, call_tuple_of, a, ys, rfl, .inr ⟨.of (w.sub _ _ h), .here w r1'⟩⟩
  · cases e
theorem ok_sorted : BiOk G (.builtin "sorted") bSorted := by
  intro ua u B H ds d vs e rs w
  unfold bSorted at e
  split at e
  · rename_i ds
    cases q : strsOf ds with
    | none => rw [q] at e; cases e
    | some xs =>
      rw [q] at e
      simp only [Option.bind_some] at e
      split at e
      · cases e
        obtain ⟨v, t, rfl, r1, r2⟩ := rs.of_cons
        rw [r2.of_nil]
        obtain ⟨a, ys, rfl, h, r3⟩ := r1.lst
        rw [strsOf_eq q] at r3
        rw [r3.strs_of] at h
        refine ⟨_, cr_sortedS, a, xs, rfl, .of (w.sub _ _ h), ‹_›, fun ys p hp hs hn => ?_⟩
        rw [sortS_uniq hp hs]
        exact .lst w hn Reps.strs
      · cases e
  · cases e

/-! ### isinstance -/
def tyN : D → Option String
  | .non => some "NoneType"
  | .bl _ => some "bool"
  | .int _ => some "int"
  | .str _ => some "str"
  | .lst _ => some "list"
  | .tup _ => some "tuple"
  | _ => none
def kitAnyB (t : String) : List String → Option Bool
  | [] => some false
  | n :: r => match kitB t n with
    | some true => some true
    | some false => kitAnyB t r
    | none => none
def plainTys : List String := ["str", "int", "bool", "list", "tuple"]
def isiD (d : D) (ts : List String) : Option Bool := match d with
  | .ins _ _ _ => if ts.all (plainTys.contains ·) then some false else none
  | d => (tyN d).bind fun t => kitAnyB t ts
theorem kitAny_of {K : PySem.W.Frag} {t : String} : ∀ {ts : List String} {b : Bool}, kitAnyB t ts = some b → PySem.W.kitAny K (.type t) (ts.map Value.type) = some b
  | [], b, h => by unfold kitAnyB at h; cases h; rfl
  | n :: r, b, h => by
    unfold kitAnyB at h
    show PySem.W.kitAny K (.type t) (.type n :: r.map Value.type) = some b
    split at h
    · rename_i q; cases h; exact kitAny_cons (kit_ty q) (fun z => nomatch z) (fun _ => rfl)
    · rename_i q; exact kitAny_cons (kit_ty q) (fun _ => kitAny_of h) (fun z => nomatch z)
    · cases h
theorem InsOk.one {K : PySem.W.Frag} {C : Addr} (h : InsOk K C) {n : String} (hn : plainTys.contains n = true) : PySem.W.kitOne K (.ref C) (.type n) = some false := by
  simp only [plainTys, List.contains_cons, List.contains_nil, Bool.or_eq_true, beq_iff_eq, Bool.or_false] at hn
  rcases hn with rfl | rfl | rfl | rfl | rfl
  · exact h.kStr
  · exact h.kInt
  · exact h.kBool
  · exact h.kList
  · exact h.kTup
theorem InsOk.any {K : PySem.W.Frag} {C : Addr} (h : InsOk K C) : ∀ {ts : List String}, ts.all (plainTys.contains ·) = true → PySem.W.kitAny K (.ref C) (ts.map Value.type) = some false
  | [], _ => rfl
  | n :: r, hn => by
    simp only [List.all_cons, Bool.and_eq_true] at hn
    exact kitAny_cons (h.one hn.1) (fun _ => InsOk.any h hn.2) (fun z => nomatch z)
theorem rep_isi {ua : Option Addr} {u : U} {B H : Hp} {d : D} {v : V} {ts : List String} {k : Bool} (e : isiD d ts = some k) (r : Rep G ua d v B) (w : Wd ua u B H) : ∃ t, TyX X.K H v t ∧ PySem.W.kitAny X.K t (ts.map Value.type) = some k := by
  unfold isiD at e
  cases d with
  | non => cases r.non; exact ⟨_, .base .non, kitAny_of e⟩
  | bl b => cases r.bl; exact ⟨_, .base (.bl b), kitAny_of e⟩
  | int b => cases r.int; exact ⟨_, .base (.int b), kitAny_of e⟩
  | str b => cases r.str; exact ⟨_, .base (.str b), kitAny_of e⟩
  | lst b => obtain ⟨a, vs, rfl, h, _⟩ := r.lst; exact ⟨_, .base (.lst (w.sub _ _ h)), kitAny_of e⟩
  | tup b => obtain ⟨a, vs, rfl, h, _⟩ := r.tup; exact ⟨_, .base (.tup (w.sub _ _ h)), kitAny_of e⟩
  | ins c ns xs =>
    unfold Rep at r
    obtain ⟨a, C, dx, vs, rfl, hc, h, _⟩ := r
    have i := G.ok c C hc
    dsimp only at e
    split at e
    · cases e; exact ⟨_, .base (.ins (w.sub _ _ h) i.cl i.ha i.hn i.htk i.hm), i.any ‹_›⟩
    · cases e
  | urn => exact absurd e (by simp [tyN])
def mIsi (ts : List String) (a : M) : M := fun env u => bnd (a env u) fun x u1 => lft ((isiD x ts).map .bl) u1
theorem map_some {α β : Type} {o : Option α} {f : α → β} {b : β} (h : o.map f = some b) : ∃ a, o = some a ∧ f a = b := by
  cases o with
  | none => cases h
  | some a => exact ⟨a, rfl, Option.some.inj h⟩
/-- isinstance(e, T) -/
theorem dv_isi {T : Str} {n : String} {pT : Pos} (hg : Gl X "isinstance") (hm : X.mg "isinstance" = none) (ha : PE X a (tEv G ma)) (hgT : Gl X T) (hmT : X.mg T = none) (hvT : bootBuiltins T = some (.type n)) (hnT : T ≠ "__name__" := by decide) (hdT : (T == ("__debug__" : Str)) = false := by decide)
    (hs : starEach (a :: [.Name T pT]) X.env = (false, eval a X.env) :: starEach [.Name T pT] X.env := by rfl) : PE X (.Call (.Name "isinstance" p) [a, .Name T pT] [] pos) (tEv G (mIsi [n] ma)) := by
  refine (pe_callB call_isi hg hm (by decide +kernel) (pa_cons ha (pa_cons (pe_bltn (v := .ty n) hgT hmT hvT rfl hnT hdT) pa_nil) hs) (he := hs)).imp fun σ H Q h => ?_
  obtain ⟨ua, u, B, env, d, u', hE, hW, hm, q⟩ := h
  obtain ⟨x, u1, h1, h2⟩ := bnd_some hm
  obtain ⟨l2, rfl⟩ := lft_some h2
  obtain ⟨k, e, rfl⟩ := map_some l2
  refine ⟨ua, u, B, env, x, u', hE, hW, h1, fun v H1 ⟨B1, g1, w1, r1⟩ => ?_⟩
  obtain ⟨t, ty, kk⟩ := rep_isi e r1 w1
  refine ⟨v, .ty n, t, .type n, k, rfl, .ty n, ty, ?_, q _ _ ⟨B1, g1, w1, rep_bl⟩⟩
  have kk : PySem.W.kitAny X.K t [Value.type n] = some k := kk
  unfold PySem.W.kitAny at kk
  split at kk
  · rename_i z; cases kk; exact z
  · rename_i z; cases kk; exact z
  · cases kk
theorem dv_isi2 {T T2 : Str} {n n2 : String} {pT pT2 pt : Pos} {kt : Nat} (hg : Gl X "isinstance") (hm : X.mg "isinstance" = none) (ha : PE X a (tEv G ma)) (hgT : Gl X T) (hmT : X.mg T = none) (hvT : bootBuiltins T = some (.type n)) (hgT2 : Gl X T2) (hmT2 : X.mg T2 = none) (hvT2 : bootBuiltins T2 = some (.type n2))
    (hnT : T ≠ "__name__" := by decide) (hdT : (T == ("__debug__" : Str)) = false := by decide) (hnT2 : T2 ≠ "__name__" := by decide) (hdT2 : (T2 == ("__debug__" : Str)) = false := by decide)
    (hs : starEach (a :: [.Tuple [.Name T pT, .Name T2 pT2] kt pt]) X.env = (false, eval a X.env) :: starEach [.Tuple [.Name T pT, .Name T2 pT2] kt pt] X.env := by rfl) :
    PE X (.Call (.Name "isinstance" p) [a, .Tuple [.Name T pT, .Name T2 pT2] kt pt] [] pos) (tEv G (mIsi [n, n2] ma)) := by
  refine (pe_callB call_isiT hg hm (by decide +kernel) (pa_cons ha (pa_cons (pe_tup (pa_cons (pe_bltn (v := .ty n) hgT hmT hvT rfl hnT hdT) (pa_cons (pe_bltn (v := .ty n2) hgT2 hmT2 hvT2 rfl hnT2 hdT2) pa_nil))) pa_nil) hs) (he := hs)).imp fun σ H Q h => ?_
  obtain ⟨ua, u, B, env, d, u', hE, hW, hm, q⟩ := h
  obtain ⟨x, u1, h1, h2⟩ := bnd_some hm
  obtain ⟨l2, rfl⟩ := lft_some h2
  obtain ⟨k, e, rfl⟩ := map_some l2
  refine ⟨ua, u, B, env, x, u', hE, hW, h1, fun v H1 ⟨B1, g1, w1, r1⟩ => ?_⟩
  refine ⟨by show 2 ≤ sizeLine; decide, fun tp htp => ?_⟩
  have w2 : Wd ua u' (upd B1 tp (.tup [.ty n, .ty n2])) (upd H1 tp (.tup [.ty n, .ty n2])) := w1.new1 htp
  have g2 : Grow ua B1 H1 (upd B1 tp (.tup [.ty n, .ty n2])) (upd H1 tp (.tup [.ty n, .ty n2])) := .new1 w1 htp
  obtain ⟨t, ty, kk⟩ := rep_isi e (r1.mono _ _ g2.pub) w2
  exact ⟨v, tp, [.ty n, .ty n2], t, [.type n, .type n2], k, rfl, upd_same, .cons (.ty n) (.cons (.ty n2) .nil), ty, kk, q _ _ ⟨_, g1.trans g2, w2, rep_bl⟩⟩

/-! ### subscripts, slices -/
def ixD : D → D → Option D
  | .lst ds, .int i => atI ds i
  | .tup ds, .int i => atI ds i
  | .str z, .int i => if z.length ≤ sizeLine then (atI z.cps.toList i).map fun c => .str ⟨#[c]⟩ else none
  | _, _ => none
theorem Reps.at {ua : Option Addr} {B : Hp} {ds : List D} {vs : List V} {i : Int} {d : D} (r : Reps G ua ds vs B) (e : atI ds i = some d) : ∃ v, atI vs i = some v ∧ Rep G ua d v B := by
  unfold atI at e ⊢
  rw [← r.len]
  cases q : ixN ds.length i with
  | none => rw [q] at e; cases e
  | some j => rw [q] at e; exact r.get e
theorem dv_ix (ha : PE X a (tEv G ma)) (hb : PE X b (tEv G mb)) (hs : PlainIx b := by exact fun _ _ => rfl) : PE X (.Subscript a b pos) (tEv G (mBin ixD ma mb)) := by
  refine (pe_ix ix_seq ha hb hs).imp fun σ H Q h => ?_
  obtain ⟨ua, u, B, env, d, u', hE, hW, hm, q⟩ := h
  obtain ⟨x, u1, h1, h2⟩ := bnd_some hm
  obtain ⟨y, u2, h2, h3⟩ := bnd_some h2
  obtain ⟨l3, rfl⟩ := lft_some h3
  refine ⟨ua, u, B, env, x, u1, hE, hW, h1, fun v H1 ⟨B1, g1, w1, r1⟩ => ⟨ua, u1, B1, env, y, u', hE.grow g1, w1, h2, fun v2 H2 ⟨B2, g2, w2, r2⟩ => ?_⟩⟩
  have r1 := r1.mono _ _ g2.pub
  unfold ixD at l3
  split at l3
  · obtain ⟨p, xs, rfl, h, r3⟩ := r1.lst
    cases r2.int
    obtain ⟨z, e, r4⟩ := r3.at l3
    exact .inl ⟨p, xs, _, z, rfl, rfl, .of (w2.sub _ _ h), e, q _ _ ⟨B2, g1.trans g2, w2, r4⟩⟩
  · obtain ⟨p, xs, rfl, h, r3⟩ := r1.tup
    cases r2.int
    obtain ⟨z, e, r4⟩ := r3.at l3
    exact .inr (.inl ⟨p, xs, _, z, rfl, rfl, .of (w2.sub _ _ h), e, q _ _ ⟨B2, g1.trans g2, w2, r4⟩⟩)
  · split at l3
    · cases r1.str
      cases r2.int
      obtain ⟨c, e, rfl⟩ := map_some l3
      exact .inr (.inr ⟨_, _, c, rfl, rfl, ‹_›, e, q _ _ ⟨B2, g1.trans g2, w2, rep_str⟩⟩)
    · cases l3
  · cases l3
abbrev MO := List Sl → U → Option (Option Int × U)
def tEvO (G : Gx X.K) (m : MO) : TO := fun σ H Q => ∃ ua u B env o u', EnvOk G ua env σ B H ∧ Wd ua u B H ∧ m env u = some (o, u') ∧ ∀ H', AftB ua B H u' H' → Q o H'
def moNo : MO := fun _ u => some (none, u)
def moAt (m : M) : MO := fun env u => bnd (m env u) fun d u1 => match d with
  | .int i => some (some i, u1)
  | _ => none
theorem _root_.L2.PO.imp {X : Cx} {e : Option Expr} {t t' : TO} (h : PO X e t) (i : ∀ σ H Q, t' σ H Q → t σ H Q) : PO X e t' := ⟨fun pins s σ H Q I q => h.run pins s σ H Q I (i σ H Q q)⟩
theorem do_no : PO X none (tEvO G moNo) := po_none.imp fun σ H Q h => by
  obtain ⟨ua, u, B, env, d, u', hE, hW, hm, q⟩ := h
  cases hm
  exact q _ ⟨B, .refl, hW⟩
theorem do_at (ha : PE X a (tEv G ma)) : PO X (some a) (tEvO G (moAt ma)) := (po_some ha).imp fun σ H Q h => by
  obtain ⟨ua, u, B, env, d, u', hE, hW, hm, q⟩ := h
  obtain ⟨x, u1, h1, h2⟩ := bnd_some hm
  split at h2
  · cases h2
    refine ⟨ua, u, B, env, _, _, hE, hW, h1, fun v H1 ⟨B1, g1, w1, r1⟩ => ?_⟩
    cases r1.int
    exact ⟨_, rfl, q _ ⟨B1, g1, w1⟩⟩
  · cases h2
def cutD (xs : List D) (lo hi : Option Int) : List D := (xs.drop (HT.sIx xs.length 0 lo)).take (HT.sIx xs.length xs.length hi - HT.sIx xs.length 0 lo)
def slD : D → Option Int → Option Int → Option D
  | .lst ds, lo, hi => some (.lst (cutD ds lo hi))
  | .tup ds, lo, hi => some (.tup (cutD ds lo hi))
  | .str z, lo, hi => if z.length ≤ sizeLine then some (.str (cutS z lo hi)) else none
  | _, _, _ => none
def mSl (a : M) (lo hi : MO) : M := fun env u => bnd (a env u) fun x u1 => bnd (lo env u1) fun l u2 => bnd (hi env u2) fun h u3 => lft (slD x l h) u3
theorem Reps.cut {ua : Option Addr} {B : Hp} {ds : List D} {vs : List V} (r : Reps G ua ds vs B) (lo hi : Option Int) : Reps G ua (cutD ds lo hi) (cutV vs lo hi) B := by
  unfold cutD cutV
  rw [← r.len]
  exact (r.drop _).take _
theorem dv_sl {lo hi : Option Expr} {ml mh : MO} {p2 : Pos} (ha : PE X a (tEv G ma)) (hl : PO X lo (tEvO G ml)) (hh : PO X hi (tEvO G mh)) : PE X (.Subscript a (.Slice lo hi none p2) pos) (tEv G (mSl ma ml mh)) := by
  refine (pe_slice (sl_list.or (sl_tupA.or sl_str)) ha hl hh).imp fun σ H Q h => ?_
  obtain ⟨ua, u, B, env, d, u', hE, hW, hm, q⟩ := h
  obtain ⟨x, u1, h1, h2⟩ := bnd_some hm
  obtain ⟨l, u2, h2, h3⟩ := bnd_some h2
  obtain ⟨h, u3, h3, h4⟩ := bnd_some h3
  obtain ⟨l4, rfl⟩ := lft_some h4
  refine ⟨ua, u, B, env, x, u1, hE, hW, h1, fun v H1 ⟨B1, g1, w1, r1⟩ => ⟨ua, u1, B1, env, l, u2, hE.grow g1, w1, h2, fun H2 ⟨B2, g2, w2⟩ => ⟨ua, u2, B2, env, h, u', (hE.grow g1).grow g2, w2, h3, fun H3 ⟨B3, g3, w3⟩ => ?_⟩⟩⟩
  have r1 := (r1.mono _ _ g2.pub).mono _ _ g3.pub
  have gg := g1.trans (g2.trans g3)
  unfold slD at l4
  split at l4
  · cases l4
    obtain ⟨p, xs, rfl, h, r3⟩ := r1.lst
    exact .inl ⟨p, xs, rfl, .of (w3.sub _ _ h), fun p hp => q _ _ (.up gg (.lst w3 hp (r3.cut _ _)))⟩
  · cases l4
    have r1' := r1
    obtain ⟨p, xs, rfl, h, r3⟩ := r1.tup
    refine .inr (.inl ⟨p, xs, rfl, .of (w3.sub _ _ h), fun hw => q _ _ ⟨B3, gg, w3, ?_⟩, fun _ p hp => q _ _ (.up gg (.tup w3 hp (r3.cut _ _)))⟩)
    unfold cutD
    rw [r3.len, hw.1, hw.2, List.drop_zero, Nat.sub_zero, ← r3.len, List.take_length]
    exact r1'
  · split at l4
    · cases l4
      cases r1.str
      exact .inr (.inr ⟨_, rfl, ‹_›, q _ _ ⟨B3, gg, w3, rep_str⟩⟩)
    · cases l4
  · cases l4

/-! ### sep.join(list of texts) -/
def joinD : D → D → Option D
  | .str a, .lst ds => (strsOf ds).bind fun ys => if (ys.map (·.length)).sum + ys.length * a.length ≤ 16777216 then some (.str (Txt.join a ys)) else none
  | _, _ => none
theorem joinD_inv {x y d : D} (h : joinD x y = some d) : ∃ z ds ys, x = .str z ∧ y = .lst ds ∧ strsOf ds = some ys ∧ (ys.map (·.length)).sum + ys.length * z.length ≤ 16777216 ∧ d = .str (Txt.join z ys) := by
  unfold joinD at h
  split at h
  · rename_i z ds
    cases q2 : strsOf ds with
    | none => rw [q2] at h; cases h
    | some ys =>
      rw [q2] at h
      simp only [Option.bind_some] at h
      split at h
      · cases h; exact ⟨z, ds, ys, rfl, rfl, q2, ‹_›, rfl⟩
      · cases h
  · cases h
theorem dv_join {apos : Pos} (ha : PE X a (tEv G ma)) (hb : PE X b (tEv G mb)) (hs : starEach [b] X.env = [(false, eval b X.env)] := by rfl) (hbase : attributeBase a "join" X.env (eval a X.env) = eval a X.env := by rfl) (hline : (apos.endLine == pos.line) = true := by rfl) :
    PE X (.Call (.Attribute a "join" apos) [b] [] pos) (tEv G (mBin joinD ma mb)) := by
  refine (pe_join ha hb hs hbase hline).imp fun σ H Q h => ?_
  obtain ⟨ua, u, B, env, d, u', hE, hW, hm, q⟩ := h
  obtain ⟨x, u1, h1, h2⟩ := bnd_some hm
  obtain ⟨y, u2, h4, h3⟩ := bnd_some h2
  obtain ⟨l3, rfl⟩ := lft_some h3
  refine ⟨ua, u, B, env, x, u1, hE, hW, h1, fun v H1 ⟨B1, g1, w1, r1⟩ => ?_⟩
  obtain ⟨z, ds, ys, rfl, rfl, q2, hz, rfl⟩ := joinD_inv l3
  cases r1.str
  refine ⟨⟨_, rfl⟩, ua, u1, B1, env, _, u', hE.grow g1, w1, h4, fun v2 H2 ⟨B2, g2, w2, r2⟩ => ?_⟩
  obtain ⟨p, xs, rfl, h, r3⟩ := r2.lst
  rw [strsOf_eq q2] at r3
  rw [r3.strs_of] at h
  exact ⟨_, p, ys, rfl, rfl, .inl (.of (w2.sub _ _ h)), hz, q _ _ ⟨B2, g1.trans g2, w2, rep_str⟩⟩
end
end Dv

/-! Dv5: walks, comprehensions, statements, defs. -/
namespace Dv
open PySem PySem.Spec PyProof.Rows L2 RZ

/-! ### what is walked -/
def Wk {K : PySem.W.Frag} (G : Gx K) (ua : Option Addr) (J : It) (B0 : Hp) (ds : List D) : Prop := ∀ (i : Nat) (B H : Hp) (u : U), Same B0 B → Wd ua u B H →
  (∀ d, ds[i]? = some d → J.go i H ∧ ∀ x H', J.yld i H x H' → Aft G ua B H u d x H') ∧ (ds[i]? = none → J.stop i H)
abbrev MI := List Sl → U → Option (List D × U)
def tIt {K : PySem.W.Frag} (G : Gx K) (m : MI) : TI := fun σ H R => ∃ ua u B env ds u', EnvOk G ua env σ B H ∧ Wd ua u B H ∧ m env u = some (ds, u') ∧ ∀ J B' H', Grow ua B H B' H' → Wd ua u' B' H' → Wk G ua J B' ds → R J H'
def itemsD : D → Option (List D)
  | .lst ds => some ds
  | .tup ds => some ds
  | .str x => some (x.cps.toList.map fun c => .str ⟨#[c]⟩)
  | _ => none
def mItems (m : M) : MI := fun env u => bnd (m env u) fun d u1 => lft (itemsD d) u1
section
variable {X : Cx} {G : Gx X.K} {ua : Option Addr} {B H : Hp} {ds es : List D} {vs ws : List V}
theorem Reps.none {ua : Option Addr} {i : Nat} (r : Reps G ua ds vs B) (h : ds[i]? = none) : vs[i]? = none := by
  rw [List.getElem?_eq_none_iff] at h ⊢
  rw [← r.len]; exact h
theorem wk_lst {a : Addr} (h : B a = some (.lst vs)) (r : Reps G ua ds vs B) : Wk G ua (Itl X.K a) B ds := fun i B' H' u s w => by
  have hq : SqL X.K H' a vs := .of (w.sub _ _ (s _ _ h))
  refine ⟨fun d hd => ?_, fun hn => ⟨vs, hq, List.getElem?_eq_none_iff.mp (r.none hn)⟩⟩
  obtain ⟨v, hv, rv⟩ := r.get hd
  refine ⟨⟨vs, v, hq, hv⟩, fun x H2 y => ?_⟩
  obtain ⟨rfl, y⟩ := y
  have := y vs hq
  rw [hv] at this; cases this
  exact .here w (rv.mono _ _ s)
theorem wk_tup {a : Addr} (h : B a = some (.tup vs)) (r : Reps G ua ds vs B) : Wk G ua (Itt X.K a) B ds := fun i B' H' u s w => by
  have hq : SqT X.K H' a vs := .of (w.sub _ _ (s _ _ h))
  refine ⟨fun d hd => ?_, fun hn => ⟨vs, hq, List.getElem?_eq_none_iff.mp (r.none hn)⟩⟩
  obtain ⟨v, hv, rv⟩ := r.get hd
  refine ⟨⟨vs, v, hq, hv⟩, fun x H2 y => ?_⟩
  obtain ⟨rfl, y⟩ := y
  have := y vs hq
  rw [hv] at this; cases this
  exact .here w (rv.mono _ _ s)
theorem wk_str {x : Str} : Wk G ua (Its x) B (x.cps.toList.map fun c => .str ⟨#[c]⟩) := fun i B' H' u s w => by
  refine ⟨fun d hd => ?_, fun hn => ?_⟩
  · rw [List.getElem?_map] at hd
    obtain ⟨c, hc, rfl⟩ := map_some hd
    have hc' : x.cps[i]? = some c := by rw [← Array.getElem?_toList]; exact hc
    refine ⟨(Array.getElem?_eq_some_iff.mp hc').1, fun v H2 y => ?_⟩
    obtain ⟨rfl, c2, h2, rfl⟩ := y
    rw [hc'] at h2; cases h2
    exact .here w rep_str
  · rw [List.getElem?_eq_none_iff, List.length_map, Array.length_toList] at hn
    exact hn
theorem di_items {tg e : Expr} {m : M} (he : PE X e (tEv G m)) : PI X tg e (tIt G (mItems m)) := by
  refine PI.by fun σ H R h => ?_
  obtain ⟨ua, u, B, env, ds, u', hE, hW, hm, q⟩ := h
  obtain ⟨d, u1, h1, h2⟩ := bnd_some hm
  obtain ⟨l2, rfl⟩ := lft_some h2
  cases d with
  | lst xs =>
    cases l2
    refine ⟨_, pi_list he, ua, u, B, env, _, u', hE, hW, h1, fun v H1 ⟨B1, g1, w1, r1⟩ => ?_⟩
    obtain ⟨a, vs, rfl, h, rs⟩ := r1.lst
    exact ⟨a, rfl, ⟨vs, .of (w1.sub _ _ h)⟩, q _ _ _ g1 w1 (wk_lst h rs)⟩
  | tup xs =>
    cases l2
    refine ⟨_, pi_tup he, ua, u, B, env, _, u', hE, hW, h1, fun v H1 ⟨B1, g1, w1, r1⟩ => ?_⟩
    obtain ⟨a, vs, rfl, h, rs⟩ := r1.tup
    exact ⟨a, rfl, ⟨vs, .of (w1.sub _ _ h)⟩, q _ _ _ g1 w1 (wk_tup h rs)⟩
  | str x =>
    cases l2
    refine ⟨_, pi_str he, ua, u, B, env, _, u', hE, hW, h1, fun v H1 ⟨B1, g1, w1, r1⟩ => ?_⟩
    cases r1.str
    exact ⟨_, rfl, q _ _ _ g1 w1 wk_str⟩
  | _ => cases l2
def rangeD (lo : Int) (n : Nat) : List D := (List.range n).map fun i => .int (lo + (i : Nat))
theorem wk_range {lo : Int} {n : Nat} : Wk G ua (Itr lo n) B (rangeD lo n) := fun i B' H' u s w => by
  unfold rangeD
  refine ⟨fun d hd => ?_, fun hn => ?_⟩
  · rw [List.getElem?_map] at hd
    obtain ⟨c, hc, rfl⟩ := map_some hd
    obtain ⟨hi, e⟩ := List.getElem?_eq_some_iff.mp hc
    rw [List.getElem_range] at e
    rw [List.length_range] at hi
    subst e
    refine ⟨hi, fun v H2 y => ?_⟩
    obtain ⟨rfl, rfl⟩ := y
    exact .here w rep_int
  · rw [List.getElem?_eq_none_iff, List.length_map, List.length_range] at hn
    exact hn
def mRange1 (m : M) : MI := fun env u => bnd (m env u) fun d u1 => match d with
  | .int j => if -(2 ^ 62) ≤ j ∧ j < 2 ^ 62 then some (rangeD 0 j.toNat, u1) else none
  | _ => none
def mRange2 (m m2 : M) : MI := fun env u => bnd (m env u) fun d u1 => bnd (m2 env u1) fun e u2 => match d, e with
  | .int i, .int j => if -(2 ^ 62) ≤ i ∧ i < 2 ^ 62 ∧ -(2 ^ 62) ≤ j ∧ j < 2 ^ 62 then some (rangeD i (j - i).toNat, u2) else none
  | _, _ => none
theorem di_range1 {tg a : Expr} {m : M} {p pos : Pos} (hg : Gl X "range") (hm : X.mg "range" = none) (ha : PE X a (tEv G m)) (hs : starEach [a] X.env = [(false, eval a X.env)] := by rfl) : PI X tg (.Call (.Name "range" p) [a] [] pos) (tIt G (mRange1 m)) := by
  refine (pi_range1 hg hm (pa_cons ha pa_nil hs) hs).imp fun σ H R h => ?_
  obtain ⟨ua, u, B, env, ds, u', hE, hW, hm, q⟩ := h
  obtain ⟨d, u1, h1, h2⟩ := bnd_some hm
  refine ⟨ua, u, B, env, d, u1, hE, hW, h1, fun v H1 ⟨B1, g1, w1, r1⟩ => ?_⟩
  split at h2
  · split at h2
    · rename_i hj
      cases h2
      cases r1.int
      exact ⟨_, rfl, hj.1, hj.2, q _ _ _ g1 w1 wk_range⟩
    · cases h2
  · cases h2
theorem di_range2 {tg a b : Expr} {m m2 : M} {p pos : Pos} (hg : Gl X "range") (hm : X.mg "range" = none) (ha : PE X a (tEv G m)) (hb : PE X b (tEv G m2)) (hs : starEach [a, b] X.env = (false, eval a X.env) :: starEach [b] X.env := by rfl) (hs2 : starEach [b] X.env = [(false, eval b X.env)] := by rfl) :
    PI X tg (.Call (.Name "range" p) [a, b] [] pos) (tIt G (mRange2 m m2)) := by
  refine (pi_range2 hg hm (pa_cons ha (pa_cons hb pa_nil hs2) hs) (by rw [hs, hs2]) hs2).imp fun σ H R h => ?_
  obtain ⟨ua, u, B, env, ds, u', hE, hW, hm, q⟩ := h
  obtain ⟨d, u1, h1, h2⟩ := bnd_some hm
  obtain ⟨d2, u2, h3, h2⟩ := bnd_some h2
  refine ⟨ua, u, B, env, d, u1, hE, hW, h1, fun v H1 ⟨B1, g1, w1, r1⟩ => ⟨ua, u1, B1, env, d2, u2, hE.grow g1, w1, h3, fun v2 H2 ⟨B2, g2, w2, r2⟩ => ?_⟩⟩
  split at h2
  · split at h2
    · rename_i hj
      cases h2
      cases r1.int
      cases r2.int
      exact ⟨_, _, rfl, hj, q _ _ _ (g1.trans g2) w2 wk_range⟩
    · cases h2
  · cases h2
/-- enumerate of a list -/
def enumD : Nat → List D → List D
  | _, [] => []
  | n, d :: r => .tup [.int n, d] :: enumD (n + 1) r
theorem enumD_get : ∀ (ds : List D) (n i : Nat), (enumD n ds)[i]? = (ds[i]?).map fun d => .tup [.int ((n + i : Nat) : Int), d]
  | [], n, i => by unfold enumD; simp
  | d :: r, n, 0 => by unfold enumD; simp
  | d :: r, n, i + 1 => by
    unfold enumD
    rw [List.getElem?_cons_succ, List.getElem?_cons_succ, enumD_get r (n + 1) i, show n + 1 + i = n + (i + 1) by omega]
theorem wk_enum {a : Addr} (h : B a = some (.lst vs)) (r : Reps G ua ds vs B) : Wk G ua (Ite X.K a) B (enumD 0 ds) := fun i B' H' u s w => by
  have hq : SqL X.K H' a vs := .of (w.sub _ _ (s _ _ h))
  rw [enumD_get]
  refine ⟨fun d hd => ?_, fun hn => ⟨vs, hq, List.getElem?_eq_none_iff.mp (r.none (Option.map_eq_none_iff.mp hn))⟩⟩
  obtain ⟨d', hd', rfl⟩ := map_some hd
  obtain ⟨v, hv, rv⟩ := r.get hd'
  refine ⟨⟨vs, v, hq, hv⟩, fun x H2 y => ?_⟩
  obtain ⟨T, x, rfl, hT, rfl, y⟩ := y
  have := y vs hq
  rw [hv] at this; cases this
  rw [Nat.zero_add]
  exact .tup w hT (.cons rep_int (.cons (rv.mono _ _ s) .nil))
def mEnum (m : M) : MI := fun env u => bnd (m env u) fun d u1 => match d with
  | .lst ds => some (enumD 0 ds, u1)
  | _ => none
theorem di_enum {a : Expr} {m : M} {p pos tpos : Pos} {elts : List Expr} {kk : Nat} (hg : Gl X "enumerate") (hm : X.mg "enumerate" = none) (ha : PE X a (tEv G m)) (hs : starEach [a] X.env = [(false, eval a X.env)] := by rfl) :
    PI X (.Tuple elts kk tpos) (.Call (.Name "enumerate" p) [a] [] pos) (tIt G (mEnum m)) := by
  refine (pi_enum hg hm (pa_cons ha pa_nil hs) hs).imp fun σ H R h => ?_
  obtain ⟨ua, u, B, env, ds, u', hE, hW, hm, q⟩ := h
  obtain ⟨d, u1, h1, h2⟩ := bnd_some hm
  refine ⟨ua, u, B, env, d, u1, hE, hW, h1, fun v H1 ⟨B1, g1, w1, r1⟩ => ?_⟩
  split at h2
  · cases h2
    obtain ⟨a, vs, rfl, h, rs⟩ := r1.lst
    exact ⟨a, vs, rfl, .of (w1.sub _ _ h), q _ _ _ g1 w1 (wk_enum h rs)⟩
  · cases h2
/-- zip of two lists, of two tuples -/
def zipD (ds es : List D) : List D := List.zipWith (fun x y => .tup [x, y]) ds es
theorem zipD_get (ds es : List D) (i : Nat) : (zipD ds es)[i]? = match ds[i]?, es[i]? with | some x, some y => some (.tup [x, y]) | _, _ => none := by
  unfold zipD; rw [List.getElem?_zipWith]; cases ds[i]? <;> cases es[i]? <;> rfl
theorem wk_zipL {a b : Addr} (h : B a = some (.lst vs)) (r : Reps G ua ds vs B) (h2 : B b = some (.lst ws)) (r2 : Reps G ua es ws B) : Wk G ua (Itz X.K a b) B (zipD ds es) := fun i B' H' u s w => by
  have hq : SqL X.K H' a vs := .of (w.sub _ _ (s _ _ h))
  have hq2 : SqL X.K H' b ws := .of (w.sub _ _ (s _ _ h2))
  rw [zipD_get]
  refine ⟨fun d hd => ?_, fun hn => ⟨vs, ws, hq, hq2, ?_⟩⟩
  · split at hd
    · rename_i x y hx hy
      cases hd
      obtain ⟨v, hv, rv⟩ := r.get hx
      obtain ⟨v2, hv2, rv2⟩ := r2.get hy
      refine ⟨⟨vs, ws, v, v2, hq, hq2, hv, hv2⟩, fun x H2 y => ?_⟩
      obtain ⟨T, x, y, rfl, hT, rfl, y1, y2⟩ := y
      have e1 := y1 vs hq
      have e2 := y2 ws hq2
      rw [hv] at e1; cases e1
      rw [hv2] at e2; cases e2
      exact .tup w hT (.cons (rv.mono _ _ s) (.cons (rv2.mono _ _ s) .nil))
    · cases hd
  · cases q1 : ds[i]? with
    | none => exact .inl (List.getElem?_eq_none_iff.mp (r.none q1))
    | some x =>
      cases q2 : es[i]? with
      | none => exact .inr (List.getElem?_eq_none_iff.mp (r2.none q2))
      | some y => rw [q1, q2] at hn; cases hn
theorem wk_zipT {a b : Addr} (h : B a = some (.tup vs)) (r : Reps G ua ds vs B) (h2 : B b = some (.tup ws)) (r2 : Reps G ua es ws B) : Wk G ua (ItzT X.K a b) B (zipD ds es) := fun i B' H' u s w => by
  have hq : SqT X.K H' a vs := .of (w.sub _ _ (s _ _ h))
  have hq2 : SqT X.K H' b ws := .of (w.sub _ _ (s _ _ h2))
  rw [zipD_get]
  refine ⟨fun d hd => ?_, fun hn => ⟨vs, ws, hq, hq2, ?_⟩⟩
  · split at hd
    · rename_i x y hx hy
      cases hd
      obtain ⟨v, hv, rv⟩ := r.get hx
      obtain ⟨v2, hv2, rv2⟩ := r2.get hy
      refine ⟨⟨vs, ws, v, v2, hq, hq2, hv, hv2⟩, fun x H2 y => ?_⟩
      obtain ⟨T, x, y, rfl, hT, rfl, y1, y2⟩ := y
      have e1 := y1 vs hq
      have e2 := y2 ws hq2
      rw [hv] at e1; cases e1
      rw [hv2] at e2; cases e2
      exact .tup w hT (.cons (rv.mono _ _ s) (.cons (rv2.mono _ _ s) .nil))
    · cases hd
  · cases q1 : ds[i]? with
    | none => exact .inl (List.getElem?_eq_none_iff.mp (r.none q1))
    | some x =>
      cases q2 : es[i]? with
      | none => exact .inr (List.getElem?_eq_none_iff.mp (r2.none q2))
      | some y => rw [q1, q2] at hn; cases hn
def mZip (m m2 : M) : MI := fun env u => bnd (m env u) fun d u1 => bnd (m2 env u1) fun e u2 => match d, e with
  | .lst ds, .lst es => some (zipD ds es, u2)
  | .tup ds, .tup es => some (zipD ds es, u2)
  | _, _ => none
theorem di_zip {a b : Expr} {m m2 : M} {p pos tpos : Pos} {elts : List Expr} {kk : Nat} (hg : Gl X "zip") (hm : X.mg "zip" = none) (ha : PE X a (tEv G m)) (hb : PE X b (tEv G m2))
    (hs : starEach [a, b] X.env = (false, eval a X.env) :: starEach [b] X.env := by rfl) (hs2 : starEach [b] X.env = (false, eval b X.env) :: starEach [] X.env := by rfl) (hpl : (backTo pos (starEach [b] X.env)).any (·.1) = false := by rfl) :
    PI X (.Tuple elts kk tpos) (.Call (.Name "zip" p) [a, b] [] pos) (tIt G (mZip m m2)) := by
  refine (pi_zipA hg hm (pa_cons ha (pa_cons hb pa_nil hs2) hs) hs hpl).imp fun σ H R h => ?_
  obtain ⟨ua, u, B, env, ds, u', hE, hW, hm, q⟩ := h
  obtain ⟨d, u1, h1, h2⟩ := bnd_some hm
  obtain ⟨d2, u2, h3, h2⟩ := bnd_some h2
  refine ⟨ua, u, B, env, d, u1, hE, hW, h1, fun v H1 ⟨B1, g1, w1, r1⟩ => ⟨ua, u1, B1, env, d2, u2, hE.grow g1, w1, h3, fun v2 H2 ⟨B2, g2, w2, r2⟩ => ?_⟩⟩
  have r1 := r1.mono _ _ g2.pub
  split at h2
  · cases h2
    obtain ⟨a, vs, rfl, h, rs⟩ := r1.lst
    obtain ⟨b, ws, rfl, h', rs'⟩ := r2.lst
    exact ⟨a, b, vs, ws, rfl, .inl ⟨.of (w2.sub _ _ h), .of (w2.sub _ _ h'), q _ _ _ (g1.trans g2) w2 (wk_zipL h rs h' rs')⟩⟩
  · cases h2
    obtain ⟨a, vs, rfl, h, rs⟩ := r1.tup
    obtain ⟨b, ws, rfl, h', rs'⟩ := r2.tup
    exact ⟨a, b, vs, ws, rfl, .inr ⟨.of (w2.sub _ _ h), .of (w2.sub _ _ h'), q _ _ _ (g1.trans g2) w2 (wk_zipT h rs h' rs')⟩⟩
  · cases h2
end

/-! ### targets -/
inductive Tgt where
  | one (i : Nat) | many (is : List Nat)
def Tgt.ids : Tgt → List Nat
  | .one i => [i]
  | .many is => is
def gNames : List Nat → TGs
  | [] => gNil
  | i :: r => gCons (gName i) (gNames r)
def gOf (K : PySem.W.Frag) : Tgt → TG
  | .one i => gName i
  | .many is => gTup K is.length (gNames is)
def setE : List Sl → List Nat → List D → List Sl
  | env, i :: is, d :: ds => setE (env.set i (Sl.pub d)) is ds
  | env, _, _ => env
def setV : List (Option V) → List Nat → List V → List (Option V)
  | σ, i :: is, v :: vs => setV (σ.set i (some v)) is vs
  | σ, _, _ => σ
theorem gNames_ok : ∀ (is : List Nat) (vs : List V) (σ : L2.St) (H : Hp) (Q : L2.St → Hp → Prop), vs.length = is.length → Q (setV σ is vs) H → gNames is vs σ H Q
  | [], [], σ, H, Q, _, q => ⟨rfl, q⟩
  | [], _ :: _, _, _, _, h, _ => by cases h
  | _ :: _, [], _, _, _, h, _ => by cases h
  | i :: is, v :: vs, σ, H, Q, h, q => ⟨v, vs, rfl, gNames_ok is vs _ H Q (by simpa using h) q⟩
section
variable {K : PySem.W.Frag} {G : Gx K} {ua : Option Addr} {B H : Hp}
theorem setE_ok : ∀ (is : List Nat) (ds : List D) (vs : List V) (env : List Sl) (σ : List (Option V)), EnvOk G ua env σ B H → Reps G ua ds vs B → EnvOk G ua (setE env is ds) (setV σ is vs) B H
  | [], ds, vs, env, σ, e, r => e
  | i :: is, [], vs, env, σ, e, r => by rw [r.of_nil]; exact e
  | i :: is, d :: ds, vs, env, σ, e, r => by
    obtain ⟨v, t, rfl, r1, r2⟩ := r.of_cons
    exact setE_ok is ds t _ _ (e.set r1 i) r2
end
theorem wipe_get (σ : List (Option V)) : ∀ (vs : List Nat) (j : Nat), (wipe σ vs)[j]? = if j ∈ vs then (σ[j]?).map (fun _ => none) else σ[j]?
  | [], j => by unfold wipe; simp
  | v :: vs, j => by
    unfold wipe
    by_cases h : v = j
    · subst h
      rw [if_pos List.mem_cons_self]
      by_cases hl : v < σ.length
      · rw [List.getElem?_set_self (by rw [wipe_length]; exact hl), List.getElem?_eq_getElem hl]; rfl
      · rw [List.getElem?_eq_none (by rw [List.length_set, wipe_length]; omega), List.getElem?_eq_none (by omega)]; rfl
    · rw [List.getElem?_set_ne h, wipe_get σ vs j]
      by_cases hj : j ∈ vs
      · rw [if_pos hj, if_pos (List.mem_cons_of_mem _ hj)]
      · rw [if_neg hj, if_neg (fun z => by rcases List.mem_cons.mp z with z | z; exact h z.symm; exact hj z)]
theorem wipe_set {σ : List (Option V)} {vs : List Nat} {i : Nat} {x : Option V} (h : i ∈ vs) : wipe (σ.set i x) vs = wipe σ vs := by
  apply List.ext_getElem?
  intro j
  rw [wipe_get, wipe_get]
  by_cases hj : j ∈ vs
  · rw [if_pos hj, if_pos hj]
    by_cases e : i = j
    · subst e
      by_cases hl : i < σ.length
      · rw [List.getElem?_set_self hl, List.getElem?_eq_getElem hl]; rfl
      · rw [List.getElem?_eq_none (by rw [List.length_set]; omega), List.getElem?_eq_none (by omega)]
    · rw [List.getElem?_set_ne e]
  · rw [if_neg hj, if_neg hj, List.getElem?_set_ne (fun z => hj (by rw [← z]; exact h))]
theorem wipe_wipe {σ : List (Option V)} {vs : List Nat} : wipe (wipe σ vs) vs = wipe σ vs := by
  apply List.ext_getElem?
  intro j
  rw [wipe_get, wipe_get]
  by_cases hj : j ∈ vs
  · rw [if_pos hj, if_pos hj]; cases σ[j]? <;> rfl
  · rw [if_neg hj, if_neg hj]
theorem wipe_setV {vs : List Nat} : ∀ {is : List Nat} {xs : List V} {σ : List (Option V)}, (∀ i ∈ is, i ∈ vs) → wipe (setV σ is xs) vs = wipe σ vs
  | [], _, _, _ => rfl
  | _ :: _, [], _, _ => rfl
  | i :: is, x :: xs, σ, h => by
    show wipe (setV (σ.set i (some x)) is xs) vs = _
    rw [wipe_setV fun j hj => h j (List.mem_cons_of_mem _ hj), wipe_set (h i List.mem_cons_self)]
def bindT : Tgt → D → List Sl → Option (List Sl)
  | .one i, d, env => some (env.set i (Sl.pub d))
  | .many is, .tup ds, env => if ds.length = is.length then some (setE env is ds) else none
  | _, _, _ => none
theorem bindT_ok {K : PySem.W.Frag} {G : Gx K} {ua : Option Addr} {u : U} {B H : Hp} {t : Tgt} {d : D} {v : V} {env env' : List Sl} {σ : List (Option V)} {Q : L2.St → Hp → Prop} (e : EnvOk G ua env σ B H) (w : Wd ua u B H) (r : Rep G ua d v B) (b : bindT t d env = some env')
    (q : ∀ σ' : List (Option V), EnvOk G ua env' σ' B H → (∀ vs, (∀ i ∈ t.ids, i ∈ vs) → wipe σ' vs = wipe σ vs) → (∀ (j : Nat) x, σ'[j]? = some (some x) → j ∉ t.ids → σ[j]? = some (some x)) → Q σ' H) : gOf K t v σ H Q := by
  cases t with
  | one i =>
    unfold bindT at b; cases b
    refine q (σ.set i (some v)) (e.set r i) (fun vs h => wipe_set (h i (by simp [Tgt.ids]))) fun j x hx hj => ?_
    rw [List.getElem?_set_ne (fun z => hj (by simp [Tgt.ids, z]))] at hx
    exact hx
  | many is =>
    cases d with
    | tup ds =>
      dsimp only [bindT] at b
      split at b
      · rename_i hl
        cases b
        obtain ⟨a, vs, rfl, h, rs⟩ := r.tup
        have hlv : vs.length = is.length := by rw [← rs.len]; exact hl
        refine ⟨a, vs, rfl, .of (w.sub _ _ h), hlv, gNames_ok is vs σ H Q hlv (q _ (setE_ok is ds vs env σ e rs) (fun ws h => wipe_setV h) ?_)⟩
        clear q e hl hlv h rs
        induction is generalizing σ vs with
        | nil => intro j x hx _; exact hx
        | cons i is ih =>
          intro j x hx hj
          cases vs with
          | nil => exact hx
          | cons v vs =>
            have hj' : j ∉ i :: is := hj
            have := ih (σ := σ.set i (some v)) (vs := vs) j x hx (fun z => hj' (List.mem_cons_of_mem _ z))
            rw [List.getElem?_set_ne (fun z => hj' (by rw [z]; exact List.mem_cons_self))] at this
            exact this
      · cases b
    | _ => cases b
end Dv

/-! Dv6: comprehensions, statements, defs. -/
namespace Dv
open PySem PySem.Spec PyProof.Rows L2

/-! ### comprehensions -/
def compL (f : D → U → Option (Option D × U)) : List D → U → Option (List D × U)
  | [], u => some ([], u)
  | d :: ds, u => bnd (f d u) fun o u1 => bnd (compL f ds u1) fun r u2 => some (match o with | some x => x :: r | none => r, u2)
def turnL (t : Tgt) (own : List Nat) (env : List Sl) (mc : MB) (me : M) : D → U → Option (Option D × U) := fun d u => match bindT t d (wipeE env own) with
  | none => none
  | some env' => bnd (mc env' u) fun b u1 => if b = true then bnd (me env' u1) fun x u2 => some (some x, u2) else some (none, u1)
def mLc (t : Tgt) (own : List Nat) (mi : MI) (mc : MB) (me : M) : M := fun env u => bnd (mi env u) fun ds u1 => bnd (compL (turnL t own env mc me) ds u1) fun r u2 => if r.length ≤ sizeLine then some (.lst r, u2) else none
def mYes : MB := fun _ u => some (true, u)
theorem Grow.put {ua : Option Addr} {B H B' H' : Hp} {p : Addr} {o : HO} (g : Grow ua B H B' H') (h : H p = none) : Grow ua B H B' (upd H' p o) := by
  refine ⟨fun a x e n => ?_, fun a e => ?_, g.pub, g.new⟩
  · rw [upd_ne (ne_of_none e h)]; exact g.keep a x e n
  · by_cases q : a = p
    · subst q; exact h
    · rw [upd_ne q] at e; exact g.live a e
/-- one's own object is shown to all -/
theorem Grow.show {ua : Option Addr} {B H B' H' : Hp} {p : Addr} {o : HO} (g : Grow ua B H B' H') (h : H p = none) (hb : B' p = none) : Grow ua B H (upd B' p o) H' := by
  refine ⟨g.keep, g.live, fun a x e => same_new hb a x (g.pub a x e), fun a x e => ?_⟩
  by_cases q : a = p
  · subst q; exact .inr h
  · rw [upd_ne q] at e; exact g.new a x e
theorem Wd.show {ua : Option Addr} {u : U} {B H : Hp} {p : Addr} {o : HO} (w : Wd ua u B H) (h : H p = some o) (n : ua ≠ some p) : Wd ua u (upd B p o) H := by
  refine ⟨fun a x e => ?_, fun a e => ?_⟩
  · by_cases q : a = p
    · subst q; rw [upd_same] at e; cases e; exact h
    · rw [upd_ne q] at e; exact w.sub a x e
  · rw [upd_ne (fun z => n (by rw [← z]; exact e))]; exact w.urn a e
theorem Grow.none_of {ua : Option Addr} {B H B' H' : Hp} {p : Addr} {o : HO} (g : Grow ua B H B' H') (h : H p = some o) (hb : B p = none) : B' p = none := by
  cases q : B' p with
  | none => rfl
  | some x =>
    rcases g.new p x q with z | z
    · rw [z] at hb; cases hb
    · rw [z] at h; cases h
section
variable {X : Cx} {G : Gx X.K} {mi : MI} {mc : MB} {me : M}
theorem lc_inner {t : Tgt} {own : List Nat} {σ : L2.St} {Q : VK} {ua : Option Addr} {u1 u' : U} {B1 H1 : Hp} {env : List Sl} {J : It} {ds r : List D} (ht : ∀ i ∈ t.ids, i ∈ own) (hE1 : EnvOk G ua env σ B1 H1) (w1 : Wd ua u1 B1 H1) (wk : Wk G ua J B1 ds)
    (h3 : compL (turnL t own env mc me) ds u1 = some (r, u')) (hr : r.length ≤ sizeLine) (q : ∀ v H', Aft G ua B1 H1 u' (.lst r) v H' → Q v H') :
    ∀ D, H1 D = none → ∃ W : Nat → Nat → Hp → Prop, (∃ m, W 0 m (upd H1 D (.lst []))) ∧ ∀ i m H, W i m H →
  (J.stop i H ∧ Q (.ref D) H) ∨ (J.go i H ∧ ∃ Nx : Hp → Prop, (∀ H', Nx H' → ∃ m', m' < m ∧ W (i + 1) m' H') ∧ ∀ x H', J.yld i H x H' → gOf X.K t x (wipe σ own) H' fun σ2 H2 => wipe σ2 own = wipe σ own ∧ tTst G mc σ2 H2 fun b H3 =>
    if b = true then tEv G me σ2 H3 fun y H4 => ∃ acc, H4 D = some (.lst acc) ∧ acc.length < sizeLine ∧ Nx (upd H4 D (.lst (acc ++ [y]))) else Nx H3) := by
  intro Dp hD
  refine ⟨fun i m H' => m = ds.length - i ∧ i ≤ ds.length ∧ ∃ B' uu done vs rest, Grow ua B1 H1 B' H' ∧ Wd ua uu B' H' ∧ H' Dp = some (.lst vs) ∧ B' Dp = none ∧ Reps G ua done vs B' ∧ compL (turnL t own env mc me) (ds.drop i) uu = some (rest, u') ∧ done ++ rest = r,
    ⟨ds.length, by omega, by omega, B1, u1, [], [], r, .own1 w1 hD, w1.own1 hD, upd_same, w1.none_of hD, .nil, h3, rfl⟩, ?_⟩
  rintro i m H' ⟨rfl, hi, B', uu, done, vs, rest, g2, w2, hv, hb, rs, hc, hcat⟩
  have sB : Same B1 B' := g2.pub
  have nu : ua ≠ some Dp := w1.ne_urn hD
  have hk := wk i B' H' uu sB w2
  by_cases hlt : i < ds.length
  · have hd : ds[i]? = some ds[i] := List.getElem?_eq_getElem hlt
    obtain ⟨hgo, hy⟩ := hk.1 _ hd
    rw [List.drop_eq_getElem_cons hlt] at hc
    obtain ⟨o, u3, c1, c2⟩ := bnd_some (show bnd (turnL t own env mc me ds[i] uu) _ = _ from hc)
    obtain ⟨rest', u4, c3, c4⟩ := bnd_some c2
    refine .inr ⟨hgo, fun H2 => ∃ B' uu done vs rest, Grow ua B1 H1 B' H2 ∧ Wd ua uu B' H2 ∧ H2 Dp = some (.lst vs) ∧ B' Dp = none ∧ Reps G ua done vs B' ∧ compL (turnL t own env mc me) (ds.drop (i + 1)) uu = some (rest, u') ∧ done ++ rest = r,
      fun H2 h2 => ⟨ds.length - (i + 1), by omega, rfl, hlt, h2⟩, fun x H2 y => ?_⟩
    obtain ⟨B2, g3, w3, r3⟩ := hy x H2 y
    have hv2 : H2 Dp = some (.lst vs) := g3.keep _ _ hv nu
    have hb2 : B2 Dp = none := g3.none_of hv hb
    have rs2 := rs.mono _ _ g3.pub
    have hE2 : EnvOk G ua (wipeE env own) (wipe σ own) B2 H2 := ((hE1.wipe own).grow g2).grow g3
    unfold turnL at c1
    split at c1
    · cases c1
    · rename_i env' hbt
      refine bindT_ok hE2 w3 r3 hbt fun σ' hE3 hwp hback => ⟨by rw [hwp own ht, wipe_wipe], ?_⟩
      obtain ⟨b, u5, c5, c6⟩ := bnd_some c1
      refine ⟨ua, uu, B2, env', b, u5, hE3, w3, c5, fun H3 ⟨B3, g4, w4⟩ => ?_⟩
      have hv3 : H3 Dp = some (.lst vs) := g4.keep _ _ hv2 nu
      have hb3 : B3 Dp = none := g4.none_of hv2 hb2
      have rs3 := rs2.mono _ _ g4.pub
      have gg := g2.trans (g3.trans g4)
      cases b with
      | true =>
        rw [if_pos rfl] at c6
        refine iteT ?_
        obtain ⟨x', u6, c7, c8⟩ := bnd_some c6
        cases c8
        cases c4
        refine ⟨ua, u5, B3, env', x', u3, hE3.grow g4, w4, c7, fun yv H4 ⟨B4, g5, w5, r5⟩ => ?_⟩
        have hv4 : H4 Dp = some (.lst vs) := g5.keep _ _ hv3 nu
        have hb4 : B4 Dp = none := g5.none_of hv3 hb3
        have rs4 := rs3.mono _ _ g5.pub
        refine ⟨vs, hv4, ?_, B4, u3, done ++ [x'], vs ++ [yv], rest', (gg.trans g5).put hD, w5.put hb4 nu, upd_same, hb4, rs4.append (.cons r5 .nil), c3, by rw [← hcat]; simp⟩
        have := congrArg List.length hcat
        rw [List.length_append, List.length_cons] at this
        rw [← rs4.len]
        omega
      | false =>
        rw [if_neg Bool.false_ne_true] at c6
        refine iteF ?_
        cases c6
        cases c4
        exact ⟨B3, _, done, vs, rest', gg, w4, hv3, hb3, rs3, c3, hcat⟩
  · have e : i = ds.length := by omega
    subst e
    rw [List.drop_length] at hc
    cases hc
    rw [List.append_nil] at hcat
    subst hcat
    refine .inl ⟨hk.2 (List.getElem?_eq_none (Nat.le_refl _)), q _ _ ⟨upd B' Dp (.lst vs), g2.show hD hb, w2.show hv nu, ?_⟩⟩
    unfold Rep
    exact ⟨Dp, vs, rfl, upd_same, rs.mono _ _ (same_new hb)⟩
theorem lc_innerD {t : Tgt} {own : List Nat} {σ : L2.St} {Qd : Hp → Prop} {ua : Option Addr} {u1 u' : U} {B1 H1 : Hp} {env : List Sl} {J : It} {ds r : List D} {Dp : Addr} (ht : ∀ i ∈ t.ids, i ∈ own) (hE1 : EnvOk G ua env σ B1 H1) (w1 : Wd ua u1 B1 H1) (wk : Wk G ua J B1 ds)
    (h3 : compL (turnL t own env mc me) ds u1 = some (r, u')) (hr : r.length ≤ sizeLine) (hD : H1 Dp = none) (q : ∀ H', Aft G ua B1 H1 u' (.lst r) (.ref Dp) H' → Qd H') :
    ∃ W : Nat → Nat → Hp → Prop, (∃ m, W 0 m (upd H1 Dp (.lst []))) ∧ ∀ i m H, W i m H →
  (J.stop i H ∧ Qd H) ∨ (J.go i H ∧ ∃ Nx : Hp → Prop, (∀ H', Nx H' → ∃ m', m' < m ∧ W (i + 1) m' H') ∧ ∀ x H', J.yld i H x H' → gOf X.K t x (wipe σ own) H' fun σ2 H2 => wipe σ2 own = wipe σ own ∧ tTst G mc σ2 H2 fun b H3 =>
    if b = true then tEv G me σ2 H3 fun y H4 => ∃ acc, H4 Dp = some (.lst acc) ∧ acc.length < sizeLine ∧ Nx (upd H4 Dp (.lst (acc ++ [y]))) else Nx H3) := by
  obtain ⟨W, h0, h⟩ := lc_inner (Q := fun v H => v = .ref Dp → Qd H) ht hE1 w1 wk h3 hr (fun v H' a e => q H' (by rw [← e]; exact a)) Dp hD
  refine ⟨W, h0, fun i m H w => ?_⟩
  rcases h i m H w with ⟨a, b⟩ | c
  · exact .inl ⟨a, b rfl⟩
  · exact .inr c
theorem lc_read {t : Tgt} {own : List Nat} {σ : L2.St} {H : Hp} {Q : VK} (ht : ∀ i ∈ t.ids, i ∈ own) (h : tEv G (mLc t own mi mc me) σ H Q) : tLc (tIt G mi) (gOf X.K t) (tTst G mc) (tEv G me) own σ H Q := by
  obtain ⟨ua, u, B, env, d, u', hE, hW, hm, q⟩ := h
  obtain ⟨ds, u1, h1, h2⟩ := bnd_some hm
  obtain ⟨r, u2, h3, h4⟩ := bnd_some h2
  split at h4
  · cases h4
    exact ⟨ua, u, B, env, ds, u1, hE, hW, h1, fun J B1 H1 g1 w1 wk => lc_inner ht (hE.grow g1) w1 wk h3 ‹_› fun v H' a => q v H' (.up g1 a)⟩
  · cases h4
theorem dts_no : PTs X [] (tTst G mYes) := ⟨fun pins s σ H Q I h => by
  obtain ⟨ua, u, B, env, b, u', hE, hW, hm, q⟩ := h
  cases hm
  exact pts_nil.run pins s σ H Q I (q _ ⟨B, .refl, hW⟩)⟩
theorem dts_one {c : Expr} (h : PT X c (tTst G mc)) : PTs X [c] (tTst G mc) := pts_one h
variable {elt tg iter : Expr} {ifs : List Expr} {scope : Scope} {own : List (Str × Nat)} {pos : Pos}
theorem dv_lc (t : Tgt) (ids : List Nat) (hc : X.calm = true) (hN : X.N.Nodup) (hi : PI X tg iter (tIt G mi)) (ok : BlkOk X.N X.env.scope scope own) (hid : own.map (·.2) = ids) (ht : ∀ i ∈ t.ids, i ∈ ids)
    (hg : ∀ (s : Shared) (H : Hp) (C : Addr) (cl : List (Str × Addr)) (fp : List Addr), PG (X.blk s H scope (compEnvC scope cl C X.env) fp) tg (gOf X.K t)) (hq : ∀ (s : Shared) (H : Hp) (C : Addr) (cl : List (Str × Addr)) (fp : List Addr), PTs (X.blk s H scope (compEnvC scope cl C X.env) fp) ifs (tTst (K := X.K) G mc))
    (he : ∀ (s : Shared) (H : Hp) (C : Addr) (cl : List (Str × Addr)) (fp : List Addr), PE (X.blk s H scope (compEnvC scope cl C X.env) fp) elt (tEv (K := X.K) G me)) (hs : ∀ x, foldedSetIterable iter X.env x = pure x := by intro _; rfl) :
    PE X (.ListComp elt [⟨tg, iter, ifs, 0⟩] scope pos) (tEv G (mLc t ids mi mc me)) := by
  subst hid
  exact (pe_lc hc hN hi ok hg hq he hs).imp fun _ _ _ h => lc_read ht h
end

/-! ### statements -/
inductive Fl where
  | nx (env : List Sl) | rt (d : D)
abbrev MS := List Sl → U → Option (Fl × U)
def OwnNew (env : List Sl) (σ : List (Option V)) (H0 : Hp) : Prop := ∀ (i : Nat) ds p, env[i]? = some (Sl.own ds) → σ[i]? = some (some (V.ref p)) → H0 p = none
theorem OwnNew.set {env : List Sl} {σ : List (Option V)} {H0 : Hp} (h : OwnNew env σ H0) (i : Nat) (d : D) (v : V) : OwnNew (env.set i (Sl.pub d)) (σ.set i (some v)) H0 := fun j ds p h1 h2 => by
  rcases get_set h1 with ⟨rfl, q⟩ | ⟨q, h1⟩
  · cases q
  · rw [List.getElem?_set_ne (fun z => q z.symm)] at h2
    exact h j ds p h1 h2
def tSt {K : PySem.W.Frag} (G : Gx K) (m : MS) : TS := fun Dn σ H => ∃ ua u B env fl u' B0 H0, Grow ua B0 H0 B H ∧ OwnNew env σ H0 ∧ EnvOk G ua env σ B H ∧ Wd ua u B H ∧ m env u = some (fl, u') ∧ match fl with
  | .nx env' => ∀ (σ' : List (Option V)) B' H', Grow ua B0 H0 B' H' → OwnNew env' σ' H0 → EnvOk G ua env' σ' B' H' → Wd ua u' B' H' → Dn.nx σ' H'
  | .rt d => ∀ v B' H', Grow ua B0 H0 B' H' → Wd ua u' B' H' → Rep G ua d v B' → Dn.rt v H'
theorem _root_.L2.PS.imp {X : Cx} {st : Stmt} {t t' : TS} (h : PS X st t) (i : ∀ Dn σ H, t' Dn σ H → t Dn σ H) : PS X st t' := ⟨fun pins s σ H Q I q => h.run pins s σ H Q I (i Q σ H q)⟩
theorem _root_.L2.PSs.imp {X : Cx} {st : List Stmt} {t t' : TS} (h : PSs X st t) (i : ∀ Dn σ H, t' Dn σ H → t Dn σ H) : PSs X st t' := ⟨fun pins s σ H Q I q => h.run pins s σ H Q I (i Q σ H q)⟩
section
variable {X : Cx} {G : Gx X.K} {a b e : Expr} {me ma mb : M} {mc : MB} {pos : Pos} {st : Stmt} {sts : List Stmt} {m1 m2 : MS}
def sNil : MS := fun env u => some (.nx env, u)
def sCons (a b : MS) : MS := fun env u => bnd (a env u) fun fl u1 => match fl with
  | .nx env' => b env' u1
  | .rt d => some (.rt d, u1)
theorem dss_nil : PSs X [] (tSt G sNil) := pss_nil.imp fun Dn σ H h => by
  obtain ⟨ua, u, B, env, fl, u', B0, H0, hg, hO, hE, hW, hm, q⟩ := h
  cases hm
  exact q σ B H hg hO hE hW
theorem dss_cons (h1 : PS X st (tSt G m1)) (h2 : PSs X sts (tSt G m2)) : PSs X (st :: sts) (tSt G (sCons m1 m2)) := (pss_cons h1 h2).imp fun Dn σ H h => by
  obtain ⟨ua, u, B, env, fl, u', B0, H0, hg, hO, hE, hW, hm, q⟩ := h
  obtain ⟨f1, u1, c1, c2⟩ := bnd_some hm
  refine ⟨ua, u, B, env, f1, u1, B0, H0, hg, hO, hE, hW, c1, ?_⟩
  cases f1 with
  | nx env' => exact fun σ' B' H' g o e w => ⟨ua, u1, B', env', fl, u', B0, H0, g, o, e, w, c2, q⟩
  | rt d => cases c2; exact q
theorem dss_one (h1 : PS X st (tSt G m1)) : PSs X [st] (tSt G m1) := pss_one h1
def sSet (i : Nat) (m : M) : MS := fun env u => bnd (m env u) fun d u1 => some (.nx (env.set i (Sl.pub d)), u1)
theorem ds_set (i : Nat) {x : Str} {pos' : Pos} (hN : X.N.Nodup) (he : PE X e (tEv G me)) (hi : X.N[i]? = some x := by rfl) (hx : Loc X.env.scope x := by first | exact Or.inl rfl | exact Or.inr rfl) (hs : swapsWith e (some (.Name x pos')) pos.line X.env = pure false := by rfl)
    (hf : X.fn x = true ∨ X.env.scope.names.lookup x = some .local := by first | exact .inl rfl | exact .inr rfl | assumption) : PS X (.Assign [.Name x pos'] e pos) (tSt G (sSet i me)) := (ps_set hN hi hx he hs hf).imp fun Dn σ H h => by
  obtain ⟨ua, u, B, env, fl, u', B0, H0, hg, hO, hE, hW, hm, q⟩ := h
  obtain ⟨d, u1, c1, c2⟩ := bnd_some hm
  cases c2
  exact ⟨ua, u, B, env, d, _, hE, hW, c1, fun v H1 ⟨B1, g1, w1, r1⟩ => q _ B1 H1 (hg.trans g1) (hO.set i d v) ((hE.grow g1).set r1 i) w1⟩
theorem ds_setLc (i : Nat) {y : Str} {py : Pos} {elt tg iter : Expr} {ifs : List Expr} {scope : Scope} {own : List (Str × Nat)} {spos : Pos} {mi : MI} (t : Tgt) (ids : List Nat) (hc : X.calm = true) (hN : X.N.Nodup)
    (hsw : swapsWith (.ListComp elt [⟨tg, iter, ifs, 0⟩] scope pos) (some (.Name y py)) spos.line X.env = pure true) (hi : PI X tg iter (tIt G mi)) (ok : BlkOk X.N X.env.scope scope own) (hid : own.map (·.2) = ids) (ht : ∀ i ∈ t.ids, i ∈ ids)
    (hg : ∀ (s : Shared) (H : Hp) (C : Addr) (cl : List (Str × Addr)) (fp : List Addr), PG (X.blk s H scope (compEnvC scope cl C X.env) fp) tg (gOf X.K t)) (hq : ∀ (s : Shared) (H : Hp) (C : Addr) (cl : List (Str × Addr)) (fp : List Addr), PTs (X.blk s H scope (compEnvC scope cl C X.env) fp) ifs (tTst (K := X.K) G mc))
    (he : ∀ (s : Shared) (H : Hp) (C : Addr) (cl : List (Str × Addr)) (fp : List Addr), PE (X.blk s H scope (compEnvC scope cl C X.env) fp) elt (tEv (K := X.K) G me)) (hy : X.N[i]? = some y := by rfl) (hyl : X.env.scope.names.lookup y = some .local := by rfl) (hs : ∀ x, foldedSetIterable iter X.env x = pure x := by intro _; rfl) :
    PS X (.Assign [.Name y py] (.ListComp elt [⟨tg, iter, ifs, 0⟩] scope pos) spos) (tSt G (sSet i (mLc t ids mi mc me))) := by
  subst hid
  refine (ps_setLc hc hN hy hyl hsw hi ok hg hq he hs).imp fun Dn σ H h => ?_
  obtain ⟨ua, u, B, env, fl, u', B0, H0, hg, hO, hE, hW, hm, q⟩ := h
  obtain ⟨d, u1, c1, c2⟩ := bnd_some hm
  cases c2
  exact lc_read ht ⟨ua, u, B, env, d, _, hE, hW, c1, fun v H1 ⟨B1, g1, w1, r1⟩ => q _ B1 H1 (hg.trans g1) (hO.set i d v) ((hE.grow g1).set r1 i) w1⟩
/-- a, b = a tuple -/
def sTgt (t : Tgt) (m : M) : MS := fun env u => bnd (m env u) fun d u1 => match bindT t d env with
  | some env' => some (.nx env', u1)
  | none => none
theorem bindT_own {t : Tgt} {d : D} {env env' : List Sl} (b : bindT t d env = some env') (j : Nat) (ds : List D) (h : env'[j]? = some (Sl.own ds)) : env[j]? = some (Sl.own ds) ∧ j ∉ t.ids := by
  cases t with
  | one i =>
    unfold bindT at b; cases b
    rcases get_set h with ⟨rfl, q⟩ | ⟨q, h⟩
    · cases q
    · exact ⟨h, by simp [Tgt.ids, q]⟩
  | many is =>
    cases d with
    | tup xs =>
      dsimp only [bindT] at b
      split at b
      · rename_i hl
        cases b
        show env[j]? = some (Sl.own ds) ∧ j ∉ is
        induction is generalizing env xs with
        | nil => exact ⟨h, by simp⟩
        | cons i is ih =>
          cases xs with
          | nil => cases hl
          | cons x xs =>
            obtain ⟨h1, h2⟩ := ih (env := env.set i (Sl.pub x)) xs (by simpa using hl) h
            rcases get_set h1 with ⟨rfl, q⟩ | ⟨q, h3⟩
            · cases q
            · exact ⟨h3, fun z => by rcases List.mem_cons.mp z with z | z; exact q z; exact h2 z⟩
      · cases b
    | _ => cases b
theorem ds_tgt (t : Tgt) {tg : Expr} (he : PE X e (tEv G me)) (hg : PG X tg (gOf X.K t)) (hs : swapsWithSole [tg] e pos.line X.env = pure false := by rfl) (hw : swappedStores [tg] e X.env = pure none := by rfl)
    (h1 : (assignEach [tg] X.env).map (·.2) = [assign tg X.env] := by rfl) : PS X (.Assign [tg] e pos) (tSt G (sTgt t me)) := (ps_asg he hg hs hw h1).imp fun Dn σ H h => by
  obtain ⟨ua, u, B, env, fl, u', B0, H0, hg, hO, hE, hW, hm, q⟩ := h
  obtain ⟨d, u1, c1, c2⟩ := bnd_some hm
  split at c2
  · rename_i env' hb
    cases c2
    refine ⟨ua, u, B, env, d, _, hE, hW, c1, fun v H1 ⟨B1, g1, w1, r1⟩ => bindT_ok (hE.grow g1) w1 r1 hb fun σ' e' _ hk => q _ B1 H1 (hg.trans g1) (fun j ds p z1 z2 => ?_) e' w1⟩
    obtain ⟨z3, z4⟩ := bindT_own hb j ds z1
    exact hO j ds p z3 (hk j _ z2 z4)
  · cases c2
/-- a, b = x, y -/
def sPar (i j : Nat) (a b : M) : MS := fun env u => bnd (a env u) fun d u1 => bnd (b env u1) fun d2 u2 => some (.nx ((env.set i (Sl.pub d)).set j (Sl.pub d2)), u2)
theorem ds_par (i j : Nat) {x y : Str} {px py pt pt2 : Pos} {kt k2 : Nat} (ha : PE X a (tEv G ma)) (hb : PE X b (tEv G mb)) (h : ∀ {ta : TA}, PA X [a, b] ta → PS X (.Assign [.Tuple [.Name x px, .Name y py] kt pt] (.Tuple [a, b] k2 pt2) pos) (tPar i j ta))
    (hs : starEach (a :: [b]) X.env = (false, eval a X.env) :: starEach [b] X.env := by rfl) (hs2 : starEach (b :: []) X.env = (false, eval b X.env) :: starEach [] X.env := by rfl) :
    PS X (.Assign [.Tuple [.Name x px, .Name y py] kt pt] (.Tuple [a, b] k2 pt2) pos) (tSt G (sPar i j ma mb)) := (h (pa_cons ha (pa_cons hb pa_nil hs2) hs)).imp fun Dn σ H h => by
  obtain ⟨ua, u, B, env, fl, u', B0, H0, hg, hO, hE, hW, hm, q⟩ := h
  obtain ⟨d, u1, c1, c2⟩ := bnd_some hm
  obtain ⟨d2, u2, c3, c4⟩ := bnd_some c2
  cases c4
  refine ⟨ua, u, B, env, d, u1, hE, hW, c1, fun v H1 ⟨B1, g1, w1, r1⟩ => ⟨ua, u1, B1, env, d2, _, hE.grow g1, w1, c3, fun v2 H2 ⟨B2, g2, w2, r2⟩ => ?_⟩⟩
  exact ⟨v, v2, rfl, q _ B2 H2 (hg.trans (g1.trans g2)) ((hO.set i d v).set j d2 v2) ((((hE.grow g1).grow g2).set (r1.mono _ _ g2.pub) i).set r2 j) w2⟩
def sRet (m : M) : MS := fun env u => bnd (m env u) fun d u1 => some (.rt d, u1)
theorem ds_ret (he : PE X e (tEv G me)) : PS X (.Return (some e) pos) (tSt G (sRet me)) := (ps_ret he).imp fun Dn σ H h => by
  obtain ⟨ua, u, B, env, fl, u', B0, H0, hg, hO, hE, hW, hm, q⟩ := h
  obtain ⟨d, u1, c1, c2⟩ := bnd_some hm
  cases c2
  exact ⟨ua, u, B, env, d, _, hE, hW, c1, fun v H1 ⟨B1, g1, w1, r1⟩ => q v B1 H1 (hg.trans g1) w1 r1⟩
def sIf (c : MB) (a b : MS) : MS := fun env u => bnd (c env u) fun k u1 => if k = true then a env u1 else b env u1
theorem ds_if {c : Expr} {x y : List Stmt} (hc : PT X c (tTst G mc)) (ha : PSs X x (tSt G m1)) (hb : PSs X y (tSt G m2)) : PS X (.If c x y pos) (tSt G (sIf mc m1 m2)) := (ps_if hc ha hb).imp fun Dn σ H h => by
  obtain ⟨ua, u, B, env, fl, u', B0, H0, hg, hO, hE, hW, hm, q⟩ := h
  obtain ⟨k, u1, c1, c2⟩ := bnd_some hm
  refine ⟨ua, u, B, env, k, u1, hE, hW, c1, fun H1 ⟨B1, g1, w1⟩ => ?_⟩
  cases k with
  | true => rw [if_pos rfl] at c2 ⊢; exact ⟨ua, u1, B1, env, fl, u', B0, H0, hg.trans g1, hO, hE.grow g1, w1, c2, q⟩
  | false => rw [if_neg Bool.false_ne_true] at c2 ⊢; exact ⟨ua, u1, B1, env, fl, u', B0, H0, hg.trans g1, hO, hE.grow g1, w1, c2, q⟩
def sDrop (m : M) : MS := fun env u => bnd (m env u) fun _ u1 => some (.nx env, u1)
theorem ds_drop (he : PE X e (tEv G me)) (hs : swapsWith e none pos.line X.env = pure false := by rfl) : PS X (.Expr e pos) (tSt G (sDrop me)) := (ps_expr he hs).imp fun Dn σ H h => by
  obtain ⟨ua, u, B, env, fl, u', B0, H0, hg, hO, hE, hW, hm, q⟩ := h
  obtain ⟨d, u1, c1, c2⟩ := bnd_some hm
  cases c2
  exact ⟨ua, u, B, _, d, _, hE, hW, c1, fun v H1 ⟨B1, g1, w1, r1⟩ => q σ B1 H1 (hg.trans g1) hO (hE.grow g1) w1⟩
/-- a loop; no break, no continue -/
def forL (t : Tgt) (f : MS) : List D → List Sl → U → Option (Fl × U)
  | [], env, u => some (.nx env, u)
  | d :: ds, env, u => match bindT t d env with
    | none => none
    | some env1 => bnd (f env1 u) fun fl u1 => match fl with
      | .nx env2 => forL t f ds env2 u1
      | .rt x => some (.rt x, u1)
def sFor (t : Tgt) (mi : MI) (f : MS) : MS := fun env u => bnd (mi env u) fun ds u1 => forL t f ds env u1
theorem Grow.mid {ua : Option Addr} {B0 H0 B1 B2 H1 H2 : Hp} (g1 : Grow ua B0 H0 B1 H1) (g2 : Grow ua B0 H0 B2 H2) (s : Same B1 B2) : Grow ua B1 H0 B2 H2 :=
  ⟨g2.keep, g2.live, s, fun a o h => by
    rcases g2.new a o h with z | z
    · exact .inl (by
        have z1 := g1.pub a o z
        exact z1)
    · exact .inr z⟩
theorem Grow.unmid {ua : Option Addr} {B0 H0 B1 B2 H1 H2 : Hp} (g1 : Grow ua B0 H0 B1 H1) (g2 : Grow ua B1 H0 B2 H2) : Grow ua B0 H0 B2 H2 :=
  ⟨g2.keep, g2.live, fun a o h => g2.pub a o (g1.pub a o h), fun a o h => by
    rcases g2.new a o h with z | z
    · exact g1.new a o z
    · exact .inr z⟩
theorem for_read {t : Tgt} {mi : MI} {Dn : Ends} {σ : L2.St} {H : Hp} (h : tSt G (sFor t mi m1) Dn σ H) : tFor (tIt G mi) (gOf X.K t) (tSt G m1) Dn σ H := by
  obtain ⟨ua, u, B, env, fl, u', B0, H0, hg, hO, hE, hW, hm, q⟩ := h
  obtain ⟨ds, u1, c1, c2⟩ := bnd_some hm
  refine ⟨ua, u, B, env, ds, u1, hE, hW, c1, fun J B1 H1 g1 w1 wk => ?_⟩
  have g01 : Grow ua B0 H0 B1 H1 := hg.trans g1
  refine ⟨fun i m σ2 H2 => m = ds.length - i ∧ i ≤ ds.length ∧ ∃ B2 u2 env2, Grow ua B1 H0 B2 H2 ∧ OwnNew env2 σ2 H0 ∧ EnvOk G ua env2 σ2 B2 H2 ∧ Wd ua u2 B2 H2 ∧ forL t m1 (ds.drop i) env2 u2 = some (fl, u'),
    ⟨ds.length, by omega, by omega, B1, u1, env, g01.mid g01 (fun _ _ z => z), hO, hE.grow g1, w1, c2⟩, ?_⟩
  rintro i m σ2 H2 ⟨rfl, hi, B2, u2, env2, g2, o2, e2, w2, hf⟩
  have hk := wk i B2 H2 u2 g2.pub w2
  by_cases hlt : i < ds.length
  · have hd : ds[i]? = some ds[i] := List.getElem?_eq_getElem hlt
    obtain ⟨hgo, hy⟩ := hk.1 _ hd
    rw [List.drop_eq_getElem_cons hlt] at hf
    refine .inr ⟨hgo, fun σ3 H3 => ∃ B3 u3 env3, Grow ua B1 H0 B3 H3 ∧ OwnNew env3 σ3 H0 ∧ EnvOk G ua env3 σ3 B3 H3 ∧ Wd ua u3 B3 H3 ∧ forL t m1 (ds.drop (i + 1)) env3 u3 = some (fl, u'),
      fun σ3 H3 z => ⟨ds.length - (i + 1), by omega, rfl, hlt, z⟩, fun x H3 y => ?_⟩
    obtain ⟨B3, g3, w3, r3⟩ := hy x H3 y
    unfold forL at hf
    split at hf
    · cases hf
    · rename_i env3 hb
      refine bindT_ok (e2.grow g3) w3 r3 hb fun σ3 e3 _ hkk => ?_
      obtain ⟨f1, u3, c3, c4⟩ := bnd_some hf
      have o3 : OwnNew env3 σ3 H0 := fun j es p z1 z2 => by
        obtain ⟨z3, z4⟩ := bindT_own hb j es z1
        exact o2 j es p z3 (hkk j _ z2 z4)
      refine ⟨ua, u2, B3, env3, f1, u3, B1, H0, g2.trans g3, o3, e3, w3, c3, ?_⟩
      cases f1 with
      | nx env4 => exact fun σ4 B4 H4 z1 z2 z3 z4 => ⟨B4, u3, env4, z1, z2, z3, z4, c4⟩
      | rt x =>
        cases c4
        exact fun v B4 H4 z1 z2 z3 => q v B4 H4 (g01.unmid z1) z2 z3
  · have e : i = ds.length := by omega
    subst e
    rw [List.drop_length] at hf
    cases hf
    exact .inl ⟨hk.2 (List.getElem?_eq_none (Nat.le_refl _)), q σ2 B2 H2 (g01.unmid g2) o2 e2 w2⟩
theorem ds_for (t : Tgt) {mi : MI} {tg it : Expr} {body : List Stmt} (hp : PassesOwn (model X.prog X.w) X.A X.env X.xe) (hc : X.calm = true) (hi : PI X tg it (tIt G mi)) (hg : PG X tg (gOf X.K t)) (hb : PSs X body (tSt G m1)) (hs : ∀ x, foldedSetIterable it X.env x = pure x := by intro _; rfl) :
    PS X (.For tg it body [] pos) (tSt G (sFor t mi m1)) := (ps_for hp hc hi hg hb hs).imp fun _ _ _ h => for_read h
end

/-! ### a def by its body -/
def runB (m : MS) (L : Nat) (ds : List D) (u : U) : Option (D × U) := match m (ds.map Sl.pub ++ List.replicate (L - ds.length) Sl.no) u with
  | some (.rt d, u') => some (d, u')
  | some (.nx _, u') => some (.non, u')
  | none => none
theorem start_ok {K : PySem.W.Frag} {G : Gx K} {ua : Option Addr} {B H : Hp} {ds : List D} {vs : List V} {N : List Str} (r : Reps G ua ds vs B) : EnvOk G ua (ds.map Sl.pub ++ List.replicate (N.length - ds.length) Sl.no) (L2.start N vs) B H := by
  have hpub : ∀ (i : Nat) x, (ds.map Sl.pub ++ List.replicate (N.length - ds.length) Sl.no)[i]? = some x → (∃ d, ds[i]? = some d ∧ x = Sl.pub d) ∨ x = Sl.no := fun i x h => by
    by_cases hi : i < ds.length
    · rw [List.getElem?_append_left (by rw [List.length_map]; exact hi), List.getElem?_map] at h
      obtain ⟨d, h1, h2⟩ := map_some h
      exact .inl ⟨d, h1, h2.symm⟩
    · rw [List.getElem?_append_right (by rw [List.length_map]; omega), List.getElem?_replicate] at h
      split at h
      · exact .inr (Option.some.inj h).symm
      · cases h
  refine ⟨?_, fun i d h => ?_, fun i es h => ?_, fun i j es fs p h => ?_⟩
  · unfold L2.start
    rw [List.length_append, List.length_append, List.length_map, List.length_map, List.length_replicate, List.length_replicate, r.len]
  · rcases hpub i _ h with ⟨d', h1, h2⟩ | h2
    · cases h2
      obtain ⟨v, h3, h4⟩ := r.get h1
      refine ⟨v, ?_, h4⟩
      unfold L2.start
      rw [List.getElem?_append_left (by rw [List.length_map]; exact lt_of_get h3), List.getElem?_map, h3]; rfl
    · cases h2
  · rcases hpub i _ h with ⟨d', h1, h2⟩ | h2 <;> cases h2
  · rcases hpub i _ h with ⟨d', h1, h2⟩ | h2 <;> cases h2
theorem def_ok {P : Program} {w : World} {K : PySem.W.Frag} {mg : Str → Option Value} {base : Heap} {G : Gx K} {x qual : Str} {st : Stmt} {f : Addr} {fd : FuncData} {N ps : List Str} {k n : Nat} {m : MS} (F : Fun K x qual st f fd) (S : FnScope N ps (defScope st)) (hn : ps.length = n)
    (hb : ∀ (cdv : Value) (A : Around) (outer : List Env) (s : Shared) (H : Hp) (E : XK), Room k (A.deeper (envOfC qual (defScope st) s.heap.objs.size f cdv)) → PSs (cxOf CX0 P w K mg base N qual (defScope st) f cdv A outer s H E).nox (defBody st) (tSt G m)) :
    FnOk P w K mg base CX0 (k + 1) f fd ps (spF G (runB m N.length) n) := by
  refine F.ok S (fun vs H Q E h => ?_) (fun cdv A outer s H vs Q E hr h => ⟨_, hb cdv A outer s H E hr, ?_⟩)
  · obtain ⟨ua, u, B, ds, d, u', r, hl, _⟩ := h
    rw [← r.len, hl, hn]
  · obtain ⟨ua, u, B, ds, d, u', r, hl, hw, hf, q⟩ := h
    unfold runB at hf
    split at hf
    · rename_i d0 u0 hm
      cases hf
      refine ⟨ua, u, B, _, _, _, B, H, .refl, fun i es p z _ => ?_, start_ok r, hw, hm, fun v B' H' g w' r' => q v H' ⟨B', g, w', r'⟩⟩
      obtain ⟨_, _, h1, _⟩ := (start_ok (N := N) (H := H) r).own i es z
      have z2 := (start_ok (N := N) (H := H) r).own i es z
      exfalso
      by_cases hi : i < ds.length
      · rw [List.getElem?_append_left (by rw [List.length_map]; exact hi), List.getElem?_map] at z
        obtain ⟨_, _, h2⟩ := map_some z
        cases h2
      · rw [List.getElem?_append_right (by rw [List.length_map]; omega), List.getElem?_replicate] at z
        split at z <;> cases z
    · rename_i e0 u0 hm
      cases hf
      refine ⟨ua, u, B, _, _, _, B, H, .refl, fun i es p z _ => ?_, start_ok r, hw, hm, fun σ' B' H' g o e w' => q _ H' ⟨B', g, w', rep_non⟩⟩
      exfalso
      by_cases hi : i < ds.length
      · rw [List.getElem?_append_left (by rw [List.length_map]; exact hi), List.getElem?_map] at z
        obtain ⟨_, _, h2⟩ := map_some z
        cases h2
      · rw [List.getElem?_append_right (by rw [List.length_map]; omega), List.getElem?_replicate] at z
        split at z <;> cases z
    · cases hf
end Dv

/-! Dv7: the urn, calls by keywords, recursion, classes. -/
namespace Dv
open PySem PySem.Spec PyProof.Rows L2

theorem hU64 {A : Around} {k : Nat} (hr : Room k A) : A.units + 64 < cLine := hr.units
theorem hU65 {A : Around} {k : Nat} (hr : Room k A) : A.units + 65 < cLine := by have := hr.un; omega

section
variable {X : Cx} {G : Gx X.K} {e : Expr} {me : M} {pos : Pos}
/-! ### the urn: three numbers at a place of its own -/
def isUrn (env : List Sl) (i : Nat) : Bool := match env[i]? with
  | some (.pub .urn) => true
  | _ => false
theorem isUrn_pub {env : List Sl} {i : Nat} (h : isUrn env i = true) : env[i]? = some (.pub .urn) := by
  unfold isUrn at h
  split at h
  · assumption
  · cases h
def mUrn0 (i : Nat) : M := fun env u => if isUrn env i = true then some (.int u.a, u) else none
def mUrn1 (i : Nat) : M := fun env u => if isUrn env i = true then some (.int u.b, u) else none
def mUrn2 (i : Nat) : M := fun env u => if isUrn env i = true then some (.int u.c, u) else none
def sUrn0 (i : Nat) (m : M) : MS := fun env u => bnd (m env u) fun d u1 => match d with
  | .int z => if isUrn env i = true then some (.nx env, { u1 with a := z }) else none
  | _ => none
def sUrn1 (i : Nat) (m : M) : MS := fun env u => bnd (m env u) fun d u1 => match d with
  | .int z => if isUrn env i = true then some (.nx env, { u1 with b := z }) else none
  | _ => none
def sUrn2 (i : Nat) (m : M) : MS := fun env u => bnd (m env u) fun d u1 => match d with
  | .int z => if isUrn env i = true then some (.nx env, { u1 with c := z }) else none
  | _ => none
theorem urn_read {j : Nat} {z : U → Int} {i : Nat} {σ : L2.St} {H : Hp} {Q : VK} (hj : ∀ u : U, ([V.int u.a, .int u.b, .int u.c] : List V)[j]? = some (.int (z u))) (h : tEv G (fun env u => if isUrn env i = true then some (D.int (z u), u) else none) σ H Q) :
    tOp (rIx X.K) (tVar i) (tC (.int (j : Nat))) σ H Q := by
  obtain ⟨ua, u, B, env, d, u', hE, hW, hm, q⟩ := h
  dsimp only at hm
  split at hm
  · rename_i hi
    cases hm
    obtain ⟨v, hv, r⟩ := hE.pub _ _ (isUrn_pub hi)
    unfold Rep at r
    obtain ⟨p, e1, rfl⟩ := r
    have hw := hW.urn p e1
    exact ⟨_, hv, .inl ⟨p, _, _, _, rfl, rfl, .of hw.2, atI_nat (hj u), q _ _ ⟨B, .refl, hW, rep_int⟩⟩⟩
  · cases hm
section
variable {x : Str} {px pc : Pos} {k : Nat}
theorem dv_urn0 (i : Nat) (hN : X.N[i]? = some x := by rfl) (hv : Vis X.env.scope x := by first | exact Or.inl rfl | exact Or.inr (Or.inl rfl) | exact Or.inr (Or.inr rfl)) (hd : (x == ("__debug__" : Str)) = false := by decide)
    (hcd : (x == ("__classdict__" : Str)) = false := by decide) : PE X (.Subscript (.Name x px) (.Constant (.int 0) k pc) pos) (tEv G (mUrn0 i)) := (pe_ix ix_seq (pe_var hN hv hd hcd) pe_int fun _ _ => rfl).imp fun _ _ _ h => urn_read (j := 0) (z := fun u => u.a) (fun _ => rfl) h
theorem dv_urn1 (i : Nat) (hN : X.N[i]? = some x := by rfl) (hv : Vis X.env.scope x := by first | exact Or.inl rfl | exact Or.inr (Or.inl rfl) | exact Or.inr (Or.inr rfl)) (hd : (x == ("__debug__" : Str)) = false := by decide)
    (hcd : (x == ("__classdict__" : Str)) = false := by decide) : PE X (.Subscript (.Name x px) (.Constant (.int 1) k pc) pos) (tEv G (mUrn1 i)) := (pe_ix ix_seq (pe_var hN hv hd hcd) pe_int fun _ _ => rfl).imp fun _ _ _ h => urn_read (j := 1) (z := fun u => u.b) (fun _ => rfl) h
theorem dv_urn2 (i : Nat) (hN : X.N[i]? = some x := by rfl) (hv : Vis X.env.scope x := by first | exact Or.inl rfl | exact Or.inr (Or.inl rfl) | exact Or.inr (Or.inr rfl)) (hd : (x == ("__debug__" : Str)) = false := by decide)
    (hcd : (x == ("__classdict__" : Str)) = false := by decide) : PE X (.Subscript (.Name x px) (.Constant (.int 2) k pc) pos) (tEv G (mUrn2 i)) := (pe_ix ix_seq (pe_var hN hv hd hcd) pe_int fun _ _ => rfl).imp fun _ _ _ h => urn_read (j := 2) (z := fun u => u.c) (fun _ => rfl) h
theorem urn_put {j : Nat} {i : Nat} {f : U → Int → U} {Dn : Ends} {σ : L2.St} {H : Hp} (hj : ∀ (u : U) (z : Int), ([V.int u.a, .int u.b, .int u.c] : List V).set j (.int z) = [V.int (f u z).a, .int (f u z).b, .int (f u z).c]) (hj3 : j < 3)
    (h : tSt G (fun env u => bnd (me env u) fun d u1 => match d with | .int z => if isUrn env i = true then some (.nx env, f u1 z) else none | _ => none) Dn σ H) :
    tAsg (tEv G me) (gSub (tVar i) (tC (.int (j : Nat))) rSetL) Dn σ H := by
  obtain ⟨ua, u, B, env, fl, u', B0, H0, hg, hO, hE, hW, hm, q⟩ := h
  obtain ⟨d, u1, c1, c2⟩ := bnd_some hm
  refine ⟨ua, u, B, env, d, u1, hE, hW, c1, fun v H1 ⟨B1, g1, w1, r1⟩ => ?_⟩
  split at c2
  · split at c2
    · rename_i z hi
      cases c2
      cases r1.int
      have hE1 := hE.grow g1
      obtain ⟨v, hv, r⟩ := hE1.pub _ _ (isUrn_pub hi)
      unfold Rep at r
      obtain ⟨p, e1, rfl⟩ := r
      have hw := w1.urn p e1
      refine ⟨_, hv, p, _, _, j, rfl, rfl, hw.2, ?_, ?_⟩
      · unfold ixN
        rw [if_pos (by omega), if_pos (by show (j : Int) < ((3 : Nat) : Int); omega)]
        rfl
      · rw [hj]
        have gg := hg.trans g1
        refine q σ B1 _ ⟨fun a o h n => ?_, fun a h => ?_, gg.pub, gg.new⟩ hO ⟨hE1.len, hE1.pub, fun k ds hk => ?_, hE1.inj⟩ ⟨fun a o h => ?_, fun a ha => ?_⟩
        · rw [upd_ne (fun z => n (by rw [z]; exact e1))]; exact gg.keep a o h n
        · refine gg.live a ?_
          by_cases z : a = p
          · subst z; rw [upd_same] at h; cases h
          · rw [upd_ne z] at h; exact h
        · obtain ⟨p2, vs, h1, h2, h3, h4, h5⟩ := hE1.own k ds hk
          refine ⟨p2, vs, h1, ?_, h3, h4, h5⟩
          rw [upd_ne (fun z => h5 (by rw [z]; exact e1))]; exact h2
        · rw [upd_ne (ne_of_none h hw.1)]; exact w1.sub a o h
        · rw [e1] at ha
          cases ha
          exact ⟨hw.1, upd_same⟩
    · cases c2
  · cases c2
theorem ds_urn0 (i : Nat) (he : PE X e (tEv G me)) (hN : X.N[i]? = some x := by rfl) (hv : Vis X.env.scope x := by first | exact Or.inl rfl | exact Or.inr (Or.inl rfl) | exact Or.inr (Or.inr rfl)) (hd : (x == ("__debug__" : Str)) = false := by decide) (hcd : (x == ("__classdict__" : Str)) = false := by decide)
    (hs : swapsWithSole [.Subscript (.Name x px) (.Constant (.int 0) k pc) pos] e pos.line X.env = pure false := by rfl) {pos2 : Pos} (hs : swapsWithSole [.Subscript (.Name x px) (.Constant (.int 0) k pc) pos] e pos2.line X.env = pure false := by rfl) (hw : swappedStores [.Subscript (.Name x px) (.Constant (.int 0) k pc) pos] e X.env = pure none := by rfl) :
    PS X (.Assign [.Subscript (.Name x px) (.Constant (.int 0) k pc) pos] e pos2) (tSt G (sUrn0 i me)) := (ps_asg he (pg_sub (pe_var hN hv hd hcd) pe_int set_list) hs hw).imp fun _ _ _ h => urn_put (j := 0) (f := fun u z => { u with a := z }) (fun _ _ => rfl) (by decide) h
theorem ds_urn1 (i : Nat) (he : PE X e (tEv G me)) (hN : X.N[i]? = some x := by rfl) (hv : Vis X.env.scope x := by first | exact Or.inl rfl | exact Or.inr (Or.inl rfl) | exact Or.inr (Or.inr rfl)) (hd : (x == ("__debug__" : Str)) = false := by decide) (hcd : (x == ("__classdict__" : Str)) = false := by decide)
    {pos2 : Pos} (hs : swapsWithSole [.Subscript (.Name x px) (.Constant (.int 1) k pc) pos] e pos2.line X.env = pure false := by rfl) (hw : swappedStores [.Subscript (.Name x px) (.Constant (.int 1) k pc) pos] e X.env = pure none := by rfl) :
    PS X (.Assign [.Subscript (.Name x px) (.Constant (.int 1) k pc) pos] e pos2) (tSt G (sUrn1 i me)) := (ps_asg he (pg_sub (pe_var hN hv hd hcd) pe_int set_list) hs hw).imp fun _ _ _ h => urn_put (j := 1) (f := fun u z => { u with b := z }) (fun _ _ => rfl) (by decide) h
theorem ds_urn2 (i : Nat) (he : PE X e (tEv G me)) (hN : X.N[i]? = some x := by rfl) (hv : Vis X.env.scope x := by first | exact Or.inl rfl | exact Or.inr (Or.inl rfl) | exact Or.inr (Or.inr rfl)) (hd : (x == ("__debug__" : Str)) = false := by decide) (hcd : (x == ("__classdict__" : Str)) = false := by decide)
    {pos2 : Pos} (hs : swapsWithSole [.Subscript (.Name x px) (.Constant (.int 2) k pc) pos] e pos2.line X.env = pure false := by rfl) (hw : swappedStores [.Subscript (.Name x px) (.Constant (.int 2) k pc) pos] e X.env = pure none := by rfl) :
    PS X (.Assign [.Subscript (.Name x px) (.Constant (.int 2) k pc) pos] e pos2) (tSt G (sUrn2 i me)) := (ps_asg he (pg_sub (pe_var hN hv hd hcd) pe_int set_list) hs hw).imp fun _ _ _ h => urn_put (j := 2) (f := fun u z => { u with c := z }) (fun _ _ => rfl) (by decide) h
end

/-! ### calls by keywords alone, in the parameters' order -/
def DefK (P : Program) (w : World) {K : PySem.W.Frag} (mg : Str → Option Value) (base : Heap) (G : Gx K) (x : Str) (ks : List Str) (k : Nat) (F : List D → U → Option (D × U)) : Prop :=
  ∃ f fd, FnOk P w K mg base CX0 k f fd ks (spF G F ks.length) ∧ mg x = some (.ref f) ∧ PySem.W.keepIn K (.ref f) = true ∧ ∀ (s : Shared) (ws : List Value), K.In s.heap → ws.length = ks.length → BindsTo s fd ⟨[], ks.zip ws⟩ (ks.zip ws)
theorem DefK.mono {P : Program} {w : World} {K : PySem.W.Frag} {mg : Str → Option Value} {base : Heap} {G : Gx K} {x : Str} {ks : List Str} {j k : Nat} {F : List D → U → Option (D × U)} (h : DefK P w mg base G x ks j F) (l : j ≤ k) : DefK P w mg base G x ks k F := by
  obtain ⟨f, fd, h1, h2⟩ := h
  exact ⟨f, fd, h1.mono l, h2⟩
variable {kws : List Keyword} {ms : Ms} {kpos p : Pos} {nm : Option Str}
theorem dks_nil : PK X [] (tEvs G mNil) := ⟨fun pos pins s σ H Q I h => by
  obtain ⟨ua, u, B, env, ds, u', hE, hW, hm, q⟩ := h
  cases hm
  exact pk_nil.run pos pins s σ H Q I (q [] H ⟨B, .refl, hW, .nil⟩)⟩
theorem dks_cons (ha : PE X e (tEv G me)) (hr : PK X kws (tEvs G ms)) : PK X (⟨nm, e, kpos⟩ :: kws) (tEvs G (mCons me ms)) := ⟨fun pos pins s σ H Q I h => by
  obtain ⟨ua, u, B, env, ds, u', hE, hW, hm, q⟩ := h
  obtain ⟨d, u1, h1, h2⟩ := bnd_some hm
  obtain ⟨ds', u2, h4, h3⟩ := bnd_some h2
  cases h3
  refine (pk_cons ha hr).run pos pins s σ H Q I ⟨ua, u, B, env, d, u1, hE, hW, h1, fun v H1 ⟨B1, g1, w1, r1⟩ => ⟨ua, u1, B1, env, ds', _, hE.grow g1, w1, h4, fun vs H2 ⟨B2, g2, w2, r2⟩ => q _ _ ⟨B2, g1.trans g2, w2, .cons (r1.mono _ _ g2.pub) r2⟩⟩⟩⟩
theorem dv_callK {x : Str} {k n : Nat} {ks : List Str} {F : List D → U → Option (D × U)} (D0 : DefK X.prog X.w X.mg X.base G x ks k F) (hr : Room k X.A) (hg : Gl X x) (hn : ks.length = n) (ha : PK X kws (tEvs G ms))
    (hall : (backToKw pos (keywordEach kws X.env)).all (·.1.isSome) = true := by rfl) (hks : (backToKw pos (keywordEach kws X.env)).filterMap (·.1) = ks := by rfl) (hdb : (x == ("__debug__" : Str)) = false := by decide)
    (hpl : ((backTo pos (starEach [] X.env)).any (·.1) || (backToKw pos (keywordEach kws X.env)).any (·.1.isNone)) = false := by rfl) :
    PE X (.Call (.Name x p) [] kws pos) (tEv G (mCall n F ms)) := by
  subst hn
  obtain ⟨f, fd, hf, hm, hk, hb⟩ := D0
  refine ⟨fun pins s σ H Q I h => ?_⟩
  obtain ⟨ua, u, B, env, d, u', hE, hW, hm2, q⟩ := h
  obtain ⟨ds, u1, h1, h2⟩ := bnd_some hm2
  split at h2
  · rename_i hl
    refine wpAny_Call_Name_kw (ld_glob I hg hm ?_ hdb)
    refine PySem.W.callWith_KW0 (h₀ := X.base) I.ok.mod.kin hk hall (thn (ha.run pos pins s σ H _ I ⟨ua, u, B, env, ds, u1, hE, hW, h1, fun _ _ z => z⟩) fun ws s2 ⟨zs, H2, I2, rz, B2, g2, w2, r2⟩ => ⟨I2.kIn, ?_⟩) hpl
    rw [hks]
    have lw : ws.length = ks.length := by rw [← rz.length, ← r2.len]; exact hl
    refine wpAny_call (codeAny_mono (hf.run X.A X.stack s2 H2 ⟨[] ++ [], ks.zip ws⟩ ws zs Q E0 hr I2.env0 (hb s2 ws I2.kIn lw) rz ⟨ua, u1, B2, ds, d, u', r2, hl, w2, h2, fun v H3 a => q v H3 (.up g2 a)⟩) fun r s' hq => ?_)
    cases r with
    | error e => exact hq.elim
    | ok fl =>
      cases fl with
      | ret u => exact I2.after hq
      | next => exact False.elim hq
      | brk => exact False.elim hq
      | cont => exact False.elim hq
  · cases h2

/-! ### a class made by its __init__ -/
/-- C(d): a new instance with the fields that mk tells -/
def MakeOk (P : Program) (w : World) {K : PySem.W.Frag} (mg : Str → Option Value) (base : Heap) (G : Gx K) (x : Str) (k n : Nat) (F : List D → U → Option (D × U)) : Prop :=
  ∃ C f fd ps sp ds dvs, Mk K C f ∧ FnOk P w K mg base CX0 k f fd ps sp ∧ mg x = some (.ref C) ∧ Binds K fd ps ds ∧ Vals dvs ds ∧
    ∀ (ua : Option Addr) (u u' : U) (B H : Hp) (as : List D) (vs : List V) (d : D), as.length = n → F as u = some (d, u') → Reps G ua as vs B → Wd ua u B H → ∀ (y dx : Addr), H y = none → H dx = none → dx ≠ y →
      ∀ Q : VK, (∀ H', Aft G ua B H u' d (.ref y) H' → Q (.ref y) H') → sp (.ref y :: (vs ++ dvs)) (upd (upd H dx (.own y)) y (.ins C dx [])) (fun v H2 => v = .non ∧ Q (.ref y) H2) E0
theorem MakeOk.mono {P : Program} {w : World} {K : PySem.W.Frag} {mg : Str → Option Value} {base : Heap} {G : Gx K} {x : Str} {j k n : Nat} {F : List D → U → Option (D × U)} (h : MakeOk P w mg base G x j n F) (l : j ≤ k) : MakeOk P w mg base G x k n F := by
  obtain ⟨C, f, fd, ps, sp, ds, dvs, h1, h2, h3⟩ := h
  exact ⟨C, f, fd, ps, sp, ds, dvs, h1, h2.mono l, h3⟩
theorem dv_make {es : List Expr} {x : Str} {k n : Nat} {F : List D → U → Option (D × U)} (D0 : MakeOk X.prog X.w X.mg X.base G x k n F) (hr : Room (k + 1) X.A) (hg : Gl X x) (ha : PA X (e :: es) (tEvs G ms))
    (hdb : (x == ("__debug__" : Str)) = false := by decide) (he : starEach (e :: es) X.env = (false, eval e X.env) :: starEach es X.env := by rfl) (hpl : (backTo pos (starEach es X.env)).any (·.1) = false := by rfl) :
    PE X (.Call (.Name x p) (e :: es) [] pos) (tEv G (mCall n F ms)) := by
  obtain ⟨C, f, fd, ps, sp, dds, dvs, hM, hf, hm, hb, hd, hsp⟩ := D0
  refine (pe_make hM hf hr hg hm hb hd pass0 ha hdb he hpl).imp fun σ H Q h => ?_
  obtain ⟨ua, u, B, env, d, u', hE, hW, hm, q⟩ := h
  obtain ⟨ds, u1, h1, h2⟩ := bnd_some hm
  split at h2
  · refine ⟨ua, u, B, env, ds, u1, hE, hW, h1, fun vs H1 ⟨B1, g1, w1, r1⟩ => fun y dx hy hdx hne => ?_⟩
    exact hsp ua u1 u' B1 H1 ds vs d ‹_› h2 r1 w1 y dx hy hdx hne Q fun H' a => q _ _ (.up g1 a)
  · cases h2
end
end Dv
namespace Dv
open PySem PySem.Spec PyProof.Rows L2
section
variable {X : Cx} {G : Gx X.K}
theorem dv_gS {x : Str} {z : Str} {pos : Pos} (hg : Gl X x) (hm : ∃ t, X.mg x = some (.str z t)) (hd : (x == ("__debug__" : Str)) = false := by decide) : PE X (.Name x pos) (tEv G (mC (.str z))) := by
  obtain ⟨t, hm⟩ := hm
  exact dv_globS hg hm hd
theorem dv_gI {x : Str} {z : Int} {pos : Pos} (hg : Gl X x) (hm : ∃ t, X.mg x = some (.int z t)) (hd : (x == ("__debug__" : Str)) = false := by decide) : PE X (.Name x pos) (tEv G (mC (.int z))) := by
  obtain ⟨t, hm⟩ := hm
  exact dv_globI hg hm hd
end
end Dv

/-! Dv8: the equations of the meanings, one a construct. -/
namespace Dv
open PySem PySem.Spec PyProof.Rows L2
section
variable {env env' : List Sl} {u u1 u2 u3 : U} {m a b : M} {ms : Ms} {mi : MI} {mc na nb : MB} {me : M} {p q : MS} {d x y z : D} {ds r : List D} {i n : Nat} {fl : Fl} {k : Bool}
theorem runB_rt {m : MS} {L : Nat} (h : m (ds.map Sl.pub ++ List.replicate (L - ds.length) Sl.no) u = some (.rt d, u1)) : runB m L ds u = some (d, u1) := by
  unfold runB; rw [h]
theorem sc_nx (h : p env u = some (.nx env', u1)) (h2 : q env' u1 = some (fl, u2)) : sCons p q env u = some (fl, u2) := by
  unfold sCons; rw [h]; exact h2
theorem sc_rt (h : p env u = some (.rt d, u1)) : sCons p q env u = some (.rt d, u1) := by
  unfold sCons; rw [h]; rfl
theorem sSet_eq (h : m env u = some (d, u1)) : sSet i m env u = some (.nx (env.set i (Sl.pub d)), u1) := by
  unfold sSet; rw [h]; rfl
theorem sTgt_eq {t : Tgt} (h : m env u = some (d, u1)) (h2 : bindT t d env = some env') : sTgt t m env u = some (.nx env', u1) := by
  unfold sTgt; rw [h]; show (match bindT t d env with | some env' => some (Fl.nx env', u1) | none => none) = _; rw [h2]
theorem sPar_eq {j : Nat} (h : a env u = some (x, u1)) (h2 : b env u1 = some (y, u2)) : sPar i j a b env u = some (.nx ((env.set i (Sl.pub x)).set j (Sl.pub y)), u2) := by
  unfold sPar; rw [h]; show bnd (b env u1) _ = _; rw [h2]; rfl
theorem sRet_eq (h : m env u = some (d, u1)) : sRet m env u = some (.rt d, u1) := by
  unfold sRet; rw [h]; rfl
theorem sIf_t (h : mc env u = some (true, u1)) (h2 : p env u1 = some (fl, u2)) : sIf mc p q env u = some (fl, u2) := by
  unfold sIf; rw [h]; exact h2
theorem sIf_f (h : mc env u = some (false, u1)) (h2 : q env u1 = some (fl, u2)) : sIf mc p q env u = some (fl, u2) := by
  unfold sIf; rw [h]; exact h2
theorem mVar_eq (h : env[i]? = some (Sl.pub d)) : mVar i env u = some (d, u) := by
  unfold mVar; rw [h]
theorem mCons_eq (h : m env u = some (x, u1)) (h2 : ms env u1 = some (ds, u2)) : mCons m ms env u = some (x :: ds, u2) := by
  unfold mCons; rw [h]; show bnd (ms env u1) _ = _; rw [h2]; rfl
theorem mNil_eq : mNil env u = some ([], u) := rfl
theorem mC_eq : mC d env u = some (d, u) := rfl
theorem mLst_eq (h : ms env u = some (ds, u1)) (hl : ds.length ≤ sizeLine) : mLst ms env u = some (.lst ds, u1) := by
  unfold mLst; rw [h]; exact if_pos hl
theorem mTup_eq (h : ms env u = some (ds, u1)) (hl : ds.length ≤ sizeLine) : mTup ms env u = some (.tup ds, u1) := by
  unfold mTup; rw [h]; exact if_pos hl
theorem mBin_eq {f : D → D → Option D} (h : a env u = some (x, u1)) (h2 : b env u1 = some (y, u2)) (h3 : f x y = some z) : mBin f a b env u = some (z, u2) := by
  unfold mBin; rw [h]; show bnd (b env u1) _ = _; rw [h2]; show lft (f x y) u2 = _; rw [h3]; rfl
theorem mBi_eq {f : List D → Option D} (h : ms env u = some (ds, u1)) (h2 : f ds = some d) : mBi f ms env u = some (d, u1) := by
  unfold mBi; rw [h]; show lft (f ds) u1 = _; rw [h2]; rfl
theorem mCall_eq {F : List D → U → Option (D × U)} (h : ms env u = some (ds, u1)) (hl : ds.length = n) (h2 : F ds u1 = some (d, u2)) : mCall n F ms env u = some (d, u2) := by
  unfold mCall; rw [h]; show (if ds.length = n then F ds u1 else none) = _; rw [if_pos hl]; exact h2
theorem mTru_eq (h : a env u = some (x, u1)) (h2 : truD x = some k) : mTru a env u = some (k, u1) := by
  unfold mTru; rw [h]; show lft (truD x) u1 = _; rw [h2]; rfl
theorem mNotB_eq (h : na env u = some (k, u1)) : mNotB na env u = some (!k, u1) := by
  unfold mNotB; rw [h]; rfl
theorem mAndB_t (h : na env u = some (true, u1)) (h2 : nb env u1 = some (k, u2)) : mAndB na nb env u = some (k, u2) := by
  unfold mAndB; rw [h]; exact h2
theorem mAndB_f (h : na env u = some (false, u1)) : mAndB na nb env u = some (false, u1) := by
  unfold mAndB; rw [h]; rfl
theorem mOrB_t (h : na env u = some (true, u1)) : mOrB na nb env u = some (true, u1) := by
  unfold mOrB; rw [h]; rfl
theorem mOrB_f (h : na env u = some (false, u1)) (h2 : nb env u1 = some (k, u2)) : mOrB na nb env u = some (k, u2) := by
  unfold mOrB; rw [h]; exact h2
theorem mAnd_t (h : a env u = some (x, u1)) (ht : truD x = some true) (h2 : b env u1 = some (y, u2)) : mAnd a b env u = some (y, u2) := by
  unfold mAnd; rw [h]; show bnd (lft (truD x) u1) _ = _; rw [ht]; exact h2
theorem mAnd_f (h : a env u = some (x, u1)) (ht : truD x = some false) : mAnd a b env u = some (x, u1) := by
  unfold mAnd; rw [h]; show bnd (lft (truD x) u1) _ = _; rw [ht]; rfl
theorem mOr_t (h : a env u = some (x, u1)) (ht : truD x = some true) : mOr a b env u = some (x, u1) := by
  unfold mOr; rw [h]; show bnd (lft (truD x) u1) _ = _; rw [ht]; rfl
theorem mOr_f (h : a env u = some (x, u1)) (ht : truD x = some false) (h2 : b env u1 = some (y, u2)) : mOr a b env u = some (y, u2) := by
  unfold mOr; rw [h]; show bnd (lft (truD x) u1) _ = _; rw [ht]; exact h2
theorem mNot_eq (h : a env u = some (x, u1)) (ht : truD x = some k) : mNot a env u = some (.bl (!k), u1) := by
  unfold mNot; rw [h]; show bnd (lft (truD x) u1) _ = _; rw [ht]; rfl
theorem mIte_t (h : na env u = some (true, u1)) (h2 : a env u1 = some (d, u2)) : mIte na a b env u = some (d, u2) := by
  unfold mIte; rw [h]; exact h2
theorem mIte_f (h : na env u = some (false, u1)) (h2 : b env u1 = some (d, u2)) : mIte na a b env u = some (d, u2) := by
  unfold mIte; rw [h]; exact h2
theorem mSl_eq {lo hi : MO} {l h' : Option Int} (h : a env u = some (x, u1)) (h2 : lo env u1 = some (l, u2)) (h3 : hi env u2 = some (h', u3)) (h4 : slD x l h' = some z) : mSl a lo hi env u = some (z, u3) := by
  unfold mSl; rw [h]; show bnd (lo env u1) _ = _; rw [h2]; show bnd (hi env u2) _ = _; rw [h3]; show lft (slD x l h') u3 = _; rw [h4]; rfl
theorem moAt_eq {i : Int} (h : a env u = some (.int i, u1)) : moAt a env u = some (some i, u1) := by
  unfold moAt; rw [h]; rfl
theorem mIsi_eq {ts : List String} (h : a env u = some (x, u1)) (h2 : isiD x ts = some k) : mIsi ts a env u = some (.bl k, u1) := by
  unfold mIsi; rw [h]; show lft ((isiD x ts).map D.bl) u1 = _; rw [h2]; rfl
theorem mLc_eq {t : Tgt} {own : List Nat} (h : mi env u = some (ds, u1)) (h2 : compL (turnL t own env mc me) ds u1 = some (r, u2)) (hl : r.length ≤ sizeLine) : mLc t own mi mc me env u = some (.lst r, u2) := by
  unfold mLc; rw [h]; show bnd (compL (turnL t own env mc me) ds u1) _ = _; rw [h2]; exact if_pos hl
theorem mItems_eq (h : a env u = some (x, u1)) (h2 : itemsD x = some ds) : mItems a env u = some (ds, u1) := by
  unfold mItems; rw [h]; show lft (itemsD x) u1 = _; rw [h2]; rfl
theorem mRange1_eq {j : Int} (h : a env u = some (.int j, u1)) (h2 : -(2 ^ 62) ≤ j ∧ j < 2 ^ 62) : mRange1 a env u = some (rangeD 0 j.toNat, u1) := by
  unfold mRange1; rw [h]; exact if_pos h2
theorem turnL_eq {t : Tgt} {own : List Nat} (h : bindT t d (wipeE env own) = some env') (h2 : me env' u = some (x, u1)) : turnL t own env mYes me d u = some (some x, u1) := by
  unfold turnL; rw [h]; show bnd (me env' u) _ = _; rw [h2]; rfl
theorem turnL_c {t : Tgt} {own : List Nat} (h : bindT t d (wipeE env own) = some env') (hc : mc env' u = some (true, u1)) (h2 : me env' u1 = some (x, u2)) : turnL t own env mc me d u = some (some x, u2) := by
  unfold turnL; rw [h]; show bnd (mc env' u) _ = _; rw [hc]; show bnd (me env' u1) _ = _; rw [h2]; rfl
theorem turnL_n {t : Tgt} {own : List Nat} (h : bindT t d (wipeE env own) = some env') (hc : mc env' u = some (false, u1)) : turnL t own env mc me d u = some (none, u1) := by
  unfold turnL; rw [h]; show bnd (mc env' u) _ = _; rw [hc]; rfl
theorem sFor_eq {t : Tgt} (h : mi env u = some (ds, u1)) (h2 : forL t p ds env u1 = some (fl, u2)) : sFor t mi p env u = some (fl, u2) := by
  unfold sFor; rw [h]; exact h2
theorem mem_rangeD {lo : Int} (h : d ∈ rangeD lo n) : ∃ i : Nat, i < n ∧ d = .int (lo + i) := by
  unfold rangeD at h
  obtain ⟨i, hi, rfl⟩ := List.mem_map.mp h
  exact ⟨i, List.mem_range.mp hi, rfl⟩
theorem rangeD_len {lo : Int} : (rangeD lo n).length = n := by unfold rangeD; rw [List.length_map, List.length_range]
end
end Dv

namespace Lw00
open PySem PySem.Spec PyProof.Rows L2 Dv
def topS (i : Nat) : Stmt := PySem.Challenge.pw_lateshown_k00_names_deeds_and_lines.main.body.getD i (.Pass ⟨0, 0, 0, 0⟩)
structure Tx (mg : Str → Option Value) : Prop where
  n_abs : mg ("abs" : Str) = none
  n_all : mg ("all" : Str) = none
  n_bool : mg ("bool" : Str) = none
  n_enumerate : mg ("enumerate" : Str) = none
  n_int : mg ("int" : Str) = none
  n_isinstance : mg ("isinstance" : Str) = none
  n_len : mg ("len" : Str) = none
  n_list : mg ("list" : Str) = none
  n_max : mg ("max" : Str) = none
  n_range : mg ("range" : Str) = none
  n_sorted : mg ("sorted" : Str) = none
  n_str : mg ("str" : Str) = none
  n_tuple : mg ("tuple" : Str) = none
  n_zip : mg ("zip" : Str) = none
  c_FLUSH : ∃ t, mg ("FLUSH" : Str) = some (.str ("flush" : Str) t)
  c_LETTERS : ∃ t, mg ("LETTERS" : Str) = some (.str ("abcdefghijklmnopqrstuvwxyz" : Str) t)
  c_WRITE : ∃ t, mg ("WRITE" : Str) = some (.str ("write" : Str) t)

abbrev s_is_number : Stmt := topS 1
theorem sc_is_number : FnScope [("thing" : Str)] [("thing" : Str)] (defScope s_is_number) := ⟨rfl, rfl, rfl, by decide +kernel, rfl, by decide +kernel, by decide +kernel⟩
def m_is_number : MS := (sCons (sRet (mAnd (mIsi ["int"] (mVar 0)) (mNot (mIsi ["bool"] (mVar 0)))))
    sNil)
def F_is_number : List D → U → Option (D × U) := runB m_is_number 1
theorem ok_is_number {P : Program} {w : World} {K : PySem.W.Frag} {mg : Str → Option Value} {base : Heap} {G : Gx K} (T : Tx mg) {f : Addr} {fd : FuncData} (F : Fun K ("is_number" : Str) ("is_number" : Str) s_is_number f fd)  : FnOk P w K mg base CX0 1 f fd [("thing" : Str)] (spF G F_is_number 1) :=
  have nd := sc_is_number.nd
  def_ok F sc_is_number rfl fun cdv A outer s H E hr => (dss_cons (ds_ret (dv_and (dv_isi rfl T.n_isinstance (dv_var 0) rfl T.n_int (by decide +kernel)) (dv_one _ (dv_not (dv_isi rfl T.n_isinstance (dv_var 0) rfl T.n_bool (by decide +kernel))))))
    dss_nil)
abbrev s_is_pair : Stmt := topS 2
theorem sc_is_pair : FnScope [("thing" : Str)] [("thing" : Str)] (defScope s_is_pair) := ⟨rfl, rfl, rfl, by decide +kernel, rfl, by decide +kernel, by decide +kernel⟩
def m_is_pair : MS := (sCons (sRet (mAnd (mIsi ["tuple"] (mVar 0)) (mBin cEq (mBi bLen (mCons (mVar 0) mNil)) (mC (.int (2))))))
    sNil)
def F_is_pair : List D → U → Option (D × U) := runB m_is_pair 1
theorem ok_is_pair {P : Program} {w : World} {K : PySem.W.Frag} {mg : Str → Option Value} {base : Heap} {G : Gx K} (T : Tx mg) {f : Addr} {fd : FuncData} (F : Fun K ("is_pair" : Str) ("is_pair" : Str) s_is_pair f fd)  : FnOk P w K mg base CX0 1 f fd [("thing" : Str)] (spF G F_is_pair 1) :=
  have nd := sc_is_pair.nd
  def_ok F sc_is_pair rfl fun cdv A outer s H E hr => (dss_cons (ds_ret (dv_and (dv_isi rfl T.n_isinstance (dv_var 0) rfl T.n_tuple (by decide +kernel)) (dv_one _ (dv_cmp (ok_eq (hU64 hr)) (dv_bi ok_len rfl T.n_len (by decide +kernel) (dvs_cons (dv_var 0) dvs_nil)) dv_int))))
    dss_nil)
abbrev s_is_name : Stmt := topS 11
theorem sc_is_name : FnScope [("thing" : Str), ("letter" : Str)] [("thing" : Str)] (defScope s_is_name) := ⟨rfl, rfl, rfl, by decide +kernel, rfl, by decide +kernel, by decide +kernel⟩
def m_is_name : MS := (sCons (sIf (mOrB (mNotB (mTru (mIsi ["str"] (mVar 0)))) (mNotB (mTru (mChain cLe cLe (mC (.int (1))) (mBi bLen (mCons (mVar 0) mNil)) (mC (.int (8))))))) (sCons (sRet (mC (.bl false)))
    sNil) sNil)
    (sCons (sRet (mBi bAll (mCons (mLc (.one 1) [1] (mItems (mVar 0)) mYes (mBin cIn (mVar 1) (mC (.str ("abcdefghijklmnopqrstuvwxyz" : Str))))) mNil)))
    sNil))
def F_is_name : List D → U → Option (D × U) := runB m_is_name 2
theorem ok_is_name {P : Program} {w : World} {K : PySem.W.Frag} {mg : Str → Option Value} {base : Heap} {G : Gx K} (T : Tx mg) {f : Addr} {fd : FuncData} (F : Fun K ("is_name" : Str) ("is_name" : Str) s_is_name f fd)  : FnOk P w K mg base CX0 1 f fd [("thing" : Str)] (spF G F_is_name 1) :=
  have nd := sc_is_name.nd
  def_ok F sc_is_name rfl fun cdv A outer s H E hr => (dss_cons (ds_if (PW.pt (dw_or (dt_not (dt_val (dv_isi rfl T.n_isinstance (dv_var 0) rfl T.n_str (by decide +kernel)))) (dw_or1 (dt_not (dt_chain ok_le ok_le bf_le dv_int (dv_bi ok_len rfl T.n_len (by decide +kernel) (dvs_cons (dv_var 0) dvs_nil)) dv_int))))) (dss_cons (ds_ret dv_bl)
    dss_nil) dss_nil)
    (dss_cons (ds_ret (dv_bi (ok_all (by rfl)) rfl T.n_all (by decide +kernel) (dvs_cons (dv_lc (.one 1) [1] rfl nd (di_items (dv_var 0)) (blkOk_by (own := [(("letter" : Str), 1)]) (N := [("thing" : Str), ("letter" : Str)]) (sc := defScope s_is_name) (by decide +kernel)) rfl (by decide) (fun _ _ _ _ _ => (pg_name (i := 1) nd rfl (by first | exact Or.inl rfl | exact Or.inr rfl))) (fun _ _ _ _ _ => dts_no) (fun _ _ _ _ _ => (dv_cmp (ok_in (hU65 hr)) (dv_var 1) (dv_gS rfl T.c_LETTERS)))) dvs_nil)))
    dss_nil))
abbrev s_is_deed : Stmt := topS 12
theorem sc_is_deed : FnScope [("thing" : Str)] [("thing" : Str)] (defScope s_is_deed) := ⟨rfl, rfl, rfl, by decide +kernel, rfl, by decide +kernel, by decide +kernel⟩
def m_is_deed : MS := (sCons (sRet (mAnd (mCall 1 F_is_pair (mCons (mVar 0) mNil)) (mAnd (mBin cIn (mBin ixD (mVar 0) (mC (.int (0)))) (mTup (mCons (mC (.str ("write" : Str))) (mCons (mC (.str ("flush" : Str))) mNil)))) (mCall 1 F_is_name (mCons (mBin ixD (mVar 0) (mC (.int (1)))) mNil)))))
    sNil)
def F_is_deed : List D → U → Option (D × U) := runB m_is_deed 1
theorem ok_is_deed {P : Program} {w : World} {K : PySem.W.Frag} {mg : Str → Option Value} {base : Heap} {G : Gx K} (T : Tx mg) {f : Addr} {fd : FuncData} (F : Fun K ("is_deed" : Str) ("is_deed" : Str) s_is_deed f fd) (D_is_name : DefOk P w mg base G ("is_name" : Str) 1 1 F_is_name) (D_is_pair : DefOk P w mg base G ("is_pair" : Str) 1 1 F_is_pair) : FnOk P w K mg base CX0 2 f fd [("thing" : Str)] (spF G F_is_deed 1) :=
  have nd := sc_is_deed.nd
  def_ok F sc_is_deed rfl fun cdv A outer s H E hr => (dss_cons (ds_ret (dv_and (dv_call (D_is_pair.mono (by decide)) hr rfl (dvs_cons (dv_var 0) dvs_nil)) (dv_and (dv_cmp (ok_in (hU65 hr)) (dv_ix (dv_var 0) dv_int) (dv_tup (dvs_cons (dv_gS rfl T.c_WRITE) (dvs_cons (dv_gS rfl T.c_FLUSH) dvs_nil)))) (dv_one _ (dv_call (D_is_name.mono (by decide)) hr rfl (dvs_cons (dv_ix (dv_var 0) dv_int) dvs_nil))))))
    dss_nil)
abbrev s_is_line : Stmt := topS 13
theorem sc_is_line : FnScope [("thing" : Str)] [("thing" : Str)] (defScope s_is_line) := ⟨rfl, rfl, rfl, by decide +kernel, rfl, by decide +kernel, by decide +kernel⟩
def m_is_line : MS := (sCons (sRet (mAnd (mCall 1 F_is_pair (mCons (mVar 0) mNil)) (mAnd (mCall 1 F_is_name (mCons (mBin ixD (mVar 0) (mC (.int (0)))) mNil)) (mAnd (mCall 1 F_is_number (mCons (mBin ixD (mVar 0) (mC (.int (1)))) mNil)) (mBin cGe (mBin ixD (mVar 0) (mC (.int (1)))) (mC (.int (1))))))))
    sNil)
def F_is_line : List D → U → Option (D × U) := runB m_is_line 1
theorem ok_is_line {P : Program} {w : World} {K : PySem.W.Frag} {mg : Str → Option Value} {base : Heap} {G : Gx K} (T : Tx mg) {f : Addr} {fd : FuncData} (F : Fun K ("is_line" : Str) ("is_line" : Str) s_is_line f fd) (D_is_name : DefOk P w mg base G ("is_name" : Str) 1 1 F_is_name) (D_is_number : DefOk P w mg base G ("is_number" : Str) 1 1 F_is_number) (D_is_pair : DefOk P w mg base G ("is_pair" : Str) 1 1 F_is_pair) : FnOk P w K mg base CX0 2 f fd [("thing" : Str)] (spF G F_is_line 1) :=
  have nd := sc_is_line.nd
  def_ok F sc_is_line rfl fun cdv A outer s H E hr => (dss_cons (ds_ret (dv_and (dv_call (D_is_pair.mono (by decide)) hr rfl (dvs_cons (dv_var 0) dvs_nil)) (dv_and (dv_call (D_is_name.mono (by decide)) hr rfl (dvs_cons (dv_ix (dv_var 0) dv_int) dvs_nil)) (dv_and (dv_call (D_is_number.mono (by decide)) hr rfl (dvs_cons (dv_ix (dv_var 0) dv_int) dvs_nil)) (dv_one _ (dv_cmp ok_ge (dv_ix (dv_var 0) dv_int) dv_int))))))
    dss_nil)
abbrev s__law_box : Stmt := topS 19
theorem sc__law_box : FnScope [("_law_script" : Str), ("_law_k" : Str), ("_law_cell" : Str)] [("_law_script" : Str), ("_law_k" : Str)] (defScope s__law_box) := ⟨rfl, rfl, rfl, by decide +kernel, rfl, by decide +kernel, by decide +kernel⟩
def m__law_box : MS := (sCons (sSet 2 (mIte (mTru (mBin cLt (mVar 1) (mBi bLen (mCons (mVar 0) mNil)))) (mBin ixD (mVar 0) (mVar 1)) (mC (.int (0)))))
    (sCons (sRet (mLst (mCons (mBin fMul (mBi bAbs (mCons (mVar 2) mNil)) (mBi bInt (mCons (mBin cGe (mBi bAbs (mCons (mVar 2) mNil)) (mBin fPow (mC (.int (10))) (mC (.int (18))))) mNil))) (mCons (mBin fAdd (mBin fAdd (mBin fMod (mBi bInt (mCons (mVar 2) mNil)) (mC (.int (2305843009213693951)))) (mBin fMul (mC (.int (39373))) (mVar 1))) (mC (.int (824100)))) (mCons (mC (.int (0))) mNil)))))
    sNil))
def F__law_box : List D → U → Option (D × U) := runB m__law_box 3
theorem ok__law_box {P : Program} {w : World} {K : PySem.W.Frag} {mg : Str → Option Value} {base : Heap} {G : Gx K} (T : Tx mg) {f : Addr} {fd : FuncData} (F : Fun K ("_law_box" : Str) ("_law_box" : Str) s__law_box f fd)  : FnOk P w K mg base CX0 1 f fd [("_law_script" : Str), ("_law_k" : Str)] (spF G F__law_box 2) :=
  have nd := sc__law_box.nd
  def_ok F sc__law_box rfl fun cdv A outer s H E hr => (dss_cons (ds_set 2 nd (dv_ite (dt_cmp ok_lt bf_lt (dv_var 1) (dv_bi ok_len rfl T.n_len (by decide +kernel) (dvs_cons (dv_var 0) dvs_nil))) (dv_ix (dv_var 0) (dv_var 1)) dv_int))
    (dss_cons (ds_ret (dv_lst (dvs_cons (dv_bin ok_mul (dv_bi ok_abs rfl T.n_abs (by decide +kernel) (dvs_cons (dv_var 2) dvs_nil)) (dv_ty ok_int rfl T.n_int (by decide +kernel) (dvs_cons (dv_cmp ok_ge (dv_bi ok_abs rfl T.n_abs (by decide +kernel) (dvs_cons (dv_var 2) dvs_nil)) (dv_bin ok_pow dv_int dv_int)) dvs_nil))) (dvs_cons (dv_bin ok_add (dv_bin ok_add (dv_bin ok_mod (dv_ty ok_int rfl T.n_int (by decide +kernel) (dvs_cons (dv_var 2) dvs_nil)) dv_int) (dv_bin ok_mul dv_int (dv_var 1))) dv_int) (dvs_cons dv_int dvs_nil)))))
    dss_nil))
abbrev s__law_take : Stmt := topS 20
theorem sc__law_take : FnScope [("_law_urn" : Str), ("_law_low_so" : Str), ("_law_drawn" : Str), ("_law_once" : Str), ("_law_far" : Str), ("_law_twice" : Str)] [("_law_urn" : Str), ("_law_low_so" : Str)] (defScope s__law_take) := ⟨rfl, rfl, rfl, by decide +kernel, rfl, by decide +kernel, by decide +kernel⟩
def m__law_take : MS := (sCons (sIf (mTru (mBin cGt (mUrn0 0) (mC (.int (0))))) (sCons (sSet 2 (mBin fMod (mBi bInt (mCons (mUrn0 0) mNil)) (mVar 1)))
    (sCons (sUrn0 0 (mBin fDiv (mUrn0 0) (mVar 1)))
    (sCons (sRet (mVar 2))
    sNil))) sNil)
    (sCons (sUrn2 0 (mBin fAdd (mUrn2 0) (mC (.int (1)))))
    (sCons (sSet 3 (mBin fMod (mBi bInt (mCons (mBin fMul (mBin fAdd (mUrn1 0) (mBin fMul (mC (.int (48271))) (mUrn2 0))) (mBin fAdd (mC (.int (39373))) (mUrn2 0))) mNil)) (mC (.int (2147483647)))))
    (sCons (sSet 4 (mBin fAdd (mBin fMod (mBi bInt (mCons (mVar 3) mNil)) (mC (.int (40009)))) (mC (.int (7)))))
    (sCons (sSet 5 (mBin fMod (mBi bInt (mCons (mBin fMul (mBin fAdd (mBin fAdd (mVar 3) (mUrn2 0)) (mBin fDiv (mUrn1 0) (mC (.int (1000003))))) (mVar 4)) mNil)) (mC (.int (2147483629)))))
    (sCons (sRet (mBin fMod (mBi bInt (mCons (mBin fDiv (mBin fMod (mBi bInt (mCons (mBin fAdd (mBin fMul (mVar 5) (mC (.int (48271)))) (mVar 3)) mNil)) (mC (.int (2147483587)))) (mC (.int (64)))) mNil)) (mVar 1)))
    sNil))))))
def F__law_take : List D → U → Option (D × U) := runB m__law_take 6
theorem ok__law_take {P : Program} {w : World} {K : PySem.W.Frag} {mg : Str → Option Value} {base : Heap} {G : Gx K} (T : Tx mg) {f : Addr} {fd : FuncData} (F : Fun K ("_law_take" : Str) ("_law_take" : Str) s__law_take f fd)  : FnOk P w K mg base CX0 1 f fd [("_law_urn" : Str), ("_law_low_so" : Str)] (spF G F__law_take 2) :=
  have nd := sc__law_take.nd
  def_ok F sc__law_take rfl fun cdv A outer s H E hr => (dss_cons (ds_if (dt_cmp ok_gt bf_gt (dv_urn0 0) dv_int) (dss_cons (ds_set 2 nd (dv_bin ok_mod (dv_ty ok_int rfl T.n_int (by decide +kernel) (dvs_cons (dv_urn0 0) dvs_nil)) (dv_var 1)))
    (dss_cons (ds_urn0 0 (dv_bin ok_div (dv_urn0 0) (dv_var 1)))
    (dss_cons (ds_ret (dv_var 2))
    dss_nil))) dss_nil)
    (dss_cons (ds_urn2 0 (dv_bin ok_add (dv_urn2 0) dv_int))
    (dss_cons (ds_set 3 nd (dv_bin ok_mod (dv_ty ok_int rfl T.n_int (by decide +kernel) (dvs_cons (dv_bin ok_mul (dv_bin ok_add (dv_urn1 0) (dv_bin ok_mul dv_int (dv_urn2 0))) (dv_bin ok_add dv_int (dv_urn2 0))) dvs_nil)) dv_int))
    (dss_cons (ds_set 4 nd (dv_bin ok_add (dv_bin ok_mod (dv_ty ok_int rfl T.n_int (by decide +kernel) (dvs_cons (dv_var 3) dvs_nil)) dv_int) dv_int))
    (dss_cons (ds_set 5 nd (dv_bin ok_mod (dv_ty ok_int rfl T.n_int (by decide +kernel) (dvs_cons (dv_bin ok_mul (dv_bin ok_add (dv_bin ok_add (dv_var 3) (dv_urn2 0)) (dv_bin ok_div (dv_urn1 0) dv_int)) (dv_var 4)) dvs_nil)) dv_int))
    (dss_cons (ds_ret (dv_bin ok_mod (dv_ty ok_int rfl T.n_int (by decide +kernel) (dvs_cons (dv_bin ok_div (dv_bin ok_mod (dv_ty ok_int rfl T.n_int (by decide +kernel) (dvs_cons (dv_bin ok_add (dv_bin ok_mul (dv_var 5) dv_int) (dv_var 3)) dvs_nil)) dv_int) dv_int) dvs_nil)) (dv_var 1)))
    dss_nil))))))
abbrev s__law_of : Stmt := topS 22
theorem sc__law_of : FnScope [("_law_urn" : Str), ("_law_some_so" : Str)] [("_law_urn" : Str), ("_law_some_so" : Str)] (defScope s__law_of) := ⟨rfl, rfl, rfl, by decide +kernel, rfl, by decide +kernel, by decide +kernel⟩
def m__law_of : MS := (sCons (sRet (mBin ixD (mVar 1) (mCall 2 F__law_take (mCons (mVar 0) (mCons (mBi bLen (mCons (mVar 1) mNil)) mNil)))))
    sNil)
def F__law_of : List D → U → Option (D × U) := runB m__law_of 2
theorem ok__law_of {P : Program} {w : World} {K : PySem.W.Frag} {mg : Str → Option Value} {base : Heap} {G : Gx K} (T : Tx mg) {f : Addr} {fd : FuncData} (F : Fun K ("_law_of" : Str) ("_law_of" : Str) s__law_of f fd) (D__law_take : DefOk P w mg base G ("_law_take" : Str) 1 2 F__law_take) : FnOk P w K mg base CX0 2 f fd [("_law_urn" : Str), ("_law_some_so" : Str)] (spF G F__law_of 2) :=
  have nd := sc__law_of.nd
  def_ok F sc__law_of rfl fun cdv A outer s H E hr => (dss_cons (ds_ret (dv_ix (dv_var 1) (dv_call (D__law_take.mono (by decide)) hr rfl (dvs_cons (dv_var 0) (dvs_cons (dv_bi ok_len rfl T.n_len (by decide +kernel) (dvs_cons (dv_var 1) dvs_nil)) dvs_nil)))))
    dss_nil)
abbrev s__law_same : Stmt := topS 23
theorem sc__law_same : FnScope [("_law_got" : Str), ("_law_goal" : Str), ("_law_mine_so" : Str), ("_law_own" : Str)] [("_law_got" : Str), ("_law_goal" : Str)] (defScope s__law_same) := ⟨rfl, rfl, rfl, by decide +kernel, rfl, by decide +kernel, by decide +kernel⟩
def m__law_same (F__law_same_ : List D → U → Option (D × U)) : MS := (sCons (sIf (mTru (mIsi ["list", "tuple"] (mVar 1))) (sCons (sIf (mOrB (mTru (mBin cNe (mIsi ["list"] (mVar 0)) (mIsi ["list"] (mVar 1)))) (mTru (mBin cNe (mIsi ["tuple"] (mVar 0)) (mIsi ["tuple"] (mVar 1))))) (sCons (sRet (mC (.bl false)))
    sNil) sNil)
    (sCons (sRet (mAnd (mBin cEq (mBi bLen (mCons (mVar 0) mNil)) (mBi bLen (mCons (mVar 1) mNil))) (mBi bAll (mCons (mLc (.many [2, 3]) [2, 3] (mZip (mVar 0) (mVar 1)) mYes (mCall 2 F__law_same_ (mCons (mVar 2) (mCons (mVar 3) mNil)))) mNil))))
    sNil)) sNil)
    (sCons (sIf (mOrB (mTru (mBin cIs (mVar 1) (mC .non))) (mTru (mIsi ["bool", "str"] (mVar 1)))) (sCons (sRet (mAnd (mBin cEq (mVar 0) (mVar 1)) (mAnd (mBin cEq (mIsi ["bool"] (mVar 0)) (mIsi ["bool"] (mVar 1))) (mBin cEq (mBin cIs (mVar 0) (mC .non)) (mBin cIs (mVar 1) (mC .non))))))
    sNil) sNil)
    (sCons (sRet (mAnd (mIsi ["int"] (mVar 0)) (mAnd (mNot (mIsi ["bool"] (mVar 0))) (mBin cEq (mVar 0) (mVar 1)))))
    sNil)))
def FR__law_same : Nat → List D → U → Option (D × U)
  | 0 => fun _ _ => none
  | n + 1 => runB (m__law_same (FR__law_same n)) 4
theorem okR__law_same {P : Program} {w : World} {K : PySem.W.Frag} {mg : Str → Option Value} {base : Heap} {G : Gx K} (T : Tx mg) {f : Addr} {fd : FuncData} (F : Fun K ("_law_same" : Str) ("_law_same" : Str) s__law_same f fd) (hm : mg ("_law_same" : Str) = some (.ref f)) (hb : Binds K fd [("_law_got" : Str), ("_law_goal" : Str)] [])  : ∀ n : Nat, FnOk P w K mg base CX0 (0 + n) f fd [("_law_got" : Str), ("_law_goal" : Str)] (spF G (FR__law_same n) 2)
  | 0 => ⟨fun _ _ _ _ h => (by obtain ⟨_, _, _, _, _, _, _, _, _, h, _⟩ := h; cases h), fun _ _ _ _ _ _ _ _ _ _ _ _ _ h => (by obtain ⟨_, _, _, _, _, _, _, _, _, h, _⟩ := h; cases h)⟩
  | n + 1 =>
    have nd := sc__law_same.nd
    have D__law_same : DefOk P w mg base G ("_law_same" : Str) (0 + n) 2 (FR__law_same n) := ⟨f, fd, _, okR__law_same T F hm hb  n, hm, F.kp, hb⟩
    def_ok (k := 0 + n) F sc__law_same rfl fun cdv A outer s H E hr => (dss_cons (ds_if (dt_val (dv_isi2 rfl T.n_isinstance (dv_var 1) rfl T.n_list (by decide +kernel) rfl T.n_tuple (by decide +kernel))) (dss_cons (ds_if (PW.pt (dw_or (dt_cmp (ok_ne (hU64 hr)) bf_ne (dv_isi rfl T.n_isinstance (dv_var 0) rfl T.n_list (by decide +kernel)) (dv_isi rfl T.n_isinstance (dv_var 1) rfl T.n_list (by decide +kernel))) (dw_or1 (dt_cmp (ok_ne (hU64 hr)) bf_ne (dv_isi rfl T.n_isinstance (dv_var 0) rfl T.n_tuple (by decide +kernel)) (dv_isi rfl T.n_isinstance (dv_var 1) rfl T.n_tuple (by decide +kernel)))))) (dss_cons (ds_ret dv_bl)
    dss_nil) dss_nil)
    (dss_cons (ds_ret (dv_and (dv_cmp (ok_eq (hU64 hr)) (dv_bi ok_len rfl T.n_len (by decide +kernel) (dvs_cons (dv_var 0) dvs_nil)) (dv_bi ok_len rfl T.n_len (by decide +kernel) (dvs_cons (dv_var 1) dvs_nil))) (dv_one _ (dv_bi (ok_all (by rfl)) rfl T.n_all (by decide +kernel) (dvs_cons (dv_lc (.many [2, 3]) [2, 3] rfl nd (di_zip rfl T.n_zip (dv_var 0) (dv_var 1)) (blkOk_by (own := [(("_law_mine_so" : Str), 2), (("_law_own" : Str), 3)]) (N := [("_law_got" : Str), ("_law_goal" : Str), ("_law_mine_so" : Str), ("_law_own" : Str)]) (sc := defScope s__law_same) (by decide +kernel)) rfl (by decide) (fun _ _ _ _ _ => (pg_tup rfl (pgs_cons (pg_name (i := 2) nd rfl (by first | exact Or.inl rfl | exact Or.inr rfl)) (pgs_cons (pg_name (i := 3) nd rfl (by first | exact Or.inl rfl | exact Or.inr rfl)) pgs_nil)))) (fun _ _ _ _ _ => dts_no) (fun _ _ _ _ _ => (dv_call (D__law_same) hr rfl (dvs_cons (dv_var 2) (dvs_cons (dv_var 3) dvs_nil))))) dvs_nil)))))
    dss_nil)) dss_nil)
    (dss_cons (ds_if (PW.pt (dw_or (dt_cmp ok_is bf_is (dv_var 1) dv_non) (dw_or1 (dt_val (dv_isi2 rfl T.n_isinstance (dv_var 1) rfl T.n_bool (by decide +kernel) rfl T.n_str (by decide +kernel)))))) (dss_cons (ds_ret (dv_and (dv_cmp (ok_eq (hU64 hr)) (dv_var 0) (dv_var 1)) (dv_and (dv_cmp (ok_eq (hU64 hr)) (dv_isi rfl T.n_isinstance (dv_var 0) rfl T.n_bool (by decide +kernel)) (dv_isi rfl T.n_isinstance (dv_var 1) rfl T.n_bool (by decide +kernel))) (dv_one _ (dv_cmp (ok_eq (hU64 hr)) (dv_cmp ok_is (dv_var 0) dv_non) (dv_cmp ok_is (dv_var 1) dv_non))))))
    dss_nil) dss_nil)
    (dss_cons (ds_ret (dv_and (dv_isi rfl T.n_isinstance (dv_var 0) rfl T.n_int (by decide +kernel)) (dv_and (dv_not (dv_isi rfl T.n_isinstance (dv_var 0) rfl T.n_bool (by decide +kernel))) (dv_one _ (dv_cmp (ok_eq (hU64 hr)) (dv_var 0) (dv_var 1))))))
    dss_nil)))
abbrev s__law_tags : Stmt := topS 24
theorem sc__law_tags : FnScope [("_law_urn" : Str), ("_law_many_so" : Str), ("_law_signs" : Str), ("_law_first_so" : Str), ("_law_by_so" : Str), ("_law_row_so" : Str), ("_law_stem" : Str), ("_law_at_so" : Str), ("_law_k" : Str), ("_law_turn" : Str)] [("_law_urn" : Str), ("_law_many_so" : Str)] (defScope s__law_tags) := ⟨rfl, rfl, rfl, by decide +kernel, rfl, by decide +kernel, by decide +kernel⟩
def m__law_tags : MS := (sCons (sSet 2 (mC (.str ("abcdefghijklmnopqrstuvwxyz" : Str))))
    (sCons (sTgt (.many [3, 4]) (mTup (mCons (mCall 2 F__law_take (mCons (mVar 0) (mCons (mC (.int (26))) mNil))) (mCons (mCall 2 F__law_of (mCons (mVar 0) (mCons (mLst (mCons (mC (.int (1))) (mCons (mC (.int (3))) (mCons (mC (.int (7))) (mCons (mC (.int (11))) (mCons (mC (.int (25))) mNil)))))) mNil))) mNil))))
    (sCons (sSet 5 (mLc (.one 8) [8] (mRange1 (mBi bMax2 (mCons (mC (.int (8))) (mCons (mVar 1) mNil)))) mYes (mBin ixD (mVar 2) (mBin fMod (mBi bInt (mCons (mBin fAdd (mVar 3) (mBin fMul (mVar 4) (mVar 8))) mNil)) (mC (.int (26)))))))
    (sCons (sIf (mAndB (mTru (mBin cLt (mVar 1) (mC (.int (9))))) (mTru (mBin cEq (mCall 2 F__law_take (mCons (mVar 0) (mCons (mC (.int (4))) mNil))) (mC (.int (0)))))) (sCons (sRet (mBi bSorted (mCons (mLc (.one 8) [8] (mRange1 (mVar 1)) mYes (mBin joinD (mC (.str ("" : Str))) (mSl (mVar 5) moNo (moAt (mBin fAdd (mVar 8) (mC (.int (1)))))))) mNil)))
    sNil) sNil)
    (sCons (sSet 6 (mBin joinD (mC (.str ("" : Str))) (mLc (.one 9) [9] (mRange1 (mCall 2 F__law_of (mCons (mVar 0) (mCons (mLst (mCons (mC (.int (0))) (mCons (mC (.int (0))) (mCons (mC (.int (1))) (mCons (mC (.int (5))) (mCons (mC (.int (7))) mNil)))))) mNil)))) mYes (mBin ixD (mVar 2) (mCall 2 F__law_take (mCons (mVar 0) (mCons (mC (.int (26))) mNil)))))))
    (sCons (sSet 7 (mCall 2 F__law_take (mCons (mVar 0) (mCons (mBin fAdd (mBi bLen (mCons (mVar 6) mNil)) (mC (.int (1)))) mNil))))
    (sCons (sRet (mBi bSorted (mCons (mLc (.one 8) [8] (mRange1 (mVar 1)) mYes (mBin fAdd (mBin fAdd (mSl (mVar 6) moNo (moAt (mVar 7))) (mBin ixD (mVar 5) (mVar 8))) (mSl (mVar 6) (moAt (mVar 7)) moNo))) mNil)))
    sNil)))))))
def F__law_tags : List D → U → Option (D × U) := runB m__law_tags 10
theorem ok__law_tags {P : Program} {w : World} {K : PySem.W.Frag} {mg : Str → Option Value} {base : Heap} {G : Gx K} (T : Tx mg) {f : Addr} {fd : FuncData} (F : Fun K ("_law_tags" : Str) ("_law_tags" : Str) s__law_tags f fd) (D__law_of : DefOk P w mg base G ("_law_of" : Str) 2 2 F__law_of) (D__law_take : DefOk P w mg base G ("_law_take" : Str) 1 2 F__law_take) : FnOk P w K mg base CX0 3 f fd [("_law_urn" : Str), ("_law_many_so" : Str)] (spF G F__law_tags 2) :=
  have nd := sc__law_tags.nd
  def_ok F sc__law_tags rfl fun cdv A outer s H E hr => (dss_cons (ds_set 2 nd dv_str)
    (dss_cons (ds_tgt (.many [3, 4]) (dv_tup (dvs_cons (dv_call (D__law_take.mono (by decide)) hr rfl (dvs_cons (dv_var 0) (dvs_cons dv_int dvs_nil))) (dvs_cons (dv_call (D__law_of.mono (by decide)) hr rfl (dvs_cons (dv_var 0) (dvs_cons (dv_lst (dvs_cons dv_int (dvs_cons dv_int (dvs_cons dv_int (dvs_cons dv_int (dvs_cons dv_int dvs_nil)))))) dvs_nil))) dvs_nil))) (pg_tup rfl (pgs_cons (pg_name (i := 3) nd rfl (by first | exact Or.inl rfl | exact Or.inr rfl)) (pgs_cons (pg_name (i := 4) nd rfl (by first | exact Or.inl rfl | exact Or.inr rfl)) pgs_nil))))
    (dss_cons (ds_set 5 nd (dv_lc (.one 8) [8] rfl nd (di_range1 rfl T.n_range (dv_bi (ok_max2 (by rfl)) rfl T.n_max (by decide +kernel) (dvs_cons dv_int (dvs_cons (dv_var 1) dvs_nil)))) (blkOk_by (own := [(("_law_k" : Str), 8)]) (N := [("_law_urn" : Str), ("_law_many_so" : Str), ("_law_signs" : Str), ("_law_first_so" : Str), ("_law_by_so" : Str), ("_law_row_so" : Str), ("_law_stem" : Str), ("_law_at_so" : Str), ("_law_k" : Str), ("_law_turn" : Str)]) (sc := defScope s__law_tags) (by decide +kernel)) rfl (by decide) (fun _ _ _ _ _ => (pg_name (i := 8) nd rfl (by first | exact Or.inl rfl | exact Or.inr rfl))) (fun _ _ _ _ _ => dts_no) (fun _ _ _ _ _ => (dv_ix (dv_var 2) (dv_bin ok_mod (dv_ty ok_int rfl T.n_int (by decide +kernel) (dvs_cons (dv_bin ok_add (dv_var 3) (dv_bin ok_mul (dv_var 4) (dv_var 8))) dvs_nil)) dv_int)))))
    (dss_cons (ds_if (PW.pt (dw_and (dt_cmp ok_lt bf_lt (dv_var 1) dv_int) (dw_and1 (dt_cmp (ok_eq (hU64 hr)) bf_eq (dv_call (D__law_take.mono (by decide)) hr rfl (dvs_cons (dv_var 0) (dvs_cons dv_int dvs_nil))) dv_int)))) (dss_cons (ds_ret (dv_bi ok_sorted rfl T.n_sorted (by decide +kernel) (dvs_cons (dv_lc (.one 8) [8] rfl nd (di_range1 rfl T.n_range (dv_var 1)) (blkOk_by (own := [(("_law_k" : Str), 8)]) (N := [("_law_urn" : Str), ("_law_many_so" : Str), ("_law_signs" : Str), ("_law_first_so" : Str), ("_law_by_so" : Str), ("_law_row_so" : Str), ("_law_stem" : Str), ("_law_at_so" : Str), ("_law_k" : Str), ("_law_turn" : Str)]) (sc := defScope s__law_tags) (by decide +kernel)) rfl (by decide) (fun _ _ _ _ _ => (pg_name (i := 8) nd rfl (by first | exact Or.inl rfl | exact Or.inr rfl))) (fun _ _ _ _ _ => dts_no) (fun _ _ _ _ _ => (dv_join dv_str (dv_sl (dv_var 5) do_no (do_at (dv_bin ok_add (dv_var 8) dv_int)))))) dvs_nil)))
    dss_nil) dss_nil)
    (dss_cons (ds_set 6 nd (dv_join dv_str (dv_lc (.one 9) [9] rfl nd (di_range1 rfl T.n_range (dv_call (D__law_of.mono (by decide)) hr rfl (dvs_cons (dv_var 0) (dvs_cons (dv_lst (dvs_cons dv_int (dvs_cons dv_int (dvs_cons dv_int (dvs_cons dv_int (dvs_cons dv_int dvs_nil)))))) dvs_nil)))) (blkOk_by (own := [(("_law_turn" : Str), 9)]) (N := [("_law_urn" : Str), ("_law_many_so" : Str), ("_law_signs" : Str), ("_law_first_so" : Str), ("_law_by_so" : Str), ("_law_row_so" : Str), ("_law_stem" : Str), ("_law_at_so" : Str), ("_law_k" : Str), ("_law_turn" : Str)]) (sc := defScope s__law_tags) (by decide +kernel)) rfl (by decide) (fun _ _ _ _ _ => (pg_name (i := 9) nd rfl (by first | exact Or.inl rfl | exact Or.inr rfl))) (fun _ _ _ _ _ => dts_no) (fun _ _ _ _ _ => (dv_ix (dv_var 2) (dv_call (D__law_take.mono (by decide)) hr rfl (dvs_cons (dv_var 0) (dvs_cons dv_int dvs_nil))))))))
    (dss_cons (ds_set 7 nd (dv_call (D__law_take.mono (by decide)) hr rfl (dvs_cons (dv_var 0) (dvs_cons (dv_bin ok_add (dv_bi ok_len rfl T.n_len (by decide +kernel) (dvs_cons (dv_var 6) dvs_nil)) dv_int) dvs_nil))))
    (dss_cons (ds_ret (dv_bi ok_sorted rfl T.n_sorted (by decide +kernel) (dvs_cons (dv_lc (.one 8) [8] rfl nd (di_range1 rfl T.n_range (dv_var 1)) (blkOk_by (own := [(("_law_k" : Str), 8)]) (N := [("_law_urn" : Str), ("_law_many_so" : Str), ("_law_signs" : Str), ("_law_first_so" : Str), ("_law_by_so" : Str), ("_law_row_so" : Str), ("_law_stem" : Str), ("_law_at_so" : Str), ("_law_k" : Str), ("_law_turn" : Str)]) (sc := defScope s__law_tags) (by decide +kernel)) rfl (by decide) (fun _ _ _ _ _ => (pg_name (i := 8) nd rfl (by first | exact Or.inl rfl | exact Or.inr rfl))) (fun _ _ _ _ _ => dts_no) (fun _ _ _ _ _ => (dv_bin ok_add (dv_bin ok_add (dv_sl (dv_var 6) do_no (do_at (dv_var 7))) (dv_ix (dv_var 5) (dv_var 8))) (dv_sl (dv_var 6) (do_at (dv_var 7)) do_no)))) dvs_nil)))
    dss_nil)))))))
abbrev s_tupled : Stmt := topS 3
theorem sc_tupled : FnScope [("worth" : Str), ("part" : Str)] [("worth" : Str)] (defScope s_tupled) := ⟨rfl, rfl, rfl, by decide +kernel, rfl, by decide +kernel, by decide +kernel⟩
def m_tupled (F_tupled_ : List D → U → Option (D × U)) : MS := (sCons (sIf (mTru (mIsi ["list", "tuple"] (mVar 0))) (sCons (sRet (mBi bTuple (mCons (mLc (.one 1) [1] (mItems (mVar 0)) mYes (mCall 1 F_tupled_ (mCons (mVar 1) mNil))) mNil)))
    sNil) sNil)
    (sCons (sRet (mVar 0))
    sNil))
def FR_tupled : Nat → List D → U → Option (D × U)
  | 0 => fun _ _ => none
  | n + 1 => runB (m_tupled (FR_tupled n)) 2
theorem okR_tupled {P : Program} {w : World} {K : PySem.W.Frag} {mg : Str → Option Value} {base : Heap} {G : Gx K} (T : Tx mg) {f : Addr} {fd : FuncData} (F : Fun K ("tupled" : Str) ("tupled" : Str) s_tupled f fd) (hm : mg ("tupled" : Str) = some (.ref f)) (hb : Binds K fd [("worth" : Str)] [])  : ∀ n : Nat, FnOk P w K mg base CX0 (0 + n) f fd [("worth" : Str)] (spF G (FR_tupled n) 1)
  | 0 => ⟨fun _ _ _ _ h => (by obtain ⟨_, _, _, _, _, _, _, _, _, h, _⟩ := h; cases h), fun _ _ _ _ _ _ _ _ _ _ _ _ _ h => (by obtain ⟨_, _, _, _, _, _, _, _, _, h, _⟩ := h; cases h)⟩
  | n + 1 =>
    have nd := sc_tupled.nd
    have D_tupled : DefOk P w mg base G ("tupled" : Str) (0 + n) 1 (FR_tupled n) := ⟨f, fd, _, okR_tupled T F hm hb  n, hm, F.kp, hb⟩
    def_ok (k := 0 + n) F sc_tupled rfl fun cdv A outer s H E hr => (dss_cons (ds_if (dt_val (dv_isi2 rfl T.n_isinstance (dv_var 0) rfl T.n_list (by decide +kernel) rfl T.n_tuple (by decide +kernel))) (dss_cons (ds_ret (dv_ty ok_tuple rfl T.n_tuple (by decide +kernel) (dvs_cons (dv_lc (.one 1) [1] rfl nd (di_items (dv_var 0)) (blkOk_by (own := [(("part" : Str), 1)]) (N := [("worth" : Str), ("part" : Str)]) (sc := defScope s_tupled) (by decide +kernel)) rfl (by decide) (fun _ _ _ _ _ => (pg_name (i := 1) nd rfl (by first | exact Or.inl rfl | exact Or.inr rfl))) (fun _ _ _ _ _ => dts_no) (fun _ _ _ _ _ => (dv_call (D_tupled) hr rfl (dvs_cons (dv_var 1) dvs_nil)))) dvs_nil)))
    dss_nil) dss_nil)
    (dss_cons (ds_ret (dv_var 0))
    dss_nil))
def F_numbered : List D → U → Option (D × U) := fun ds u => match ds with
  | [.tup []] => some (.tup [], u)
  | _ => none
def writesL (d : D) (ts : List D) (u : U) : Option (List D × U) := compL (turnL (.many [2, 3]) [2, 3] [.no, .pub d, .no, .no] (mTru (mBin cEq (mVar 2) (mC (.str ("write" : Str))))) (mVar 3)) ts u
def F_Program : List D → U → Option (D × U) := fun as u => match as with
  | [d] => bnd (FR_tupled 6 [d] u) fun t u1 => match t with
    | .tup ts => bnd (writesL d ts u1) fun ws u2 => if ws.length ≤ sizeLine then bnd (F_numbered [.tup ws] u2) fun ls u3 => some (.ins "Program" ["_deeds", "_writes", "_lines"] [.tup ts, .tup ws, ls], u3) else none
    | _ => none
  | _ => none
abbrev s__law_by_hand_right : Stmt := topS 25
theorem sc__law_by_hand_right : FnScope [("_law_words" : Str), ("_law_got" : Str), ("_law_goal" : Str), ("_law_deeds" : Str), ("_law_rows" : Str), ("_law_own" : Str)] [] (defScope s__law_by_hand_right) := ⟨rfl, rfl, rfl, by decide +kernel, rfl, by decide +kernel, by decide +kernel⟩
def m__law_by_hand_right : MS := (sCons (sSet 0 (mLst (mCons (mC (.str ("a" : Str))) (mCons (mC (.str ("out" : Str))) (mCons (mC (.str ("abcdefgh" : Str))) (mCons (mC (.str ("z" : Str))) (mCons (mC (.str ("" : Str))) (mCons (mC (.str ("A" : Str))) (mCons (mC (.str ("abcdefghi" : Str))) (mCons (mC (.str ("a b" : Str))) (mCons (mC (.str ("a1" : Str))) (mCons (mC (.str ("-" : Str))) (mCons (mC (.str ("!a" : Str))) (mCons (mC (.str ("a\n" : Str))) (mCons (mC .non) (mCons (mC (.int (7))) (mCons (mC (.bl true)) mNil)))))))))))))))))
    (sCons (sSet 0 (mBin fAdd (mVar 0) (mLst (mCons (mTup (mCons (mC (.str ("a" : Str))) mNil)) mNil))))
    (sCons (sSet 0 (mBin fAdd (mVar 0) (mLst (mCons (mLst (mCons (mC (.str ("a" : Str))) mNil)) (mCons (mTup mNil) (mCons (mC (.int (0))) (mCons (mC (.str ("aB" : Str))) (mCons (mC (.str ("_" : Str))) (mCons (mCall 1 F_Program (mCons (mTup mNil) mNil)) mNil)))))))))
    (sCons (sSet 1 (mBin fAdd (mLc (.one 5) [5] (mItems (mVar 0)) mYes (mCall 1 F_is_name (mCons (mVar 5) mNil))) (mLst (mCons (mCall 1 F_is_name (mCons (mC (.str ("err" : Str))) mNil)) mNil))))
    (sCons (sSet 2 (mBin fAdd (mBin fAdd (mBin fMul (mLst (mCons (mC (.bl true)) mNil)) (mC (.int (4)))) (mBin fMul (mLst (mCons (mC (.bl false)) mNil)) (mC (.int (18))))) (mLst (mCons (mC (.bl true)) mNil))))
    (sCons (sSet 3 (mLst (mCons (mTup (mCons (mC (.str ("write" : Str))) (mCons (mC (.str ("a" : Str))) mNil))) (mCons (mTup (mCons (mC (.str ("flush" : Str))) (mCons (mC (.str ("abcdefgh" : Str))) mNil))) (mCons (mTup (mCons (mC (.str ("close" : Str))) (mCons (mC (.str ("a" : Str))) mNil))) (mCons (mTup (mCons (mC (.str ("write" : Str))) (mCons (mC (.str ("A" : Str))) mNil))) (mCons (mTup (mCons (mC (.str ("write" : Str))) (mCons (mC (.str ("" : Str))) mNil))) (mCons (mTup (mCons (mC (.str ("write" : Str))) mNil)) mNil))))))))
    (sCons (sSet 3 (mBin fAdd (mVar 3) (mLst (mCons (mTup (mCons (mC (.str ("flush" : Str))) (mCons (mC (.int (1))) mNil))) mNil))))
    (sCons (sSet 3 (mBin fAdd (mVar 3) (mLst (mCons (mLst (mCons (mC (.str ("write" : Str))) (mCons (mC (.str ("a" : Str))) mNil))) (mCons (mTup (mCons (mC (.str ("write" : Str))) (mCons (mC (.str ("a" : Str))) (mCons (mC (.int (1))) mNil)))) (mCons (mTup (mCons (mC (.str ("Write" : Str))) (mCons (mC (.str ("a" : Str))) mNil))) (mCons (mTup (mCons (mC (.str ("a" : Str))) (mCons (mC (.str ("write" : Str))) mNil))) (mCons (mTup (mCons (mC (.bl true)) (mCons (mC (.str ("a" : Str))) mNil))) (mCons (mC .non) mNil)))))))))
    (sCons (sSet 3 (mBin fAdd (mVar 3) (mLst (mCons (mC (.str ("write a" : Str))) (mCons (mTup mNil) mNil)))))
    (sCons (sSet 3 (mBin fAdd (mVar 3) (mLst (mCons (mTup (mCons (mTup (mCons (mC (.str ("write" : Str))) (mCons (mC (.str ("a" : Str))) mNil))) mNil)) (mCons (mTup (mCons (mLst (mCons (mC (.str ("write" : Str))) mNil)) (mCons (mC (.str ("a" : Str))) mNil))) (mCons (mTup (mCons (mC (.str ("flush" : Str))) (mCons (mLst (mCons (mC (.str ("a" : Str))) mNil)) mNil))) (mCons (mTup (mCons (mC (.str ("flush" : Str))) (mCons (mC .non) mNil))) mNil)))))))
    (sCons (sSet 3 (mBin fAdd (mVar 3) (mLst (mCons (mTup (mCons (mC (.str ("flush" : Str))) (mCons (mC (.str ("abcdefghi" : Str))) mNil))) (mCons (mC (.int (3))) mNil)))))
    (sCons (sSet 1 (mBin fAdd (mBin fAdd (mVar 1) (mLc (.one 5) [5] (mItems (mVar 3)) mYes (mCall 1 F_is_deed (mCons (mVar 5) mNil)))) (mLst (mCons (mCall 1 F_is_deed (mCons (mTup (mCons (mC (.str ("flush" : Str))) (mCons (mC (.str ("a" : Str))) mNil))) mNil)) mNil))))
    (sCons (sSet 2 (mBin fAdd (mBin fAdd (mBin fAdd (mVar 2) (mLst (mCons (mC (.bl true)) (mCons (mC (.bl true)) mNil)))) (mBin fMul (mLst (mCons (mC (.bl false)) mNil)) (mC (.int (19))))) (mLst (mCons (mC (.bl true)) mNil))))
    (sCons (sSet 4 (mLst (mCons (mTup (mCons (mC (.str ("a" : Str))) (mCons (mC (.int (1))) mNil))) (mCons (mTup (mCons (mC (.str ("abcdefgh" : Str))) (mCons (mBin fPow (mC (.int (10))) (mC (.int (30)))) mNil))) (mCons (mTup (mCons (mC (.str ("a" : Str))) (mCons (mC (.int (0))) mNil))) (mCons (mTup (mCons (mC (.str ("a" : Str))) (mCons (mNeg (mC (.int (1)))) mNil))) (mCons (mTup (mCons (mC (.str ("a" : Str))) (mCons (mC (.bl true)) mNil))) (mCons (mTup (mCons (mC (.str ("a" : Str))) (mCons (mC (.str ("1" : Str))) mNil))) (mCons (mTup (mCons (mC (.int (1))) (mCons (mC (.str ("a" : Str))) mNil))) (mCons (mTup (mCons (mC (.str ("A" : Str))) (mCons (mC (.int (1))) mNil))) mNil))))))))))
    (sCons (sSet 4 (mBin fAdd (mVar 4) (mLst (mCons (mTup (mCons (mC (.str ("" : Str))) (mCons (mC (.int (1))) mNil))) mNil))))
    (sCons (sSet 4 (mBin fAdd (mVar 4) (mLst (mCons (mLst (mCons (mC (.str ("a" : Str))) (mCons (mC (.int (1))) mNil))) (mCons (mTup (mCons (mC (.str ("a" : Str))) mNil)) (mCons (mTup (mCons (mC (.str ("a" : Str))) (mCons (mC (.int (1))) (mCons (mC (.int (1))) mNil)))) (mCons (mTup (mCons (mC (.str ("a" : Str))) (mCons (mC .non) mNil))) (mCons (mTup (mCons (mC (.str ("a" : Str))) (mCons (mTup (mCons (mC (.int (1))) mNil)) mNil))) (mCons (mC .non) (mCons (mC (.int (5))) (mCons (mC (.str ("a1" : Str))) (mCons (mTup mNil) (mCons (mTup (mCons (mTup (mCons (mC (.str ("a" : Str))) (mCons (mC (.int (1))) mNil))) mNil)) mNil)))))))))))))
    (sCons (sSet 4 (mBin fAdd (mVar 4) (mLst (mCons (mTup (mCons (mLst (mCons (mC (.str ("a" : Str))) mNil)) (mCons (mC (.int (1))) mNil))) mNil))))
    (sCons (sSet 4 (mBin fAdd (mVar 4) (mLst (mCons (mTup (mCons (mC (.str ("abcdefghi" : Str))) (mCons (mC (.int (1))) mNil))) (mCons (mTup (mCons (mC (.str ("" : Str))) (mCons (mC (.int (0))) mNil))) (mCons (mTup (mCons (mC (.str ("abcdefghij" : Str))) (mCons (mC (.int (2))) mNil))) mNil))))))
    (sCons (sSet 1 (mBin fAdd (mBin fAdd (mVar 1) (mLc (.one 5) [5] (mItems (mVar 4)) mYes (mCall 1 F_is_line (mCons (mVar 5) mNil)))) (mLst (mCons (mCall 1 F_is_line (mCons (mTup (mCons (mC (.str ("zz" : Str))) (mCons (mC (.int (2))) mNil))) mNil)) mNil))))
    (sCons (sRet (mCall 2 (FR__law_same 6) (mCons (mVar 1) (mCons (mBin fAdd (mBin fAdd (mBin fAdd (mVar 2) (mLst (mCons (mC (.bl true)) (mCons (mC (.bl true)) mNil)))) (mBin fMul (mLst (mCons (mC (.bl false)) mNil)) (mC (.int (21))))) (mLst (mCons (mC (.bl true)) mNil))) mNil))))
    sNil))))))))))))))))))))
def F__law_by_hand_right : List D → U → Option (D × U) := runB m__law_by_hand_right 6
theorem ok__law_by_hand_right {P : Program} {w : World} {K : PySem.W.Frag} {mg : Str → Option Value} {base : Heap} {G : Gx K} (T : Tx mg) {f : Addr} {fd : FuncData} (F : Fun K ("_law_by_hand_right" : Str) ("_law_by_hand_right" : Str) s__law_by_hand_right f fd) (D_Program : MakeOk P w mg base G ("Program" : Str) 7 1 F_Program) (D__law_same : DefOk P w mg base G ("_law_same" : Str) 6 2 (FR__law_same 6)) (D_is_deed : DefOk P w mg base G ("is_deed" : Str) 2 1 F_is_deed) (D_is_line : DefOk P w mg base G ("is_line" : Str) 2 1 F_is_line) (D_is_name : DefOk P w mg base G ("is_name" : Str) 1 1 F_is_name) (K_is_deed : DefK P w mg base G ("is_deed" : Str) [("thing" : Str)] 2 F_is_deed) (K_is_line : DefK P w mg base G ("is_line" : Str) [("thing" : Str)] 2 F_is_line) (K_is_name : DefK P w mg base G ("is_name" : Str) [("thing" : Str)] 1 F_is_name) : FnOk P w K mg base CX0 9 f fd [] (spF G F__law_by_hand_right 0) :=
  have nd := sc__law_by_hand_right.nd
  def_ok F sc__law_by_hand_right rfl fun cdv A outer s H E hr => (dss_cons (ds_set 0 nd (dv_lst (dvs_cons dv_str (dvs_cons dv_str (dvs_cons dv_str (dvs_cons dv_str (dvs_cons dv_str (dvs_cons dv_str (dvs_cons dv_str (dvs_cons dv_str (dvs_cons dv_str (dvs_cons dv_str (dvs_cons dv_str (dvs_cons dv_str (dvs_cons dv_non (dvs_cons dv_int (dvs_cons dv_bl dvs_nil)))))))))))))))))
    (dss_cons (ds_set 0 nd (dv_bin ok_add (dv_var 0) (dv_lst (dvs_cons (dv_tup (dvs_cons dv_str dvs_nil)) dvs_nil))))
    (dss_cons (ds_set 0 nd (dv_bin ok_add (dv_var 0) (dv_lst (dvs_cons (dv_lst (dvs_cons dv_str dvs_nil)) (dvs_cons (dv_tup dvs_nil) (dvs_cons dv_int (dvs_cons dv_str (dvs_cons dv_str (dvs_cons (dv_make (D_Program.mono (by decide)) hr rfl (dvs_cons (dv_tup dvs_nil) dvs_nil)) dvs_nil)))))))))
    (dss_cons (ds_set 1 nd (dv_bin ok_add (dv_lc (.one 5) [5] rfl nd (di_items (dv_var 0)) (blkOk_by (own := [(("_law_own" : Str), 5)]) (N := [("_law_words" : Str), ("_law_got" : Str), ("_law_goal" : Str), ("_law_deeds" : Str), ("_law_rows" : Str), ("_law_own" : Str)]) (sc := defScope s__law_by_hand_right) (by decide +kernel)) rfl (by decide) (fun _ _ _ _ _ => (pg_name (i := 5) nd rfl (by first | exact Or.inl rfl | exact Or.inr rfl))) (fun _ _ _ _ _ => dts_no) (fun _ _ _ _ _ => (dv_call (D_is_name.mono (by decide)) hr rfl (dvs_cons (dv_var 5) dvs_nil)))) (dv_lst (dvs_cons (dv_callK (K_is_name.mono (by decide)) hr rfl rfl (dks_cons dv_str dks_nil)) dvs_nil))))
    (dss_cons (ds_set 2 nd (dv_bin ok_add (dv_bin ok_add (dv_bin ok_mul (dv_lst (dvs_cons dv_bl dvs_nil)) dv_int) (dv_bin ok_mul (dv_lst (dvs_cons dv_bl dvs_nil)) dv_int)) (dv_lst (dvs_cons dv_bl dvs_nil))))
    (dss_cons (ds_set 3 nd (dv_lst (dvs_cons (dv_tup (dvs_cons dv_str (dvs_cons dv_str dvs_nil))) (dvs_cons (dv_tup (dvs_cons dv_str (dvs_cons dv_str dvs_nil))) (dvs_cons (dv_tup (dvs_cons dv_str (dvs_cons dv_str dvs_nil))) (dvs_cons (dv_tup (dvs_cons dv_str (dvs_cons dv_str dvs_nil))) (dvs_cons (dv_tup (dvs_cons dv_str (dvs_cons dv_str dvs_nil))) (dvs_cons (dv_tup (dvs_cons dv_str dvs_nil)) dvs_nil))))))))
    (dss_cons (ds_set 3 nd (dv_bin ok_add (dv_var 3) (dv_lst (dvs_cons (dv_tup (dvs_cons dv_str (dvs_cons dv_int dvs_nil))) dvs_nil))))
    (dss_cons (ds_set 3 nd (dv_bin ok_add (dv_var 3) (dv_lst (dvs_cons (dv_lst (dvs_cons dv_str (dvs_cons dv_str dvs_nil))) (dvs_cons (dv_tup (dvs_cons dv_str (dvs_cons dv_str (dvs_cons dv_int dvs_nil)))) (dvs_cons (dv_tup (dvs_cons dv_str (dvs_cons dv_str dvs_nil))) (dvs_cons (dv_tup (dvs_cons dv_str (dvs_cons dv_str dvs_nil))) (dvs_cons (dv_tup (dvs_cons dv_bl (dvs_cons dv_str dvs_nil))) (dvs_cons dv_non dvs_nil)))))))))
    (dss_cons (ds_set 3 nd (dv_bin ok_add (dv_var 3) (dv_lst (dvs_cons dv_str (dvs_cons (dv_tup dvs_nil) dvs_nil)))))
    (dss_cons (ds_set 3 nd (dv_bin ok_add (dv_var 3) (dv_lst (dvs_cons (dv_tup (dvs_cons (dv_tup (dvs_cons dv_str (dvs_cons dv_str dvs_nil))) dvs_nil)) (dvs_cons (dv_tup (dvs_cons (dv_lst (dvs_cons dv_str dvs_nil)) (dvs_cons dv_str dvs_nil))) (dvs_cons (dv_tup (dvs_cons dv_str (dvs_cons (dv_lst (dvs_cons dv_str dvs_nil)) dvs_nil))) (dvs_cons (dv_tup (dvs_cons dv_str (dvs_cons dv_non dvs_nil))) dvs_nil)))))))
    (dss_cons (ds_set 3 nd (dv_bin ok_add (dv_var 3) (dv_lst (dvs_cons (dv_tup (dvs_cons dv_str (dvs_cons dv_str dvs_nil))) (dvs_cons dv_int dvs_nil)))))
    (dss_cons (ds_set 1 nd (dv_bin ok_add (dv_bin ok_add (dv_var 1) (dv_lc (.one 5) [5] rfl nd (di_items (dv_var 3)) (blkOk_by (own := [(("_law_own" : Str), 5)]) (N := [("_law_words" : Str), ("_law_got" : Str), ("_law_goal" : Str), ("_law_deeds" : Str), ("_law_rows" : Str), ("_law_own" : Str)]) (sc := defScope s__law_by_hand_right) (by decide +kernel)) rfl (by decide) (fun _ _ _ _ _ => (pg_name (i := 5) nd rfl (by first | exact Or.inl rfl | exact Or.inr rfl))) (fun _ _ _ _ _ => dts_no) (fun _ _ _ _ _ => (dv_call (D_is_deed.mono (by decide)) hr rfl (dvs_cons (dv_var 5) dvs_nil))))) (dv_lst (dvs_cons (dv_callK (K_is_deed.mono (by decide)) hr rfl rfl (dks_cons (dv_tup (dvs_cons dv_str (dvs_cons dv_str dvs_nil))) dks_nil)) dvs_nil))))
    (dss_cons (ds_set 2 nd (dv_bin ok_add (dv_bin ok_add (dv_bin ok_add (dv_var 2) (dv_lst (dvs_cons dv_bl (dvs_cons dv_bl dvs_nil)))) (dv_bin ok_mul (dv_lst (dvs_cons dv_bl dvs_nil)) dv_int)) (dv_lst (dvs_cons dv_bl dvs_nil))))
    (dss_cons (ds_set 4 nd (dv_lst (dvs_cons (dv_tup (dvs_cons dv_str (dvs_cons dv_int dvs_nil))) (dvs_cons (dv_tup (dvs_cons dv_str (dvs_cons (dv_bin ok_pow dv_int dv_int) dvs_nil))) (dvs_cons (dv_tup (dvs_cons dv_str (dvs_cons dv_int dvs_nil))) (dvs_cons (dv_tup (dvs_cons dv_str (dvs_cons (dv_neg dv_int) dvs_nil))) (dvs_cons (dv_tup (dvs_cons dv_str (dvs_cons dv_bl dvs_nil))) (dvs_cons (dv_tup (dvs_cons dv_str (dvs_cons dv_str dvs_nil))) (dvs_cons (dv_tup (dvs_cons dv_int (dvs_cons dv_str dvs_nil))) (dvs_cons (dv_tup (dvs_cons dv_str (dvs_cons dv_int dvs_nil))) dvs_nil))))))))))
    (dss_cons (ds_set 4 nd (dv_bin ok_add (dv_var 4) (dv_lst (dvs_cons (dv_tup (dvs_cons dv_str (dvs_cons dv_int dvs_nil))) dvs_nil))))
    (dss_cons (ds_set 4 nd (dv_bin ok_add (dv_var 4) (dv_lst (dvs_cons (dv_lst (dvs_cons dv_str (dvs_cons dv_int dvs_nil))) (dvs_cons (dv_tup (dvs_cons dv_str dvs_nil)) (dvs_cons (dv_tup (dvs_cons dv_str (dvs_cons dv_int (dvs_cons dv_int dvs_nil)))) (dvs_cons (dv_tup (dvs_cons dv_str (dvs_cons dv_non dvs_nil))) (dvs_cons (dv_tup (dvs_cons dv_str (dvs_cons (dv_tup (dvs_cons dv_int dvs_nil)) dvs_nil))) (dvs_cons dv_non (dvs_cons dv_int (dvs_cons dv_str (dvs_cons (dv_tup dvs_nil) (dvs_cons (dv_tup (dvs_cons (dv_tup (dvs_cons dv_str (dvs_cons dv_int dvs_nil))) dvs_nil)) dvs_nil)))))))))))))
    (dss_cons (ds_set 4 nd (dv_bin ok_add (dv_var 4) (dv_lst (dvs_cons (dv_tup (dvs_cons (dv_lst (dvs_cons dv_str dvs_nil)) (dvs_cons dv_int dvs_nil))) dvs_nil))))
    (dss_cons (ds_set 4 nd (dv_bin ok_add (dv_var 4) (dv_lst (dvs_cons (dv_tup (dvs_cons dv_str (dvs_cons dv_int dvs_nil))) (dvs_cons (dv_tup (dvs_cons dv_str (dvs_cons dv_int dvs_nil))) (dvs_cons (dv_tup (dvs_cons dv_str (dvs_cons dv_int dvs_nil))) dvs_nil))))))
    (dss_cons (ds_set 1 nd (dv_bin ok_add (dv_bin ok_add (dv_var 1) (dv_lc (.one 5) [5] rfl nd (di_items (dv_var 4)) (blkOk_by (own := [(("_law_own" : Str), 5)]) (N := [("_law_words" : Str), ("_law_got" : Str), ("_law_goal" : Str), ("_law_deeds" : Str), ("_law_rows" : Str), ("_law_own" : Str)]) (sc := defScope s__law_by_hand_right) (by decide +kernel)) rfl (by decide) (fun _ _ _ _ _ => (pg_name (i := 5) nd rfl (by first | exact Or.inl rfl | exact Or.inr rfl))) (fun _ _ _ _ _ => dts_no) (fun _ _ _ _ _ => (dv_call (D_is_line.mono (by decide)) hr rfl (dvs_cons (dv_var 5) dvs_nil))))) (dv_lst (dvs_cons (dv_callK (K_is_line.mono (by decide)) hr rfl rfl (dks_cons (dv_tup (dvs_cons dv_str (dvs_cons dv_int dvs_nil))) dks_nil)) dvs_nil))))
    (dss_cons (ds_ret (dv_call (D__law_same.mono (by decide)) hr rfl (dvs_cons (dv_var 1) (dvs_cons (dv_bin ok_add (dv_bin ok_add (dv_bin ok_add (dv_var 2) (dv_lst (dvs_cons dv_bl (dvs_cons dv_bl dvs_nil)))) (dv_bin ok_mul (dv_lst (dvs_cons dv_bl dvs_nil)) dv_int)) (dv_lst (dvs_cons dv_bl dvs_nil))) dvs_nil))))
    dss_nil))))))))))))))))))))
abbrev s__law_right : Stmt := topS 26
theorem sc__law_right : FnScope [("_law_urn" : Str), ("_law_turn" : Str), ("_law_own" : Str), ("_law_many_so" : Str), ("_law_word" : Str), ("_law_got" : Str), ("_law_sign" : Str), ("_law_k" : Str), ("_law_bent_so" : Str)] [("_law_urn" : Str)] (defScope s__law_right) := ⟨rfl, rfl, rfl, by decide +kernel, rfl, by decide +kernel, by decide +kernel⟩
def m__law_right : MS := (sCons (sFor (.one 1) (mRange1 (mC (.int (10)))) (sCons (sPar 2 3 (mCall 2 F__law_of (mCons (mVar 0) (mCons (mCall 2 F__law_tags (mCons (mVar 0) (mCons (mC (.int (3))) mNil))) mNil))) (mCall 2 F__law_of (mCons (mVar 0) (mCons (mLst (mCons (mC (.int (1))) (mCons (mC (.int (2))) (mCons (mC (.int (60))) (mCons (mC (.int (61))) (mCons (mBin fAdd (mBin fPow (mC (.int (10))) (mC (.int (12)))) (mCall 2 F__law_take (mCons (mVar 0) (mCons (mC (.int (9))) mNil)))) mNil)))))) mNil))))
    (sCons (sSet 4 (mCall 2 F__law_of (mCons (mVar 0) (mCons (mLst (mCons (mC (.str ("write" : Str))) (mCons (mC (.str ("flush" : Str))) mNil))) mNil))))
    (sCons (sSet 5 (mLst (mCons (mCall 1 F_is_name (mCons (mVar 2) mNil)) (mCons (mCall 1 F_is_deed (mCons (mTup (mCons (mVar 4) (mCons (mVar 2) mNil))) mNil)) (mCons (mCall 1 F_is_line (mCons (mTup (mCons (mVar 2) (mCons (mVar 3) mNil))) mNil)) (mCons (mCall 1 F_is_deed (mCons (mLst (mCons (mVar 4) (mCons (mVar 2) mNil))) mNil)) mNil))))))
    (sCons (sSet 5 (mBin fAdd (mVar 5) (mLst (mCons (mCall 1 F_is_line (mCons (mLst (mCons (mVar 2) (mCons (mVar 3) mNil))) mNil)) mNil))))
    (sCons (sSet 6 (mCall 2 F__law_of (mCons (mVar 0) (mCons (mLst (mCons (mC (.str ("A" : Str))) (mCons (mC (.str (" " : Str))) (mCons (mC (.str ("1" : Str))) (mCons (mC (.str ("-" : Str))) (mCons (mC (.str ("!" : Str))) (mCons (mC (.str ("_" : Str))) (mCons (mC (.str ("\n" : Str))) mNil)))))))) mNil))))
    (sCons (sSet 7 (mCall 2 F__law_take (mCons (mVar 0) (mCons (mBin fAdd (mBi bLen (mCons (mVar 2) mNil)) (mC (.int (1)))) mNil))))
    (sCons (sSet 8 (mBin fAdd (mBin fAdd (mSl (mVar 2) moNo (moAt (mVar 7))) (mVar 6)) (mSl (mVar 2) (moAt (mVar 7)) moNo)))
    (sCons (sSet 5 (mBin fAdd (mVar 5) (mLst (mCons (mCall 1 F_is_name (mCons (mVar 8) mNil)) (mCons (mCall 1 F_is_deed (mCons (mTup (mCons (mVar 4) (mCons (mVar 8) mNil))) mNil)) (mCons (mCall 1 F_is_line (mCons (mTup (mCons (mVar 8) (mCons (mVar 3) mNil))) mNil)) mNil))))))
    (sCons (sSet 5 (mBin fAdd (mVar 5) (mLst (mCons (mCall 1 F_is_line (mCons (mTup (mCons (mVar 2) (mCons (mBin fSub (mC (.int (0))) (mVar 3)) mNil))) mNil)) mNil))))
    (sCons (sSet 5 (mBin fAdd (mVar 5) (mLst (mCons (mCall 1 F_is_deed (mCons (mTup (mCons (mBin fAdd (mVar 4) (mC (.str ("s" : Str)))) (mCons (mVar 2) mNil))) mNil)) (mCons (mCall 1 F_is_deed (mCons (mTup (mCons (mVar 2) (mCons (mVar 4) mNil))) mNil)) (mCons (mCall 1 F_is_line (mCons (mTup (mCons (mVar 3) (mCons (mVar 2) mNil))) mNil)) (mCons (mCall 1 F_is_name (mCons (mTup (mCons (mVar 2) mNil)) mNil)) mNil)))))))
    (sCons (sSet 5 (mBin fAdd (mVar 5) (mLst (mCons (mCall 1 F_is_line (mCons (mTup (mCons (mVar 4) (mCons (mVar 3) mNil))) mNil)) (mCons (mCall 1 F_is_deed (mCons (mTup (mCons (mVar 4) (mCons (mVar 2) (mCons (mVar 2) mNil)))) mNil)) mNil)))))
    (sCons (sIf (mNotB (mTru (mCall 2 (FR__law_same 6) (mCons (mVar 5) (mCons (mBin fAdd (mBin fAdd (mBin fMul (mLst (mCons (mC (.bl true)) mNil)) (mC (.int (3)))) (mBin fMul (mLst (mCons (mC (.bl false)) mNil)) (mC (.int (10))))) (mLst (mCons (mC (.bl true)) (mCons (mC (.bl false)) mNil)))) mNil))))) (sCons (sRet (mC (.bl false)))
    sNil) sNil)
    sNil)))))))))))))
    (sCons (sRet (mC (.bl true)))
    sNil))
def F__law_right : List D → U → Option (D × U) := runB m__law_right 9
theorem ok__law_right {P : Program} {w : World} {K : PySem.W.Frag} {mg : Str → Option Value} {base : Heap} {G : Gx K} (T : Tx mg) {f : Addr} {fd : FuncData} (F : Fun K ("_law_right" : Str) ("_law_right" : Str) s__law_right f fd) (D__law_of : DefOk P w mg base G ("_law_of" : Str) 2 2 F__law_of) (D__law_same : DefOk P w mg base G ("_law_same" : Str) 6 2 (FR__law_same 6)) (D__law_tags : DefOk P w mg base G ("_law_tags" : Str) 3 2 F__law_tags) (D__law_take : DefOk P w mg base G ("_law_take" : Str) 1 2 F__law_take) (D_is_deed : DefOk P w mg base G ("is_deed" : Str) 2 1 F_is_deed) (D_is_line : DefOk P w mg base G ("is_line" : Str) 2 1 F_is_line) (D_is_name : DefOk P w mg base G ("is_name" : Str) 1 1 F_is_name) : FnOk P w K mg base CX0 7 f fd [("_law_urn" : Str)] (spF G F__law_right 1) :=
  have nd := sc__law_right.nd
  def_ok F sc__law_right rfl fun cdv A outer s H E hr => (dss_cons (ds_for (.one 1) PassesOwn.never rfl (di_range1 rfl T.n_range dv_int) (pg_name (i := 1) nd rfl (by first | exact Or.inl rfl | exact Or.inr rfl)) (dss_cons (ds_par 2 3 (dv_call (D__law_of.mono (by decide)) hr rfl (dvs_cons (dv_var 0) (dvs_cons (dv_call (D__law_tags.mono (by decide)) hr rfl (dvs_cons (dv_var 0) (dvs_cons dv_int dvs_nil))) dvs_nil))) (dv_call (D__law_of.mono (by decide)) hr rfl (dvs_cons (dv_var 0) (dvs_cons (dv_lst (dvs_cons dv_int (dvs_cons dv_int (dvs_cons dv_int (dvs_cons dv_int (dvs_cons (dv_bin ok_add (dv_bin ok_pow dv_int dv_int) (dv_call (D__law_take.mono (by decide)) hr rfl (dvs_cons (dv_var 0) (dvs_cons dv_int dvs_nil)))) dvs_nil)))))) dvs_nil))) (fun h => ps_par (i := 2) (j := 3) rfl nd rfl rfl (by decide) rfl rfl h (by rfl)))
    (dss_cons (ds_set 4 nd (dv_call (D__law_of.mono (by decide)) hr rfl (dvs_cons (dv_var 0) (dvs_cons (dv_lst (dvs_cons dv_str (dvs_cons dv_str dvs_nil))) dvs_nil))))
    (dss_cons (ds_set 5 nd (dv_lst (dvs_cons (dv_call (D_is_name.mono (by decide)) hr rfl (dvs_cons (dv_var 2) dvs_nil)) (dvs_cons (dv_call (D_is_deed.mono (by decide)) hr rfl (dvs_cons (dv_tup (dvs_cons (dv_var 4) (dvs_cons (dv_var 2) dvs_nil))) dvs_nil)) (dvs_cons (dv_call (D_is_line.mono (by decide)) hr rfl (dvs_cons (dv_tup (dvs_cons (dv_var 2) (dvs_cons (dv_var 3) dvs_nil))) dvs_nil)) (dvs_cons (dv_call (D_is_deed.mono (by decide)) hr rfl (dvs_cons (dv_lst (dvs_cons (dv_var 4) (dvs_cons (dv_var 2) dvs_nil))) dvs_nil)) dvs_nil))))))
    (dss_cons (ds_set 5 nd (dv_bin ok_add (dv_var 5) (dv_lst (dvs_cons (dv_call (D_is_line.mono (by decide)) hr rfl (dvs_cons (dv_lst (dvs_cons (dv_var 2) (dvs_cons (dv_var 3) dvs_nil))) dvs_nil)) dvs_nil))))
    (dss_cons (ds_set 6 nd (dv_call (D__law_of.mono (by decide)) hr rfl (dvs_cons (dv_var 0) (dvs_cons (dv_lst (dvs_cons dv_str (dvs_cons dv_str (dvs_cons dv_str (dvs_cons dv_str (dvs_cons dv_str (dvs_cons dv_str (dvs_cons dv_str dvs_nil)))))))) dvs_nil))))
    (dss_cons (ds_set 7 nd (dv_call (D__law_take.mono (by decide)) hr rfl (dvs_cons (dv_var 0) (dvs_cons (dv_bin ok_add (dv_bi ok_len rfl T.n_len (by decide +kernel) (dvs_cons (dv_var 2) dvs_nil)) dv_int) dvs_nil))))
    (dss_cons (ds_set 8 nd (dv_bin ok_add (dv_bin ok_add (dv_sl (dv_var 2) do_no (do_at (dv_var 7))) (dv_var 6)) (dv_sl (dv_var 2) (do_at (dv_var 7)) do_no)))
    (dss_cons (ds_set 5 nd (dv_bin ok_add (dv_var 5) (dv_lst (dvs_cons (dv_call (D_is_name.mono (by decide)) hr rfl (dvs_cons (dv_var 8) dvs_nil)) (dvs_cons (dv_call (D_is_deed.mono (by decide)) hr rfl (dvs_cons (dv_tup (dvs_cons (dv_var 4) (dvs_cons (dv_var 8) dvs_nil))) dvs_nil)) (dvs_cons (dv_call (D_is_line.mono (by decide)) hr rfl (dvs_cons (dv_tup (dvs_cons (dv_var 8) (dvs_cons (dv_var 3) dvs_nil))) dvs_nil)) dvs_nil))))))
    (dss_cons (ds_set 5 nd (dv_bin ok_add (dv_var 5) (dv_lst (dvs_cons (dv_call (D_is_line.mono (by decide)) hr rfl (dvs_cons (dv_tup (dvs_cons (dv_var 2) (dvs_cons (dv_bin ok_sub dv_int (dv_var 3)) dvs_nil))) dvs_nil)) dvs_nil))))
    (dss_cons (ds_set 5 nd (dv_bin ok_add (dv_var 5) (dv_lst (dvs_cons (dv_call (D_is_deed.mono (by decide)) hr rfl (dvs_cons (dv_tup (dvs_cons (dv_bin ok_add (dv_var 4) dv_str) (dvs_cons (dv_var 2) dvs_nil))) dvs_nil)) (dvs_cons (dv_call (D_is_deed.mono (by decide)) hr rfl (dvs_cons (dv_tup (dvs_cons (dv_var 2) (dvs_cons (dv_var 4) dvs_nil))) dvs_nil)) (dvs_cons (dv_call (D_is_line.mono (by decide)) hr rfl (dvs_cons (dv_tup (dvs_cons (dv_var 3) (dvs_cons (dv_var 2) dvs_nil))) dvs_nil)) (dvs_cons (dv_call (D_is_name.mono (by decide)) hr rfl (dvs_cons (dv_tup (dvs_cons (dv_var 2) dvs_nil)) dvs_nil)) dvs_nil)))))))
    (dss_cons (ds_set 5 nd (dv_bin ok_add (dv_var 5) (dv_lst (dvs_cons (dv_call (D_is_line.mono (by decide)) hr rfl (dvs_cons (dv_tup (dvs_cons (dv_var 4) (dvs_cons (dv_var 3) dvs_nil))) dvs_nil)) (dvs_cons (dv_call (D_is_deed.mono (by decide)) hr rfl (dvs_cons (dv_tup (dvs_cons (dv_var 4) (dvs_cons (dv_var 2) (dvs_cons (dv_var 2) dvs_nil)))) dvs_nil)) dvs_nil)))))
    (dss_cons (ds_if (dt_not (dt_val (dv_call (D__law_same.mono (by decide)) hr rfl (dvs_cons (dv_var 5) (dvs_cons (dv_bin ok_add (dv_bin ok_add (dv_bin ok_mul (dv_lst (dvs_cons dv_bl dvs_nil)) dv_int) (dv_bin ok_mul (dv_lst (dvs_cons dv_bl dvs_nil)) dv_int)) (dv_lst (dvs_cons dv_bl (dvs_cons dv_bl dvs_nil)))) dvs_nil))))) (dss_cons (ds_ret dv_bl)
    dss_nil) dss_nil)
    dss_nil)))))))))))))
    (dss_cons (ds_ret dv_bl)
    dss_nil))
end Lw00

namespace Lw00
open PySem Dv
structure OkU (n : Int) (u : U) : Prop where
  a : 0 ≤ u.a
  b : 0 ≤ u.b ∧ u.b < 2 ^ 62
  c : 0 ≤ u.c ∧ u.c ≤ n
theorem fMul_r {i j : Int} (h : -(2 ^ 64) < j ∧ j < 2 ^ 64) : fMul (.int i) (.int j) = some (.int (i * j)) := by
  simp only [fMul]; rw [if_pos (.inr h)]
theorem fMod_p {i j : Int} (h : 0 < j) : fMod (.int i) (.int j) = some (.int (i % j)) := by simp only [fMod]; rw [if_pos h]
theorem fDiv_p {i j : Int} (h : 0 < j ∧ j < 1073741824) : fDiv (.int i) (.int j) = some (.int (i / j)) := by simp only [fDiv]; rw [if_pos h]
theorem take_ok {n low : Int} {u : U} (h : OkU n u) (hn : n ≤ 2 ^ 40) (h0 : 0 < low) (h1 : low < 1073741824) :
    ∃ r u', F__law_take [.urn, .int low] u = some (.int r, u') ∧ 0 ≤ r ∧ r < low ∧ OkU (n + 1) u' := by
  obtain ⟨ha, ⟨hb1, hb2⟩, hc1, hc2⟩ := h
  obtain ⟨a, b, c⟩ := u
  dsimp only at ha hb1 hb2 hc1 hc2
  by_cases q : 0 < a
  · refine ⟨a % low, ⟨a / low, b, c⟩, ?_, Int.emod_nonneg _ (by omega), Int.emod_lt_of_pos _ h0, ⟨Int.ediv_nonneg ha (by omega), ⟨hb1, hb2⟩, hc1, by show c ≤ n + 1; omega⟩⟩
    simp [F__law_take, runB, m__law_take, sCons, sIf, mTru, mBin, mUrn0, isUrn, bnd, lft, mC, cGt, truD, q, sSet, sRet, mBi, mCons, mNil, bInt, mVar, fMod_p h0, fDiv_p ⟨h0, h1⟩, sUrn0, sNil]
  · obtain ⟨k, hk⟩ : ∃ k, k = c + 1 := ⟨_, rfl⟩
    obtain ⟨once, ho⟩ : ∃ z, z = (b + 48271 * k) * (39373 + k) % 2147483647 := ⟨_, rfl⟩
    obtain ⟨far, hf⟩ : ∃ z, z = once % 40009 + 7 := ⟨_, rfl⟩
    obtain ⟨twice, ht⟩ : ∃ z, z = (once + k + b / 1000003) * far % 2147483629 := ⟨_, rfl⟩
    have o1 : 0 ≤ once ∧ once < 2147483647 := by rw [ho]; exact ⟨Int.emod_nonneg _ (by decide), Int.emod_lt_of_pos _ (by decide)⟩
    have f1 : 0 ≤ far ∧ far < 50000 := by omega
    have t1 : 0 ≤ twice ∧ twice < 2147483629 := by rw [ht]; exact ⟨Int.emod_nonneg _ (by decide), Int.emod_lt_of_pos _ (by decide)⟩
    have e0 := fMul_r (i := 48271) (j := k) (by omega)
    have e1 := fMul_r (i := b + 48271 * k) (j := 39373 + k) (by omega)
    have e2 := fMul_r (i := once + k + b / 1000003) (j := far) (by omega)
    have e3 := fMul_r (i := twice) (j := 48271) (by decide)
    have m1 := fMod_p (i := (b + 48271 * k) * (39373 + k)) (j := 2147483647) (by decide)
    have m2 := fMod_p (i := once) (j := 40009) (by decide)
    have m3 := fMod_p (i := (once + k + b / 1000003) * far) (j := 2147483629) (by decide)
    have m4 := fMod_p (i := twice * 48271 + once) (j := 2147483587) (by decide)
    have d1 := fDiv_p (i := b) (j := 1000003) (by decide)
    have d2 := fDiv_p (i := (twice * 48271 + once) % 2147483587) (j := 64) (by decide)
    rw [← ho] at m1
    rw [← ht] at m3
    refine ⟨(twice * 48271 + once) % 2147483587 / 64 % low, ⟨a, b, k⟩, ?_, Int.emod_nonneg _ (by omega), Int.emod_lt_of_pos _ h0, ⟨ha, ⟨hb1, hb2⟩, by show 0 ≤ k; omega, by show k ≤ n + 1; omega⟩⟩
    simp only [F__law_take, runB, m__law_take, sCons, sIf, mTru, mBin, mUrn0, mUrn1, mUrn2, isUrn, bnd, lft, mC, cGt, truD, q, sSet, sRet, mBi, mCons, mNil, bInt, mVar, fMod_p h0, fDiv_p ⟨h0, h1⟩, sUrn0, sUrn2, sNil, fAdd, List.map, List.length, List.replicate, List.append, List.cons_append, List.nil_append, List.getElem?_cons_zero, List.getElem?_cons_succ, List.set, decide_false, if_true, Bool.false_eq_true, if_false, ← hk, ← hf, e0, e1, e2, e3, m1, m2, m3, m4, d1, d2, Nat.reduceSub, List.replicate_succ, List.replicate_zero]
end Lw00

namespace Lw00
open PySem Dv L2
theorem of_ok {n : Int} {u : U} {ds : List D} (h : OkU n u) (hn : n ≤ 2 ^ 40) (h0 : 0 < ds.length) (h1 : ds.length < 1000) :
    ∃ d u', F__law_of [.urn, .lst ds] u = some (d, u') ∧ d ∈ ds ∧ OkU (n + 1) u' := by
  obtain ⟨r, u', e, r0, r1, hu⟩ := take_ok (low := ds.length) h hn (by omega) (by omega)
  have hr : r.toNat < ds.length := by omega
  have e2 : ixD (.lst ds) (.int r) = some ds[r.toNat] := by
    have := atI_nat (List.getElem?_eq_getElem hr)
    rw [Int.toNat_of_nonneg r0] at this
    exact this
  refine ⟨_, u', ?_, List.getElem_mem hr, hu⟩
  simp only [F__law_of, m__law_of, runB, sCons, sSet, sTgt, sPar, sRet, sIf, sNil, sDrop, mVar, mC, mCons, mNil, mLst, mTup, mBin, mCall, mBi, mAnd, mOr, mNot, mIte, mTru, mNotB, mAndB, mOrB, mChain, mNeg, mSl, moNo, moAt, mIsi, bnd, lft, bindT, setE, List.map_cons, List.map_nil, List.length_cons, List.length_nil, List.cons_append, List.nil_append, List.getElem?_cons_zero, List.getElem?_cons_succ, List.set_cons_zero, List.set_cons_succ, if_true, if_false, Bool.false_eq_true, List.replicate_succ, List.replicate_zero, Nat.reduceSub, Nat.reduceAdd, reduceIte, Option.map_some, Option.map_none, Nat.zero_add, bLen, e, e2]
/-! ### comprehensions -/
theorem compL_pure {f : D → U → Option (Option D × U)} {g : D → D} {u : U} : ∀ {ds : List D}, (∀ d ∈ ds, f d u = some (some (g d), u)) → compL f ds u = some (ds.map g, u)
  | [], _ => rfl
  | d :: ds, h => by
    unfold compL
    rw [h d List.mem_cons_self]
    show bnd (compL f ds u) _ = _
    rw [compL_pure fun d hd => h d (List.mem_cons_of_mem _ hd)]
    rfl
theorem compL_inv {f : D → U → Option (Option D × U)} {P : D → Prop} {I : Int → U → Prop} {N : Int} : ∀ {ds : List D} {i : Int} {u : U}, (∀ d ∈ ds, ∀ i u, i ≤ N → I i u → ∃ x u', f d u = some (some x, u') ∧ P x ∧ I (i + 1) u') → I i u → i + ds.length ≤ N + 1 →
    ∃ xs u', compL f ds u = some (xs, u') ∧ xs.length = ds.length ∧ (∀ x ∈ xs, P x) ∧ I (i + ds.length) u'
  | [], i, u, _, hi, _ => ⟨[], u, rfl, rfl, by simp, by simpa using hi⟩
  | d :: ds, i, u, h, hi, hN => by
    rw [List.length_cons] at hN
    obtain ⟨x, u1, e, p, hi1⟩ := h d List.mem_cons_self i u (by omega) hi
    obtain ⟨xs, u2, e2, l2, p2, hi2⟩ := compL_inv (i := i + 1) (fun d hd => h d (List.mem_cons_of_mem _ hd)) hi1 (by omega)
    refine ⟨x :: xs, u2, ?_, by rw [List.length_cons, List.length_cons, l2], fun y hy => ?_, ?_⟩
    · unfold compL
      rw [e]
      show bnd (compL f ds u1) _ = _
      rw [e2]; rfl
    · rcases List.mem_cons.mp hy with rfl | hy
      · exact p
      · exact p2 y hy
    · rw [List.length_cons, show i + ((ds.length + 1 : Nat) : Int) = i + 1 + ds.length by omega]
      exact hi2
theorem strsOf_map : ∀ (xs : List Str), strsOf (xs.map .str) = some xs
  | [] => rfl
  | x :: xs => by
    show (strsOf (xs.map .str)).map _ = _
    rw [strsOf_map xs]; rfl
theorem strs_of_all : ∀ {ds : List D} {P : Str → Prop}, (∀ d ∈ ds, ∃ x, d = .str x ∧ P x) → ∃ xs : List Str, ds = xs.map .str ∧ ∀ x ∈ xs, P x
  | [], _, _ => ⟨[], rfl, by simp⟩
  | d :: ds, P, h => by
    obtain ⟨x, rfl, p⟩ := h d List.mem_cons_self
    obtain ⟨xs, rfl, q⟩ := strs_of_all fun d hd => h d (List.mem_cons_of_mem _ hd)
    exact ⟨x :: xs, rfl, fun y hy => by
      rcases List.mem_cons.mp hy with rfl | hy
      · exact p
      · exact q y hy⟩
/-! ### letters, texts -/
def AZ (x : Str) : Prop := ∀ c ∈ x.cps.toList, 97 ≤ c ∧ c ≤ 122
def ltr (z : Int) : Str := ⟨#[97 + (z % 26).toNat]⟩
theorem ltr_az (z : Int) : AZ (ltr z) := by
  intro c hc
  have h1 := Int.emod_nonneg z (show (26 : Int) ≠ 0 by decide)
  have h2 := Int.emod_lt_of_pos z (show (0 : Int) < 26 by decide)
  have e : c = 97 + (z % 26).toNat := by simpa [ltr] using hc
  omega
theorem abc_at : ∀ j : Fin 26, atI (("abcdefghijklmnopqrstuvwxyz" : Str)).cps.toList ((j.val : Nat) : Int) = some (97 + j.val) := by decide +kernel
theorem abc_ix (z : Int) : ixD (.str ("abcdefghijklmnopqrstuvwxyz" : Str)) (.int (z % 26)) = some (.str (ltr z)) := by
  have h1 := Int.emod_nonneg z (show (26 : Int) ≠ 0 by decide)
  have h2 := Int.emod_lt_of_pos z (show (0 : Int) < 26 by decide)
  have := abc_at ⟨(z % 26).toNat, by omega⟩
  simp only [Int.toNat_of_nonneg h1] at this
  show (if (("abcdefghijklmnopqrstuvwxyz" : Str)).length ≤ sizeLine then (atI (("abcdefghijklmnopqrstuvwxyz" : Str)).cps.toList (z % 26)).map (fun c => D.str ⟨#[c]⟩) else none) = _
  rw [if_pos (by decide +kernel), this]
  rfl
theorem abc_ix' {z : Int} (h0 : 0 ≤ z) (h1 : z < 26) : ixD (.str ("abcdefghijklmnopqrstuvwxyz" : Str)) (.int z) = some (.str (ltr z)) := by
  have := abc_ix z
  rw [Int.emod_eq_of_lt h0 h1] at this
  exact this
theorem len_cps (x : Str) : x.length = x.cps.toList.length := by
  show x.cps.size = _
  rw [Array.length_toList]
theorem app_cps (x y : Str) : (x ++ y).cps.toList = x.cps.toList ++ y.cps.toList := by
  show (x.cps ++ y.cps).toList = _
  simp
theorem join_cps (ys : List Str) : (Txt.join ("" : Str) ys).cps.toList = (ys.map (·.cps.toList)).flatten := by
  have h : ∀ ps : List (List Nat), TL.joinL [] ps = ps.flatten := by
    intro ps
    induction ps with
    | nil => rfl
    | cons p r ih =>
      cases r with
      | nil => simp [TL.joinL]
      | cons q r => simp only [TL.joinL, List.nil_append, ih, List.flatten_cons]
  have e := TL.tl_join ("" : Str) ys
  rw [show TL.tl ("" : Str) = [] from by decide +kernel, h] at e
  rw [TL.join_eq]
  exact e
theorem AZ.app {x y : Str} (h : AZ x) (g : AZ y) : AZ (x ++ y) := by
  intro c hc
  rw [app_cps] at hc
  rcases List.mem_append.mp hc with hc | hc
  · exact h c hc
  · exact g c hc
theorem AZ.join {ys : List Str} (h : ∀ y ∈ ys, AZ y) : AZ (Txt.join ("" : Str) ys) := by
  intro c hc
  rw [join_cps] at hc
  obtain ⟨l, hl, hc⟩ := List.mem_flatten.mp hc
  obtain ⟨y, hy, rfl⟩ := List.mem_map.mp hl
  exact h y hy c hc
theorem join_len {ys : List Str} (h : ∀ y ∈ ys, y.length = 1) : (Txt.join ("" : Str) ys).length = ys.length := by
  rw [len_cps, join_cps]
  induction ys with
  | nil => rfl
  | cons y r ih =>
    rw [List.map_cons, List.flatten_cons, List.length_append, ← len_cps, h y List.mem_cons_self, ih fun z hz => h z (List.mem_cons_of_mem _ hz), List.length_cons]
    omega
theorem sum_ones {ys : List Str} (h : ∀ y ∈ ys, y.length = 1) : (ys.map (·.length)).sum = ys.length := by
  induction ys with
  | nil => rfl
  | cons y r ih =>
    rw [List.map_cons, List.sum_cons, h y List.mem_cons_self, ih fun z hz => h z (List.mem_cons_of_mem _ hz), List.length_cons]
    omega
theorem cutS_az {z : Str} (h : AZ z) (lo hi : Option Int) : AZ (cutS z lo hi) := by
  intro c hc
  have : c ∈ z.cps.toList := by
    have hc : c ∈ ((z.cps.toList.drop (HT.sIx z.length 0 lo)).take (HT.sIx z.length z.length hi - HT.sIx z.length 0 lo)).toArray.toList := hc
    rw [List.toList_toArray] at hc
    exact List.mem_of_mem_drop (List.mem_of_mem_take hc)
  exact h c this
theorem cut_to {z : Str} {at_ : Nat} (h : at_ ≤ z.length) : (cutS z none (some (at_ : Int))).cps.toList = z.cps.toList.take at_ := by
  show ((z.cps.toList.drop (HT.sIx z.length 0 none)).take (HT.sIx z.length z.length (some (at_ : Int)) - HT.sIx z.length 0 none)).toArray.toList = _
  rw [List.toList_toArray, HT.sIx_none, HT.sIx_nat, List.drop_zero, Nat.sub_zero, Nat.min_eq_left h]
theorem cut_from {z : Str} {at_ : Nat} (h : at_ ≤ z.length) : (cutS z (some (at_ : Int)) none).cps.toList = z.cps.toList.drop at_ := by
  show ((z.cps.toList.drop (HT.sIx z.length 0 (some (at_ : Int)))).take (HT.sIx z.length z.length none - HT.sIx z.length 0 (some (at_ : Int)))).toArray.toList = _
  rw [List.toList_toArray, HT.sIx_none, HT.sIx_nat, Nat.min_eq_left h, len_cps, ← List.length_drop, List.take_length]
end Lw00

namespace Lw00
open PySem Dv L2
theorem OkU.mono {n k : Int} {u : U} (h : OkU n u) (l : n ≤ k) : OkU k u := ⟨h.a, h.b, h.c.1, by have := h.c.2; omega⟩
theorem line : sizeLine = 16777216 := rfl
theorem isiz {n : Nat} (h : n ≤ 1000) : n ≤ sizeLine := by rw [line]; omega
/-- a drawn name: letters alone -/
def Nm (k : Nat) (x : Str) : Prop := AZ x ∧ 1 ≤ x.length ∧ (x.length ≤ k ∨ x.length = 1 ∨ x.length = 2 ∨ x.length = 6 ∨ x.length = 8)
theorem sorted_ok {xs : List Str} (h : xs.length < 64) : bSorted [.lst (xs.map .str)] = some (.lst ((sortS xs).map .str)) := by
  show (strsOf (xs.map D.str)).bind _ = _
  rw [strsOf_map]
  exact if_pos h
theorem joinD_ok {ys : List Str} (h : ∀ y ∈ ys, y.length = 1) (hl : ys.length ≤ 1000) : joinD (.str ("" : Str)) (.lst (ys.map .str)) = some (.str (Txt.join ("" : Str) ys)) := by
  show (strsOf (ys.map D.str)).bind _ = _
  rw [strsOf_map]
  refine if_pos ?_
  rw [sum_ones h, show ("" : Str).length = 0 from by decide +kernel]
  omega
theorem tags_ok {n : Int} {u : U} {many : Nat} (h : OkU n u) (hn : n ≤ 2 ^ 39) (h1 : 1 ≤ many) (h2 : many ≤ 8) :
    ∃ (xs : List Str) (u' : U), F__law_tags [.urn, .int many] u = some (.lst (xs.map .str), u') ∧ xs.length = many ∧ (∀ x ∈ xs, Nm many x) ∧ OkU (n + 20) u' := by
  obtain ⟨r1, u1, e1, _, _, k1⟩ := take_ok (low := 26) h (by omega) (by decide) (by decide)
  obtain ⟨d2, u2, e2, m2, k2⟩ := of_ok (ds := [.int 1, .int 3, .int 7, .int 11, .int 25]) k1 (by omega) (by decide) (by decide)
  obtain ⟨b, rfl, hb⟩ : ∃ b : Int, d2 = .int b ∧ 0 ≤ b ∧ b ≤ 25 := by
    simp only [List.mem_cons, List.not_mem_nil, or_false] at m2
    rcases m2 with rfl | rfl | rfl | rfl | rfl <;> exact ⟨_, rfl, by decide, by decide⟩
  -- the row of letters
  let row : List Str := (List.range 8).map fun i => ltr (r1 + b * ((0 : Int) + (i : Nat)))
  have hrow : ∀ y ∈ row, y.length = 1 ∧ AZ y := fun y hy => by
    obtain ⟨i, _, rfl⟩ := List.mem_map.mp hy
    exact ⟨rfl, ltr_az _⟩
  have rlen : row.length = 8 := by show ((List.range 8).map _).length = 8; rw [List.length_map, List.length_range]
  have c1 : ∀ env : List Sl, env[2]? = some (Sl.pub (.str ("abcdefghijklmnopqrstuvwxyz" : Str))) → env[3]? = some (Sl.pub (.int r1)) → env[4]? = some (Sl.pub (.int b)) → 8 < env.length →
      compL (turnL (.one 8) [8] env mYes (mBin ixD (mVar 2) (mBin fMod (mBi bInt (mCons (mBin fAdd (mVar 3) (mBin fMul (mVar 4) (mVar 8))) mNil)) (mC (.int 26))))) (rangeD 0 8) u2 = some (row.map .str, u2) := by
    intro env g2 g3 g4 gl
    have := compL_pure (f := turnL (.one 8) [8] env mYes (mBin ixD (mVar 2) (mBin fMod (mBi bInt (mCons (mBin fAdd (mVar 3) (mBin fMul (mVar 4) (mVar 8))) mNil)) (mC (.int 26))))) (u := u2) (ds := rangeD 0 8)
      (g := fun d => match d with | .int z => .str (ltr (r1 + b * z)) | d => d) (fun d hd => ?_)
    · rw [this]
      show some ((List.map _ (List.map _ (List.range 8))), u2) = some (List.map _ (List.map _ (List.range 8)), u2)
      rw [List.map_map, List.map_map]
      rfl
    · obtain ⟨i, hi, rfl⟩ := mem_rangeD hd
      refine turnL_eq (env' := (env.set 8 .no).set 8 (.pub (.int (0 + i)))) rfl ?_
      have w : ∀ j : Nat, j ≠ 8 → ((env.set 8 .no).set 8 (Sl.pub (.int (0 + i))))[j]? = env[j]? := fun j hj => by
        rw [List.getElem?_set_ne (fun z => hj z.symm), List.getElem?_set_ne (fun z => hj z.symm)]
      refine mBin_eq (mVar_eq (by rw [w 2 (by decide)]; exact g2)) (mBin_eq (mBi_eq (mCons_eq (mBin_eq (mVar_eq (by rw [w 3 (by decide)]; exact g3)) (mBin_eq (mVar_eq (by rw [w 4 (by decide)]; exact g4)) (mVar_eq (set_get (by rw [List.length_set]; exact gl))) (fMul_r ⟨by omega, by omega⟩)) rfl) mNil_eq) rfl) mC_eq (fMod_p (by decide))) (abc_ix _)
  have l1 : (-(2 : Int) ^ 62 ≤ (many : Int)) ∧ (many : Int) < 2 ^ 62 := by omega
  have hmax : bMax2 [.int 8, .int many] = some (.int 8) := by
    show some (D.int (if (many : Int) > 8 then (many : Int) else 8)) = _
    rw [if_neg (by omega)]
  obtain ⟨r3, u3, e3, r30, r31, k3⟩ := take_ok (low := 4) k2 (by omega) (by decide) (by decide)
  have hlt : cLt (.int many) (.int 9) = some (.bl true) := by
    show some (D.bl (decide ((many : Int) < 9))) = _
    rw [decide_eq_true (by omega)]
  -- the environments
  have hrl : (row.map D.str).length ≤ sizeLine := by rw [List.length_map, rlen]; exact isiz (by decide)
  by_cases hz : r3 = 0
  · -- the row's beginnings
    subst hz
    let xs : List Str := (List.range many).map fun i => Txt.join ("" : Str) (row.take (i + 1))
    have hx : ∀ i : Nat, i < many → ∀ y ∈ row.take (i + 1), y.length = 1 := fun i _ y hy => (hrow y (List.mem_of_mem_take hy)).1
    have c2 : ∀ env : List Sl, env[5]? = some (Sl.pub (.lst (row.map .str))) → 8 < env.length →
        compL (turnL (.one 8) [8] env mYes (mBin joinD (mC (.str ("" : Str))) (mSl (mVar 5) moNo (moAt (mBin fAdd (mVar 8) (mC (.int 1))))))) (rangeD 0 many) u3 = some (xs.map .str, u3) := by
      intro env g5 gl
      have := compL_pure (f := turnL (.one 8) [8] env mYes (mBin joinD (mC (.str ("" : Str))) (mSl (mVar 5) moNo (moAt (mBin fAdd (mVar 8) (mC (.int 1))))))) (u := u3) (ds := rangeD 0 many)
        (g := fun d => match d with | .int z => .str (Txt.join ("" : Str) (row.take (z.toNat + 1))) | d => d) (fun d hd => ?_)
      · rw [this]
        show some ((List.map _ (List.map _ (List.range many))), u3) = some (List.map _ (List.map _ (List.range many)), u3)
        rw [List.map_map, List.map_map]
        refine congrArg (fun z => some (z, u3)) (List.map_congr_left fun i _ => ?_)
        show D.str (Txt.join ("" : Str) (row.take (((0 : Int) + (i : Nat)).toNat + 1))) = D.str (Txt.join ("" : Str) (row.take (i + 1)))
        rw [show ((0 : Int) + (i : Nat)).toNat = i by omega]
      · obtain ⟨i, hi, rfl⟩ := mem_rangeD hd
        refine turnL_eq (env' := (env.set 8 .no).set 8 (.pub (.int (0 + i)))) rfl ?_
        have w : ∀ j : Nat, j ≠ 8 → ((env.set 8 .no).set 8 (Sl.pub (.int (0 + i))))[j]? = env[j]? := fun j hj => by
          rw [List.getElem?_set_ne (fun z => hj z.symm), List.getElem?_set_ne (fun z => hj z.symm)]
        have hcut : slD (.lst (row.map .str)) none (some ((0 : Int) + i + 1)) = some (.lst ((row.take (i + 1)).map .str)) := by
          show some (D.lst (cutD (row.map .str) none (some ((0 : Int) + i + 1)))) = _
          rw [show (0 : Int) + (i : Nat) + 1 = ((i + 1 : Nat) : Int) by omega]
          unfold cutD
          rw [HT.sIx_none, HT.sIx_nat, List.drop_zero, Nat.sub_zero, List.length_map, rlen, Nat.min_eq_left (by omega), List.map_take]
        refine mBin_eq mC_eq (mSl_eq (mVar_eq (by rw [w 5 (by decide)]; exact g5)) rfl (moAt_eq (mBin_eq (mVar_eq (set_get (by rw [List.length_set]; exact gl))) mC_eq rfl)) hcut) ?_
        show joinD _ _ = some (D.str (Txt.join ("" : Str) (row.take (((0 : Int) + (i : Nat)).toNat + 1))))
        rw [show ((0 : Int) + (i : Nat)).toNat = i by omega]
        exact joinD_ok (hx i hi) (by rw [List.length_take]; omega)
    have xlen : xs.length = many := by show ((List.range many).map _).length = many; rw [List.length_map, List.length_range]
    refine ⟨sortS xs, u3, runB_rt (sc_nx (sSet_eq mC_eq) (sc_nx (sTgt_eq (mTup_eq (mCons_eq (mCall_eq (mCons_eq rfl (mCons_eq mC_eq mNil_eq)) rfl e1) (mCons_eq (mCall_eq (mCons_eq rfl (mCons_eq (mLst_eq rfl (isiz (by decide))) mNil_eq)) rfl e2) mNil_eq)) (isiz (by simp))) rfl)
      (sc_nx (sSet_eq (mLc_eq (mRange1_eq (mBi_eq (mCons_eq mC_eq (mCons_eq rfl mNil_eq)) hmax) (by decide)) (c1 _ rfl rfl rfl (show (8 : Nat) < 10 from by decide)) hrl))
      (sc_rt (sIf_t (mAndB_t (mTru_eq (mBin_eq rfl mC_eq hlt) rfl) (mTru_eq (mBin_eq (mCall_eq (mCons_eq rfl (mCons_eq mC_eq mNil_eq)) rfl e3) mC_eq rfl) rfl)) (sc_rt (sRet_eq (mBi_eq (mCons_eq (mLc_eq (mRange1_eq rfl l1) (c2 _ rfl (show (8 : Nat) < 10 from by decide)) (by rw [List.length_map, xlen]; exact isiz (by omega))) mNil_eq) (sorted_ok (by rw [xlen]; omega)))))))))), ?_, ?_, k3.mono (by omega)⟩
    · rw [(sortS_perm xs).length_eq]; exact xlen
    · intro x hx'
      obtain ⟨i, hi, rfl⟩ := List.mem_map.mp ((sortS_perm xs).subset hx')
      have hi := List.mem_range.mp hi
      refine ⟨AZ.join fun y hy => (hrow y (List.mem_of_mem_take hy)).2, ?_, .inl ?_⟩
      · rw [join_len (hx i hi), List.length_take, rlen]; omega
      · rw [join_len (hx i hi), List.length_take]; omega
  · obtain ⟨d4, u4, e4, m4, k4⟩ := of_ok (ds := [.int 0, .int 0, .int 1, .int 5, .int 7]) k3 (by omega) (by decide) (by decide)
    obtain ⟨L, rfl, hL, hL7⟩ : ∃ L : Nat, d4 = .int (L : Int) ∧ (L = 0 ∨ L = 1 ∨ L = 5 ∨ L = 7) ∧ L ≤ 7 := by
      simp only [List.mem_cons, List.not_mem_nil, or_false] at m4
      rcases m4 with rfl | rfl | rfl | rfl | rfl
      · exact ⟨0, rfl, by decide, by decide⟩
      · exact ⟨0, rfl, by decide, by decide⟩
      · exact ⟨1, rfl, by decide, by decide⟩
      · exact ⟨5, rfl, by decide, by decide⟩
      · exact ⟨7, rfl, by decide, by decide⟩
    let env5 : List Sl := [.pub .urn, .pub (.int many), .pub (.str ("abcdefghijklmnopqrstuvwxyz" : Str)), .pub (.int r1), .pub (.int b), .pub (.lst (row.map .str)), .no, .no, .no, .no]
    obtain ⟨ls, u5, e5, ll, pl, k5⟩ := compL_inv (f := turnL (.one 9) [9] env5 mYes (mBin ixD (mVar 2) (mCall 2 F__law_take (mCons (mVar 0) (mCons (mC (.int 26)) mNil))))) (P := fun d => ∃ x : Str, d = .str x ∧ (x.length = 1 ∧ AZ x)) (I := fun i u => OkU i u) (N := 2 ^ 40) (ds := rangeD 0 L) (i := n + 1 + 1 + 1 + 1) (u := u4)
      (fun d hd i u hi k => by
        obtain ⟨j, _, rfl⟩ := mem_rangeD hd
        obtain ⟨r, u', e, r0, r1', k'⟩ := take_ok (low := 26) k hi (by decide) (by decide)
        exact ⟨_, u', turnL_eq rfl (mBin_eq rfl (mCall_eq (mCons_eq rfl (mCons_eq mC_eq mNil_eq)) rfl e) (abc_ix' r0 r1')), ⟨_, rfl, rfl, ltr_az _⟩, k'⟩)
      k4 (by rw [rangeD_len]; omega)
    rw [rangeD_len] at ll k5
    obtain ⟨ss, rfl, ps⟩ := strs_of_all pl
    rw [List.length_map] at ll
    obtain ⟨stem, hstem⟩ : ∃ z, z = Txt.join ("" : Str) ss := ⟨_, rfl⟩
    have slen : stem.length = L := by rw [hstem, join_len fun y hy => (ps y hy).1, ll]
    have saz : AZ stem := by rw [hstem]; exact AZ.join fun y hy => (ps y hy).2
    have ej : joinD (.str ("" : Str)) (.lst (ss.map .str)) = some (.str stem) := by rw [hstem]; exact joinD_ok (fun y hy => (ps y hy).1) (by omega)
    obtain ⟨r6, u6, e6, r60, r61, k6⟩ := take_ok (low := (L : Int) + 1) k5 (by omega) (by omega) (by omega)
    obtain ⟨at_, rfl⟩ : ∃ a : Nat, r6 = a := ⟨r6.toNat, by omega⟩
    have hat : at_ ≤ stem.length := by omega
    let xs : List Str := (List.range many).map fun i => cutS stem none (some (at_ : Int)) ++ ltr (r1 + b * ((0 : Int) + (i : Nat))) ++ cutS stem (some (at_ : Int)) none
    have e7 : bLen [.str stem] = some (.int L) := by
      show (if stem.length ≤ sizeLine then some (D.int stem.length) else none) = _
      rw [if_pos (by rw [slen]; exact isiz (by omega)), slen]
    have lto : (cutS stem none (some (at_ : Int))).length = at_ := by rw [len_cps, cut_to hat, List.length_take, ← len_cps]; omega
    have lfr : (cutS stem (some (at_ : Int)) none).length = L - at_ := by rw [len_cps, cut_from hat, List.length_drop, ← len_cps, slen]
    have lap : ∀ x y : Str, (x ++ y).length = x.length + y.length := fun x y => by rw [len_cps, app_cps, List.length_append, ← len_cps, ← len_cps]
    have hss : ∀ l h', slD (.str stem) l h' = some (.str (cutS stem l h')) := fun l h' => if_pos (by rw [slen]; exact isiz (by omega))
    have hadd : ∀ x y : Str, x.length + y.length ≤ 1000 → fAdd (.str x) (.str y) = some (.str (x ++ y)) := fun x y hxy => if_pos (isiz hxy)
    have c2 : ∀ env : List Sl, env[5]? = some (Sl.pub (.lst (row.map .str))) → env[6]? = some (Sl.pub (.str stem)) → env[7]? = some (Sl.pub (.int at_)) → 8 < env.length →
        compL (turnL (.one 8) [8] env mYes (mBin fAdd (mBin fAdd (mSl (mVar 6) moNo (moAt (mVar 7))) (mBin ixD (mVar 5) (mVar 8))) (mSl (mVar 6) (moAt (mVar 7)) moNo))) (rangeD 0 many) u6 = some (xs.map .str, u6) := by
      intro env g5 g6 g7 gl
      have := compL_pure (f := turnL (.one 8) [8] env mYes (mBin fAdd (mBin fAdd (mSl (mVar 6) moNo (moAt (mVar 7))) (mBin ixD (mVar 5) (mVar 8))) (mSl (mVar 6) (moAt (mVar 7)) moNo))) (u := u6) (ds := rangeD 0 many)
        (g := fun d => match d with | .int z => .str (cutS stem none (some (at_ : Int)) ++ ltr (r1 + b * z) ++ cutS stem (some (at_ : Int)) none) | d => d) (fun d hd => ?_)
      · rw [this]
        show some ((List.map _ (List.map _ (List.range many))), u6) = some (List.map _ (List.map _ (List.range many)), u6)
        rw [List.map_map, List.map_map]
        rfl
      · obtain ⟨i, hi, rfl⟩ := mem_rangeD hd
        refine turnL_eq (env' := (env.set 8 .no).set 8 (.pub (.int (0 + i)))) rfl ?_
        have w : ∀ j : Nat, j ≠ 8 → ((env.set 8 .no).set 8 (Sl.pub (.int (0 + i))))[j]? = env[j]? := fun j hj => by
          rw [List.getElem?_set_ne (fun z => hj z.symm), List.getElem?_set_ne (fun z => hj z.symm)]
        have hix : ixD (.lst (row.map .str)) (.int (0 + i)) = some (.str (ltr (r1 + b * ((0 : Int) + (i : Nat))))) := by
          show atI (row.map D.str) ((0 : Int) + i) = _
          rw [Int.zero_add]
          refine atI_nat ?_
          rw [List.getElem?_map, List.getElem?_map, List.getElem?_range (by omega)]
          simp
        have v6 : ∀ u, mVar 6 ((env.set 8 .no).set 8 (Sl.pub (.int (0 + i)))) u = some (.str stem, u) := fun u => mVar_eq (by rw [w 6 (by decide)]; exact g6)
        have v7 : ∀ u, mVar 7 ((env.set 8 .no).set 8 (Sl.pub (.int (0 + i)))) u = some (.int at_, u) := fun u => mVar_eq (by rw [w 7 (by decide)]; exact g7)
        refine mBin_eq (mBin_eq (mSl_eq (v6 _) rfl (moAt_eq (v7 _)) (hss _ _)) (mBin_eq (mVar_eq (by rw [w 5 (by decide)]; exact g5)) (mVar_eq (set_get (by rw [List.length_set]; exact gl))) hix) (hadd _ _ ?_)) (mSl_eq (v6 _) (moAt_eq (v7 _)) rfl (hss _ _)) (hadd _ _ ?_)
        · rw [lto]; show at_ + 1 ≤ 1000; omega
        · rw [lap, lto, lfr]; show at_ + 1 + (L - at_) ≤ 1000; omega
    have xlen : xs.length = many := by show ((List.range many).map _).length = many; rw [List.length_map, List.length_range]
    have hLl : (-(2 : Int) ^ 62 ≤ (L : Int)) ∧ (L : Int) < 2 ^ 62 := by omega
    have hz' : (decide (r3 = 0)) = false := decide_eq_false hz
    have e7' : fAdd (.int (L : Int)) (.int 1) = some (.int ((L : Int) + 1)) := rfl
    refine ⟨sortS xs, u6, runB_rt (sc_nx (sSet_eq mC_eq) (sc_nx (sTgt_eq (mTup_eq (mCons_eq (mCall_eq (mCons_eq rfl (mCons_eq mC_eq mNil_eq)) rfl e1) (mCons_eq (mCall_eq (mCons_eq rfl (mCons_eq (mLst_eq rfl (isiz (by decide))) mNil_eq)) rfl e2) mNil_eq)) (isiz (by simp))) rfl)
      (sc_nx (sSet_eq (mLc_eq (mRange1_eq (mBi_eq (mCons_eq mC_eq (mCons_eq rfl mNil_eq)) hmax) (by decide)) (c1 _ rfl rfl rfl (show (8 : Nat) < 10 from by decide)) hrl))
      (sc_nx (sIf_f (mAndB_t (mTru_eq (mBin_eq rfl mC_eq hlt) rfl) (mTru_eq (mBin_eq (mCall_eq (mCons_eq rfl (mCons_eq mC_eq mNil_eq)) rfl e3) mC_eq (by show some (D.bl (decide (r3 = 0))) = _; rw [hz'])) rfl)) rfl)
      (sc_nx (sSet_eq (mBin_eq mC_eq (mLc_eq (mRange1_eq (mCall_eq (mCons_eq rfl (mCons_eq (mLst_eq rfl (isiz (by decide))) mNil_eq)) rfl e4) hLl) e5 (by rw [List.length_map]; exact isiz (by omega))) ej))
      (sc_nx (sSet_eq (mCall_eq (mCons_eq rfl (mCons_eq (mBin_eq (mBi_eq (mCons_eq rfl mNil_eq) e7) mC_eq e7') mNil_eq)) rfl e6))
      (sc_rt (sRet_eq (mBi_eq (mCons_eq (mLc_eq (mRange1_eq rfl l1) (c2 _ rfl rfl rfl (show (8 : Nat) < 10 from by decide)) (by rw [List.length_map, xlen]; exact isiz (by omega))) mNil_eq) (sorted_ok (by rw [xlen]; omega))))))))))), ?_, ?_, k6.mono (by omega)⟩
    · rw [(sortS_perm xs).length_eq]; exact xlen
    · intro x hx'
      obtain ⟨i, hi, rfl⟩ := List.mem_map.mp ((sortS_perm xs).subset hx')
      have hxl : (cutS stem none (some (at_ : Int)) ++ ltr (r1 + b * ((0 : Int) + (i : Nat))) ++ cutS stem (some (at_ : Int)) none).length = L + 1 := by
        rw [lap, lap, lto, lfr]; show at_ + 1 + (L - at_) = L + 1; omega
      refine ⟨((cutS_az saz _ _).app (ltr_az _)).app (cutS_az saz _ _), by omega, ?_⟩
      rw [hxl]
      omega
end Lw00

namespace Lw00
open PySem Dv L2
/-! ### is_name, is_deed, is_line -/
abbrev abc : Str := ("abcdefghijklmnopqrstuvwxyz" : Str)
theorem abc_mem (c : Nat) : c ∈ abc.cps.toList ↔ 97 ≤ c ∧ c ≤ 122 := by
  rw [show abc.cps.toList = (List.range 26).map (97 + ·) from by decide +kernel]
  simp only [List.mem_map, List.mem_range]
  constructor
  · rintro ⟨a, h, rfl⟩; omega
  · rintro ⟨h1, h2⟩; exact ⟨c - 97, by omega, by omega⟩
def bitB (c : Nat) : Bool := decide (c ∈ abc.cps.toList)
def allB (x : Str) : Bool := (x.cps.toList.map bitB).all id
theorem blsOf_map : ∀ bs : List Bool, blsOf (bs.map .bl) = some bs
  | [] => rfl
  | b :: bs => by
    show (blsOf (bs.map D.bl)).map _ = _
    rw [blsOf_map bs]; rfl
theorem mChain_t {f g : D → D → Option D} {a b c : M} {env : List Sl} {u u1 u2 u3 : U} {x y z w : D} (h1 : a env u = some (x, u1)) (h2 : b env u1 = some (y, u2)) (h3 : f x y = some (.bl true)) (h4 : c env u2 = some (z, u3)) (h5 : g y z = some w) : mChain f g a b c env u = some (w, u3) := by
  unfold mChain; rw [h1]; show bnd (b env u1) _ = _; rw [h2]; dsimp only [bnd]; rw [h3]; dsimp only; rw [h4]; dsimp only [bnd]; rw [h5]; rfl
theorem mChain_f {f g : D → D → Option D} {a b c : M} {env : List Sl} {u u1 u2 : U} {x y : D} (h1 : a env u = some (x, u1)) (h2 : b env u1 = some (y, u2)) (h3 : f x y = some (.bl false)) : mChain f g a b c env u = some (.bl false, u2) := by
  unfold mChain; rw [h1]; show bnd (b env u1) _ = _; rw [h2]; dsimp only [bnd]; rw [h3]
theorem isi_str (x : Str) : isiD (.str x) ["str"] = some true := by show kitAnyB "str" ["str"] = some true; decide +kernel
theorem isi_tup (x : List D) : isiD (.tup x) ["str"] = some false := by show kitAnyB "tuple" ["str"] = some false; decide +kernel
theorem isi_int (x : Int) : isiD (.int x) ["str"] = some false := by show kitAnyB "int" ["str"] = some false; decide +kernel
theorem isi_tt (x : List D) : isiD (.tup x) ["tuple"] = some true := by show kitAnyB "tuple" ["tuple"] = some true; decide +kernel
theorem isi_lt (x : List D) : isiD (.lst x) ["tuple"] = some false := by show kitAnyB "list" ["tuple"] = some false; decide +kernel
theorem isi_ii (x : Int) : isiD (.int x) ["int"] = some true := by show kitAnyB "int" ["int"] = some true; decide +kernel
theorem isi_ib (x : Int) : isiD (.int x) ["bool"] = some false := by show kitAnyB "int" ["bool"] = some false; decide +kernel
theorem len_str {x : Str} (h : x.length ≤ 1000) : bLen [.str x] = some (.int x.length) := if_pos (isiz h)
theorem name_in {x : Str} {u : U} (h1 : 1 ≤ x.length) (h2 : x.length ≤ 8) : F_is_name [.str x] u = some (.bl (allB x), u) := by
  have e1 : cLe (.int 1) (.int x.length) = some (.bl true) := by show some (D.bl (decide _)) = _; rw [decide_eq_true (by omega)]
  have e2 : cLe (.int x.length) (.int 8) = some (.bl true) := by show some (D.bl (decide _)) = _; rw [decide_eq_true (by omega)]
  have c1 : compL (turnL (.one 1) [1] [Sl.pub (.str x), Sl.no] mYes (mBin cIn (mVar 1) (mC (.str abc)))) (x.cps.toList.map fun c => .str ⟨#[c]⟩) u = some ((x.cps.toList.map bitB).map .bl, u) := by
    rw [compL_pure (g := fun d => match d with | .str z => .bl (match z.cps.toList with | [c] => bitB c | _ => false) | d => d) (fun d hd => ?_)]
    · rw [List.map_map, List.map_map]; rfl
    · obtain ⟨c, _, rfl⟩ := List.mem_map.mp hd
      exact turnL_eq rfl (mBin_eq rfl rfl rfl)
  refine runB_rt (sc_nx (sIf_f (mOrB_f (mNotB_eq (k := true) (mTru_eq (mIsi_eq rfl (isi_str x)) rfl)) (mNotB_eq (k := true) (mTru_eq (mChain_t rfl (mBi_eq (mCons_eq rfl mNil_eq) (len_str (by omega))) e1 rfl e2) rfl))) rfl) (sc_rt (sRet_eq (mBi_eq (mCons_eq (mLc_eq (mItems_eq rfl rfl) c1 ?_) mNil_eq) ?_))))
  · rw [List.length_map, List.length_map, ← len_cps]; exact isiz (by omega)
  · show (blsOf _).map _ = _
    rw [blsOf_map]; rfl
theorem name_out {x : Str} {u : U} (h2 : 8 < x.length) (h3 : x.length ≤ 1000) : F_is_name [.str x] u = some (.bl false, u) := by
  have e1 : cLe (.int 1) (.int x.length) = some (.bl true) := by show some (D.bl (decide _)) = _; rw [decide_eq_true (by omega)]
  have e2 : cLe (.int x.length) (.int 8) = some (.bl false) := by show some (D.bl (decide _)) = _; rw [decide_eq_false (by omega)]
  exact runB_rt (sc_rt (sIf_t (mOrB_f (mNotB_eq (k := true) (mTru_eq (mIsi_eq rfl (isi_str x)) rfl)) (mNotB_eq (k := false) (mTru_eq (mChain_t rfl (mBi_eq (mCons_eq rfl mNil_eq) (len_str h3)) e1 rfl e2) rfl))) (sc_rt (sRet_eq rfl))))
theorem name_tup {x : List D} {u : U} : F_is_name [.tup x] u = some (.bl false, u) :=
  runB_rt (sc_rt (sIf_t (mOrB_t (mNotB_eq (k := false) (mTru_eq (mIsi_eq rfl (isi_tup x)) rfl))) (sc_rt (sRet_eq rfl))))
theorem name_int {x : Int} {u : U} : F_is_name [.int x] u = some (.bl false, u) :=
  runB_rt (sc_rt (sIf_t (mOrB_t (mNotB_eq (k := false) (mTru_eq (mIsi_eq rfl (isi_int x)) rfl))) (sc_rt (sRet_eq rfl))))
theorem allB_az {x : Str} (h : AZ x) : allB x = true := by
  unfold allB
  rw [List.all_eq_true]
  intro b hb
  obtain ⟨c, hc, rfl⟩ := List.mem_map.mp hb
  exact decide_eq_true ((abc_mem c).mpr (h c hc))
theorem allB_no {x : Str} {c : Nat} (hc : c ∈ x.cps.toList) (h : ¬ (97 ≤ c ∧ c ≤ 122)) : allB x = false := by
  unfold allB
  rw [← Bool.not_eq_true, List.all_eq_true]
  intro q
  have := q _ (List.mem_map.mpr ⟨c, hc, rfl⟩)
  exact h ((abc_mem c).mp (of_decide_eq_true this))
theorem name_t {x : Str} {u : U} (h : AZ x) (h1 : 1 ≤ x.length) (h2 : x.length ≤ 8) : F_is_name [.str x] u = some (.bl true, u) := by
  rw [name_in h1 h2, allB_az h]
theorem pair_t {a b : D} {u : U} : F_is_pair [.tup [a, b]] u = some (.bl true, u) :=
  runB_rt (sc_rt (sRet_eq (mAnd_t (mIsi_eq rfl (isi_tt _)) rfl (mBin_eq (mBi_eq (mCons_eq rfl mNil_eq) rfl) rfl rfl))))
theorem pair_3 {a b c : D} {u : U} : F_is_pair [.tup [a, b, c]] u = some (.bl false, u) :=
  runB_rt (sc_rt (sRet_eq (mAnd_t (mIsi_eq rfl (isi_tt _)) rfl (mBin_eq (mBi_eq (mCons_eq rfl mNil_eq) rfl) rfl rfl))))
theorem pair_l {a : List D} {u : U} : F_is_pair [.lst a] u = some (.bl false, u) :=
  runB_rt (sc_rt (sRet_eq (mAnd_f (mIsi_eq rfl (isi_lt _)) rfl)))
theorem num_t {i : Int} {u : U} : F_is_number [.int i] u = some (.bl true, u) :=
  runB_rt (sc_rt (sRet_eq (mAnd_t (mIsi_eq rfl (isi_ii _)) rfl (mNot_eq (k := false) (mIsi_eq rfl (isi_ib _)) rfl))))
theorem c1 {x : D} {env : List Sl} {u u1 : U} {a : M} (h : a env u = some (x, u1)) : mCons a mNil env u = some ([x], u1) := mCons_eq h mNil_eq
theorem deed_y {w x : D} {u u' : U} {k : Bool} (hw : cIn w (.tup [.str ("write" : Str), .str ("flush" : Str)]) = some (.bl true)) (hx : F_is_name [x] u = some (.bl k, u')) : F_is_deed [.tup [w, x]] u = some (.bl k, u') :=
  runB_rt (sc_rt (sRet_eq (mAnd_t (mCall_eq (c1 rfl) rfl pair_t) rfl (mAnd_t (mBin_eq (mBin_eq rfl rfl rfl) (mTup_eq rfl (isiz (by decide))) hw) rfl (mCall_eq (c1 (mBin_eq rfl rfl rfl)) rfl hx)))))
theorem deed_n {w x : D} {u : U} (hw : cIn w (.tup [.str ("write" : Str), .str ("flush" : Str)]) = some (.bl false)) : F_is_deed [.tup [w, x]] u = some (.bl false, u) :=
  runB_rt (sc_rt (sRet_eq (mAnd_t (mCall_eq (c1 rfl) rfl pair_t) rfl (mAnd_f (mBin_eq (mBin_eq rfl rfl rfl) (mTup_eq rfl (isiz (by decide))) hw) rfl))))
theorem deed_3 {a b c : D} {u : U} : F_is_deed [.tup [a, b, c]] u = some (.bl false, u) :=
  runB_rt (sc_rt (sRet_eq (mAnd_f (mCall_eq (c1 rfl) rfl pair_3) rfl)))
theorem deed_l {a : List D} {u : U} : F_is_deed [.lst a] u = some (.bl false, u) :=
  runB_rt (sc_rt (sRet_eq (mAnd_f (mCall_eq (c1 rfl) rfl pair_l) rfl)))
theorem line_l {a : List D} {u : U} : F_is_line [.lst a] u = some (.bl false, u) :=
  runB_rt (sc_rt (sRet_eq (mAnd_f (mCall_eq (c1 rfl) rfl pair_l) rfl)))
theorem line_n {x y : D} {u : U} (hx : F_is_name [x] u = some (.bl false, u)) : F_is_line [.tup [x, y]] u = some (.bl false, u) :=
  runB_rt (sc_rt (sRet_eq (mAnd_t (mCall_eq (c1 rfl) rfl pair_t) rfl (mAnd_f (mCall_eq (c1 (mBin_eq rfl rfl rfl)) rfl hx) rfl))))
theorem line_i {x : D} {i : Int} {u : U} (hx : F_is_name [x] u = some (.bl true, u)) : F_is_line [.tup [x, .int i]] u = some (.bl (decide (1 ≤ i)), u) :=
  runB_rt (sc_rt (sRet_eq (mAnd_t (mCall_eq (c1 rfl) rfl pair_t) rfl (mAnd_t (mCall_eq (c1 (mBin_eq rfl rfl rfl)) rfl hx) rfl (mAnd_t (mCall_eq (c1 (mBin_eq rfl rfl rfl)) rfl num_t) rfl (mBin_eq (mBin_eq rfl rfl rfl) rfl rfl))))))
theorem az_ok {x : Str} (h : AZ x) : PyData.strOk x = true := by
  unfold PyData.strOk
  rw [← Array.all_toList, List.all_eq_true]
  intro c hc
  have := h c hc
  exact decide_eq_true (by omega)
theorem words_no {x : Str} (h : AZ x) (hl : x.length ≠ 5) : cIn (.str x) (.tup [.str ("write" : Str), .str ("flush" : Str)]) = some (.bl false) := by
  have s1 : SeqAt.shaped (.str x) = true := by
    unfold SeqAt.shaped
    rw [show (PyData.str x).canLay0 = true by unfold PyData.canLay0; exact az_ok h]
    rfl
  have hne : ∀ w : Str, w.length = 5 → (w == x) = false := fun w hw => by
    rw [beq_eq_false_iff_ne]
    rintro rfl
    exact hl hw
  have e1 := hne ("write" : Str) (by decide +kernel)
  have e2 := hne ("flush" : Str) (by decide +kernel)
  show (inD _ _).map D.bl = _
  have : inD (.str x) (.tup [.str ("write" : Str), .str ("flush" : Str)]) = some false := by
    show (if SeqAt.shaped (.str x) = true ∧ SeqAt.shaped (.tuple [.str ("write" : Str), .str ("flush" : Str)]) = true then some (([.str ("write" : Str), .str ("flush" : Str)] : List PyData).any fun z => PyData.eqv z (.str x)) else none) = _
    rw [if_pos ⟨s1, by decide +kernel⟩]
    show some (((("write" : Str) == x) || ((("flush" : Str) == x) || false))) = _
    rw [e1, e2]; rfl
  rw [this]; rfl
theorem word_w : cIn (.str ("write" : Str)) (.tup [.str ("write" : Str), .str ("flush" : Str)]) = some (.bl true) := by
  have : inD (.str ("write" : Str)) (.tup [.str ("write" : Str), .str ("flush" : Str)]) = some true := by decide +kernel
  show (inD _ _).map D.bl = _
  rw [this]; rfl
theorem word_f : cIn (.str ("flush" : Str)) (.tup [.str ("write" : Str), .str ("flush" : Str)]) = some (.bl true) := by
  have : inD (.str ("flush" : Str)) (.tup [.str ("write" : Str), .str ("flush" : Str)]) = some true := by decide +kernel
  show (inD _ _).map D.bl = _
  rw [this]; rfl
theorem word_ws : cIn (.str ("writes" : Str)) (.tup [.str ("write" : Str), .str ("flush" : Str)]) = some (.bl false) := by
  have : inD (.str ("writes" : Str)) (.tup [.str ("write" : Str), .str ("flush" : Str)]) = some false := by decide +kernel
  show (inD _ _).map D.bl = _
  rw [this]; rfl
theorem word_fs : cIn (.str ("flushs" : Str)) (.tup [.str ("write" : Str), .str ("flush" : Str)]) = some (.bl false) := by
  have : inD (.str ("flushs" : Str)) (.tup [.str ("write" : Str), .str ("flush" : Str)]) = some false := by decide +kernel
  show (inD _ _).map D.bl = _
  rw [this]; rfl
end Lw00

namespace Lw00
open PySem Dv L2
theorem forL_inv {t : Tgt} {f : MS} {I : Int → List Sl → U → Prop} {N : Int} : ∀ {ds : List D} {i : Int} {env : List Sl} {u : U}, (∀ d ∈ ds, ∀ i env u, i ≤ N → I i env u → ∃ env1 env2 u2, bindT t d env = some env1 ∧ f env1 u = some (.nx env2, u2) ∧ I (i + 1) env2 u2) → I i env u → i + ds.length ≤ N + 1 →
    ∃ env' u', forL t f ds env u = some (.nx env', u') ∧ I (i + ds.length) env' u'
  | [], i, env, u, _, hi, _ => ⟨env, u, rfl, by simpa using hi⟩
  | d :: ds, i, env, u, h, hi, hN => by
    rw [List.length_cons] at hN
    obtain ⟨env1, env2, u2, e1, e2, hi2⟩ := h d List.mem_cons_self i env u (by omega) hi
    obtain ⟨env', u', e3, hi3⟩ := forL_inv (i := i + 1) (fun d hd => h d (List.mem_cons_of_mem _ hd)) hi2 (by omega)
    refine ⟨env', u', ?_, by rw [List.length_cons, show i + ((ds.length + 1 : Nat) : Int) = i + 1 + ds.length by omega]; exact hi3⟩
    unfold forL
    rw [e1]
    show bnd (f env1 u) _ = _
    rw [e2]
    exact e3
theorem same_ok {u : U} : FR__law_same 6 [.lst [.bl true, .bl true, .bl true, .bl false, .bl false, .bl false, .bl false, .bl false, .bl false, .bl false, .bl false, .bl false, .bl false, .bl true, .bl false],
    .lst [.bl true, .bl true, .bl true, .bl false, .bl false, .bl false, .bl false, .bl false, .bl false, .bl false, .bl false, .bl false, .bl false, .bl true, .bl false]] u = some (.bl true, u) := by
  rfl
end Lw00

namespace Lw00
open PySem Dv L2
theorem lap (x y : Str) : (x ++ y).length = x.length + y.length := by rw [len_cps, app_cps, List.length_append, ← len_cps, ← len_cps]
theorem bent_no {own sign : Str} {at_ : Nat} {c : Nat} {u : U} (h1 : 1 ≤ own.length) (h8 : own.length ≤ 8) (ha : at_ ≤ own.length) (hs : sign.cps.toList = [c]) (hc : ¬ (97 ≤ c ∧ c ≤ 122)) :
    F_is_name [.str (cutS own none (some (at_ : Int)) ++ sign ++ cutS own (some (at_ : Int)) none)] u = some (.bl false, u) := by
  have lto : (cutS own none (some (at_ : Int))).length = at_ := by rw [len_cps, cut_to ha, List.length_take, ← len_cps]; omega
  have lfr : (cutS own (some (at_ : Int)) none).length = own.length - at_ := by rw [len_cps, cut_from ha, List.length_drop, ← len_cps]
  have ls : sign.length = 1 := by rw [len_cps, hs]; rfl
  have ll : (cutS own none (some (at_ : Int)) ++ sign ++ cutS own (some (at_ : Int)) none).length = own.length + 1 := by rw [lap, lap, lto, lfr, ls]; omega
  by_cases q : own.length = 8
  · exact name_out (by omega) (by omega)
  · rw [name_in (by omega) (by omega), allB_no (c := c) ?_ hc]
    rw [app_cps, app_cps, hs]
    simp
def Iv (i : Int) (env : List Sl) (u : U) : Prop := OkU i u ∧ ∃ a b c d e f g h, env = [Sl.pub .urn, a, b, c, d, e, f, g, h]
theorem fAdd_s {a b : Str} (h : a.length + b.length ≤ sizeLine) : fAdd (.str a) (.str b) = some (.str (a ++ b)) := by simp only [fAdd]; rw [if_pos h]
theorem fPow_s {i j : Int} (h : 0 ≤ j ∧ j ≤ 1000000 ∧ i.natAbs < 2 ^ 64) : fPow (.int i) (.int j) = some (.int (i ^ j.toNat)) := by simp only [fPow]; rw [if_pos h]
theorem add_write : fAdd (.str ("write" : Str)) (.str ("s" : Str)) = some (.str ("writes" : Str)) := by
  have e : ("write" : Str) ++ ("s" : Str) = ("writes" : Str) := by decide +kernel
  have l : ("write" : Str).length + ("s" : Str).length ≤ sizeLine := by decide +kernel
  rw [← e]
  exact fAdd_s l
theorem add_flush : fAdd (.str ("flush" : Str)) (.str ("s" : Str)) = some (.str ("flushs" : Str)) := by
  have e : ("flush" : Str) ++ ("s" : Str) = ("flushs" : Str) := by decide +kernel
  have l : ("flush" : Str).length + ("s" : Str).length ≤ sizeLine := by decide +kernel
  rw [← e]
  exact fAdd_s l
theorem right_ok {u : U} (h : OkU 0 u) : ∃ u', F__law_right [.urn] u = some (.bl true, u') := by
  have key : ∀ f : MS, (∀ (d : D) (i : Int) (env : List Sl) (u : U), i ≤ 10 → Iv (i * 30) env u → ∃ env1 env2 u2, bindT (.one 1) d env = some env1 ∧ f env1 u = some (.nx env2, u2) ∧ Iv ((i + 1) * 30) env2 u2) →
      ∃ u', runB (sCons (sFor (.one 1) (mRange1 (mC (.int 10))) f) (sCons (sRet (mC (.bl true))) sNil)) 9 [.urn] u = some (.bl true, u') := by
    intro f hf
    obtain ⟨env', u', e, hi⟩ := forL_inv (t := .one 1) (f := f) (I := fun i env u => Iv (i * 30) env u) (N := 10) (ds := rangeD 0 10) (i := 0) (env := [Sl.pub .urn, .no, .no, .no, .no, .no, .no, .no, .no]) (u := u) (fun d _ i env u hi h => hf d i env u hi h)
      ⟨by simpa using h, _, _, _, _, _, _, _, _, rfl⟩ (by decide)
    exact ⟨u', runB_rt (sc_nx (sFor_eq (mRange1_eq rfl (by decide)) e) (sc_rt (sRet_eq rfl)))⟩
  refine key _ fun d i env u hi ⟨hu, a0, b0, c0, d0, e0, f0, g0, h0, he⟩ => ?_
  subst he
  obtain ⟨xs, u1, t1, xl, xp, k1⟩ := tags_ok (many := 3) hu (by omega) (by decide) (by decide)
  obtain ⟨o, u2, t2, om, k2⟩ := of_ok (ds := xs.map .str) k1 (by omega) (by rw [List.length_map]; omega) (by rw [List.length_map]; omega)
  obtain ⟨own, hown, rfl⟩ := List.mem_map.mp om
  obtain ⟨az, l1, l2⟩ := xp own hown
  have l8 : own.length ≤ 8 := by omega
  have l5 : own.length ≠ 5 := by omega
  obtain ⟨r3, u3, t3, r30, r31, k3⟩ := take_ok (low := 9) k2 (by omega) (by decide) (by decide)
  obtain ⟨mm, u4, t4, mem4, k4⟩ := of_ok (ds := [.int 1, .int 2, .int 60, .int 61, .int (10 ^ 12 + r3)]) k3 (by omega) (by simp) (by simp)
  obtain ⟨m, rfl, hm⟩ : ∃ m : Int, mm = .int m ∧ 1 ≤ m := by
    simp only [List.mem_cons, List.not_mem_nil, or_false] at mem4
    rcases mem4 with rfl | rfl | rfl | rfl | rfl
    · exact ⟨_, rfl, by decide⟩
    · exact ⟨_, rfl, by decide⟩
    · exact ⟨_, rfl, by decide⟩
    · exact ⟨_, rfl, by decide⟩
    · exact ⟨_, rfl, by omega⟩
  obtain ⟨wd, u5, t5, mem5, k5⟩ := of_ok (ds := [.str ("write" : Str), .str ("flush" : Str)]) k4 (by omega) (by decide) (by decide)
  obtain ⟨w, rfl, hw1, hw2, hw3, hw4⟩ : ∃ w : Str, wd = .str w ∧ cIn (.str w) (.tup [.str ("write" : Str), .str ("flush" : Str)]) = some (.bl true) ∧ (∃ w2 : Str, fAdd (.str w) (.str ("s" : Str)) = some (.str w2) ∧ cIn (.str w2) (.tup [.str ("write" : Str), .str ("flush" : Str)]) = some (.bl false)) ∧ AZ w ∧ w.length = 5 := by
    simp only [List.mem_cons, List.not_mem_nil, or_false] at mem5
    rcases mem5 with rfl | rfl
    · exact ⟨_, rfl, word_w, ⟨("writes" : Str), add_write, word_ws⟩, by intro c hc; rw [show ("write" : Str).cps.toList = [119, 114, 105, 116, 101] from by decide +kernel] at hc; simp at hc; omega, by decide +kernel⟩
    · exact ⟨_, rfl, word_f, ⟨("flushs" : Str), add_flush, word_fs⟩, by intro c hc; rw [show ("flush" : Str).cps.toList = [102, 108, 117, 115, 104] from by decide +kernel] at hc; simp at hc; omega, by decide +kernel⟩
  obtain ⟨w2, hw2a, hw2b⟩ := hw2
  obtain ⟨sg, u6, t6, mem6, k6⟩ := of_ok (ds := [.str ("A" : Str), .str (" " : Str), .str ("1" : Str), .str ("-" : Str), .str ("!" : Str), .str ("_" : Str), .str ("\n" : Str)]) k5 (by omega) (by decide) (by decide)
  obtain ⟨sign, c, rfl, hs, hc⟩ : ∃ (sign : Str) (c : Nat), sg = .str sign ∧ sign.cps.toList = [c] ∧ ¬ (97 ≤ c ∧ c ≤ 122) := by
    simp only [List.mem_cons, List.not_mem_nil, or_false] at mem6
    rcases mem6 with rfl | rfl | rfl | rfl | rfl | rfl | rfl
    · exact ⟨_, 65, rfl, by decide +kernel, by decide⟩
    · exact ⟨_, 32, rfl, by decide +kernel, by decide⟩
    · exact ⟨_, 49, rfl, by decide +kernel, by decide⟩
    · exact ⟨_, 45, rfl, by decide +kernel, by decide⟩
    · exact ⟨_, 33, rfl, by decide +kernel, by decide⟩
    · exact ⟨_, 95, rfl, by decide +kernel, by decide⟩
    · exact ⟨_, 10, rfl, by decide +kernel, by decide⟩
  obtain ⟨r7, u7, t7, r70, r71, k7⟩ := take_ok (low := (own.length : Int) + 1) k6 (by omega) (by omega) (by omega)
  obtain ⟨at_, rfl⟩ : ∃ a : Nat, r7 = a := ⟨r7.toNat, by omega⟩
  have ha : at_ ≤ own.length := by omega
  have ls : sign.length = 1 := by rw [len_cps, hs]; rfl
  have lto : (cutS own none (some (at_ : Int))).length = at_ := by rw [len_cps, cut_to ha, List.length_take, ← len_cps]; omega
  have lfr : (cutS own (some (at_ : Int)) none).length = own.length - at_ := by rw [len_cps, cut_from ha, List.length_drop, ← len_cps]
  have hss : ∀ l h', slD (.str own) l h' = some (.str (cutS own l h')) := fun l h' => if_pos (isiz (by omega))
  have hadd : ∀ x y : Str, x.length + y.length ≤ 1000 → fAdd (.str x) (.str y) = some (.str (x ++ y)) := fun x y hxy => if_pos (isiz hxy)
  obtain ⟨bent, hbent⟩ : ∃ z, z = cutS own none (some (at_ : Int)) ++ sign ++ cutS own (some (at_ : Int)) none := ⟨_, rfl⟩
  have nb : ∀ u, F_is_name [.str bent] u = some (.bl false, u) := fun u => by rw [hbent]; exact bent_no l1 l8 ha hs hc
  have nt : ∀ u, F_is_name [.str own] u = some (.bl true, u) := fun u => name_t az l1 l8
  have nw : ∀ u, F_is_name [.str w] u = some (.bl true, u) := fun u => name_t hw3 (by omega) (by omega)
  have p12 : fPow (.int 10) (.int 12) = some (.int (10 ^ 12)) := fPow_s (by decide)
  have hm1 : decide (1 ≤ m) = true := decide_eq_true hm
  have hm2 : decide (1 ≤ 0 - m) = false := decide_eq_false (by omega)
  have q1 : ∀ u, F_is_line [.tup [.str own, .int m]] u = some (.bl true, u) := fun u => by rw [line_i (nt u), hm1]
  have q2 : ∀ u, F_is_line [.tup [.str own, .int (0 - m)]] u = some (.bl false, u) := fun u => by rw [line_i (nt u), hm2]
  have q3 : ∀ u, F_is_line [.tup [.str w, .int m]] u = some (.bl true, u) := fun u => by rw [line_i (nw u), hm1]
  refine ⟨_, _, u7, rfl, sc_nx (sPar_eq (mCall_eq (mCons_eq rfl (mCons_eq (mCall_eq (mCons_eq rfl (mCons_eq rfl rfl)) rfl t1) rfl)) rfl t2)
      (mCall_eq (mCons_eq rfl (mCons_eq (mLst_eq (mCons_eq rfl (mCons_eq rfl (mCons_eq rfl (mCons_eq rfl (mCons_eq (mBin_eq (mBin_eq rfl rfl p12) (mCall_eq (mCons_eq rfl (mCons_eq rfl rfl)) rfl t3) rfl) rfl))))) (isiz (by simp))) rfl)) rfl t4))
    (sc_nx (sSet_eq (mCall_eq (mCons_eq rfl (mCons_eq (mLst_eq rfl (isiz (by decide))) rfl)) rfl t5))
    (sc_nx (sSet_eq (mLst_eq (mCons_eq (mCall_eq (c1 rfl) rfl (nt _)) (mCons_eq (mCall_eq (c1 (mTup_eq rfl (isiz (by simp)))) rfl (deed_y hw1 (nt _))) (mCons_eq (mCall_eq (c1 (mTup_eq rfl (isiz (by simp)))) rfl (q1 _)) (c1 (mCall_eq (c1 (mLst_eq rfl (isiz (by simp)))) rfl deed_l))))) (isiz (by simp))))
    (sc_nx (sSet_eq (mBin_eq rfl (mLst_eq (c1 (mCall_eq (c1 (mLst_eq rfl (isiz (by simp)))) rfl line_l)) (isiz (by simp))) rfl))
    (sc_nx (sSet_eq (mCall_eq (mCons_eq rfl (mCons_eq (mLst_eq rfl (isiz (by decide))) rfl)) rfl t6))
    (sc_nx (sSet_eq (mCall_eq (mCons_eq rfl (mCons_eq (mBin_eq (mBi_eq (mCons_eq rfl rfl) (len_str (by omega))) rfl rfl) rfl)) rfl t7))
    (sc_nx (sSet_eq (mBin_eq (mBin_eq (mSl_eq rfl rfl (moAt_eq rfl) (hss _ _)) rfl (hadd _ _ (by rw [lto, ls]; omega))) (mSl_eq rfl (moAt_eq rfl) rfl (hss _ _)) (by rw [hadd _ _ (by rw [lap, lto, ls, lfr]; omega), ← hbent])))
    (sc_nx (sSet_eq (mBin_eq rfl (mLst_eq (mCons_eq (mCall_eq (c1 rfl) rfl (nb _)) (mCons_eq (mCall_eq (c1 (mTup_eq rfl (isiz (by simp)))) rfl (deed_y hw1 (nb _))) (c1 (mCall_eq (c1 (mTup_eq rfl (isiz (by simp)))) rfl (line_n (nb _)))))) (isiz (by simp))) rfl))
    (sc_nx (sSet_eq (mBin_eq rfl (mLst_eq (c1 (mCall_eq (c1 (mTup_eq (mCons_eq rfl (c1 (mBin_eq rfl rfl rfl))) (isiz (by simp)))) rfl (q2 _))) (isiz (by simp))) rfl))
    (sc_nx (sSet_eq (mBin_eq rfl (mLst_eq (mCons_eq (mCall_eq (c1 (mTup_eq (mCons_eq (mBin_eq rfl rfl hw2a) rfl) (isiz (by simp)))) rfl (deed_n hw2b)) (mCons_eq (mCall_eq (c1 (mTup_eq rfl (isiz (by simp)))) rfl (deed_n (words_no az l5))) (mCons_eq (mCall_eq (c1 (mTup_eq rfl (isiz (by simp)))) rfl (line_n name_int)) (c1 (mCall_eq (c1 (mTup_eq rfl (isiz (by simp)))) rfl name_tup))))) (isiz (by simp))) rfl))
    (sc_nx (sSet_eq (mBin_eq rfl (mLst_eq (mCons_eq (mCall_eq (c1 (mTup_eq rfl (isiz (by simp)))) rfl (q3 _)) (c1 (mCall_eq (c1 (mTup_eq rfl (isiz (by simp)))) rfl deed_3))) (isiz (by simp))) rfl))
    (sc_nx (sIf_f (mNotB_eq (k := true) (mTru_eq (mCall_eq (mCons_eq rfl rfl) rfl same_ok) rfl)) rfl) rfl))))))))))), ?_⟩
  exact ⟨k7.mono (by omega), _, _, _, _, _, _, _, _, rfl⟩
end Lw00

namespace Lw00
open PySem PySem.Spec PyProof.Rows L2 Dv
/-! ### _law_box -/
theorem box_ok {cs : List Int} {k : Nat} {u : U} (hk : k < cs.length) (h3 : cs.length ≤ 8) : ∃ a b : Int, F__law_box [.lst (cs.map .int), .int k] u = some (.lst [.int a, .int b, .int 0], u) ∧ 0 ≤ a ∧ 0 ≤ b ∧ b < 2 ^ 62 := by
  have hix : ixD (.lst (cs.map .int)) (.int k) = some (.int cs[k]) := by
    show atI (cs.map D.int) (k : Int) = _
    refine atI_nat ?_
    rw [List.getElem?_map, List.getElem?_eq_getElem hk]; rfl
  have hlen : bLen [.lst (cs.map .int)] = some (.int cs.length) := by
    show some (D.int ((cs.map D.int).length : Int)) = _
    rw [List.length_map]
  have hlt : cLt (.int k) (.int cs.length) = some (.bl true) := by
    show some (D.bl (decide _)) = _
    rw [decide_eq_true (by omega)]
  obtain ⟨c, hc⟩ : ∃ c, c = cs[k] := ⟨_, rfl⟩
  rw [← hc] at hix
  obtain ⟨m, hm⟩ : ∃ m, m = if c < 0 then -c else c := ⟨_, rfl⟩
  have hm0 : 0 ≤ m := by rw [hm]; split <;> omega
  have habs : bAbs [.int c] = some (.int m) := by rw [hm]; rfl
  obtain ⟨g, hg⟩ : ∃ g : Bool, g = decide ((10 : Int) ^ 18 ≤ m) := ⟨_, rfl⟩
  have hge : cGe (.int m) (.int ((10 : Int) ^ (18 : Int).toNat)) = some (.bl g) := by rw [hg]; rfl
  have hmul : fMul (.int m) (.int (if g then 1 else 0)) = some (.int (m * (if g then 1 else 0))) := fMul_r (by cases g <;> decide)
  have hmod := fMod_p (i := c) (j := 2305843009213693951) (by decide)
  have hmk := fMul_r (i := 39373) (j := (k : Int)) (by omega)
  have h1 := Int.emod_nonneg c (show (2305843009213693951 : Int) ≠ 0 by decide)
  have h2 := Int.emod_lt_of_pos c (show (0 : Int) < 2305843009213693951 by decide)
  refine ⟨m * (if g then 1 else 0), c % 2305843009213693951 + 39373 * k + 824100, runB_rt (sc_nx (sSet_eq (mIte_t (mTru_eq (mBin_eq rfl (mBi_eq (c1 rfl) hlen) hlt) rfl) (mBin_eq rfl rfl hix))) (sc_rt (sRet_eq (mLst_eq (mCons_eq (mBin_eq (mBi_eq (c1 rfl) habs) (mBi_eq (c1 (mBin_eq (mBi_eq (c1 rfl) habs) (mBin_eq rfl rfl (fPow_s (by decide))) hge)) rfl) hmul) (mCons_eq (mBin_eq (mBin_eq (mBin_eq (mBi_eq (c1 rfl) rfl) rfl hmod) (mBin_eq rfl rfl hmk) rfl) rfl rfl) (c1 rfl))) (isiz (by simp)))))), ?_, by omega, by omega⟩
  cases g <;> simp <;> omega
/-! ### _law_cells -/
abbrev s__law_cells : Stmt := topS 21
theorem sc__law_cells : FnScope [("_law_script" : Str), ("_law_top" : Str), ("_law_cells_here" : Str), ("_law_k" : Str), ("_law_cell" : Str), ("_law_at_so" : Str)] [("_law_script" : Str), ("_law_top" : Str)] (defScope s__law_cells) := ⟨rfl, rfl, rfl, by decide +kernel, rfl, by decide +kernel, by decide +kernel⟩
def spCells (K : PySem.W.Frag) : Sp := fun vs H Q _ => ∃ (a : Addr) (ns : List Int) (top : Nat), vs = [.ref a, .int top] ∧ SqL K H a (ns.map V.int) ∧ 1 ≤ top ∧ top ≤ 8 ∧ ns.length ≤ 63 ∧
  ∀ H' p (cs : List Int), Same H H' → H' p = some (.lst (cs.map V.int)) → 1 ≤ cs.length → cs.length ≤ 8 → Q (.ref p) H'
theorem cut_ints (ns : List Int) (lo hi : Option Int) : cutV (ns.map V.int) lo hi = ((ns.drop (HT.sIx ns.length 0 lo)).take (HT.sIx ns.length ns.length hi - HT.sIx ns.length 0 lo)).map V.int := by
  unfold cutV
  rw [List.length_map, List.map_take, List.map_drop]
theorem ok__law_cells {P : Program} {w : World} {K : PySem.W.Frag} {mg : Str → Option Value} {base : Heap} {f : Addr} {fd : FuncData} (F : Fun K ("_law_cells" : Str) ("_law_cells" : Str) s__law_cells f fd) (nl : mg ("list" : Str) = none) (ne : mg ("enumerate" : Str) = none) (ni : mg ("int" : Str) = none) :
    FnOk P w K mg base CX0 1 f fd [("_law_script" : Str), ("_law_top" : Str)] (spCells K) := by
  have nd := sc__law_cells.nd
  refine F.ok sc__law_cells (fun vs H Q E h => ?_) (fun cdv A outer s H vs Q E hr h => ?_)
  · obtain ⟨a, ns, top, rfl, _⟩ := h; rfl
  · obtain ⟨a, ns, top, rfl, hS, ht1, ht8, hl, q⟩ := h
    refine ⟨_, pss_cons (ps_set (i := 2) nd rfl (Or.inl rfl) (pe_orT (pe_callTy call_list_of (by rfl) nl (by decide +kernel) (pa_cons (pe_slice sl_list (pv 0) po_none (po_some (pv 1))) pa_nil)) (pe_one (pe_lst (pa_cons pe_int pa_nil)))))
      (pss_cons (ps_for PassesOwn.never rfl (pi_enum (by rfl) ne (pa_cons (pe_slice sl_list (pv 0) (po_some (pv 1)) (po_some pe_int)) pa_nil)) (pg_tup rfl (pgs_cons (pg_name (i := 3) nd rfl (Or.inl rfl)) (pgs_cons (pg_name (i := 4) nd rfl (Or.inl rfl)) pgs_nil)))
        (pss_cons (ps_set (i := 5) nd rfl (Or.inl rfl) (pe_op op_mod (pe_callTy call_int1 (by rfl) ni (by decide +kernel) (pa_cons (pv 3) pa_nil)) (pv 1)))
        (pss_one (ps_asg (pe_op op_add (pe_ix ix_list (pv 2) (pv 5) (fun _ _ => rfl)) (pe_op op_mul (pv 4) (pe_op op_add (pv 3) pe_int))) (pg_sub (pv 2) (pv 5) set_list)))))
      (pss_one (ps_ret (pv 2)))), ?_⟩
    -- what follows the first statement, for the list at p
    have rest : ∀ (H1 : Hp) (p : Addr) (cs : List Int), Same H H1 → H p = none → H1 p = some (.lst (cs.map V.int)) → 1 ≤ cs.length → cs.length ≤ 8 → (top < ns.length → cs.length = top) →
        tSeq (tFor (iEnum K (tCons (tSl (rSlL K) (tVar 0) (tPart (tVar 1)) (tPart (tC (.int 63)))) tNil)) (gTup K 2 (gCons (gName 3) (gCons (gName 4) gNil)))
          (tSeq (tAsg (tOp (rI (fun _ j => 0 < j) fun i j => .int (i % j)) (tCB (fun xs H Q => (∃ i, xs = [V.int i] ∧ Q (.int i) H) ∨ ∃ k, xs = [V.bl k] ∧ Q (.int (if k then 1 else 0)) H) (tCons (tVar 3) tNil)) (tVar 1)) (gName 5))
            (tAsg (tOp (rI0 fun i j => .int (i + j)) (tOp (rIxL K) (tVar 2) (tVar 5)) (tOp (rI CMul fun i j => .int (i * j)) (tVar 4) (tOp (rI0 fun i j => .int (i + j)) (tVar 3) (tC (.int 2))))) (gSub (tVar 2) (tVar 5) rSetL)))) (tRet (tVar 2))
          { nx := fun _ H' => Q .non H', rt := Q } [some (.ref a), some (.int top), some (.ref p), none, none, none] H1 := by
      intro H1 p cs s1 np ep c1 c8 ct
      refine ⟨_, rfl, _, rfl, (top : Int), rfl, 63, rfl, a, ns.map V.int, rfl, s1.seq hS, fun r nr => ?_⟩
      rw [cut_ints]
      obtain ⟨zs, hzs⟩ : ∃ zs, zs = (ns.drop (HT.sIx ns.length 0 (some (top : Int)))).take (HT.sIx ns.length ns.length (some 63) - HT.sIx ns.length 0 (some (top : Int))) := ⟨_, rfl⟩
      rw [← hzs]
      have hne : 0 < zs.length → top < ns.length := fun h => by
        rw [hzs, List.length_take, List.length_drop, HT.sIx_nat] at h
        omega
      have nrp : r ≠ p := fun e => by subst e; rw [ep] at nr; cases nr
      refine ⟨r, zs.map V.int, rfl, .of upd_same, ?_⟩
      refine ⟨fun i m σ H2 => ∃ (cs2 : List Int) (y3 y4 y5 : Option V), σ = [some (.ref a), some (.int top), some (.ref p), y3, y4, y5] ∧ i + m = zs.length ∧ Same H H2 ∧ H2 p = some (.lst (cs2.map V.int)) ∧ cs2.length = cs.length ∧ H2 r = some (.lst (zs.map V.int)),
        ⟨zs.length, cs, none, none, none, rfl, by omega, fun b o e => same_new nr b o (s1 b o e), by rw [upd_ne nrp.symm]; exact ep, rfl, upd_same⟩, fun i m σ H2 hW => ?_⟩
      obtain ⟨cs2, y3, y4, y5, rfl, em, s2, ep2, el, er⟩ := hW
      by_cases hi : i < zs.length
      · have g1 : (zs.map V.int)[i]? = some (.int zs[i]) := by rw [List.getElem?_map, List.getElem?_eq_getElem hi]; rfl
        refine .inr ⟨⟨_, _, .of er, g1⟩, fun σ' H' => ∃ (cs2 : List Int) (y3 y4 y5 : Option V), σ' = [some (.ref a), some (.int top), some (.ref p), y3, y4, y5] ∧ Same H H' ∧ H' p = some (.lst (cs2.map V.int)) ∧ cs2.length = cs.length ∧ H' r = some (.lst (zs.map V.int)),
          fun σ' H' ⟨z1, z2, z3, z4, e1, e2, e3, e4, e5⟩ => ⟨m - 1, by omega, z1, z2, z3, z4, e1, by omega, e2, e3, e4, e5⟩, fun x H3 hy => ?_⟩
        obtain ⟨T, x1, rfl, nT, rfl, f1⟩ := hy
        have ex1 : x1 = .int zs[i] := Option.some.inj ((f1 _ (.of er)).symm.trans g1)
        subst ex1
        have hlen : cs2.length = top := by rw [el]; exact ct (hne (by omega))
        have hTp : p ≠ T := ne_of_none ep2 nT
        have hTr : r ≠ T := ne_of_none er nT
        refine ⟨T, _, rfl, .of upd_same, rfl, _, _, rfl, _, _, rfl, rfl, ?_⟩
        have hmod0 : 0 ≤ (i : Int) % (top : Int) := Int.emod_nonneg _ (by omega)
        have hmod1 : (i : Int) % (top : Int) < top := Int.emod_lt_of_pos _ (by omega)
        obtain ⟨j, hj⟩ : ∃ j : Nat, (i : Int) % (top : Int) = j := ⟨((i : Int) % (top : Int)).toNat, by omega⟩
        have hjl : j < cs2.length := by omega
        have hitl : zs.length ≤ 63 := by rw [hzs, List.length_take, List.length_drop]; omega
        refine ⟨_, rfl, .inl ⟨(i : Int), rfl, _, rfl, (i : Int), (top : Int), rfl, rfl, by omega, ?_⟩⟩
        have ep3 : upd H2 T (.tup [.int i, .int zs[i]]) p = some (.lst (cs2.map V.int)) := by rw [upd_ne hTp]; exact ep2
        refine ⟨_, rfl, _, rfl, p, cs2.map V.int, (i : Int) % (top : Int), .int cs2[j], rfl, rfl, .of ep3, by rw [hj]; exact atI_nat (by rw [List.getElem?_map, List.getElem?_eq_getElem hjl]; rfl), ?_⟩
        refine ⟨_, rfl, _, rfl, (i : Int), 2, rfl, rfl, zs[i], (i : Int) + 2, rfl, rfl, .inr (by omega), cs2[j], zs[i] * ((i : Int) + 2), rfl, rfl, ?_⟩
        refine ⟨_, rfl, _, rfl, p, cs2.map V.int, (i : Int) % (top : Int), j, rfl, rfl, ep3, ?_, ?_⟩
        · rw [hj]
          unfold ixN
          rw [if_pos (by omega), if_pos (by rw [List.length_map]; omega)]
          rfl
        · refine ⟨cs2.set j (cs2[j] + zs[i] * ((i : Int) + 2)), _, _, _, rfl, fun b o e => ?_, ?_, by rw [List.length_set]; exact el, ?_⟩
          · rw [upd_ne (ne_of_none e np)]
            exact same_new nT b o (s2 b o e)
          · rw [upd_same, List.map_set]
          · rw [upd_ne nrp, upd_ne hTr]; exact er
      · refine .inl ⟨⟨_, .of er, by rw [List.length_map]; omega⟩, ?_⟩
        exact ⟨_, rfl, q H2 p cs2 s2 ep2 (by omega) (by omega)⟩
    -- cells_here = list(script[:top]) or [0]
    refine ⟨_, rfl, _, rfl, (top : Int), rfl, a, ns.map V.int, rfl, hS, fun r nr => ?_⟩
    rw [cut_ints, HT.sIx_none, HT.sIx_nat, List.drop_zero, Nat.sub_zero]
    refine ⟨r, _, rfl, .inl (.of upd_same), fun p np => ?_⟩
    have s1 : Same H (upd H r (.lst ((ns.take (min top ns.length)).map V.int))) := same_new nr
    have np0 : H p = none := s1.free np
    have s2 : Same H (upd (upd H r (.lst ((ns.take (min top ns.length)).map V.int))) p (.lst ((ns.take (min top ns.length)).map V.int))) := fun b o e => same_new np b o (s1 b o e)
    refine ⟨!((ns.take (min top ns.length)).map V.int).isEmpty, .inl ⟨_, .of upd_same, rfl⟩, ?_⟩
    cases hns : ns with
    | nil =>
      have e0 : (!((ns.take (min top ns.length)).map V.int).isEmpty) = false := by rw [hns, List.take_nil]; rfl
      rw [← hns, e0]
      refine iteF ⟨by decide, fun p2 np2 => ?_⟩
      have np20 : H p2 = none := s2.free np2
      exact rest _ p2 [0] (fun b o e => same_new np2 b o (s2 b o e)) np20 upd_same (by decide) (by decide) (fun h => by rw [hns] at h; simp at h)
    | cons n0 nr0 =>
      have hlen : (ns.take (min top ns.length)).length = min top ns.length := by rw [List.length_take]; omega
      have hn0 : 0 < ns.length := by rw [hns]; simp
      have : (!((ns.take (min top ns.length)).map V.int).isEmpty) = true := by
        cases hh : ns.take (min top ns.length) with
        | nil => rw [hh] at hlen; simp at hlen; omega
        | cons _ _ => rfl
      rw [← hns, this]
      exact iteT (rest _ p _ s2 np0 upd_same (by rw [hlen]; omega) (by rw [hlen]; omega) (fun h => by rw [hlen]; omega))
end Lw00

namespace Lw00
open PySem PySem.Spec PyProof.Rows L2 Dv
/-! ### numbered of nothing; Program's __init__ -/
abbrev s_numbered : Stmt := topS 14
theorem sc_numbered : FnScope [("writes" : Str), ("many" : Str), ("lines" : Str), ("stream" : Str)] [("writes" : Str)] (defScope s_numbered) := ⟨rfl, rfl, rfl, by decide +kernel, rfl, by decide +kernel, by decide +kernel⟩
theorem ok_numbered {P : Program} {w : World} {K : PySem.W.Frag} {mg : Str → Option Value} {base : Heap} {G : Gx K} (T : Tx mg) {f : Addr} {fd : FuncData} (F : Fun K ("numbered" : Str) ("numbered" : Str) s_numbered f fd) :
    FnOk P w K mg base CX0 1 f fd [("writes" : Str)] (spF G F_numbered 1) := by
  have nd := sc_numbered.nd
  refine F.ok sc_numbered (fun vs H Q E h => ?_) (fun cdv A outer s H vs Q E hr h => ?_)
  · obtain ⟨ua, u, B, ds, d, u', r, hl, _⟩ := h
    rw [← r.len, hl]; rfl
  · obtain ⟨ua, u, B, ds, d, u', r, hl, hw, hf, q⟩ := h
    unfold F_numbered at hf
    split at hf
    · cases hf
      obtain ⟨v, t, rfl, r1, r2⟩ := r.of_cons
      rw [r2.of_nil]
      obtain ⟨a, xs, rfl, ha, rs⟩ := r1.tup
      rw [rs.of_nil] at ha
      refine ⟨_, pss_cons (ps_set (i := 1) nd rfl (Or.inl rfl) pe_dnewK) (pss_cons (ps_set (i := 2) nd rfl (Or.inl rfl) (pe_lst pa_nil))
        (pss_cons (ps_for PassesOwn.never rfl (pi_tup (pv 0)) (pg_name (i := 3) nd rfl (Or.inl rfl)) pss_never)
        (pss_one (ps_ret (pe_callTy call_tuple_of (by rfl) T.n_tuple (by decide +kernel) (pa_cons (pv 2) pa_nil)))))), ?_⟩
      intro m nm
      refine ⟨Nat.zero_le _, fun l nl => ?_⟩
      have s1 : Same H (upd H m (.dK [])) := same_new nm
      have nlH : H l = none := s1.free nl
      have ea : (upd (upd H m (.dK [])) l (.lst [])) a = some (.tup []) := same_new nl _ _ (s1 _ _ (hw.sub _ _ ha))
      refine ⟨_, rfl, a, rfl, ⟨_, .of ea⟩, fun i mm σ H2 => σ = [some (.ref a), some (.ref m), some (.ref l), none] ∧ H2 = upd (upd H m (.dK [])) l (.lst []), ⟨0, rfl, rfl⟩, fun i mm σ H2 hW => ?_⟩
      obtain ⟨rfl, rfl⟩ := hW
      refine .inl ⟨⟨[], .of ea, Nat.zero_le _⟩, _, rfl, l, [], rfl, .inl ⟨.of upd_same, fun p np => ?_⟩⟩
      have npH : H p = none := s1.free ((same_new (o := .lst []) nl).free np)
      have w1 : Wd ua _ B (upd H m (.dK [])) := hw.own1 nm
      have w2 := w1.own1 (o := .lst []) nl
      have g1 : Grow ua B H B (upd H m (.dK [])) := .own1 hw nm
      have g2 := Grow.own1 (o := .lst []) w1 nl
      exact q _ _ (.up (g1.trans g2) (.tup w2 np .nil))
    · cases hf
abbrev s_init : Stmt := inClass (topS 17) 0
theorem sc_init : FnScope [("self" : Str), ("deeds" : Str), ("word" : Str), ("stream" : Str)] [("self" : Str), ("deeds" : Str)] (defScope s_init) := ⟨rfl, rfl, rfl, by decide +kernel, rfl, by decide +kernel, by decide +kernel⟩
/-- __init__ at a new instance -/
def spInit {K : PySem.W.Frag} (G : Gx K) (C : Addr) : Sp := fun vs H Q _ => ∃ (y dx : Addr) (v : V) (ua : Option Addr) (u u' : U) (B : Hp) (d r : D), vs = [.ref y, v] ∧ H y = some (.ins C dx []) ∧ B y = none ∧ ua ≠ some y ∧ Rep G ua d v B ∧ Wd ua u B H ∧ F_Program [d] u = some (r, u') ∧ G.cls "Program" = some C ∧
  ∀ H' B', (∀ a o, H a = some o → a ≠ y → ua ≠ some a → H' a = some o) → (∀ a, H' a = none → H a = none) → Same B B' → (∀ a o, B' a = some o → B a = some o ∨ H a = none ∨ a = y) → Wd ua u' B' H' → Rep G ua r (.ref y) B' → Q .non H'
structure TI (K : PySem.W.Frag) (mg : Str → Option Value) (C : Addr) : Prop where
  cl : Cls K C
  n1 : NoAttr K C ("_deeds" : Str)
  n2 : NoAttr K C ("_writes" : Str)
  n3 : NoAttr K C ("_lines" : Str)
theorem f12 : ¬ (("_deeds" : Str) = ("_writes" : Str)) := by decide +kernel
theorem f13 : ¬ (("_deeds" : Str) = ("_lines" : Str)) := by decide +kernel
theorem f23 : ¬ (("_writes" : Str) = ("_lines" : Str)) := by decide +kernel
theorem fl1 (v : V) : putF ("_deeds" : Str) v [] = [(("_deeds" : Str), v)] := rfl
theorem fl2 (v v2 : V) : putF ("_writes" : Str) v2 [(("_deeds" : Str), v)] = [(("_deeds" : Str), v), (("_writes" : Str), v2)] := by
  show (if _ then _ else _) = _; rw [if_neg f12]; rfl
theorem fl3 (v v2 v3 : V) : putF ("_lines" : Str) v3 [(("_deeds" : Str), v), (("_writes" : Str), v2)] = [(("_deeds" : Str), v), (("_writes" : Str), v2), (("_lines" : Str), v3)] := by
  show (if ("_deeds" : Str) = ("_lines" : Str) then _ else _ :: (if ("_writes" : Str) = ("_lines" : Str) then _ else _)) = _; rw [if_neg f13, if_neg f23]; rfl
theorem lk1 (v : V) : ([(("_deeds" : Str), v)] : List (Str × V)).lookup ("_deeds" : Str) = some v := rfl
theorem lk2 (v v2 : V) : ([(("_deeds" : Str), v), (("_writes" : Str), v2)] : List (Str × V)).lookup ("_writes" : Str) = some v2 := by
  have e : (("_writes" : Str) == ("_deeds" : Str)) = false := by decide +kernel
  simp only [List.lookup, e, beq_self_eq_true]
theorem env_no {K : PySem.W.Frag} {G : Gx K} {ua : Option Addr} {B H : Hp} {n : Nat} {σ : List (Option V)} (h : σ.length = n) : EnvOk G ua (List.replicate n Sl.no) σ B H := by
  have hno : ∀ (i : Nat) x, (List.replicate n Sl.no)[i]? = some x → x = Sl.no := fun i x e => by
    rw [List.getElem?_replicate] at e
    split at e
    · exact (Option.some.inj e).symm
    · cases e
  exact ⟨by rw [List.length_replicate, h], fun i d e => (by have := hno i _ e; cases this), fun i d e => (by have := hno i _ e; cases this), fun i j a b p e => (by have := hno i _ e; cases this)⟩
theorem ok_init {P : Program} {w : World} {K : PySem.W.Frag} {mg : Str → Option Value} {base : Heap} {G : Gx K} {C : Addr} (T : Tx mg) (TI : TI K mg C) {f : Addr} {fd : FuncData} {dvs : List V} {kws : List (Str × V)} (F : FunD K ("__init__" : Str) ("Program.__init__" : Str) (defArgs s_init) (defBody s_init) (defScope s_init) dvs kws f fd)
    (D_tupled : DefOk P w mg base G ("tupled" : Str) 6 1 (FR_tupled 6)) (D_numbered : DefOk P w mg base G ("numbered" : Str) 1 1 F_numbered) : FnOk P w K mg base CX0 7 f fd [("self" : Str), ("deeds" : Str)] (spInit G C) := by
  have nd := sc_init.nd
  obtain ⟨fn, fdn, psn, hfn, hmn, hkn, hbn⟩ := D_numbered
  refine F.ok sc_init (fun vs H Q E h => ?_) (fun cdv A outer s H vs Q E hr h => ?_)
  · obtain ⟨y, dx, v, _, _, _, _, _, _, rfl, _⟩ := h; rfl
  · obtain ⟨y, dx, v, ua, u, u', B, d, r, rfl, hy, hb, hua, hd, hW, hF, hC, q⟩ := h
    refine ⟨_, PSs.nox (pss_cons (ps_fld (pv 0) (show PE _ _ (tEv (K := K) G (mCall 1 (FR_tupled 6) (mCons (mVar 1) mNil))) from dv_call D_tupled hr rfl (dvs_cons (dv_var 1) dvs_nil)) rfl)
      (pss_cons (ps_fld (pv 0) (pe_callTy call_tuple_of (by rfl) T.n_tuple (by decide +kernel) (pa_cons (pe_lc (own := [(("word" : Str), 2), (("stream" : Str), 3)]) (g := gOf K (.many [2, 3])) (tt := tTst G (mTru (mBin cEq (mVar 2) (mC (.str ("write" : Str)))))) (te := tEv G (mVar 3)) rfl nd (pi_tup (pe_fld (pv 0) rfl))
          (blkOk_by (own := [(("word" : Str), 2), (("stream" : Str), 3)]) (N := [("self" : Str), ("deeds" : Str), ("word" : Str), ("stream" : Str)]) (sc := defScope s_init) (by decide +kernel))
          (fun _ _ _ _ _ => pg_tup rfl (pgs_cons (pg_name (i := 2) nd rfl (by first | exact Or.inl rfl | exact Or.inr rfl)) (pgs_cons (pg_name (i := 3) nd rfl (by first | exact Or.inl rfl | exact Or.inr rfl)) pgs_nil)))
          (fun _ _ _ _ _ => dts_one (dt_cmp (ok_eq (hU64 hr)) bf_eq (dv_var 2) (dv_gS rfl T.c_WRITE))) (fun _ _ _ _ _ => dv_var 3)) pa_nil)) rfl)
      (pss_one (ps_fld (pv 0) (pe_call (hfn.mono (k := 6) (by decide)) hr (by rfl) hmn hkn hbn .nil pass0 (pa_cons (pe_fld (pv 0) rfl) pa_nil)) rfl)))), ?_⟩
    -- what Program gives
    unfold F_Program at hF
    obtain ⟨t, u1, h1, hF⟩ := bnd_some hF
    split at hF
    · rename_i ts
      obtain ⟨ws, u2, h2, hF⟩ := bnd_some hF
      split at hF
      · rename_i hwl
        obtain ⟨ls, u3, h3, hF⟩ := bnd_some hF
        cases hF
        have hEnv : ∀ (B' H' : Hp), Same B B' → EnvOk G ua [.no, .pub d, .no, .no] [some (V.ref y), some v, none, none] B' H' := fun B' H' s =>
          (env_no (n := 4) (σ := [some (V.ref y), some v, none, none]) rfl).set (hd.mono _ _ s) 1
        refine ⟨ua, u, B, _, .tup ts, u1, hEnv B H (fun _ _ z => z), hW, mCall_eq (mCons_eq rfl mNil_eq) rfl h1, fun v1 H1 ⟨B1, g1, w1, r1⟩ => ?_⟩
        have hb1 : B1 y = none := g1.none_of hy hb
        refine ⟨_, rfl, y, C, dx, [], rfl, g1.keep _ _ hy hua, TI.cl, TI.n1, (by show 0 < 1000; decide), ?_⟩
        rw [fl1]
        have w2 := w1.put (o := .ins C dx [(("_deeds" : Str), v1)]) hb1 hua
        have r1' := r1
        obtain ⟨a, vs, rfl, ha, rs⟩ := r1.tup
        have hay : a ≠ y := fun e => by rw [e, hb1] at ha; cases ha
        refine ⟨_, rfl, y, C, dx, _, _, rfl, upd_same, TI.cl, TI.n1, lk1 _, a, rfl, ⟨vs, .of (by rw [upd_ne hay]; exact w1.sub _ _ ha)⟩, ?_⟩
        refine fun Dp hDp => lc_innerD (X := (cxOf CX0 P w K mg base [("self" : Str), ("deeds" : Str), ("word" : Str), ("stream" : Str)] ("Program.__init__" : Str) (defScope s_init) f cdv A outer s H E).nox) (G := G) (t := .many [2, 3]) (by decide) (hEnv B1 _ g1.pub) w2 (wk_tup (X := (cxOf CX0 P w K mg base [("self" : Str), ("deeds" : Str), ("word" : Str), ("stream" : Str)] ("Program.__init__" : Str) (defScope s_init) f cdv A outer s H E).nox) ha rs) h2 hwl hDp fun H3 (h : Aft G ua B1 _ u2 (.lst ws) (.ref Dp) H3) => ?_
        obtain ⟨B3, g3, w3, r3⟩ := h
        obtain ⟨p, ys, ep, hp, rs3⟩ := r3.lst
        cases ep
        refine ⟨Dp, ys, rfl, .inl ⟨.of (w3.sub _ _ hp), fun l nl => ?_⟩⟩
        have hy3 : H3 y = some (.ins C dx [(("_deeds" : Str), V.ref a)]) := g3.keep _ _ upd_same hua
        have hb3 : B3 y = none := g3.none_of upd_same hb1
        have hly : l ≠ y := fun e => by rw [e, hy3] at nl; cases nl
        have w4 := w3.new1 (o := .tup ys) nl
        have nlB := w3.none_of nl
        refine ⟨_, rfl, y, C, dx, _, rfl, by rw [upd_ne hly.symm]; exact hy3, TI.cl, TI.n2, (by show 1 < 1000; decide), ?_⟩
        rw [fl2]
        have hb4 : (upd B3 l (.tup ys)) y = none := by rw [upd_ne hly.symm]; exact hb3
        have w5 := w4.put (o := .ins C dx [(("_deeds" : Str), V.ref a), (("_writes" : Str), V.ref l)]) hb4 hua
        have rl : Rep G ua (.tup ws) (.ref l) (upd B3 l (.tup ys)) := by unfold Rep; exact ⟨l, ys, rfl, upd_same, rs3.mono _ _ (same_new nlB)⟩
        refine ⟨_, rfl, y, C, dx, _, _, rfl, upd_same, TI.cl, TI.n2, lk2 _ _, ua, u2, _, [.tup ws], ls, u', .cons rl .nil, rfl, w5, h3, fun v6 H6 ⟨B6, g6, w6, r6⟩ => ?_⟩
        have hb6 : B6 y = none := g6.none_of upd_same hb4
        refine ⟨_, rfl, y, C, dx, _, rfl, g6.keep _ _ upd_same hua, TI.cl, TI.n3, (by show 2 < 1000; decide), ?_⟩
        rw [fl3]
        have sB : Same B6 (upd B6 y (.ins C dx [(("_deeds" : Str), V.ref a), (("_writes" : Str), V.ref l), (("_lines" : Str), v6)])) := same_new hb6
        have w7 := (w6.put (o := .ins C dx [(("_deeds" : Str), V.ref a), (("_writes" : Str), V.ref l), (("_lines" : Str), v6)]) hb6 hua).show upd_same hua
        have l3 : ∀ b, b ≠ y → H3 b = none → H b = none := fun b n e => g1.live b (by have := g3.live b e; rw [upd_ne n] at this; exact this)
        have l5 : ∀ b, b ≠ y → (upd (upd H3 l (.tup ys)) y (.ins C dx [(("_deeds" : Str), V.ref a), (("_writes" : Str), V.ref l)])) b = none → H b = none := fun b n e => by
          rw [upd_ne n] at e
          by_cases z : b = l
          · subst z; rw [upd_same] at e; cases e
          · rw [upd_ne z] at e; exact l3 b n e
        refine q _ (upd B6 y (.ins C dx [(("_deeds" : Str), V.ref a), (("_writes" : Str), V.ref l), (("_lines" : Str), v6)])) (fun b o e n nu => ?_) (fun b e => ?_) (fun b o e => ?_) (fun b o e => ?_) w7 ?_
        · rw [upd_ne n]
          refine g6.keep _ _ ?_ nu
          rw [upd_ne n]
          refine same_new nl _ _ (g3.keep _ _ ?_ nu)
          rw [upd_ne n]
          exact g1.keep _ _ e nu
        · by_cases n : b = y
          · subst n; rw [upd_same] at e; cases e
          · rw [upd_ne n] at e; exact l5 b n (g6.live b e)
        · exact sB _ _ (g6.pub _ _ (same_new nlB _ _ (g3.pub _ _ (g1.pub _ _ e))))
        · by_cases n : b = y
          · exact .inr (.inr n)
          · rw [upd_ne n] at e
            rcases g6.new b o e with z | z
            · by_cases zl : b = l
              · subst zl; exact .inr (.inl (l3 b n nl))
              · rw [upd_ne zl] at z
                rcases g3.new b o z with z | z
                · rcases g1.new b o z with z | z
                  · exact .inl z
                  · exact .inr (.inl z)
                · rw [upd_ne n] at z; exact .inr (.inl (g1.live b z))
            · exact .inr (.inl (l5 b n z))
        · unfold Rep
          refine ⟨y, C, dx, [V.ref a, V.ref l, v6], rfl, hC, upd_same, rfl, .cons ?_ (.cons ?_ (.cons (r6.mono _ _ sB) .nil))⟩
          · exact (((r1'.mono _ _ g3.pub).mono _ _ (same_new nlB)).mono _ _ g6.pub).mono _ _ sB
          · exact (rl.mono _ _ g6.pub).mono _ _ sB
      · cases hF
    · cases hF
theorem make_ok {P : Program} {w : World} {K : PySem.W.Frag} {mg : Str → Option Value} {base : Heap} {G : Gx K} {C : Addr} {f : Addr} {fd : FuncData} (M : Mk K C f) (hF : FnOk P w K mg base CX0 7 f fd [("self" : Str), ("deeds" : Str)] (spInit G C)) (hm : mg ("Program" : Str) = some (.ref C)) (hb : Binds K fd [("self" : Str), ("deeds" : Str)] []) (hC : G.cls "Program" = some C) :
    MakeOk P w mg base G ("Program" : Str) 7 1 F_Program := by
  refine ⟨C, f, fd, _, _, [], [], M, hF, hm, hb, .nil, fun ua u u' B H as vs d hl hf hr hw y dx ny ndx hne Q q => ?_⟩
  obtain ⟨a, rfl⟩ : ∃ a, as = [a] := by
    cases as with
    | nil => cases hl
    | cons a r => cases r with
      | nil => exact ⟨a, rfl⟩
      | cons _ _ => cases hl
  obtain ⟨v, t, rfl, r1, r2⟩ := hr.of_cons
  rw [r2.of_nil]
  have ny2 : (upd H dx (.own y)) y = none := by rw [upd_ne hne.symm]; exact ny
  have w1 := (hw.own1 (o := .own y) ndx).own1 (o := .ins C dx []) ny2
  refine ⟨y, dx, v, ua, u, u', B, a, d, rfl, upd_same, hw.none_of ny, hw.ne_urn ny, r1, w1, hf, hC, fun H' B' k1 k2 k3 k4 k5 k6 => ⟨rfl, q _ ⟨B', ⟨fun b o e n => ?_, fun b e => ?_, k3, fun b o e => ?_⟩, k5, k6⟩⟩⟩
  · have hby : b ≠ y := ne_of_none e ny
    exact k1 b o (by rw [upd_ne hby]; exact same_new ndx _ _ e) hby n
  · have := k2 b e
    by_cases z : b = y
    · rw [z]; exact ny
    · rw [upd_ne z] at this
      by_cases z2 : b = dx
      · rw [z2]; exact ndx
      · rw [upd_ne z2] at this; exact this
  · rcases k4 b o e with z | z | z
    · exact .inl z
    · refine .inr ?_
      by_cases zz : b = y
      · rw [zz]; exact ny
      · rw [upd_ne zz] at z
        by_cases z2 : b = dx
        · rw [z2]; exact ndx
        · rw [upd_ne z2] at z; exact z
    · exact .inr (by rw [z]; exact ny)
end Lw00

namespace Lw00
open PySem PySem.Spec PyProof.Rows L2 Dv
def isT (o : Option (D × U)) : Bool := match o with
  | some (.bl true, _) => true
  | _ => false
theorem hand_ok : ∃ u', F__law_by_hand_right [] ⟨0, 0, 0⟩ = some (.bl true, u') := by
  have h : isT (F__law_by_hand_right [] ⟨0, 0, 0⟩) = true := by decide +kernel
  unfold isT at h
  split at h
  · exact ⟨_, ‹_›⟩
  · cases h
abbrev s_law : Stmt := topS 27
theorem sc_law : FnScope [("_law_script" : Str), ("_law_cells_here" : Str), ("_law_k" : Str)] [("_law_script" : Str)] (defScope s_law) := ⟨rfl, rfl, rfl, by decide +kernel, rfl, by decide +kernel, by decide +kernel⟩
def spLaw (K : PySem.W.Frag) : Sp := fun vs H Q _ => ∃ (a : Addr) (ns : List Int), vs = [.ref a] ∧ SqL K H a (ns.map V.int) ∧ ns.length ≤ 63 ∧ ∀ H', Q (.bl true) H'
theorem vint_reps {K : PySem.W.Frag} {G : Gx K} {ua : Option Addr} {B : Hp} (cs : List Int) : Reps G ua (cs.map D.int) (cs.map V.int) B := Reps.ints
theorem ok_law {P : Program} {w : World} {K : PySem.W.Frag} {mg : Str → Option Value} {base : Heap} {G : Gx K} (T : Tx mg) {f : Addr} {fd : FuncData} (F : Fun K ("law" : Str) ("law" : Str) s_law f fd)
    {fc : Addr} {fdc : FuncData} (FC : FnOk P w K mg base CX0 1 fc fdc [("_law_script" : Str), ("_law_top" : Str)] (spCells K)) (mc : mg ("_law_cells" : Str) = some (.ref fc)) (kc : PySem.W.keepIn K (.ref fc) = true) (bc : Binds K fdc [("_law_script" : Str), ("_law_top" : Str)] [])
    (D_hand : DefOk P w mg base G ("_law_by_hand_right" : Str) 9 0 F__law_by_hand_right) (D_right : DefOk P w mg base G ("_law_right" : Str) 9 1 F__law_right) (D_box : DefOk P w mg base G ("_law_box" : Str) 9 2 F__law_box) : FnOk P w K mg base CX0 10 f fd [("_law_script" : Str)] (spLaw K) := by
  have nd := sc_law.nd
  obtain ⟨fr, fdr, psr, hfr, hmr, hkr, hbr⟩ := D_right
  refine F.ok sc_law (fun vs H Q E h => ?_) (fun cdv A outer s H vs Q E hr h => ?_)
  · obtain ⟨a, ns, rfl, _⟩ := h; rfl
  · obtain ⟨a, ns, rfl, hS, hl, q⟩ := h
    refine ⟨_, pss_cons (ps_set (i := 1) nd rfl (Or.inr rfl) (pe_call (FC.mono (k := 9) (by decide)) hr (by rfl) mc kc bc .nil pass0 (pa_cons (pv 0) (pa_cons pe_int pa_nil))))
      (pss_one (ps_ret (pe_andT (show PE _ _ (tEv (K := K) G (mCall 0 F__law_by_hand_right mNil)) from dv_call0 D_hand hr rfl) (pe_one (pe_callB (cr_all rfl) (by rfl) T.n_all (by decide +kernel) (pa_cons
        (pe_lc (own := [(("_law_k" : Str), 2)]) (g := gName 2) (tt := tYes) rfl nd (pi_range1 rfl T.n_range (pa_cons (pe_callB call_len_seq (by rfl) T.n_len PySem.boot_len (pa_cons (pv 1) pa_nil)) pa_nil))
          (blkOk_by (own := [(("_law_k" : Str), 2)]) (N := [("_law_script" : Str), ("_law_cells_here" : Str), ("_law_k" : Str)]) (sc := defScope s_law) (by decide +kernel))
          (fun _ _ _ _ _ => pg_name (i := 2) nd rfl (Or.inl rfl)) (fun _ _ _ _ _ => pts_nil)
          (fun _ _ _ _ _ => pe_call hfr hr (by rfl) hmr hkr hbr .nil pass0 (pa_cons (show PE _ _ (tEv (K := K) G (mCall 2 F__law_box (mCons (mVar 1) (mCons (mVar 2) mNil)))) from dv_call D_box hr rfl (dvs_cons (dv_var 1) (dvs_cons (dv_var 2) dvs_nil))) pa_nil))) pa_nil)))))), ?_⟩
    -- cells
    refine ⟨_, rfl, a, ns, 3, rfl, hS, by decide, by decide, hl, fun H1 p cs s1 hp c1 c8 => ?_⟩
    -- by hand
    obtain ⟨uh, hh⟩ := hand_ok
    refine ⟨none, ⟨0, 0, 0⟩, fun _ => none, [.no, .no, .no], .bl true, uh, env_no (n := 3) rfl, ⟨fun _ _ z => (by cases z), fun _ z => (by cases z)⟩, ?_, fun v H2 ha => ?_⟩
    · exact mCall_eq mNil_eq rfl hh
    obtain ⟨B2, g2, w2, r2⟩ := ha
    cases r2.bl
    refine ⟨true, rfl, iteT ?_⟩
    have hp2 : H2 p = some (.lst (cs.map V.int)) := g2.keep _ _ hp (fun z => by cases z)
    -- all over the cells
    refine ⟨_, rfl, p, _, rfl, .inl (.of hp2), (cs.length : Int), ?_, by omega, by omega, fun Dp hD => ?_⟩
    · rw [List.length_map]
    rw [Int.toNat_natCast]
    have hDp : Dp ≠ p := fun e => by rw [e, hp2] at hD; cases hD
    refine lc_range (lo := 0) (n := cs.length) (fun i H => H Dp = some (.lst (List.replicate i (V.bl true))) ∧ ∃ cs2 : List Int, cs2.length = cs.length ∧ H p = some (.lst (cs2.map V.int))) ⟨upd_same, cs, rfl, by rw [upd_ne hDp.symm]; exact hp2⟩ (fun i H3 hi hP => ?_) fun H3 hP => ?_
    · obtain ⟨e1, cs2, el, e2⟩ := hP
      refine ⟨rfl, ?_⟩
      unfold tYes
      dsimp only
      rw [if_pos rfl]
      -- the box
      obtain ⟨x, y, hbx, hx, hy1, hy2⟩ := box_ok (cs := cs2) (k := i) (u := ⟨0, 0, 0⟩) (by omega) (by omega)
      obtain ⟨Bp, hBp⟩ : ∃ Bp : Hp, Bp = upd (fun _ => none) p (.lst (cs2.map V.int)) := ⟨_, rfl⟩
      have wB : Wd none ⟨0, 0, 0⟩ Bp H3 := by
        refine ⟨fun b o e => ?_, fun _ z => by cases z⟩
        rw [hBp] at e
        by_cases z : b = p
        · rw [z, upd_same] at e; cases e; rw [z]; exact e2
        · rw [upd_ne z] at e; cases e
      have rC : Rep G none (.lst (cs2.map .int)) (.ref p) Bp := by unfold Rep; exact ⟨p, _, rfl, by rw [hBp]; exact upd_same, vint_reps cs2⟩
      have eE : EnvOk G none [.no, .pub (.lst (cs2.map .int)), .pub (.int (0 + i))] [none, some (V.ref p), some (V.int (0 + i))] Bp H3 :=
        ((env_no (n := 3) (σ := [none, none, none]) rfl).set rC 1).set (d := .int (0 + i)) (v := V.int (0 + i)) rep_int 2
      have eE' : EnvOk G none [.no, .pub (.lst (cs2.map .int)), .pub (.int (0 + i))] [some (V.ref a), some (V.ref p), some (V.int (0 + i))] Bp H3 :=
        ((env_no (n := 3) (σ := [some (V.ref a), none, none]) rfl).set rC 1).set (d := .int (0 + i)) (v := V.int (0 + i)) rep_int 2
      refine ⟨none, ⟨0, 0, 0⟩, Bp, _, _, _, eE', wB, mCall_eq (mCons_eq rfl (mCons_eq rfl mNil_eq)) rfl (by rw [Int.zero_add]; exact hbx), fun v H4 ha4 => ?_⟩
      obtain ⟨B4, g4, w4, r4⟩ := ha4
      obtain ⟨z, vs, rfl, hz, rz⟩ := r4.lst
      have evs : vs = [V.int x, V.int y, V.int 0] := rz.ints_of (xs := [x, y, 0])
      rw [evs] at hz
      have hz4 := w4.sub _ _ hz
      obtain ⟨u5, h5⟩ := right_ok (u := ⟨x, y, 0⟩) ⟨hx, ⟨hy1, hy2⟩, Int.le_refl 0, Int.le_refl 0⟩
      have eD4 : H4 Dp = some (.lst (List.replicate i (V.bl true))) := g4.keep _ _ e1 (fun z => by cases z)
      have zD : z ≠ Dp := fun e => by
        rcases g4.new z _ hz with q | q
        · rw [hBp, e, upd_ne hDp] at q; cases q
        · rw [e, e1] at q; cases q
      refine ⟨some z, ⟨x, y, 0⟩, fun _ => none, [.urn], .bl true, u5, .cons (by unfold Rep; exact ⟨z, rfl, rfl⟩) .nil, rfl, ⟨fun _ _ z => (by cases z), fun b e => by cases e; exact ⟨rfl, hz4⟩⟩, h5, fun v5 H5 ha5 => ?_⟩
      obtain ⟨B5, g5, w5, r5⟩ := ha5
      cases r5.bl
      have eD5 : H5 Dp = some (.lst (List.replicate i (V.bl true))) := g5.keep _ _ eD4 (fun e => zD (Option.some.inj e))
      refine ⟨_, eD5, by rw [List.length_replicate, line]; omega, by rw [upd_same, List.replicate_succ'], ?_⟩
      by_cases zp : z = p
      · -- the box is the cells' own list: three numbers all the same
        subst zp
        have e4 := g4.keep _ _ e2 (fun e => by cases e)
        rw [hz4] at e4
        have e5 : cs2.length = 3 := by
          have := congrArg (fun o => match o with | some (HO.lst xs) => xs.length | _ => 0) e4
          simp at this
          omega
        refine ⟨[u5.a, u5.b, u5.c], by rw [← el, e5]; rfl, ?_⟩
        rw [upd_ne hDp.symm]
        exact (w5.urn z rfl).2
      · refine ⟨cs2, el, ?_⟩
        rw [upd_ne hDp.symm]
        exact g5.keep _ _ (g4.keep _ _ e2 (fun e => by cases e)) (fun e => zp (Option.some.inj e))
    · obtain ⟨e1, cs2, el, e2⟩ := hP
      refine ⟨Dp, List.replicate cs.length true, rfl, .of (by rw [List.map_replicate]; exact e1), ?_⟩
      have : (List.replicate cs.length true).all id = true := by
        rw [List.all_eq_true]
        intro b hb
        rw [(List.mem_replicate.mp hb).2]; rfl
      rw [this]
      exact q _
end Lw00

namespace Lw00
open PySem PySem.Spec PyProof.Rows L2 Dv
theorem kit_sub {K : PySem.W.Frag} {C : Addr} {t : String} (h : PySem.W.subIn K (.ref C) (.type t) = some false) (m : PySem.W.kitMeta t = true) : PySem.W.kitOne K (.ref C) (.type t) = some false := by
  unfold PySem.W.kitOne
  have e : (Value.ref C == Value.type t) = false := rfl
  rw [e, if_neg Bool.false_ne_true]
  show (if PySem.W.kitMeta t = true then _ else _) = _
  rw [if_pos m]
  exact h
theorem all_mk {l : PySem.W.OpenLaw} {w : World} {K : PySem.W.Frag} {h : Heap} {mg : Str → Option Value} {fa f_is_number f_is_pair f_tupled f_is_name f_is_deed f_is_line f_numbered f__law_box f__law_take f__law_cells f__law_of f__law_same f__law_tags f__law_by_hand_right f__law_right f_law : Addr} (X : K.In h) (G0 : h.Ns mainGlobals mg) (hfa : mg "law" = some (.ref fa))
    {od_is_number an_is_number od_is_pair an_is_pair od_tupled an_tupled od_is_name an_is_name od_is_deed an_is_deed od_is_line an_is_line od_numbered an_numbered od__law_box an__law_box od__law_take an__law_take od__law_cells an__law_cells od__law_of an__law_of od__law_same an__law_same od__law_tags an__law_tags od__law_by_hand_right an__law_by_hand_right od__law_right an__law_right od_law an_law : Option Addr} {sl_is_number sl_is_pair sl_tupled sl_is_name sl_is_deed sl_is_line sl_numbered sl__law_box sl__law_take sl__law_cells sl__law_of sl__law_same sl__law_tags sl__law_by_hand_right sl__law_right sl_law : Array (Option Value)} {oc_is_number kV_is_number dc_is_number pm_is_number cd_is_number ct_is_number oc_is_pair kV_is_pair dc_is_pair pm_is_pair cd_is_pair ct_is_pair oc_tupled kV_tupled dc_tupled pm_tupled cd_tupled ct_tupled oc_is_name kV_is_name dc_is_name pm_is_name cd_is_name ct_is_name oc_is_deed kV_is_deed dc_is_deed pm_is_deed cd_is_deed ct_is_deed oc_is_line kV_is_line dc_is_line pm_is_line cd_is_line ct_is_line oc_numbered kV_numbered dc_numbered pm_numbered cd_numbered ct_numbered oc__law_box kV__law_box dc__law_box pm__law_box cd__law_box ct__law_box oc__law_take kV__law_take dc__law_take pm__law_take cd__law_take ct__law_take oc__law_cells kV__law_cells dc__law_cells pm__law_cells cd__law_cells ct__law_cells oc__law_of kV__law_of dc__law_of pm__law_of cd__law_of ct__law_of oc__law_same kV__law_same dc__law_same pm__law_same cd__law_same ct__law_same oc__law_tags kV__law_tags dc__law_tags pm__law_tags cd__law_tags ct__law_tags oc__law_by_hand_right kV__law_by_hand_right dc__law_by_hand_right pm__law_by_hand_right cd__law_by_hand_right ct__law_by_hand_right oc__law_right kV__law_right dc__law_right pm__law_right cd__law_right ct__law_right oc_law kV_law dc_law pm_law cd_law ct_law : Value}
    (a_is_number : PySem.W.nsIn K mainGlobals ("is_number" : Str) = some (some (.ref f_is_number))) (l_is_number : K.lookup f_is_number = some ⟨oc_is_number, od_is_number, .func (PySem.W.fnOf ("is_number" : Str) ("is_number" : Str) (defArgs s_is_number) (defBody s_is_number) (defScope s_is_number) .none kV_is_number dc_is_number pm_is_number an_is_number cd_is_number ct_is_number), sl_is_number⟩) (c_is_number : PySem.W.codeIn K cd_is_number ("is_number" : Str) = true) (k_is_number : PySem.W.keepIn K (.ref f_is_number) = true)
    (a_is_pair : PySem.W.nsIn K mainGlobals ("is_pair" : Str) = some (some (.ref f_is_pair))) (l_is_pair : K.lookup f_is_pair = some ⟨oc_is_pair, od_is_pair, .func (PySem.W.fnOf ("is_pair" : Str) ("is_pair" : Str) (defArgs s_is_pair) (defBody s_is_pair) (defScope s_is_pair) .none kV_is_pair dc_is_pair pm_is_pair an_is_pair cd_is_pair ct_is_pair), sl_is_pair⟩) (c_is_pair : PySem.W.codeIn K cd_is_pair ("is_pair" : Str) = true) (k_is_pair : PySem.W.keepIn K (.ref f_is_pair) = true)
    (a_tupled : PySem.W.nsIn K mainGlobals ("tupled" : Str) = some (some (.ref f_tupled))) (l_tupled : K.lookup f_tupled = some ⟨oc_tupled, od_tupled, .func (PySem.W.fnOf ("tupled" : Str) ("tupled" : Str) (defArgs s_tupled) (defBody s_tupled) (defScope s_tupled) .none kV_tupled dc_tupled pm_tupled an_tupled cd_tupled ct_tupled), sl_tupled⟩) (c_tupled : PySem.W.codeIn K cd_tupled ("tupled" : Str) = true) (k_tupled : PySem.W.keepIn K (.ref f_tupled) = true)
    (a_is_name : PySem.W.nsIn K mainGlobals ("is_name" : Str) = some (some (.ref f_is_name))) (l_is_name : K.lookup f_is_name = some ⟨oc_is_name, od_is_name, .func (PySem.W.fnOf ("is_name" : Str) ("is_name" : Str) (defArgs s_is_name) (defBody s_is_name) (defScope s_is_name) .none kV_is_name dc_is_name pm_is_name an_is_name cd_is_name ct_is_name), sl_is_name⟩) (c_is_name : PySem.W.codeIn K cd_is_name ("is_name" : Str) = true) (k_is_name : PySem.W.keepIn K (.ref f_is_name) = true)
    (a_is_deed : PySem.W.nsIn K mainGlobals ("is_deed" : Str) = some (some (.ref f_is_deed))) (l_is_deed : K.lookup f_is_deed = some ⟨oc_is_deed, od_is_deed, .func (PySem.W.fnOf ("is_deed" : Str) ("is_deed" : Str) (defArgs s_is_deed) (defBody s_is_deed) (defScope s_is_deed) .none kV_is_deed dc_is_deed pm_is_deed an_is_deed cd_is_deed ct_is_deed), sl_is_deed⟩) (c_is_deed : PySem.W.codeIn K cd_is_deed ("is_deed" : Str) = true) (k_is_deed : PySem.W.keepIn K (.ref f_is_deed) = true)
    (a_is_line : PySem.W.nsIn K mainGlobals ("is_line" : Str) = some (some (.ref f_is_line))) (l_is_line : K.lookup f_is_line = some ⟨oc_is_line, od_is_line, .func (PySem.W.fnOf ("is_line" : Str) ("is_line" : Str) (defArgs s_is_line) (defBody s_is_line) (defScope s_is_line) .none kV_is_line dc_is_line pm_is_line an_is_line cd_is_line ct_is_line), sl_is_line⟩) (c_is_line : PySem.W.codeIn K cd_is_line ("is_line" : Str) = true) (k_is_line : PySem.W.keepIn K (.ref f_is_line) = true)
    (a_numbered : PySem.W.nsIn K mainGlobals ("numbered" : Str) = some (some (.ref f_numbered))) (l_numbered : K.lookup f_numbered = some ⟨oc_numbered, od_numbered, .func (PySem.W.fnOf ("numbered" : Str) ("numbered" : Str) (defArgs s_numbered) (defBody s_numbered) (defScope s_numbered) .none kV_numbered dc_numbered pm_numbered an_numbered cd_numbered ct_numbered), sl_numbered⟩) (c_numbered : PySem.W.codeIn K cd_numbered ("numbered" : Str) = true) (k_numbered : PySem.W.keepIn K (.ref f_numbered) = true)
    (a__law_box : PySem.W.nsIn K mainGlobals ("_law_box" : Str) = some (some (.ref f__law_box))) (l__law_box : K.lookup f__law_box = some ⟨oc__law_box, od__law_box, .func (PySem.W.fnOf ("_law_box" : Str) ("_law_box" : Str) (defArgs s__law_box) (defBody s__law_box) (defScope s__law_box) .none kV__law_box dc__law_box pm__law_box an__law_box cd__law_box ct__law_box), sl__law_box⟩) (c__law_box : PySem.W.codeIn K cd__law_box ("_law_box" : Str) = true) (k__law_box : PySem.W.keepIn K (.ref f__law_box) = true)
    (a__law_take : PySem.W.nsIn K mainGlobals ("_law_take" : Str) = some (some (.ref f__law_take))) (l__law_take : K.lookup f__law_take = some ⟨oc__law_take, od__law_take, .func (PySem.W.fnOf ("_law_take" : Str) ("_law_take" : Str) (defArgs s__law_take) (defBody s__law_take) (defScope s__law_take) .none kV__law_take dc__law_take pm__law_take an__law_take cd__law_take ct__law_take), sl__law_take⟩) (c__law_take : PySem.W.codeIn K cd__law_take ("_law_take" : Str) = true) (k__law_take : PySem.W.keepIn K (.ref f__law_take) = true)
    (a__law_cells : PySem.W.nsIn K mainGlobals ("_law_cells" : Str) = some (some (.ref f__law_cells))) (l__law_cells : K.lookup f__law_cells = some ⟨oc__law_cells, od__law_cells, .func (PySem.W.fnOf ("_law_cells" : Str) ("_law_cells" : Str) (defArgs s__law_cells) (defBody s__law_cells) (defScope s__law_cells) .none kV__law_cells dc__law_cells pm__law_cells an__law_cells cd__law_cells ct__law_cells), sl__law_cells⟩) (c__law_cells : PySem.W.codeIn K cd__law_cells ("_law_cells" : Str) = true) (k__law_cells : PySem.W.keepIn K (.ref f__law_cells) = true)
    (a__law_of : PySem.W.nsIn K mainGlobals ("_law_of" : Str) = some (some (.ref f__law_of))) (l__law_of : K.lookup f__law_of = some ⟨oc__law_of, od__law_of, .func (PySem.W.fnOf ("_law_of" : Str) ("_law_of" : Str) (defArgs s__law_of) (defBody s__law_of) (defScope s__law_of) .none kV__law_of dc__law_of pm__law_of an__law_of cd__law_of ct__law_of), sl__law_of⟩) (c__law_of : PySem.W.codeIn K cd__law_of ("_law_of" : Str) = true) (k__law_of : PySem.W.keepIn K (.ref f__law_of) = true)
    (a__law_same : PySem.W.nsIn K mainGlobals ("_law_same" : Str) = some (some (.ref f__law_same))) (l__law_same : K.lookup f__law_same = some ⟨oc__law_same, od__law_same, .func (PySem.W.fnOf ("_law_same" : Str) ("_law_same" : Str) (defArgs s__law_same) (defBody s__law_same) (defScope s__law_same) .none kV__law_same dc__law_same pm__law_same an__law_same cd__law_same ct__law_same), sl__law_same⟩) (c__law_same : PySem.W.codeIn K cd__law_same ("_law_same" : Str) = true) (k__law_same : PySem.W.keepIn K (.ref f__law_same) = true)
    (a__law_tags : PySem.W.nsIn K mainGlobals ("_law_tags" : Str) = some (some (.ref f__law_tags))) (l__law_tags : K.lookup f__law_tags = some ⟨oc__law_tags, od__law_tags, .func (PySem.W.fnOf ("_law_tags" : Str) ("_law_tags" : Str) (defArgs s__law_tags) (defBody s__law_tags) (defScope s__law_tags) .none kV__law_tags dc__law_tags pm__law_tags an__law_tags cd__law_tags ct__law_tags), sl__law_tags⟩) (c__law_tags : PySem.W.codeIn K cd__law_tags ("_law_tags" : Str) = true) (k__law_tags : PySem.W.keepIn K (.ref f__law_tags) = true)
    (a__law_by_hand_right : PySem.W.nsIn K mainGlobals ("_law_by_hand_right" : Str) = some (some (.ref f__law_by_hand_right))) (l__law_by_hand_right : K.lookup f__law_by_hand_right = some ⟨oc__law_by_hand_right, od__law_by_hand_right, .func (PySem.W.fnOf ("_law_by_hand_right" : Str) ("_law_by_hand_right" : Str) (defArgs s__law_by_hand_right) (defBody s__law_by_hand_right) (defScope s__law_by_hand_right) .none kV__law_by_hand_right dc__law_by_hand_right pm__law_by_hand_right an__law_by_hand_right cd__law_by_hand_right ct__law_by_hand_right), sl__law_by_hand_right⟩) (c__law_by_hand_right : PySem.W.codeIn K cd__law_by_hand_right ("_law_by_hand_right" : Str) = true) (k__law_by_hand_right : PySem.W.keepIn K (.ref f__law_by_hand_right) = true)
    (a__law_right : PySem.W.nsIn K mainGlobals ("_law_right" : Str) = some (some (.ref f__law_right))) (l__law_right : K.lookup f__law_right = some ⟨oc__law_right, od__law_right, .func (PySem.W.fnOf ("_law_right" : Str) ("_law_right" : Str) (defArgs s__law_right) (defBody s__law_right) (defScope s__law_right) .none kV__law_right dc__law_right pm__law_right an__law_right cd__law_right ct__law_right), sl__law_right⟩) (c__law_right : PySem.W.codeIn K cd__law_right ("_law_right" : Str) = true) (k__law_right : PySem.W.keepIn K (.ref f__law_right) = true)
    (a_law : PySem.W.nsIn K mainGlobals ("law" : Str) = some (some (.ref f_law))) (l_law : K.lookup f_law = some ⟨oc_law, od_law, .func (PySem.W.fnOf ("law" : Str) ("law" : Str) (defArgs s_law) (defBody s_law) (defScope s_law) .none kV_law dc_law pm_law an_law cd_law ct_law), sl_law⟩) (c_law : PySem.W.codeIn K cd_law ("law" : Str) = true) (k_law : PySem.W.keepIn K (.ref f_law) = true)
    {C f_i Tt e0 : Addr} {od_i an_i odT : Option Addr} {sl_i slT : Array (Option Value)} {oc_i kV_i dc_i pm_i cd_i ct_i ocT : Value} {nT : Nat}
    (a_C : PySem.W.nsIn K mainGlobals ("Program" : Str) = some (some (.ref C))) (a_i : PySem.W.findIn K (.ref C) "__init__" = some (some (.ref f_i))) (i_i : PySem.W.isFn K (.ref f_i) = true) (l_i : K.lookup f_i = some ⟨oc_i, od_i, .func (PySem.W.fnOf "__init__" "Program.__init__" (defArgs s_init) (defBody s_init) (defScope s_init) (.ref Tt) kV_i dc_i pm_i an_i cd_i ct_i), sl_i⟩) (c_i : PySem.W.codeIn K cd_i "Program.__init__" = true) (k_i : PySem.W.keepIn K (.ref f_i) = true) (l_T : K.lookup Tt = some ⟨ocT, odT, .seq #[.ref e0] nT, slT⟩)
    (pg : PySem.W.plainGet K C Str.empty = true) (hd : PySem.W.hasDictIn K C = true) (po : PySem.W.plainOver K C = true) (sa : PySem.W.findIn K (.ref C) "__setattr__" = some (some (.builtin "object.__setattr__"))) (mk : PySem.W.makesIn K C = true) (kc : PySem.W.keepIn K (.ref C) = true)
    (n_1 : PySem.W.findIn K (.ref C) "_deeds" = some none) (n_2 : PySem.W.findIn K (.ref C) "_writes" = some none) (n_3 : PySem.W.findIn K (.ref C) "_lines" = some none)
    (ha : PySem.W.findIn K (.ref C) "__class__" = some (some (.builtin "object.__class__"))) (hn : PySem.W.specialIn K (.builtin "object.__class__") "__get__" = some (some (.builtin "getset_descriptor.__get__"))) (htk : PySem.W.takesIn K (.builtin "object.__class__") = some true) (hm : PySem.W.mroIn K C (.type "object") = some true)
    (q_str : PySem.W.subIn K (.ref C) (.type "str") = some false)
    (q_int : PySem.W.subIn K (.ref C) (.type "int") = some false)
    (q_bool : PySem.W.subIn K (.ref C) (.type "bool") = some false)
    (q_list : PySem.W.subIn K (.ref C) (.type "list") = some false)
    (q_tuple : PySem.W.subIn K (.ref C) (.type "tuple") = some false)
    {t_FLUSH t_LETTERS t_WRITE : Tok}
    (g_FLUSH : PySem.W.nsIn K mainGlobals ("FLUSH" : Str) = some (some (.str ("flush" : Str) t_FLUSH)))
    (g_LETTERS : PySem.W.nsIn K mainGlobals ("LETTERS" : Str) = some (some (.str ("abcdefghijklmnopqrstuvwxyz" : Str) t_LETTERS)))
    (g_WRITE : PySem.W.nsIn K mainGlobals ("WRITE" : Str) = some (some (.str ("write" : Str) t_WRITE)))
    (z_abs : PySem.W.nsIn K mainGlobals ("abs" : Str) = some none)
    (z_all : PySem.W.nsIn K mainGlobals ("all" : Str) = some none)
    (z_bool : PySem.W.nsIn K mainGlobals ("bool" : Str) = some none)
    (z_enumerate : PySem.W.nsIn K mainGlobals ("enumerate" : Str) = some none)
    (z_int : PySem.W.nsIn K mainGlobals ("int" : Str) = some none)
    (z_isinstance : PySem.W.nsIn K mainGlobals ("isinstance" : Str) = some none)
    (z_len : PySem.W.nsIn K mainGlobals ("len" : Str) = some none)
    (z_list : PySem.W.nsIn K mainGlobals ("list" : Str) = some none)
    (z_max : PySem.W.nsIn K mainGlobals ("max" : Str) = some none)
    (z_range : PySem.W.nsIn K mainGlobals ("range" : Str) = some none)
    (z_sorted : PySem.W.nsIn K mainGlobals ("sorted" : Str) = some none)
    (z_str : PySem.W.nsIn K mainGlobals ("str" : Str) = some none)
    (z_tuple : PySem.W.nsIn K mainGlobals ("tuple" : Str) = some none)
    (z_zip : PySem.W.nsIn K mainGlobals ("zip" : Str) = some none)
    : ∃ fd : FuncData, (∀ (s : Shared) (v : Value), BindsTo s fd ⟨[v], []⟩ [("_law_script", v)]) ∧ ∀ base : Heap, K.In base → base.Ns mainGlobals mg → FnOk l.prog w K mg base CX0 10 fa fd ["_law_script"] (spLaw K) := by
  have e := hfa.symm.trans (PySem.W.mg_of X G0 a_law)
  cases e
  have T : Tx mg := ⟨PySem.W.mg_none_of X G0 z_abs, PySem.W.mg_none_of X G0 z_all, PySem.W.mg_none_of X G0 z_bool, PySem.W.mg_none_of X G0 z_enumerate, PySem.W.mg_none_of X G0 z_int, PySem.W.mg_none_of X G0 z_isinstance, PySem.W.mg_none_of X G0 z_len, PySem.W.mg_none_of X G0 z_list, PySem.W.mg_none_of X G0 z_max, PySem.W.mg_none_of X G0 z_range, PySem.W.mg_none_of X G0 z_sorted, PySem.W.mg_none_of X G0 z_str, PySem.W.mg_none_of X G0 z_tuple, PySem.W.mg_none_of X G0 z_zip, ⟨_, PySem.W.mg_of X G0 g_FLUSH⟩, ⟨_, PySem.W.mg_of X G0 g_LETTERS⟩, ⟨_, PySem.W.mg_of X G0 g_WRITE⟩⟩
  have F_is_number_ := fun_mk (st := s_is_number) l_is_number c_is_number k_is_number
  have F_is_pair_ := fun_mk (st := s_is_pair) l_is_pair c_is_pair k_is_pair
  have F_tupled_ := fun_mk (st := s_tupled) l_tupled c_tupled k_tupled
  have F_is_name_ := fun_mk (st := s_is_name) l_is_name c_is_name k_is_name
  have F_is_deed_ := fun_mk (st := s_is_deed) l_is_deed c_is_deed k_is_deed
  have F_is_line_ := fun_mk (st := s_is_line) l_is_line c_is_line k_is_line
  have F_numbered_ := fun_mk (st := s_numbered) l_numbered c_numbered k_numbered
  have F__law_box_ := fun_mk (st := s__law_box) l__law_box c__law_box k__law_box
  have F__law_take_ := fun_mk (st := s__law_take) l__law_take c__law_take k__law_take
  have F__law_cells_ := fun_mk (st := s__law_cells) l__law_cells c__law_cells k__law_cells
  have F__law_of_ := fun_mk (st := s__law_of) l__law_of c__law_of k__law_of
  have F__law_same_ := fun_mk (st := s__law_same) l__law_same c__law_same k__law_same
  have F__law_tags_ := fun_mk (st := s__law_tags) l__law_tags c__law_tags k__law_tags
  have F__law_by_hand_right_ := fun_mk (st := s__law_by_hand_right) l__law_by_hand_right c__law_by_hand_right k__law_by_hand_right
  have F__law_right_ := fun_mk (st := s__law_right) l__law_right c__law_right k__law_right
  have F_law_ := fun_mk (st := s_law) l_law c_law k_law
  have b_is_number := F_is_number_.binds (ps := [("thing" : Str)]) fun _ _ _ _ _ _ us hl => match us, hl with | [_], _ => rfl
  have b_is_pair := F_is_pair_.binds (ps := [("thing" : Str)]) fun _ _ _ _ _ _ us hl => match us, hl with | [_], _ => rfl
  have b_tupled := F_tupled_.binds (ps := [("worth" : Str)]) fun _ _ _ _ _ _ us hl => match us, hl with | [_], _ => rfl
  have b_is_name := F_is_name_.binds (ps := [("thing" : Str)]) fun _ _ _ _ _ _ us hl => match us, hl with | [_], _ => rfl
  have b_is_deed := F_is_deed_.binds (ps := [("thing" : Str)]) fun _ _ _ _ _ _ us hl => match us, hl with | [_], _ => rfl
  have b_is_line := F_is_line_.binds (ps := [("thing" : Str)]) fun _ _ _ _ _ _ us hl => match us, hl with | [_], _ => rfl
  have b_numbered := F_numbered_.binds (ps := [("writes" : Str)]) fun _ _ _ _ _ _ us hl => match us, hl with | [_], _ => rfl
  have b__law_box := F__law_box_.binds (ps := [("_law_script" : Str), ("_law_k" : Str)]) fun _ _ _ _ _ _ us hl => match us, hl with | [_, _], _ => rfl
  have b__law_take := F__law_take_.binds (ps := [("_law_urn" : Str), ("_law_low_so" : Str)]) fun _ _ _ _ _ _ us hl => match us, hl with | [_, _], _ => rfl
  have b__law_cells := F__law_cells_.binds (ps := [("_law_script" : Str), ("_law_top" : Str)]) fun _ _ _ _ _ _ us hl => match us, hl with | [_, _], _ => rfl
  have b__law_of := F__law_of_.binds (ps := [("_law_urn" : Str), ("_law_some_so" : Str)]) fun _ _ _ _ _ _ us hl => match us, hl with | [_, _], _ => rfl
  have b__law_same := F__law_same_.binds (ps := [("_law_got" : Str), ("_law_goal" : Str)]) fun _ _ _ _ _ _ us hl => match us, hl with | [_, _], _ => rfl
  have b__law_tags := F__law_tags_.binds (ps := [("_law_urn" : Str), ("_law_many_so" : Str)]) fun _ _ _ _ _ _ us hl => match us, hl with | [_, _], _ => rfl
  have b__law_by_hand_right := F__law_by_hand_right_.binds (ps := []) fun _ _ _ _ _ _ us hl => match us, hl with | [], _ => rfl
  have b__law_right := F__law_right_.binds (ps := [("_law_urn" : Str)]) fun _ _ _ _ _ _ us hl => match us, hl with | [_], _ => rfl
  have cl : Cls K C := ⟨pg, hd, po, sa⟩
  have IO : InsOk K C := ⟨cl, ha, hn, htk, hm, kit_sub q_str (by decide +kernel), kit_sub q_int (by decide +kernel), kit_sub q_bool (by decide +kernel), kit_sub q_list (by decide +kernel), kit_sub q_tuple (by decide +kernel)⟩
  let G : Gx K := ⟨fun c => if c = ("Program" : Str) then some C else none, fun c C2 h2 => by
    split at h2
    · cases h2; exact IO
    · cases h2⟩
  have hGC : G.cls ("Program" : Str) = some C := by
    show (if (("Program" : Str) = ("Program" : Str)) then some C else none) = some C
    exact if_pos rfl
  have TIx : TI K mg C := ⟨cl, n_1, n_2, n_3⟩
  have FI : FunD K ("__init__" : Str) ("Program.__init__" : Str) (defArgs s_init) (defBody s_init) (defScope s_init) [.ref e0] [] f_i _ := ⟨⟨oc_i, od_i, .ref Tt, kV_i, dc_i, pm_i, an_i, cd_i, ct_i, sl_i, rfl, l_i, c_i, .inr ⟨List.cons_ne_nil _ _, Tt, _, [.ref e0], nT, rfl, l_T, rfl, .cons rfl .nil⟩, .inl rfl⟩, k_i⟩
  obtain ⟨dsI, vI, bI⟩ := FI.binds1 (ps := [("self" : Str), ("deeds" : Str)]) 2 1 (List.cons_ne_nil _ _) rfl (fun _ _ _ _ _ _ _ us its hu hi => match us, its, hu, hi with | [_, _], [_], _, _ => ⟨_, rfl, rfl⟩)
  cases vI
  refine ⟨PySem.W.fnOf "law" "law" (defArgs s_law) (defBody s_law) (defScope s_law) .none kV_law dc_law pm_law an_law cd_law ct_law, fun s v => .of_eq rfl, fun base _ _ => ?_⟩
  have mgo : ∀ {x : Str} {f : Addr}, PySem.W.nsIn K mainGlobals x = some (some (.ref f)) → mg x = some (.ref f) := fun h => PySem.W.mg_of X G0 h
  have D_is_number : DefOk l.prog w mg base G "is_number" 1 1 F_is_number := ⟨_, _, _, ok_is_number T F_is_number_, mgo a_is_number, k_is_number, b_is_number⟩
  have D_is_pair : DefOk l.prog w mg base G "is_pair" 1 1 F_is_pair := ⟨_, _, _, ok_is_pair T F_is_pair_, mgo a_is_pair, k_is_pair, b_is_pair⟩
  have D_is_name : DefOk l.prog w mg base G "is_name" 1 1 F_is_name := ⟨_, _, _, ok_is_name T F_is_name_, mgo a_is_name, k_is_name, b_is_name⟩
  have D_is_deed : DefOk l.prog w mg base G "is_deed" 2 1 F_is_deed := ⟨_, _, _, ok_is_deed T F_is_deed_ D_is_name D_is_pair, mgo a_is_deed, k_is_deed, b_is_deed⟩
  have D_is_line : DefOk l.prog w mg base G "is_line" 2 1 F_is_line := ⟨_, _, _, ok_is_line T F_is_line_ D_is_name D_is_number D_is_pair, mgo a_is_line, k_is_line, b_is_line⟩
  have D__law_box : DefOk l.prog w mg base G "_law_box" 1 2 F__law_box := ⟨_, _, _, ok__law_box T F__law_box_, mgo a__law_box, k__law_box, b__law_box⟩
  have D__law_take : DefOk l.prog w mg base G "_law_take" 1 2 F__law_take := ⟨_, _, _, ok__law_take T F__law_take_, mgo a__law_take, k__law_take, b__law_take⟩
  have D__law_of : DefOk l.prog w mg base G "_law_of" 2 2 F__law_of := ⟨_, _, _, ok__law_of T F__law_of_ D__law_take, mgo a__law_of, k__law_of, b__law_of⟩
  have D__law_same : DefOk l.prog w mg base G "_law_same" 6 2 (FR__law_same 6) := ⟨_, _, _, okR__law_same T F__law_same_ (mgo a__law_same) b__law_same 6, mgo a__law_same, k__law_same, b__law_same⟩
  have D__law_tags : DefOk l.prog w mg base G "_law_tags" 3 2 F__law_tags := ⟨_, _, _, ok__law_tags T F__law_tags_ D__law_of D__law_take, mgo a__law_tags, k__law_tags, b__law_tags⟩
  have D_tupled : DefOk l.prog w mg base G "tupled" 6 1 (FR_tupled 6) := ⟨_, _, _, okR_tupled T F_tupled_ (mgo a_tupled) b_tupled 6, mgo a_tupled, k_tupled, b_tupled⟩
  have D_numbered : DefOk l.prog w mg base G "numbered" 1 1 F_numbered := ⟨_, _, _, ok_numbered T F_numbered_, mgo a_numbered, k_numbered, b_numbered⟩
  have M_Program : MakeOk l.prog w mg base G "Program" 7 1 F_Program := make_ok ⟨mk, a_i, i_i, kc⟩ (ok_init T TIx FI D_tupled D_numbered) (mgo a_C) bI hGC
  have K_is_name : DefK l.prog w mg base G "is_name" [("thing" : Str)] 1 F_is_name := ⟨_, _, ok_is_name T F_is_name_, mgo a_is_name, k_is_name, fun s ws _ hl => match ws, hl with | [_], _ => .of_eq rfl⟩
  have K_is_deed : DefK l.prog w mg base G "is_deed" [("thing" : Str)] 2 F_is_deed := ⟨_, _, ok_is_deed T F_is_deed_ D_is_name D_is_pair, mgo a_is_deed, k_is_deed, fun s ws _ hl => match ws, hl with | [_], _ => .of_eq rfl⟩
  have K_is_line : DefK l.prog w mg base G "is_line" [("thing" : Str)] 2 F_is_line := ⟨_, _, ok_is_line T F_is_line_ D_is_name D_is_number D_is_pair, mgo a_is_line, k_is_line, fun s ws _ hl => match ws, hl with | [_], _ => .of_eq rfl⟩
  have D_hand : DefOk l.prog w mg base G "_law_by_hand_right" 9 0 F__law_by_hand_right := ⟨_, _, _, ok__law_by_hand_right T F__law_by_hand_right_ M_Program D__law_same D_is_deed D_is_line D_is_name K_is_deed K_is_line K_is_name, mgo a__law_by_hand_right, k__law_by_hand_right, b__law_by_hand_right⟩
  have D__law_right : DefOk l.prog w mg base G "_law_right" 7 1 F__law_right := ⟨_, _, _, ok__law_right T F__law_right_ D__law_of D__law_same D__law_tags D__law_take D_is_deed D_is_line D_is_name, mgo a__law_right, k__law_right, b__law_right⟩
  exact ok_law T F_law_ (ok__law_cells F__law_cells_ T.n_list T.n_enumerate T.n_int) (mgo a__law_cells) k__law_cells b__law_cells D_hand (D__law_right.mono (by decide)) (D__law_box.mono (by decide))
end Lw00
open PySem PySem.W PyProof.Rows
set_option maxHeartbeats 0 in
theorem PySem.Challenge.cw_lateshown_k00_names_deeds_and_lines_holds : PySem.Challenge.rw_lateshown_k00_names_deeds_and_lines.Holds := by
  w_on; o_law; k_head; (case hw => w_witness2)
  k_fill
  refine L2.walk_of (l := PySem.Challenge.rw_lateshown_k00_names_deeds_and_lines) (n := 63) (k := 10) (x := "_law_script") (CX := fun _ => L2.CX0) (sp := fun w => Lw00.spLaw _) rfl (by decide) rfl ⟨rfl, by decide, by decide⟩ (fun w h Y => PySem.W.kIn_of Y) ?F (fun _ _ a ns hl _ hS => ⟨a, ns, rfl, hS, hl, fun _ => rfl⟩) (fun _ _ _ _ _ h => h)
  case F =>
    intro w mg fa h KX G hmg
    refine' Lw00.all_mk KX G hmg ?a_is_number ?l_is_number ?c_is_number ?k_is_number ?a_is_pair ?l_is_pair ?c_is_pair ?k_is_pair ?a_tupled ?l_tupled ?c_tupled ?k_tupled ?a_is_name ?l_is_name ?c_is_name ?k_is_name ?a_is_deed ?l_is_deed ?c_is_deed ?k_is_deed ?a_is_line ?l_is_line ?c_is_line ?k_is_line ?a_numbered ?l_numbered ?c_numbered ?k_numbered ?a__law_box ?l__law_box ?c__law_box ?k__law_box ?a__law_take ?l__law_take ?c__law_take ?k__law_take ?a__law_cells ?l__law_cells ?c__law_cells ?k__law_cells ?a__law_of ?l__law_of ?c__law_of ?k__law_of ?a__law_same ?l__law_same ?c__law_same ?k__law_same ?a__law_tags ?l__law_tags ?c__law_tags ?k__law_tags ?a__law_by_hand_right ?l__law_by_hand_right ?c__law_by_hand_right ?k__law_by_hand_right ?a__law_right ?l__law_right ?c__law_right ?k__law_right ?a_law ?l_law ?c_law ?k_law ?a_C ?a_i ?i_i ?l_i ?c_i ?k_i ?l_T ?pg ?hd ?po ?sa ?mk ?kc ?n_1 ?n_2 ?n_3 ?ha ?hn ?htk ?hm ?q_str ?q_int ?q_bool ?q_list ?q_tuple ?g_FLUSH ?g_LETTERS ?g_WRITE ?z_abs ?z_all ?z_bool ?z_enumerate ?z_int ?z_isinstance ?z_len ?z_list ?z_max ?z_range ?z_sorted ?z_str ?z_tuple ?z_zip
    (case a_is_number => k_is)
    (case l_is_number => k_is)
    (case c_is_number => k_is)
    (case k_is_number => k_is)
    (case a_is_pair => k_is)
    (case l_is_pair => k_is)
    (case c_is_pair => k_is)
    (case k_is_pair => k_is)
    (case a_tupled => k_is)
    (case l_tupled => k_is)
    (case c_tupled => k_is)
    (case k_tupled => k_is)
    (case a_is_name => k_is)
    (case l_is_name => k_is)
    (case c_is_name => k_is)
    (case k_is_name => k_is)
    (case a_is_deed => k_is)
    (case l_is_deed => k_is)
    (case c_is_deed => k_is)
    (case k_is_deed => k_is)
    (case a_is_line => k_is)
    (case l_is_line => k_is)
    (case c_is_line => k_is)
    (case k_is_line => k_is)
    (case a_numbered => k_is)
    (case l_numbered => k_is)
    (case c_numbered => k_is)
    (case k_numbered => k_is)
    (case a__law_box => k_is)
    (case l__law_box => k_is)
    (case c__law_box => k_is)
    (case k__law_box => k_is)
    (case a__law_take => k_is)
    (case l__law_take => k_is)
    (case c__law_take => k_is)
    (case k__law_take => k_is)
    (case a__law_cells => k_is)
    (case l__law_cells => k_is)
    (case c__law_cells => k_is)
    (case k__law_cells => k_is)
    (case a__law_of => k_is)
    (case l__law_of => k_is)
    (case c__law_of => k_is)
    (case k__law_of => k_is)
    (case a__law_same => k_is)
    (case l__law_same => k_is)
    (case c__law_same => k_is)
    (case k__law_same => k_is)
    (case a__law_tags => k_is)
    (case l__law_tags => k_is)
    (case c__law_tags => k_is)
    (case k__law_tags => k_is)
    (case a__law_by_hand_right => k_is)
    (case l__law_by_hand_right => k_is)
    (case c__law_by_hand_right => k_is)
    (case k__law_by_hand_right => k_is)
    (case a__law_right => k_is)
    (case l__law_right => k_is)
    (case c__law_right => k_is)
    (case k__law_right => k_is)
    (case a_law => k_is)
    (case l_law => k_is)
    (case c_law => k_is)
    (case k_law => k_is)
    (case a_C => k_is)
    (case a_i => k_is)
    (case i_i => k_is)
    (case l_i => k_is)
    (case c_i => k_is)
    (case k_i => k_is)
    (case l_T => k_is)
    (case pg => k_is)
    (case hd => k_is)
    (case po => k_is)
    (case sa => k_is)
    (case mk => k_is)
    (case kc => k_is)
    (case n_1 => k_is)
    (case n_2 => k_is)
    (case n_3 => k_is)
    (case ha => k_is)
    (case hn => k_is)
    (case htk => k_is)
    (case hm => k_is)
    (case q_str => k_is)
    (case q_int => k_is)
    (case q_bool => k_is)
    (case q_list => k_is)
    (case q_tuple => k_is)
    (case g_FLUSH => k_is)
    (case g_LETTERS => k_is)
    (case g_WRITE => k_is)
    (case z_abs => k_is)
    (case z_all => k_is)
    (case z_bool => k_is)
    (case z_enumerate => k_is)
    (case z_int => k_is)
    (case z_isinstance => k_is)
    (case z_len => k_is)
    (case z_list => k_is)
    (case z_max => k_is)
    (case z_range => k_is)
    (case z_sorted => k_is)
    (case z_str => k_is)
    (case z_tuple => k_is)
    (case z_zip => k_is)
