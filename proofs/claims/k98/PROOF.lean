import PyProof.Rows.All
import Wide.All
import OpenK.AllK
import Wide.FinOn
import HandS.ForMost
import HandS.Flow
import HandS.IsInst
import HandS.Deep
import HandS.TupAny
import HandS.TupMul
import HandS.Zip
import HandS.Wide
import HandS.ForExc
import HandS.ExcInit
import HandS.ExcIs
import HandS.ExcField
import KE.KExcInit
import HandS.Dict
import KE.KeyNested
import HandS.Defaults
import HandS.Property
import OpenK.KMeth
import OpenK.KOps
import PyProof.InstNe
import HandS.OwnEq
import HandS.Iter
import KE.SortData
import HandS.SetFor
import HandS.Strs
import HandS.SortInts
import HandS.Sort
import KE.GoesMore
import HandS.Words
import HandS.WordsExc
import HandS.Style
import HandS.MakeKwOnly
import HandS.StrMore
import PyProof.StrOps2
import HandS.TryOnly
import HandS.DictComp
import HandS.Text
import HandS.DictTup
import HandS.ExcOwn
import HandS.WordsDict
import HandS.Call
import HandS.FStr
import HandS.Star
import HandS.Conv
import HandS.More
import HandS.TupSets
import HandS.SetBool
import KE.KDictPairs
import HandS.Flt
import PySem.Challenge.RW_lateshown_k98_whole_great_programs_one_b
set_option Elab.async false
set_option linter.all false
set_option maxRecDepth 100000
set_option maxHeartbeats 8000000
namespace Dv
open PySem PySem.Spec PyProof.Rows L2
section
variable {X : Cx} {pins : List (Addr × Obj)} {σ : L2.St} {H : Hp} {s : Shared} {Q : VK}
/-- what a new tuple is asked for -/
def Tp (H : Hp) (xs : List V) (Q : VK) : Prop := ∀ (p : Addr) (o : Obj), H p = none → o.dict = none → Q (.ref p) (upd H p (.frz o (.tup xs)))
theorem tup_laid {its : List Value} {xs : List V} (I : Inv X pins σ H s) (r : Vals xs its) (z : xs.length ≤ sizeLine) (q : Tp H xs Q) : EP X pins σ Q (.ref s.heap.objs.size) { s with heap := s.heap.push { cls := .type "tuple", data := .seq its.toArray } } := by
  have hf : H s.heap.objs.size = none := I.hok.fresh (Nat.le_refl _)
  have new : ObjOk X.prog X.w (upd H s.heap.objs.size (.frz { cls := .type "tuple", data := .seq its.toArray } (.tup xs))) (s.heap.push { cls := .type "tuple", data := .seq its.toArray }) s.heap.objs.size (.frz { cls := .type "tuple", data := .seq its.toArray } (.tup xs)) :=
    ⟨Heap.get?_push_size _ rfl, z, its, r, IsTup.new _ _⟩
  exact ⟨.ref s.heap.objs.size, _, I.laid (t' := s.toks) (fun b u e => Heap.get?_push_of_some _ e) (Nat.le_refl _) new, rfl, q _ _ hf rfl⟩
end
section
variable {X : Cx} {es : List Expr} {t : TA} {pos : Pos}
def tTupF (t : TA) : TE := fun σ H Q => t σ H fun xs H1 => xs.length ≤ sizeLine ∧ Tp H1 xs Q
theorem pe_tupF {x1} (h : PA X es t) : PE X (.Tuple es x1 pos) (tTupF t) :=
  ⟨fun pins s σ H Q I hq => wpAny_Tuple_spliced (thn (h.run pos pins s σ H _ I hq) fun us s1 ⟨xs, H1, I1, r, z, q⟩ => ⟨by rw [← r.length]; exact z, tup_laid I1 r z q⟩)⟩
theorem call_tupF : CallR X (.type "tuple") (fun xs H Q => ∃ p ys, xs = [.ref p] ∧ ((SqL X.K H p ys ∧ Tp H ys Q) ∨ (SqT X.K H p ys ∧ Q (.ref p) H))) := by
  intro pins s σ H xs us Q I r h
  obtain ⟨p, ys, rfl, h⟩ := h
  obtain ⟨u, rfl, rx⟩ := vals1 r
  cases rx
  rcases h with ⟨hq, q⟩ | ⟨hq, q⟩
  · obtain ⟨its, rv, pl, hz⟩ := I.list hq
    have e := rv.length
    refine call_tuple_list pl.isList (fun h' kp => ?_) (by rw [List.size_toArray]; omega)
    have I1 : Inv X pins σ H { s with heap := h' } := I.kept (t' := s.toks) kp
    exact tup_laid I1 rv hz q
  · obtain ⟨its, _, pl, _⟩ := I.tuple hq
    exact call_tuple_same pl ⟨.ref p, H, I, rfl, q⟩
/-- t + u -/
def rCatF (K : PySem.W.Frag) : R2 := fun x y H Q => ∃ a b xs ys, x = .ref a ∧ y = .ref b ∧ SqT K H a xs ∧ SqT K H b ys ∧ xs.length + ys.length ≤ sizeLine ∧
  (xs = [] → Q (.ref b) H) ∧ (xs ≠ [] → ys = [] → Q (.ref a) H) ∧ (xs ≠ [] → ys ≠ [] → Tp H (xs ++ ys) Q)
theorem op_catF : OpR X (binaryOp .Add) (rCatF X.K) := by
  intro pins s σ H x y v u Q I rx ry h
  obtain ⟨a, b, xs, ys, rfl, rfl, ha, hb, hz, q0, q1, q2⟩ := h
  by_cases hx : xs = []
  · exact op_catA pins s σ H _ _ v u Q I rx ry ⟨a, b, xs, ys, rfl, rfl, ha, hb, hz, q0, q1, fun z => (z hx).elim⟩
  · cases rx
    cases ry
    obtain ⟨its, r1, p1, _⟩ := I.tuple ha
    obtain ⟨its2, r2, p2, _⟩ := I.tuple hb
    exact HT.cat_tup p1 p2 (fun z => hx (r1.nil_iff.mp z)) (fun z => ⟨.ref a, H, I, rfl, q1 hx (r2.nil_iff.mp z)⟩)
      (fun z => tup_laid I (r1.append r2) (by rw [List.length_append]; exact hz) (q2 hx fun w => z (r2.nil_iff.mpr w))) (by rw [← r1.length, ← r2.length]; exact hz)
/-- t[lo:hi] -/
def rSlF (K : PySem.W.Frag) : V → Option Int → Option Int → Hp → VK → Prop := fun x lo hi H Q => ∃ a xs, x = .ref a ∧ SqT K H a xs ∧
  (HT.sIx xs.length 0 lo = 0 ∧ HT.sIx xs.length xs.length hi = xs.length → Q (.ref a) H) ∧ (¬ (HT.sIx xs.length 0 lo = 0 ∧ HT.sIx xs.length xs.length hi = xs.length) → Tp H (cutV xs lo hi) Q)
theorem sl_tupF : SlR X (rSlF X.K) := by
  intro pins s σ H x v vl vu lo hi sl Q I rx hs pl pu h
  obtain ⟨a, xs, rfl, hx, q1, q2⟩ := h
  by_cases hw : HT.sIx xs.length 0 lo = 0 ∧ HT.sIx xs.length xs.length hi = xs.length
  · exact sl_tupA pins s σ H _ v vl vu lo hi sl Q I rx hs pl pu ⟨a, xs, rfl, hx, q1, fun z => (z hw).elim⟩
  · cases rx
    obtain ⟨its, r, ht, hz⟩ := I.tuple hx
    have e : its.toArray.size = xs.length := by rw [List.size_toArray]; exact r.length.symm
    refine ⟨"tuple", _, PyProof.Rows.slot_tuple_getitem.lookup, ht.typeIs, HT.getItem_tuple_cut ht hs pl pu (by rw [e]; exact hw) ?_ (by rw [e]; exact hz)⟩
    rw [e]
    exact tup_laid I ((r.drop (HT.sIx xs.length 0 lo)).take (HT.sIx xs.length xs.length hi - HT.sIx xs.length 0 lo)) (Nat.le_trans (cutV_length xs lo hi) hz) (q2 hw)
end
end Dv
namespace Dv
open PySem PySem.Spec PyProof.Rows L2
structure OxC (K : PySem.W.Frag) (C : Addr) (B newId initId : String) (bmB : List Value) : Prop where
  fb : ExcBaseFacts B newId initId bmB
  sf : StoreFacts B bmB "object.__setattr__" "object"
  row : ∃ nm q N bs sn sub ab col dd k0 k1 k2 k3 k5, K.lookup C = some (excClassObj nm q C N bs bmB true sn sub ab col dd k0 k1 k2 k3 k5 newId)
  put : PySem.W.findIn K (.ref C) "__setattr__" = some (some (.builtin "object.__setattr__"))
  isE : PySem.W.subIn K (.ref C) (.type "BaseException") = some true
  isT : PySem.W.typeIn K (.ref C) = some (.type "type")
  kp : PySem.W.keepIn K (.ref C) = true
end Dv
namespace Dv
open PySem PySem.Spec PyProof.Rows L2
/-- a caught error at a, its class, its dict -/
def Hx (a C : Addr) (d : Option Addr) : HO := .ext fun h => ∃ (oe : Obj) (vs : Array Value), h.get? a = some oe ∧ Zc (.ref C) d oe ∧ oe.data = .fields vs
end Dv
namespace Dv
open PySem PySem.Spec PyProof.Rows L2
/-- plain data; urn is the one mutable thing (three numbers), known by its place -/
inductive D where
  | non | bl (b : Bool) | int (i : Int) | str (x : Str) | lst (xs : List D) | tup (xs : List D) | pr (xs : List D) | ins (c : Str) (ns : List Str) (xs : List D) | exc (c : Str) (ns : List Str) (xs : List D) | fn (x : Str) | dct (ks : List Key) (xs : List D) | dtt (ks : List (List Key)) (xs : List D) | dtn (ks : List NestedKey) (xs : List D) | urn
structure U where
  a : Int
  b : Int
  c : Int
/-- what is fixed through a law -/
structure InsOk (K : PySem.W.Frag) (C : Addr) : Prop where
  cl : Cls K C
  ha : PySem.W.findIn K (.ref C) "__class__" = some (some (.builtin "object.__class__"))
  hn : PySem.W.specialIn K (.builtin "object.__class__") "__get__" = some (some (.builtin "getset_descriptor.__get__"))
  htk : PySem.W.takesIn K (.builtin "object.__class__") = some true
  hm : PySem.W.mroIn K C (.type "object") = some true
  kStr : PySem.W.kitOne K (.ref C) (.type "str") = some false
  kInt : PySem.W.kitOne K (.ref C) (.type "int") = some false
  kBool : PySem.W.kitOne K (.ref C) (.type "bool") = some false
  kList : PySem.W.kitOne K (.ref C) (.type "list") = some false
  kTup : PySem.W.kitOne K (.ref C) (.type "tuple") = some false
/-- an own error class that is caught and held -/
structure ErOk (K : PySem.W.Frag) (C : Addr) : Prop where
  isi : ExcC K C
  fld : XfC K C
  hit : PySem.W.exmOne K (.ref C) (.ref C) = some true
structure Gx (K : PySem.W.Frag) where
  cls : Str → Option Addr
  ok : ∀ c C, cls c = some C → InsOk K C
  exc : Str → Option Addr := fun _ => none
  eok : ∀ c C, exc c = some C → ErOk K C := by intro _ _ h; cases h
  fns : Str → Option Addr := fun _ => none
  pw : Option (Program × World) := none
/-- an error's dict: none without fields -/
def ErD (H : Hp) (ns : List Str) (vs : List V) (d : Option Addr) : Prop := ns.length = vs.length ∧ ((ns = [] ∧ d = none) ∨ ∃ dd, d = some dd ∧ H dd = some (.xd (ns.zip vs)))
theorem ErD.mono {H H' : Hp} {ns : List Str} {vs : List V} {d : Option Addr} (h : ErD H ns vs d) (s : Same H H') : ErD H' ns vs d := by
  obtain ⟨h1, h2 | ⟨dd, h2, h3⟩⟩ := h
  · exact ⟨h1, .inl h2⟩
  · exact ⟨h1, .inr ⟨dd, h2, s _ _ h3⟩⟩
/-- a tuple whose object is told: it has no dict -/
def TupB (H : Hp) (a : Addr) (vs : List V) : Prop := ∃ o : Obj, o.dict = none ∧ H a = some (.frz o (.tup vs))
theorem TupB.mono {H H' : Hp} {a : Addr} {vs : List V} (h : TupB H a vs) (s : Same H H') : TupB H' a vs := ⟨h.choose, h.choose_spec.1, s _ _ h.choose_spec.2⟩
theorem TupB.sq {K : PySem.W.Frag} {H : Hp} {a : Addr} {vs : List V} (h : TupB H a vs) : SqT K H a vs := .inl (.inr ⟨h.choose, h.choose_spec.2⟩)
/-- a dict that is shown to all: it stands still from then on -/
def DctB (H : Hp) (a : Addr) (kvs : List (Key × V)) : Prop := ∃ o, H a = some (.frz o (.dK kvs))
theorem DctB.mono {H H' : Hp} {a : Addr} {kvs : List (Key × V)} (h : DctB H a kvs) (s : Same H H') : DctB H' a kvs := by
  obtain ⟨o, h⟩ := h
  exact ⟨o, s _ _ h⟩
/-- the tuples that are told, as tuples -/
def tupH (B : Hp) : Hp := fun b => match B b with
  | some (.frz o (.tup vs)) => if o.dict.isNone = true then some (.tup vs) else none
  | _ => none
theorem tupH_of {B : Hp} {b : Addr} {vs : List V} (h : TupB B b vs) : tupH B b = some (.tup vs) := by
  obtain ⟨o, ho, h⟩ := h
  unfold tupH
  rw [h]
  show (if o.dict.isNone = true then some (HO.tup vs) else none) = _
  rw [ho]; rfl
theorem tupH_to {B : Hp} {b : Addr} {vs : List V} (h : tupH B b = some (.tup vs)) : TupB B b vs := by
  unfold tupH at h
  split at h
  · rename_i o ws hb
    split at h
    · rename_i hd
      cases h
      exact ⟨o, Option.isNone_iff_eq_none.mp hd, hb⟩
    · cases h
  · cases h
theorem tupH_mono {H H' : Hp} (s : Same H H') : ∀ b ys, tupH H b = some (.tup ys) → tupH H' b = some (.tup ys) := fun b ys h => tupH_of ((tupH_to h).mono s)
/-- a dict whose keys are tuples of ints and texts, by its object -/
def DTo (P : Program) (w : World) (a : Addr × Obj) (xs : List (List Key × Addr × Value)) : HO := .ext fun h => xs.length ≤ sizeLine ∧ (a.1 == sysModules) = false ∧ ∃ es ep, h.get? a.1 = some a.2 ∧ a.2.ExactDict ∧ a.2.data = .dict es ep ∧ es.toList = xs.map (entryOfKey (tupleKind (mixKind P w))) ∧ (xs.map (·.1)).Nodup
def DtB {K : PySem.W.Frag} (G : Gx K) (ks : List (List Key)) (vs : List V) (o : HO) (B : Hp) : Prop := ∃ P w a xs, G.pw = some (P, w) ∧ o = DTo P w a xs ∧ KT (tupH B) (ks.zip vs) xs ∧ ks.length = vs.length
theorem DtB.mono {K : PySem.W.Frag} {G : Gx K} {ks : List (List Key)} {vs : List V} {o : HO} {H H' : Hp} (h : DtB G ks vs o H) (s : Same H H') : DtB G ks vs o H' := by
  obtain ⟨P, w, a, xs, h1, h2, h3, h4⟩ := h
  exact ⟨P, w, a, xs, h1, h2, h3.keeps (tupH_mono s), h4⟩
mutual
/-- v is the key k, in the shown heap -/
def NKey (B : Hp) : NestedKey → V → Prop
  | .none, v => v = .non
  | .num i, v => v = .int i
  | .text x, v => v = .str x
  | .tup ks, v => ∃ a vs, v = .ref a ∧ TupB B a vs ∧ NKeys B ks vs
def NKeys (B : Hp) : List NestedKey → List V → Prop
  | [], vs => vs = []
  | k :: ks, vs => ∃ v r, vs = v :: r ∧ NKey B k v ∧ NKeys B ks r
end
mutual
theorem NKey.mono {B B' : Hp} (s : Same B B') : ∀ (k : NestedKey) (v : V), NKey B k v → NKey B' k v
  | .none, v, h => by unfold NKey at h ⊢; exact h
  | .num _, v, h => by unfold NKey at h ⊢; exact h
  | .text _, v, h => by unfold NKey at h ⊢; exact h
  | .tup ks, v, h => by
    unfold NKey at h ⊢
    obtain ⟨a, vs, e, q, r⟩ := h
    exact ⟨a, vs, e, q.mono s, NKeys.mono s ks vs r⟩
theorem NKeys.mono {B B' : Hp} (s : Same B B') : ∀ (ks : List NestedKey) (vs : List V), NKeys B ks vs → NKeys B' ks vs
  | [], vs, h => by unfold NKeys at h ⊢; exact h
  | k :: ks, vs, h => by
    unfold NKeys at h ⊢
    obtain ⟨v, r, e, q, t⟩ := h
    exact ⟨v, r, e, NKey.mono s k v q, NKeys.mono s ks r t⟩
end
/-- a dict whose keys are tuples, nested, by its object -/
def DNo (P : Program) (w : World) (a : Addr × Obj) (xs : List (NestedKey × Addr × Value)) : HO := .ext fun h => xs.length ≤ sizeLine ∧ (a.1 == sysModules) = false ∧ ∃ es ep, h.get? a.1 = some a.2 ∧ a.2.ExactDict ∧ a.2.data = .dict es ep ∧ es.toList = xs.map (entryOfKey (nestedKind P w)) ∧ (xs.map (·.1)).Nodup
/-- keys and values, by the shown heap -/
abbrev KN (B : Hp) : List (NestedKey × V) → List (NestedKey × Addr × Value) → Prop := Paired fun p q => p.1 = q.1 ∧ (NKey B p.1 (.ref q.2.1) ∧ p.1.depth ≤ 8) ∧ RelV p.2 q.2.2
theorem KN.mono {B B' : Hp} (s : Same B B') {ps : List (NestedKey × V)} {xs : List (NestedKey × Addr × Value)} (h : KN B ps xs) : KN B' ps xs := by
  induction h with
  | nil => exact .nil
  | cons h t ih => exact .cons ⟨h.1, ⟨NKey.mono s _ _ h.2.1.1, h.2.1.2⟩, h.2.2⟩ ih
def DnB {K : PySem.W.Frag} (G : Gx K) (ks : List NestedKey) (vs : List V) (o : HO) (B : Hp) : Prop := ∃ P w a xs, G.pw = some (P, w) ∧ o = DNo P w a xs ∧ KN B (ks.zip vs) xs ∧ ks.length = vs.length
theorem DnB.mono {K : PySem.W.Frag} {G : Gx K} {ks : List NestedKey} {vs : List V} {o : HO} {H H' : Hp} (h : DnB G ks vs o H) (s : Same H H') : DnB G ks vs o H' := by
  obtain ⟨P, w, a, xs, h1, h2, h3, h4⟩ := h
  exact ⟨P, w, a, xs, h1, h2, h3.mono s, h4⟩
mutual
def Rep {K : PySem.W.Frag} (G : Gx K) (ua : Option Addr) : D → V → Hp → Prop
  | .non, v, _ => v = .non
  | .bl b, v, _ => v = .bl b
  | .int i, v, _ => v = .int i
  | .str x, v, _ => v = .str x
  | .lst ds, v, H => ∃ a vs, v = .ref a ∧ H a = some (HO.lst vs) ∧ Reps G ua ds vs H
  | .tup ds, v, H => ∃ a vs, v = .ref a ∧ TupB H a vs ∧ Reps G ua ds vs H
  | .pr ds, v, H => ∃ a vs, v = .ref a ∧ H a = some (HO.tup vs) ∧ Reps G ua ds vs H
  | .ins c ns ds, v, H => ∃ a C dx vs, v = .ref a ∧ G.cls c = some C ∧ H a = some (HO.ins C dx (ns.zip vs)) ∧ ns.length = vs.length ∧ Reps G ua ds vs H
  | .exc c ns ds, v, H => ∃ a C d vs, v = .ref a ∧ G.exc c = some C ∧ H a = some (Hx a C d) ∧ ErD H ns vs d ∧ Reps G ua ds vs H
  | .fn x, v, _ => ∃ f, G.fns x = some f ∧ v = .ref f
  | .dct ks ds, v, H => ∃ a vs, v = .ref a ∧ DctB H a (ks.zip vs) ∧ ks.length = vs.length ∧ Reps G ua ds vs H
  | .dtt ks ds, v, H => ∃ a vs o, v = .ref a ∧ H a = some o ∧ DtB G ks vs o H ∧ Reps G ua ds vs H
  | .dtn ks ds, v, H => ∃ a vs o, v = .ref a ∧ H a = some o ∧ DnB G ks vs o H ∧ Reps G ua ds vs H
  | .urn, v, _ => ∃ a, ua = some a ∧ v = .ref a
def Reps {K : PySem.W.Frag} (G : Gx K) (ua : Option Addr) : List D → List V → Hp → Prop
  | [], vs, _ => vs = []
  | d :: ds, vs, H => ∃ v r, vs = v :: r ∧ Rep G ua d v H ∧ Reps G ua ds r H
end
section
variable {K : PySem.W.Frag} {G : Gx K} {ua : Option Addr}
mutual
theorem Rep.mono : ∀ (d : D) (v : V) {H H' : Hp}, Same H H' → Rep G ua d v H → Rep G ua d v H'
  | .non, v, H, H', s, h => by unfold Rep at h ⊢; exact h
  | .bl _, v, H, H', s, h => by unfold Rep at h ⊢; exact h
  | .int _, v, H, H', s, h => by unfold Rep at h ⊢; exact h
  | .str _, v, H, H', s, h => by unfold Rep at h ⊢; exact h
  | .lst ds, v, H, H', s, h => by
    unfold Rep at h ⊢
    obtain ⟨a, vs, e, q, r⟩ := h
    exact ⟨a, vs, e, s _ _ q, Reps.mono ds vs s r⟩
  | .tup ds, v, H, H', s, h => by
    unfold Rep at h ⊢
    obtain ⟨a, vs, e, q, r⟩ := h
    exact ⟨a, vs, e, q.mono s, Reps.mono ds vs s r⟩
  | .pr ds, v, H, H', s, h => by
    unfold Rep at h ⊢
    obtain ⟨a, vs, e, q, r⟩ := h
    exact ⟨a, vs, e, s _ _ q, Reps.mono ds vs s r⟩
  | .ins c ns ds, v, H, H', s, h => by
    unfold Rep at h ⊢
    obtain ⟨a, C, dx, vs, e, c1, q, l, r⟩ := h
    exact ⟨a, C, dx, vs, e, c1, s _ _ q, l, Reps.mono ds vs s r⟩
  | .exc c ns ds, v, H, H', s, h => by
    unfold Rep at h ⊢
    obtain ⟨a, C, d, vs, e, c1, q, l, r⟩ := h
    exact ⟨a, C, d, vs, e, c1, s _ _ q, l.mono s, Reps.mono ds vs s r⟩
  | .fn _, v, H, H', s, h => by unfold Rep at h ⊢; exact h
  | .dct ks ds, v, H, H', s, h => by
    unfold Rep at h ⊢
    obtain ⟨a, vs, e, q, l, r⟩ := h
    exact ⟨a, vs, e, q.mono s, l, Reps.mono ds vs s r⟩
  | .dtt ks ds, v, H, H', s, h => by
    unfold Rep at h ⊢
    obtain ⟨a, vs, o, e, q, l, r⟩ := h
    exact ⟨a, vs, o, e, s _ _ q, l.mono s, Reps.mono ds vs s r⟩
  | .dtn ks ds, v, H, H', s, h => by
    unfold Rep at h ⊢
    obtain ⟨a, vs, o, e, q, l, r⟩ := h
    exact ⟨a, vs, o, e, s _ _ q, l.mono s, Reps.mono ds vs s r⟩
  | .urn, v, H, H', s, h => by unfold Rep at h ⊢; exact h
theorem Reps.mono : ∀ (ds : List D) (vs : List V) {H H' : Hp}, Same H H' → Reps G ua ds vs H → Reps G ua ds vs H'
  | [], vs, H, H', s, h => by unfold Reps at h ⊢; exact h
  | d :: ds, vs, H, H', s, h => by
    unfold Reps at h ⊢
    obtain ⟨v, r, e, q, t⟩ := h
    exact ⟨v, r, e, Rep.mono d v s q, Reps.mono ds r s t⟩
end
variable {H H' : Hp} {ds es : List D} {vs ws : List V} {d : D} {v : V}
theorem Reps.nil : Reps G ua [] [] H := by unfold Reps; rfl
theorem Reps.cons (h : Rep G ua d v H) (t : Reps G ua ds vs H) : Reps G ua (d :: ds) (v :: vs) H := by unfold Reps; exact ⟨v, vs, rfl, h, t⟩
theorem Reps.of_nil (h : Reps G ua [] vs H) : vs = [] := by unfold Reps at h; exact h
theorem Reps.of_cons (h : Reps G ua (d :: ds) vs H) : ∃ v r, vs = v :: r ∧ Rep G ua d v H ∧ Reps G ua ds r H := by unfold Reps at h; exact h
theorem Reps.len : ∀ {ds : List D} {vs : List V}, Reps G ua ds vs H → ds.length = vs.length
  | [], vs, h => by rw [h.of_nil]; rfl
  | d :: ds, vs, h => by
    obtain ⟨v, r, rfl, _, t⟩ := h.of_cons
    rw [List.length_cons, List.length_cons, Reps.len t]
theorem Reps.append : ∀ {ds : List D} {vs : List V}, Reps G ua ds vs H → Reps G ua es ws H → Reps G ua (ds ++ es) (vs ++ ws) H
  | [], vs, h, g => by rw [h.of_nil]; exact g
  | d :: ds, vs, h, g => by
    obtain ⟨v, r, rfl, q, t⟩ := h.of_cons
    exact .cons q (Reps.append t g)
theorem Reps.get : ∀ {ds : List D} {vs : List V} {i : Nat} {d : D}, Reps G ua ds vs H → ds[i]? = some d → ∃ v, vs[i]? = some v ∧ Rep G ua d v H
  | [], vs, i, d, h, e => by simp at e
  | d :: ds, vs, 0, d', h, e => by
    obtain ⟨v, r, rfl, q, t⟩ := h.of_cons
    simp at e; subst e
    exact ⟨v, rfl, q⟩
  | d :: ds, vs, i + 1, d', h, e => by
    obtain ⟨v, r, rfl, q, t⟩ := h.of_cons
    exact Reps.get (i := i) t (by simpa using e)
theorem Reps.take : ∀ {ds : List D} {vs : List V} (n : Nat), Reps G ua ds vs H → Reps G ua (ds.take n) (vs.take n) H
  | _, _, 0, h => .nil
  | [], vs, n + 1, h => by rw [h.of_nil]; exact .nil
  | d :: ds, vs, n + 1, h => by
    obtain ⟨v, r, rfl, q, t⟩ := h.of_cons
    exact .cons q (Reps.take n t)
theorem Reps.drop : ∀ {ds : List D} {vs : List V} (n : Nat), Reps G ua ds vs H → Reps G ua (ds.drop n) (vs.drop n) H
  | _, _, 0, h => h
  | [], vs, n + 1, h => by rw [h.of_nil]; exact .nil
  | d :: ds, vs, n + 1, h => by
    obtain ⟨v, r, rfl, q, t⟩ := h.of_cons
    exact Reps.drop n t
theorem Reps.set : ∀ {ds : List D} {vs : List V} (n : Nat), Reps G ua ds vs H → Rep G ua d v H → Reps G ua (ds.set n d) (vs.set n v) H
  | [], vs, n, h, q => by rw [h.of_nil]; exact .nil
  | _ :: ds, vs, 0, h, q => by
    obtain ⟨_, r, rfl, _, t⟩ := h.of_cons
    exact .cons q t
  | _ :: ds, vs, n + 1, h, q => by
    obtain ⟨_, r, rfl, q', t⟩ := h.of_cons
    exact .cons q' (Reps.set n t q)
theorem Reps.replicate (n : Nat) (h : Reps G ua ds vs H) : Reps G ua (List.replicate n ds).flatten (List.replicate n vs).flatten H := by
  induction n with
  | zero => exact .nil
  | succ n ih => rw [List.replicate_succ, List.replicate_succ, List.flatten_cons, List.flatten_cons]; exact h.append ih
theorem Reps.ints : ∀ {ns : List Int}, Reps G ua (ns.map .int) (ns.map .int) H
  | [] => .nil
  | n :: ns => .cons (by unfold Rep; rfl) Reps.ints
theorem Reps.strs_of : ∀ {xs : List Str} {vs : List V}, Reps G ua (xs.map .str) vs H → vs = xs.map .str
  | [], vs, h => h.of_nil
  | x :: xs, vs, h => by
    obtain ⟨v, r, rfl, q, t⟩ := h.of_cons
    unfold Rep at q
    rw [q, Reps.strs_of t]; rfl
theorem Reps.strs : ∀ {xs : List Str}, Reps G ua (xs.map .str) (xs.map .str) H
  | [] => .nil
  | n :: ns => .cons (by unfold Rep; rfl) Reps.strs
theorem Reps.ints_of : ∀ {xs : List Int} {vs : List V}, Reps G ua (xs.map .int) vs H → vs = xs.map .int
  | [], vs, h => h.of_nil
  | x :: xs, vs, h => by
    obtain ⟨v, r, rfl, q, t⟩ := h.of_cons
    unfold Rep at q
    rw [q, Reps.ints_of t]; rfl
theorem Reps.bls_of : ∀ {xs : List Bool} {vs : List V}, Reps G ua (xs.map .bl) vs H → vs = xs.map .bl
  | [], vs, h => h.of_nil
  | x :: xs, vs, h => by
    obtain ⟨v, r, rfl, q, t⟩ := h.of_cons
    unfold Rep at q
    rw [q, Reps.bls_of t]; rfl
end
/-- B: the part of the heap that plain data may name; the urn stands beside it -/
structure Wd (ua : Option Addr) (u : U) (B H : Hp) : Prop where
  sub : Same B H
  urn : ∀ a, ua = some a → B a = none ∧ H a = some (.lst [.int u.a, .int u.b, .int u.c])
structure Grow (ua : Option Addr) (B H B' H' : Hp) : Prop where
  keep : ∀ a o, H a = some o → ua ≠ some a → H' a = some o
  live : ∀ a, H' a = none → H a = none
  pub : Same B B'
  new : ∀ a o, B' a = some o → B a = some o ∨ H a = none
theorem Grow.refl {ua : Option Addr} {B H : Hp} : Grow ua B H B H := ⟨fun _ _ h _ => h, fun _ h => h, fun _ _ h => h, fun _ _ h => .inl h⟩
theorem Grow.trans {ua : Option Addr} {B H B1 H1 B2 H2 : Hp} (x : Grow ua B H B1 H1) (y : Grow ua B1 H1 B2 H2) : Grow ua B H B2 H2 :=
  ⟨fun a o h n => y.keep a o (x.keep a o h n) n, fun a h => x.live a (y.live a h), fun a o h => y.pub a o (x.pub a o h), fun a o h => by
    rcases y.new a o h with h | h
    · exact x.new a o h
    · exact .inr (x.live a h)⟩
theorem same_new {H : Hp} {p : Addr} {o : HO} (h : H p = none) : Same H (upd H p o) := fun b x e => by
  rw [upd_ne (ne_of_none e h)]
  exact e
section
variable {ua : Option Addr} {u : U} {B H : Hp} {p : Addr} {o : HO}
theorem Wd.none_of (w : Wd ua u B H) (h : H p = none) : B p = none := by
  cases e : B p with
  | none => rfl
  | some o => rw [w.sub p o e] at h; cases h
theorem Wd.ne_urn (w : Wd ua u B H) (h : H p = none) : ua ≠ some p := fun e => by
  rw [(w.urn p e).2] at h; cases h
/-- a new object that anyone may see -/
theorem Grow.new1 (w : Wd ua u B H) (h : H p = none) : Grow ua B H (upd B p o) (upd H p o) := by
  have hp := w.none_of h
  refine ⟨fun a x e _ => same_new h a x e, fun a e => ?_, same_new hp, fun a x e => ?_⟩
  · by_cases q : a = p
    · subst q; exact h
    · rw [upd_ne q] at e; exact e
  · by_cases q : a = p
    · subst q; exact .inr h
    · rw [upd_ne q] at e; exact .inl e
theorem Wd.new1 (w : Wd ua u B H) (h : H p = none) : Wd ua u (upd B p o) (upd H p o) := by
  refine ⟨fun a x e => ?_, fun a e => ?_⟩
  · by_cases q : a = p
    · subst q; rw [upd_same] at e ⊢; exact e
    · rw [upd_ne q] at e ⊢; exact w.sub a x e
  · have := w.urn a e
    have q : a ≠ p := fun z => by subst z; rw [this.2] at h; cases h
    rw [upd_ne q, upd_ne q]; exact this
/-- a new object of one's own -/
theorem Grow.own1 (w : Wd ua u B H) (h : H p = none) : Grow ua B H B (upd H p o) := by
  refine ⟨fun a x e _ => same_new h a x e, fun a e => ?_, fun _ _ e => e, fun a x e => .inl e⟩
  by_cases q : a = p
  · subst q; exact h
  · rw [upd_ne q] at e; exact e
theorem Wd.own1 (w : Wd ua u B H) (h : H p = none) : Wd ua u B (upd H p o) := by
  refine ⟨fun a x e => same_new h a x (w.sub a x e), fun a e => ?_⟩
  have := w.urn a e
  have q : a ≠ p := fun z => by subst z; rw [this.2] at h; cases h
  rw [upd_ne q]; exact this
/-- one's own object is changed -/
theorem Wd.put (w : Wd ua u B H) (h : B p = none) (n : ua ≠ some p) : Wd ua u B (upd H p o) := by
  refine ⟨fun a x e => ?_, fun a e => ?_⟩
  · rw [upd_ne (ne_of_none e h)]; exact w.sub a x e
  · have := w.urn a e
    rw [upd_ne (fun z => n (by rw [← z]; exact e))]; exact this
end
/-- one's own things, that still change -/
inductive Oo where
  | lst (ds : List D) | dct (ks : List Key) (ds : List D) | dtt (ks : List (List Key)) (ds : List D) | dtn (ks : List NestedKey) (ds : List D)
def RepO {K : PySem.W.Frag} (G : Gx K) (ua : Option Addr) : Oo → HO → Hp → Prop
  | .lst ds, o, B => ∃ vs, o = .lst vs ∧ Reps G ua ds vs B
  | .dct ks ds, o, B => ∃ vs, o = .dK (ks.zip vs) ∧ ks.length = vs.length ∧ Reps G ua ds vs B ∧ ks.Nodup
  | .dtt ks ds, o, B => ∃ vs, DtB G ks vs o B ∧ Reps G ua ds vs B
  | .dtn ks ds, o, B => ∃ vs, DnB G ks vs o B ∧ Reps G ua ds vs B
theorem RepO.mono {K : PySem.W.Frag} {G : Gx K} {ua : Option Addr} {x : Oo} {o : HO} {B B' : Hp} (h : RepO G ua x o B) (s : Same B B') : RepO G ua x o B' := by
  cases x with
  | lst ds => obtain ⟨vs, e, r⟩ := h; exact ⟨vs, e, r.mono _ _ s⟩
  | dct ks ds => obtain ⟨vs, e, l, r, n⟩ := h; exact ⟨vs, e, l, r.mono _ _ s, n⟩
  | dtt ks ds => obtain ⟨vs, e, r⟩ := h; exact ⟨vs, e.mono s, r.mono _ _ s⟩
  | dtn ks ds => obtain ⟨vs, e, r⟩ := h; exact ⟨vs, e.mono s, r.mono _ _ s⟩
inductive Sl where
  | no | pub (d : D) | own (o : Oo)
structure EnvOk {K : PySem.W.Frag} (G : Gx K) (ua : Option Addr) (env : List Sl) (σ : List (Option V)) (B H : Hp) : Prop where
  len : env.length = σ.length
  pub : ∀ (i : Nat) d, env[i]? = some (Sl.pub d) → ∃ v, σ[i]? = some (some v) ∧ Rep G ua d v B
  own : ∀ (i : Nat) ds, env[i]? = some (Sl.own ds) → ∃ p ho, σ[i]? = some (some (V.ref p)) ∧ H p = some ho ∧ B p = none ∧ RepO G ua ds ho B ∧ ua ≠ some p
  inj : ∀ (i j : Nat) ds es p, env[i]? = some (Sl.own ds) → env[j]? = some (Sl.own es) → σ[i]? = some (some (V.ref p)) → σ[j]? = some (some (V.ref p)) → i = j
section
variable {K : PySem.W.Frag} {G : Gx K} {ua : Option Addr} {u : U} {env : List Sl} {σ : List (Option V)} {B H B' H' : Hp} {d : D} {v : V} {i : Nat}
theorem EnvOk.grow (e : EnvOk G ua env σ B H) (g : Grow ua B H B' H') : EnvOk G ua env σ B' H' := by
  refine ⟨e.len, fun i d h => ?_, fun i ds h => ?_, e.inj⟩
  · obtain ⟨v, h1, h2⟩ := e.pub i d h
    exact ⟨v, h1, h2.mono _ _ g.pub⟩
  · obtain ⟨p, vs, h1, h2, h3, h4, h5⟩ := e.own i ds h
    refine ⟨p, vs, h1, g.keep _ _ h2 h5, ?_, h4.mono g.pub, h5⟩
    cases q : B' p with
    | none => rfl
    | some o =>
      rcases g.new p o q with z | z
      · rw [z] at h3; cases h3
      · rw [z] at h2; cases h2
theorem get_set {α : Type} {l : List α} {i j : Nat} {a x : α} (h : (l.set i a)[j]? = some x) : (j = i ∧ x = a) ∨ (j ≠ i ∧ l[j]? = some x) := by
  by_cases q : i = j
  · subst q
    left
    by_cases hl : i < l.length
    · rw [List.getElem?_set_self hl] at h
      exact ⟨rfl, (Option.some.inj h).symm⟩
    · rw [List.getElem?_eq_none (by rw [List.length_set]; omega)] at h; cases h
  · rw [List.getElem?_set_ne q] at h
    exact .inr ⟨fun z => q z.symm, h⟩
theorem set_get {α : Type} {l : List α} {i : Nat} {a : α} (hl : i < l.length) : (l.set i a)[i]? = some a := by rw [List.getElem?_set_self hl]
theorem lt_of_get {α : Type} {l : List α} {i : Nat} {x : α} (h : l[i]? = some x) : i < l.length := (List.getElem?_eq_some_iff.mp h).1
theorem EnvOk.set (e : EnvOk G ua env σ B H) (r : Rep G ua d v B) (i : Nat) : EnvOk G ua (env.set i (Sl.pub d)) (σ.set i (some v)) B H := by
  refine ⟨by rw [List.length_set, List.length_set]; exact e.len, fun j d' h => ?_, fun j ds h => ?_, fun j k ds es p h1 h2 h3 h4 => ?_⟩
  · have hl := lt_of_get h
    rw [List.length_set, e.len] at hl
    rcases get_set h with ⟨rfl, q⟩ | ⟨q, h⟩
    · cases q; exact ⟨v, set_get hl, r⟩
    · rw [List.getElem?_set_ne (fun z => q z.symm)]; exact e.pub j d' h
  · rcases get_set h with ⟨rfl, q⟩ | ⟨q, h⟩
    · cases q
    · rw [List.getElem?_set_ne (fun z => q z.symm)]; exact e.own j ds h
  · rcases get_set h1 with ⟨rfl, q⟩ | ⟨q1, h1⟩
    · cases q
    · rcases get_set h2 with ⟨rfl, q⟩ | ⟨q2, h2⟩
      · cases q
      · rw [List.getElem?_set_ne (fun z => q1 z.symm)] at h3
        rw [List.getElem?_set_ne (fun z => q2 z.symm)] at h4
        exact e.inj j k ds es p h1 h2 h3 h4
theorem EnvOk.setOwn {p : Addr} {ds : Oo} {vs : HO} (e : EnvOk G ua env σ B H) (hp : H p = some vs) (np : B p = none) (r : RepO G ua ds vs B) (nu : ua ≠ some p)
    (far : ∀ (j : Nat) es q, env[j]? = some (Sl.own es) → σ[j]? = some (some (V.ref q)) → j ≠ i → q ≠ p) : EnvOk G ua (env.set i (Sl.own ds)) (σ.set i (some (V.ref p))) B H := by
  refine ⟨by rw [List.length_set, List.length_set]; exact e.len, fun j d' h => ?_, fun j ds' h => ?_, fun j k ds' es q h1 h2 h3 h4 => ?_⟩
  · rcases get_set h with ⟨rfl, q⟩ | ⟨q, h⟩
    · cases q
    · rw [List.getElem?_set_ne (fun z => q z.symm)]; exact e.pub j d' h
  · have hl := lt_of_get h
    rw [List.length_set, e.len] at hl
    rcases get_set h with ⟨rfl, q⟩ | ⟨q, h⟩
    · cases q; exact ⟨p, vs, set_get hl, hp, np, r, nu⟩
    · rw [List.getElem?_set_ne (fun z => q z.symm)]; exact e.own j ds' h
  · rcases get_set h1 with ⟨rfl, q1⟩ | ⟨q1, g1⟩
    · rcases get_set h2 with ⟨rfl, q2⟩ | ⟨q2, g2⟩
      · rfl
      · rw [List.getElem?_set_ne (fun z => q2 z.symm)] at h4
        have hl := lt_of_get h3
        rw [List.length_set] at hl
        rw [set_get hl] at h3
        cases h3
        exact absurd rfl (far k es p g2 h4 q2)
    · rcases get_set h2 with ⟨rfl, q2⟩ | ⟨q2, g2⟩
      · rw [List.getElem?_set_ne (fun z => q1 z.symm)] at h3
        have hl := lt_of_get h4
        rw [List.length_set] at hl
        rw [set_get hl] at h4
        cases h4
        exact absurd rfl (far j ds' p g1 h3 q1)
      · rw [List.getElem?_set_ne (fun z => q1 z.symm)] at h3
        rw [List.getElem?_set_ne (fun z => q2 z.symm)] at h4
        exact e.inj j k ds' es q g1 g2 h3 h4
/-- forgotten slots -/
def wipeE (env : List Sl) : List Nat → List Sl
  | [] => env
  | v :: vs => (wipeE env vs).set v Sl.no
theorem EnvOk.wipe1 (e : EnvOk G ua env σ B H) (i : Nat) (o : Option V) : EnvOk G ua (env.set i Sl.no) (σ.set i o) B H := by
  refine ⟨by rw [List.length_set, List.length_set]; exact e.len, fun j d' h => ?_, fun j ds h => ?_, fun j k ds es p h1 h2 h3 h4 => ?_⟩
  · rcases get_set h with ⟨rfl, q⟩ | ⟨q, h⟩
    · cases q
    · rw [List.getElem?_set_ne (fun z => q z.symm)]; exact e.pub j d' h
  · rcases get_set h with ⟨rfl, q⟩ | ⟨q, h⟩
    · cases q
    · rw [List.getElem?_set_ne (fun z => q z.symm)]; exact e.own j ds h
  · rcases get_set h1 with ⟨rfl, q⟩ | ⟨q1, h1⟩
    · cases q
    · rcases get_set h2 with ⟨rfl, q⟩ | ⟨q2, h2⟩
      · cases q
      · rw [List.getElem?_set_ne (fun z => q1 z.symm)] at h3
        rw [List.getElem?_set_ne (fun z => q2 z.symm)] at h4
        exact e.inj j k ds es p h1 h2 h3 h4
theorem EnvOk.wipe (e : EnvOk G ua env σ B H) : ∀ vs : List Nat, EnvOk G ua (wipeE env vs) (wipe σ vs) B H
  | [] => e
  | v :: vs => by unfold wipeE L2.wipe; exact (e.wipe vs).wipe1 v none
end
end Dv
namespace Dv
open PySem PySem.Spec PyProof.Rows L2
def Aft {K : PySem.W.Frag} (G : Gx K) (ua : Option Addr) (B H : Hp) (u' : U) (d : D) : V → Hp → Prop := fun v H' => ∃ B', Grow ua B H B' H' ∧ Wd ua u' B' H' ∧ Rep G ua d v B'
theorem Aft.up {K : PySem.W.Frag} {G : Gx K} {ua : Option Addr} {B H B1 H1 H' : Hp} {u' : U} {d : D} {v : V} (g : Grow ua B H B1 H1) (a : Aft G ua B1 H1 u' d v H') : Aft G ua B H u' d v H' := by
  obtain ⟨B', g', w, r⟩ := a
  exact ⟨B', g.trans g', w, r⟩
theorem Aft.here {K : PySem.W.Frag} {G : Gx K} {ua : Option Addr} {B H : Hp} {u : U} {d : D} {v : V} (w : Wd ua u B H) (r : Rep G ua d v B) : Aft G ua B H u d v H := ⟨B, .refl, w, r⟩
theorem Aft.lst {K : PySem.W.Frag} {G : Gx K} {ua : Option Addr} {B H : Hp} {u : U} {ds : List D} {vs : List V} {p : Addr} (w : Wd ua u B H) (h : H p = none) (r : Reps G ua ds vs B) : Aft G ua B H u (.lst ds) (.ref p) (upd H p (.lst vs)) :=
  ⟨upd B p (.lst vs), .new1 w h, w.new1 h, by unfold Rep; exact ⟨p, vs, rfl, upd_same, r.mono _ _ (same_new (w.none_of h))⟩⟩
theorem Aft.tup {K : PySem.W.Frag} {G : Gx K} {ua : Option Addr} {B H : Hp} {u : U} {ds : List D} {vs : List V} {p : Addr} {o : Obj} (w : Wd ua u B H) (h : H p = none) (ho : o.dict = none) (r : Reps G ua ds vs B) : Aft G ua B H u (.tup ds) (.ref p) (upd H p (.frz o (.tup vs))) :=
  ⟨upd B p (.frz o (.tup vs)), .new1 w h, w.new1 h, by unfold Rep; exact ⟨p, vs, rfl, ⟨o, ho, upd_same⟩, r.mono _ _ (same_new (w.none_of h))⟩⟩
theorem Aft.pr {K : PySem.W.Frag} {G : Gx K} {ua : Option Addr} {B H : Hp} {u : U} {ds : List D} {vs : List V} {p : Addr} (w : Wd ua u B H) (h : H p = none) (r : Reps G ua ds vs B) : Aft G ua B H u (.pr ds) (.ref p) (upd H p (.tup vs)) :=
  ⟨upd B p (.tup vs), .new1 w h, w.new1 h, by unfold Rep; exact ⟨p, vs, rfl, upd_same, r.mono _ _ (same_new (w.none_of h))⟩⟩
section
variable {K : PySem.W.Frag} {G : Gx K} {ua : Option Addr} {B H : Hp} {v : V}
theorem Rep.int {i : Int} (r : Rep G ua (.int i) v B) : v = .int i := by unfold Rep at r; exact r
theorem Rep.bl {i : Bool} (r : Rep G ua (.bl i) v B) : v = .bl i := by unfold Rep at r; exact r
theorem Rep.str {i : Str} (r : Rep G ua (.str i) v B) : v = .str i := by unfold Rep at r; exact r
theorem Rep.non (r : Rep G ua .non v B) : v = .non := by unfold Rep at r; exact r
theorem Rep.lst {ds : List D} (r : Rep G ua (.lst ds) v B) : ∃ a vs, v = .ref a ∧ B a = some (.lst vs) ∧ Reps G ua ds vs B := by unfold Rep at r; exact r
theorem Rep.tup {ds : List D} (r : Rep G ua (.tup ds) v B) : ∃ a vs, v = .ref a ∧ TupB B a vs ∧ Reps G ua ds vs B := by unfold Rep at r; exact r
theorem Rep.pr {ds : List D} (r : Rep G ua (.pr ds) v B) : ∃ a vs, v = .ref a ∧ B a = some (.tup vs) ∧ Reps G ua ds vs B := by unfold Rep at r; exact r
theorem rep_int {i : Int} : Rep G ua (.int i) (.int i) B := by unfold Rep; rfl
theorem rep_bl {i : Bool} : Rep G ua (.bl i) (.bl i) B := by unfold Rep; rfl
theorem rep_str {i : Str} : Rep G ua (.str i) (.str i) B := by unfold Rep; rfl
theorem rep_non : Rep G ua .non .non B := by unfold Rep; rfl
end
mutual
def toPy : D → Option PyData
  | .non => some .none
  | .bl b => some (.bool b)
  | .int i => some (.int i)
  | .str x => some (.str x)
  | .lst ds => (toPys ds).map .list
  | .tup ds => (toPys ds).map .tuple
  | .ins _ _ _ => none
  | .exc _ _ _ => none
  | .fn _ => none
  | .dct _ _ => none
  | .dtt _ _ => none
  | .dtn _ _ => none
  | .pr ds => (toPys ds).map .tuple
  | .urn => none
def toPys : List D → Option (List PyData)
  | [] => some []
  | d :: ds => (toPy d).bind fun p => (toPys ds).map fun ps => p :: ps
end
section
variable {K : PySem.W.Frag} {G : Gx K} {ua : Option Addr} {B H : Hp}
mutual
theorem rep_dp (s : Same B H) : ∀ (d : D) (v : V) (p : PyData), toPy d = some p → Rep G ua d v B → Dp K H v p
  | .non, v, p, e, r => by
    unfold toPy at e; cases e; cases r.non; exact .non
  | .bl b, v, p, e, r => by
    unfold toPy at e; cases e; cases r.bl; exact .bl b
  | .int i, v, p, e, r => by
    unfold toPy at e; cases e; cases r.int; exact .int i
  | .str x, v, p, e, r => by
    unfold toPy at e; cases e; cases r.str; exact .str x
  | .lst ds, v, p, e, r => by
    unfold toPy at e
    obtain ⟨a, vs, rfl, h, rs⟩ := r.lst
    cases q : toPys ds with
    | none => rw [q] at e; cases e
    | some ps => rw [q] at e; cases e; exact .lst (.of (s _ _ h)) (reps_dp s ds vs ps q rs)
  | .tup ds, v, p, e, r => by
    unfold toPy at e
    obtain ⟨a, vs, rfl, h, rs⟩ := r.tup
    cases q : toPys ds with
    | none => rw [q] at e; cases e
    | some ps => rw [q] at e; cases e; exact .tup (h.mono s).sq (reps_dp s ds vs ps q rs)
  | .pr ds, v, p, e, r => by
    unfold toPy at e
    obtain ⟨a, vs, rfl, h, rs⟩ := r.pr
    cases q : toPys ds with
    | none => rw [q] at e; cases e
    | some ps => rw [q] at e; cases e; exact .tup (.of (s _ _ h)) (reps_dp s ds vs ps q rs)
  | .ins _ _ _, v, p, e, r => by unfold toPy at e; cases e
  | .exc _ _ _, v, p, e, r => by unfold toPy at e; cases e
  | .fn _, v, p, e, r => by unfold toPy at e; cases e
  | .dct _ _, v, p, e, r => by unfold toPy at e; cases e
  | .dtt _ _, v, p, e, r => by unfold toPy at e; cases e
  | .dtn _ _, v, p, e, r => by unfold toPy at e; cases e
  | .urn, v, p, e, r => by unfold toPy at e; cases e
theorem reps_dp (s : Same B H) : ∀ (ds : List D) (vs : List V) (ps : List PyData), toPys ds = some ps → Reps G ua ds vs B → DpAll K H vs ps
  | [], vs, ps, e, r => by
    unfold toPys at e; cases e; rw [r.of_nil]; exact .nil
  | d :: ds, vs, ps, e, r => by
    unfold toPys at e
    obtain ⟨v, t, rfl, r1, r2⟩ := r.of_cons
    cases q : toPy d with
    | none => rw [q] at e; cases e
    | some p =>
      cases q2 : toPys ds with
      | none => rw [q, q2] at e; cases e
      | some ps' => rw [q, q2] at e; cases e; exact .cons (rep_dp s d v p q r1) (reps_dp s ds t ps' q2 r2)
end
end
def fAdd : D → D → Option D
  | .int i, .int j => some (.int (i + j))
  | .str a, .str b => if a.length + b.length ≤ sizeLine then some (.str (a ++ b)) else none
  | .lst a, .lst b => if a.length + b.length ≤ sizeLine then some (.lst (a ++ b)) else none
  | .tup a, .tup b => if a.length + b.length ≤ sizeLine then some (.tup (a ++ b)) else none
  | _, _ => none
def fSub : D → D → Option D
  | .int i, .int j => some (.int (i - j))
  | _, _ => none
def fMul : D → D → Option D
  | .int i, .int j => if (-(2 ^ 64) < i ∧ i < 2 ^ 64) ∨ (-(2 ^ 64) < j ∧ j < 2 ^ 64) then some (.int (i * j)) else none
  | .lst a, .int k => if -(2 ^ 63) ≤ k ∧ k < 2 ^ 63 ∧ a.length * k.toNat ≤ sizeLine then some (.lst (List.replicate k.toNat a).flatten) else none
  | _, _ => none
def fMod : D → D → Option D
  | .int i, .int j => if 0 < j then some (.int (i % j)) else none
  | _, _ => none
def fPow : D → D → Option D
  | .int i, .int j => if 0 ≤ j ∧ j ≤ 1000000 ∧ i.natAbs < 2 ^ 64 then some (.int (i ^ j.toNat)) else none
  | _, _ => none
def BinOk {X : Cx} (G : Gx X.K) (F : Value → Value → Sem Value) (f : D → D → Option D) : Prop :=
  ∀ (ua : Option Addr) (u : U) (B H : Hp) (da db d : D) (va vb : V), f da db = some d → Rep G ua da va B → Rep G ua db vb B → Wd ua u B H → ∃ r : R2, OpR X F r ∧ r va vb H (Aft G ua B H u d)
section
variable {X : Cx} {G : Gx X.K}
theorem ok_add : BinOk G (binaryOp .Add) fAdd := by
  intro ua u B H da db d va vb e ra rb w
  unfold fAdd at e
  split at e
  · cases e; cases ra.int; cases rb.int
    exact ⟨_, op_add, _, _, rfl, rfl, .here w rep_int⟩
  · split at e
    · cases e; cases ra.str; cases rb.str
      exact ⟨_, op_add_str, _, _, rfl, rfl, ‹_›, .here w rep_str⟩
    · cases e
  · split at e
    · cases e
      obtain ⟨a, xs, rfl, h1, r1⟩ := ra.lst
      obtain ⟨b, ys, rfl, h2, r2⟩ := rb.lst
      refine ⟨_, op_cat, a, b, xs, ys, rfl, rfl, w.sub _ _ h1, w.sub _ _ h2, by rw [← r1.len, ← r2.len]; assumption, fun p hp => .lst w hp (r1.append r2)⟩
    · cases e
  · split at e
    · cases e
      have ra' := ra
      have rb' := rb
      obtain ⟨a, xs, rfl, h1, r1⟩ := ra.tup
      obtain ⟨b, ys, rfl, h2, r2⟩ := rb.tup
      refine ⟨_, op_catF, a, b, xs, ys, rfl, rfl, (h1.mono w.sub).sq, (h2.mono w.sub).sq, by rw [← r1.len, ← r2.len]; assumption, fun hx => ?_, fun _ hy => ?_, fun _ _ p o hp ho => .tup w hp ho (r1.append r2)⟩
      · subst hx
        have e1 := r1.len
        rw [List.length_nil] at e1
        rw [List.eq_nil_of_length_eq_zero e1]
        exact .here w rb'
      · subst hy
        have e1 := r2.len
        rw [List.length_nil] at e1
        rw [List.eq_nil_of_length_eq_zero e1, List.append_nil]
        exact .here w ra'
    · cases e
  · cases e
theorem ok_sub : BinOk G (binaryOp .Sub) fSub := by
  intro ua u B H da db d va vb e ra rb w
  unfold fSub at e
  split at e
  · cases e; cases ra.int; cases rb.int
    exact ⟨_, op_sub, _, _, rfl, rfl, .here w rep_int⟩
  · cases e
theorem ok_mul : BinOk G (binaryOp .Mult) fMul := by
  intro ua u B H da db d va vb e ra rb w
  unfold fMul at e
  split at e
  · split at e
    · cases e; cases ra.int; cases rb.int
      exact ⟨_, op_mul, _, _, rfl, rfl, ‹_›, .here w rep_int⟩
    · cases e
  · split at e
    · rename_i k hk
      cases e
      cases rb.int
      obtain ⟨a, xs, rfl, h1, r1⟩ := ra.lst
      exact ⟨_, op_rep, a, _, xs, rfl, rfl, w.sub _ _ h1, hk.1, hk.2.1, by rw [← r1.len]; exact hk.2.2, fun p hp => .lst w hp (r1.replicate _)⟩
    · cases e
  · cases e
theorem ok_mod : BinOk G (binaryOp .Mod) fMod := by
  intro ua u B H da db d va vb e ra rb w
  unfold fMod at e
  split at e
  · split at e
    · cases e; cases ra.int; cases rb.int
      exact ⟨_, op_mod, _, _, rfl, rfl, ‹_›, .here w rep_int⟩
    · cases e
  · cases e
theorem ok_pow : BinOk G (binaryOp .Pow) fPow := by
  intro ua u B H da db d va vb e ra rb w
  unfold fPow at e
  split at e
  · split at e
    · cases e; cases ra.int; cases rb.int
      exact ⟨_, op_pow, _, _, rfl, rfl, ‹_›, .here w rep_int⟩
    · cases e
  · cases e
end
def eqD (a b : D) : Option Bool :=
  match a, b with
  | .int i, .int j => some (decide (i = j))
  | .str i, .str j => some (decide (i = j))
  | .bl i, .bl j => some (decide (i = j))
  | .non, .non => some true
  | a, b => match toPy a, toPy b with
    | some x, some y => if SeqAt.shaped x = true ∧ SeqAt.shaped y = true then some (PyData.eqv x y) else none
    | _, _ => none
def cEq (a b : D) : Option D := (eqD a b).map .bl
def cNe (a b : D) : Option D := (eqD a b).map fun k => .bl (!k)
def cLt : D → D → Option D
  | .int i, .int j => some (.bl (decide (i < j)))
  | .str i, .str j => some (.bl (decide (i.cps.toList < j.cps.toList)))
  | _, _ => none
def cLe : D → D → Option D
  | .int i, .int j => some (.bl (decide (i ≤ j)))
  | _, _ => none
def cGt : D → D → Option D
  | .int i, .int j => some (.bl (decide (j < i)))
  | _, _ => none
def cGe : D → D → Option D
  | .int i, .int j => some (.bl (decide (j ≤ i)))
  | _, _ => none
def cIs : D → D → Option D
  | .non, .non => some (.bl true)
  | _, .non => some (.bl false)
  | _, _ => none
section
variable {X : Cx} {G : Gx X.K}
theorem rep_eqD {ua : Option Addr} {u : U} {B H : Hp} {a b : D} {k : Bool} {va vb : V} (e : eqD a b = some k) (ra : Rep G ua a va B) (rb : Rep G ua b vb B) (w : Wd ua u B H) :
    (scal va vb = true ∧ k = decide (va = vb)) ∨ ∃ d e, Dp X.K H va d ∧ Dp X.K H vb e ∧ SeqAt.shaped d = true ∧ SeqAt.shaped e = true ∧ k = PyData.eqv d e := by
  unfold eqD at e
  split at e
  · cases e; cases ra.int; cases rb.int; exact .inl ⟨rfl, by simp⟩
  · cases e; cases ra.str; cases rb.str; exact .inl ⟨rfl, by simp⟩
  · cases e; cases ra.bl; cases rb.bl; exact .inl ⟨rfl, by simp⟩
  · cases e; cases ra.non; cases rb.non; exact .inl ⟨rfl, by simp⟩
  · split at e
    · rename_i x y h1 h2
      split at e
      · rename_i h
        cases e
        exact .inr ⟨x, y, rep_dp w.sub _ _ _ h1 ra, rep_dp w.sub _ _ _ h2 rb, h.1, h.2, rfl⟩
      · cases e
    · cases e
theorem ok_eq (hu : X.A.units + 64 < cLine) : BinOk G (compareOp .Eq) cEq := by
  intro ua u B H da db d va vb e ra rb w
  unfold cEq at e
  cases q : eqD da db with
  | none => rw [q] at e; cases e
  | some k =>
    rw [q] at e; cases e
    rcases rep_eqD q ra rb w with ⟨h1, rfl⟩ | ⟨x, y, h1, h2, h3, h4, rfl⟩
    · exact ⟨_, op_eq, h1, .here w rep_bl⟩
    · exact ⟨_, op_eqD hu, x, y, h1, h2, h3, h4, .here w rep_bl⟩
theorem ok_ne (hu : X.A.units + 64 < cLine) : BinOk G (compareOp .NotEq) cNe := by
  intro ua u B H da db d va vb e ra rb w
  unfold cNe at e
  cases q : eqD da db with
  | none => rw [q] at e; cases e
  | some k =>
    rw [q] at e; cases e
    rcases rep_eqD q ra rb w with ⟨h1, rfl⟩ | ⟨x, y, h1, h2, h3, h4, rfl⟩
    · exact ⟨_, op_ne, h1, .here w rep_bl⟩
    · exact ⟨_, op_neD hu, x, y, h1, h2, h3, h4, .here w rep_bl⟩
theorem ok_lt : BinOk G (compareOp .Lt) cLt := by
  intro ua u B H da db d va vb e ra rb w
  unfold cLt at e
  split at e
  · cases e; cases ra.int; cases rb.int
    exact ⟨_, op_lt, _, _, rfl, rfl, .here w rep_bl⟩
  · cases e; cases ra.str; cases rb.str
    exact ⟨_, op_lt_str, _, _, rfl, rfl, .here w rep_bl⟩
  · cases e
theorem ok_le : BinOk G (compareOp .LtE) cLe := by
  intro ua u B H da db d va vb e ra rb w
  unfold cLe at e
  split at e
  · cases e; cases ra.int; cases rb.int
    exact ⟨_, op_le, _, _, rfl, rfl, .here w rep_bl⟩
  · cases e
theorem ok_gt : BinOk G (compareOp .Gt) cGt := by
  intro ua u B H da db d va vb e ra rb w
  unfold cGt at e
  split at e
  · cases e; cases ra.int; cases rb.int
    exact ⟨_, op_gt, _, _, rfl, rfl, .here w rep_bl⟩
  · cases e
theorem ok_ge : BinOk G (compareOp .GtE) cGe := by
  intro ua u B H da db d va vb e ra rb w
  unfold cGe at e
  split at e
  · cases e; cases ra.int; cases rb.int
    exact ⟨_, op_ge, _, _, rfl, rfl, .here w rep_bl⟩
  · cases e
theorem rep_nn {ua : Option Addr} {B : Hp} {d : D} {v : V} (r : Rep G ua d v B) : v = .non ↔ d = .non := by
  cases d with
  | non => cases r.non; simp
  | bl b => cases r.bl; simp
  | int b => cases r.int; simp
  | str b => cases r.str; simp
  | lst b => obtain ⟨a, vs, rfl, _⟩ := r.lst; simp
  | tup b => obtain ⟨a, vs, rfl, _⟩ := r.tup; simp
  | pr b => obtain ⟨a, vs, rfl, _⟩ := r.pr; simp
  | ins c n x => unfold Rep at r; obtain ⟨a, C, dx, vs, rfl, _⟩ := r; simp
  | exc c n x => unfold Rep at r; obtain ⟨a, C, dx, vs, rfl, _⟩ := r; simp
  | fn x => unfold Rep at r; obtain ⟨a, _, rfl⟩ := r; simp
  | dct k x => unfold Rep at r; obtain ⟨a, vs, rfl, _⟩ := r; simp
  | dtt k x => unfold Rep at r; obtain ⟨a, vs, o, rfl, _⟩ := r; simp
  | dtn k x => unfold Rep at r; obtain ⟨a, vs, o, rfl, _⟩ := r; simp
  | urn => unfold Rep at r; obtain ⟨a, _, rfl⟩ := r; simp
theorem ok_is : BinOk G (compareOp .Is) cIs := by
  intro ua u B H da db d va vb e ra rb w
  unfold cIs at e
  split at e
  · cases e; cases ra.non; cases rb.non
    exact ⟨_, op_isN, rfl, .here w rep_bl⟩
  · rename_i hn
    cases e; cases rb.non
    refine ⟨_, op_isN, rfl, .here w ?_⟩
    rw [decide_eq_false (fun z => hn ((rep_nn ra).mp z))]
    exact rep_bl
  · cases e
end
def truD : D → Option Bool
  | .non => some false
  | .bl b => some b
  | .int i => some (i != 0)
  | .str x => if x.length ≤ sizeLine then some ((x.length : Int) != 0) else none
  | .lst ds => some (!ds.isEmpty)
  | .tup ds => some (!ds.isEmpty)
  | _ => none
theorem rep_tru {X : Cx} {G : Gx X.K} {ua : Option Addr} {u : U} {B H : Hp} {d : D} {k : Bool} {v : V} (e : truD d = some k) (r : Rep G ua d v B) (w : Wd ua u B H) : TruV X.K v H k := by
  cases d with
  | non => cases r.non; unfold truD at e; cases e; rfl
  | bl b => cases r.bl; unfold truD at e; cases e; rfl
  | int i => cases r.int; unfold truD at e; cases e; rfl
  | str x =>
    cases r.str
    simp only [truD] at e
    split at e
    · cases e; exact ⟨‹_›, rfl⟩
    · cases e
  | lst ds =>
    obtain ⟨a, vs, rfl, h, rs⟩ := r.lst
    unfold truD at e; cases e
    refine .inl ⟨vs, .of (w.sub _ _ h), ?_⟩
    have := rs.len
    cases ds <;> cases vs <;> simp_all
  | tup ds =>
    obtain ⟨a, vs, rfl, h, rs⟩ := r.tup
    unfold truD at e; cases e
    refine .inr (.inl ⟨vs, (h.mono w.sub).sq, ?_⟩)
    have := rs.len
    cases ds <;> cases vs <;> simp_all
  | pr ds => unfold truD at e; cases e
  | ins c n x => unfold truD at e; cases e
  | exc c n x => unfold truD at e; cases e
  | fn x => unfold truD at e; cases e
  | dct k x => unfold truD at e; cases e
  | dtt k x => unfold truD at e; cases e
  | dtn k x => unfold truD at e; cases e
  | urn => unfold truD at e; cases e
end Dv
namespace Dv
open PySem PySem.Spec PyProof.Rows L2
abbrev M := List Sl → U → Option (D × U)
abbrev Ms := List Sl → U → Option (List D × U)
abbrev MB := List Sl → U → Option (Bool × U)
def bnd {α β : Type} (m : Option (α × U)) (k : α → U → Option β) : Option β := match m with
  | none => none
  | some (a, u) => k a u
theorem bnd_some {α β : Type} {m : Option (α × U)} {k : α → U → Option β} {b : β} (h : bnd m k = some b) : ∃ a u, m = some (a, u) ∧ k a u = some b := by
  unfold bnd at h
  split at h
  · cases h
  · exact ⟨_, _, rfl, h⟩
def lft {α : Type} (o : Option α) (u : U) : Option (α × U) := match o with
  | none => none
  | some a => some (a, u)
theorem lft_some {α : Type} {o : Option α} {u u' : U} {a : α} (h : lft o u = some (a, u')) : o = some a ∧ u' = u := by
  unfold lft at h
  split at h
  · cases h
  · cases h; exact ⟨rfl, rfl⟩
theorem _root_.L2.PE.imp {X : Cx} {e : Expr} {t t' : TE} (h : PE X e t) (i : ∀ σ H Q, t' σ H Q → t σ H Q) : PE X e t' := ⟨fun pins s σ H Q I q => h.run pins s σ H Q I (i σ H Q q)⟩
theorem _root_.L2.PT.imp {X : Cx} {e : Expr} {t t' : TT} (h : PT X e t) (i : ∀ σ H Q, t' σ H Q → t σ H Q) : PT X e t' := ⟨fun pins s σ H Q I q => h.run pins s σ H Q I (i σ H Q q)⟩
theorem _root_.L2.PW.imp {X : Cx} {e : Expr} {t t' : TT} (h : PW X e t) (i : ∀ σ H Q, t' σ H Q → t σ H Q) : PW X e t' := ⟨fun wh pins s σ H Q I q => h.run wh pins s σ H Q I (i σ H Q q)⟩
theorem _root_.L2.PA.imp {X : Cx} {e : List Expr} {t t' : TA} (h : PA X e t) (i : ∀ σ H Q, t' σ H Q → t σ H Q) : PA X e t' := ⟨fun p pins s σ H Q I q => h.run p pins s σ H Q I (i σ H Q q)⟩
theorem _root_.L2.PI.imp {X : Cx} {g e : Expr} {t t' : TI} (h : PI X g e t) (i : ∀ σ H Q, t' σ H Q → t σ H Q) : PI X g e t' := ⟨fun pins s σ H Q I q => h.run pins s σ H Q I (i σ H Q q)⟩
theorem _root_.L2.PI.by {X : Cx} {g e : Expr} {t' : TI} (i : ∀ σ H Q, t' σ H Q → ∃ t, PI X g e t ∧ t σ H Q) : PI X g e t' := ⟨fun pins s σ H Q I q => by
  obtain ⟨t, h, q⟩ := i σ H Q q
  exact h.run pins s σ H Q I q⟩
theorem _root_.L2.PE.by {X : Cx} {e : Expr} {t' : TE} (i : ∀ σ H Q, t' σ H Q → ∃ t, PE X e t ∧ t σ H Q) : PE X e t' := ⟨fun pins s σ H Q I q => by
  obtain ⟨t, h, q⟩ := i σ H Q q
  exact h.run pins s σ H Q I q⟩
section
variable {K : PySem.W.Frag} (G : Gx K)
def tEv (m : M) : TE := fun σ H Q => ∃ ua u B env d u', EnvOk G ua env σ B H ∧ Wd ua u B H ∧ m env u = some (d, u') ∧ ∀ v H', Aft G ua B H u' d v H' → Q v H'
def Afts (ua : Option Addr) (B H : Hp) (u' : U) (ds : List D) : List V → Hp → Prop := fun vs H' => ∃ B', Grow ua B H B' H' ∧ Wd ua u' B' H' ∧ Reps G ua ds vs B'
def tEvs (m : Ms) : TA := fun σ H Q => ∃ ua u B env ds u', EnvOk G ua env σ B H ∧ Wd ua u B H ∧ m env u = some (ds, u') ∧ ∀ vs H', Afts G ua B H u' ds vs H' → Q vs H'
def AftB (ua : Option Addr) (B H : Hp) (u' : U) (H' : Hp) : Prop := ∃ B', Grow ua B H B' H' ∧ Wd ua u' B' H'
def tTst (m : MB) : TT := fun σ H Q => ∃ ua u B env b u', EnvOk G ua env σ B H ∧ Wd ua u B H ∧ m env u = some (b, u') ∧ ∀ H', AftB ua B H u' H' → Q b H'
end
section
variable {X : Cx} {G : Gx X.K} {a b c e : Expr} {es : List Expr} {ma mb mc : M} {ms : Ms} {pos : Pos}
def mVar (i : Nat) : M := fun env u => match env[i]? with
  | some (.pub d) => some (d, u)
  | _ => none
def mC (d : D) : M := fun _ u => some (d, u)
theorem dv_var (i : Nat) {x : Str} {pos : Pos} (hN : X.N[i]? = some x := by rfl) (hv : Vis X.env.scope x := by first | exact Or.inl rfl | exact Or.inr (Or.inl rfl) | exact Or.inr (Or.inr rfl)) (hd : (x == ("__debug__" : Str)) = false := by decide)
    (hcd : (x == ("__classdict__" : Str)) = false := by decide) : PE X (.Name x pos) (tEv G (mVar i)) := by
  refine (pe_var hN hv hd hcd).imp fun σ H Q h => ?_
  obtain ⟨ua, u, B, env, d, u', hE, hW, hm, q⟩ := h
  unfold mVar at hm
  split at hm
  · rename_i h
    cases hm
    obtain ⟨v, h1, h2⟩ := hE.pub _ _ h
    exact ⟨v, h1, q v H (.here hW h2)⟩
  · cases hm
/-- a constant's value stands for its data in any heap -/
theorem dv_c {t : TE} {v : V} {d : D} (h : PE X e (tC v)) (r : ∀ ua B, Rep G ua d v B) : PE X e (tEv G (mC d)) := by
  refine h.imp fun σ H Q h => ?_
  obtain ⟨ua, u, B, env, d', u', hE, hW, hm, q⟩ := h
  cases hm
  exact q v H (.here hW (r ua B))
theorem dv_int {i j} : PE X (.Constant (.int i) j pos) (tEv G (mC (.int i))) := dv_c (t := tC .non) pe_int fun _ _ => rep_int
theorem dv_bl {i j} : PE X (.Constant (.bool i) j pos) (tEv G (mC (.bl i))) := dv_c (t := tC .non) pe_bl fun _ _ => rep_bl
theorem dv_str {i j} : PE X (.Constant (.str i) j pos) (tEv G (mC (.str i))) := dv_c (t := tC .non) pe_str fun _ _ => rep_str
theorem dv_non {j} : PE X (.Constant .none j pos) (tEv G (mC .non)) := dv_c (t := tC .non) pe_non fun _ _ => rep_non
theorem dv_globS {x : Str} {z : Str} {t : Tok} {pos : Pos} (hg : Gl X x) (hm : X.mg x = some (.str z t)) (hd : (x == ("__debug__" : Str)) = false := by decide) : PE X (.Name x pos) (tEv G (mC (.str z))) :=
  dv_c (t := tC .non) (pe_glob (v := .str z) hg hm ⟨_, rfl⟩ hd) fun _ _ => rep_str
def mNil : Ms := fun _ u => some ([], u)
def mCons (m : M) (r : Ms) : Ms := fun env u => bnd (m env u) fun d u1 => bnd (r env u1) fun ds u2 => some (d :: ds, u2)
theorem dvs_nil : PA X [] (tEvs G mNil) := by
  refine pa_nil.imp fun σ H Q h => ?_
  obtain ⟨ua, u, B, env, ds, u', hE, hW, hm, q⟩ := h
  cases hm
  exact q [] H ⟨B, .refl, hW, .nil⟩
theorem dvs_cons (ha : PE X e (tEv G ma)) (hr : PA X es (tEvs G ms)) (hs : starEach (e :: es) X.env = (false, eval e X.env) :: starEach es X.env := by rfl) : PA X (e :: es) (tEvs G (mCons ma ms)) := by
  refine (pa_cons ha hr hs).imp fun σ H Q h => ?_
  obtain ⟨ua, u, B, env, ds, u', hE, hW, hm, q⟩ := h
  obtain ⟨d, u1, h1, h2⟩ := bnd_some hm
  obtain ⟨ds', u2, h2, h3⟩ := bnd_some h2
  cases h3
  refine ⟨ua, u, B, env, d, u1, hE, hW, h1, fun v H1 ⟨B1, g1, w1, r1⟩ => ⟨ua, u1, B1, env, ds', _, hE.grow g1, w1, h2, fun vs H2 ⟨B2, g2, w2, r2⟩ => q _ _ ⟨B2, g1.trans g2, w2, .cons (r1.mono _ _ g2.pub) r2⟩⟩⟩
def mLst (m : Ms) : M := fun env u => bnd (m env u) fun ds u1 => if ds.length ≤ sizeLine then some (.lst ds, u1) else none
def mTup (m : Ms) : M := fun env u => bnd (m env u) fun ds u1 => if ds.length ≤ sizeLine then some (.tup ds, u1) else none
theorem dv_lst (h : PA X es (tEvs G ms)) : PE X (.List es pos) (tEv G (mLst ms)) := by
  refine (pe_lst h).imp fun σ H Q h => ?_
  obtain ⟨ua, u, B, env, d, u', hE, hW, hm, q⟩ := h
  obtain ⟨ds, u1, h1, h2⟩ := bnd_some hm
  split at h2
  · cases h2
    refine ⟨ua, u, B, env, ds, _, hE, hW, h1, fun vs H1 ⟨B1, g1, w1, r1⟩ => ⟨by rw [← r1.len]; assumption, fun p hp => q _ _ (.up g1 (.lst w1 hp r1))⟩⟩
  · cases h2
theorem dv_tup {k : Nat} (h : PA X es (tEvs G ms)) : PE X (.Tuple es k pos) (tEv G (mTup ms)) := by
  refine (pe_tupF h).imp fun σ H Q h => ?_
  obtain ⟨ua, u, B, env, d, u', hE, hW, hm, q⟩ := h
  obtain ⟨ds, u1, h1, h2⟩ := bnd_some hm
  split at h2
  · cases h2
    refine ⟨ua, u, B, env, ds, _, hE, hW, h1, fun vs H1 ⟨B1, g1, w1, r1⟩ => ⟨by rw [← r1.len]; assumption, fun p o hp ho => q _ _ (.up g1 (.tup w1 hp ho r1))⟩⟩
  · cases h2
def rBin (G : Gx X.K) (f : D → D → Option D) : R2 := fun x y H Q => ∃ ua u B da db d, f da db = some d ∧ Rep G ua da x B ∧ Rep G ua db y B ∧ Wd ua u B H ∧ ∀ v H', Aft G ua B H u d v H' → Q v H'
theorem op_of {F : Value → Value → Sem Value} {f : D → D → Option D} (hf : BinOk G F f) : OpR X F (rBin G f) := by
  intro pins s σ H x y v u Q I rx ry h
  obtain ⟨ua, u0, B, da, db, d, e, ra, rb, w, q⟩ := h
  obtain ⟨r, ho, hr⟩ := hf ua u0 B H da db d x y e ra rb w
  exact thn (ho pins s σ H x y v u _ I rx ry hr) fun v s ⟨z, H', I', r', a⟩ => ⟨z, H', I', r', q _ _ a⟩
def mBin (f : D → D → Option D) (a b : M) : M := fun env u => bnd (a env u) fun x u1 => bnd (b env u1) fun y u2 => lft (f x y) u2
theorem bin_read {f : D → D → Option D} {σ : L2.St} {H : Hp} {Q : VK} (h : tEv G (mBin f ma mb) σ H Q) : tOp (rBin G f) (tEv G ma) (tEv G mb) σ H Q := by
  obtain ⟨ua, u, B, env, d, u', hE, hW, hm, q⟩ := h
  obtain ⟨x, u1, h1, h2⟩ := bnd_some hm
  obtain ⟨y, u2, h2, h3⟩ := bnd_some h2
  obtain ⟨l3, rfl⟩ := lft_some h3
  exact ⟨ua, u, B, env, x, u1, hE, hW, h1, fun v H1 ⟨B1, g1, w1, r1⟩ => ⟨ua, u1, B1, env, y, u', hE.grow g1, w1, h2, fun v2 H2 ⟨B2, g2, w2, r2⟩ =>
    ⟨ua, u', B2, x, y, d, l3, r1.mono _ _ g2.pub, r2, w2, fun v3 H3 a => q v3 H3 (.up g1 (.up g2 a))⟩⟩⟩
theorem dv_bin {op : Operator} {f : D → D → Option D} (hf : BinOk G (binaryOp op) f) (ha : PE X a (tEv G ma)) (hb : PE X b (tEv G mb)) : PE X (.BinOp a op b pos) (tEv G (mBin f ma mb)) :=
  (pe_op (op_of hf) ha hb).imp fun _ _ _ h => bin_read h
theorem dv_cmp {op : CmpOp} {f : D → D → Option D} (hf : BinOk G (compareOp op) f) (ha : PE X a (tEv G ma)) (hb : PE X b (tEv G mb)) (hm : behindInMarks op b = false := by rfl) : PE X (.Compare a [op] [b] pos) (tEv G (mBin f ma mb)) :=
  (pe_cmpR (op_of hf) ha hb hm).imp fun _ _ _ h => bin_read h
def mNeg (a : M) : M := fun env u => bnd (a env u) fun x u1 => match x with
  | .int i => some (.int (-i), u1)
  | _ => none
theorem dv_neg (ha : PE X a (tEv G ma)) : PE X (.UnaryOp .USub a pos) (tEv G (mNeg ma)) := by
  refine (pe_un un_neg ha).imp fun σ H Q h => ?_
  obtain ⟨ua, u, B, env, d, u', hE, hW, hm, q⟩ := h
  obtain ⟨x, u1, h1, h2⟩ := bnd_some hm
  split at h2
  · cases h2
    refine ⟨ua, u, B, env, _, _, hE, hW, h1, fun v H1 ⟨B1, g1, w1, r1⟩ => ?_⟩
    cases r1.int
    exact ⟨_, rfl, q _ _ ⟨B1, g1, w1, rep_int⟩⟩
  · cases h2
/-- what gives a bool -/
def BoolF (f : D → D → Option D) : Prop := ∀ x y d, f x y = some d → ∃ k, d = .bl k
theorem bf_eq : BoolF cEq := fun x y d h => by unfold cEq at h; cases q : eqD x y with | none => rw [q] at h; cases h | some k => rw [q] at h; cases h; exact ⟨_, rfl⟩
theorem bf_ne : BoolF cNe := fun x y d h => by unfold cNe at h; cases q : eqD x y with | none => rw [q] at h; cases h | some k => rw [q] at h; cases h; exact ⟨_, rfl⟩
theorem bf_lt : BoolF cLt := fun x y d h => by unfold cLt at h; split at h <;> cases h <;> exact ⟨_, rfl⟩
theorem bf_le : BoolF cLe := fun x y d h => by unfold cLe at h; split at h <;> cases h <;> exact ⟨_, rfl⟩
theorem bf_gt : BoolF cGt := fun x y d h => by unfold cGt at h; split at h <;> cases h <;> exact ⟨_, rfl⟩
theorem bf_ge : BoolF cGe := fun x y d h => by unfold cGe at h; split at h <;> cases h <;> exact ⟨_, rfl⟩
theorem bf_is : BoolF cIs := fun x y d h => by unfold cIs at h; split at h <;> cases h <;> exact ⟨_, rfl⟩
/-- a op b op' c -/
def mChain (f g : D → D → Option D) (a b c : M) : M := fun env u => bnd (a env u) fun x u1 => bnd (b env u1) fun y u2 => match f x y with
  | some (.bl true) => bnd (c env u2) fun z u3 => lft (g y z) u3
  | some (.bl false) => some (.bl false, u2)
  | _ => none
def mTru (a : M) : MB := fun env u => bnd (a env u) fun x u1 => lft (truD x) u1
theorem dt_val (ha : PE X a (tEv G ma)) (he : ∀ whole, isTrue a X.env whole = (do let v ← whole; standAt a.pos; holding [v] (truthy v)) := by intro _; rfl) : PT X a (tTst G (mTru ma)) := by
  refine (pt_truth ha he).imp fun σ H Q h => ?_
  obtain ⟨ua, u, B, env, d, u', hE, hW, hm, q⟩ := h
  obtain ⟨x, u1, h1, h2⟩ := bnd_some hm
  obtain ⟨l2, rfl⟩ := lft_some h2
  exact ⟨ua, u, B, env, x, u', hE, hW, h1, fun v H1 ⟨B1, g1, w1, r1⟩ => ⟨d, rep_tru l2 r1 w1, q _ ⟨B1, g1, w1⟩⟩⟩
theorem dt_cmp {op : CmpOp} {f : D → D → Option D} (hf : BinOk G (compareOp op) f) (bf : BoolF f) (ha : PE X a (tEv G ma)) (hb : PE X b (tEv G mb)) (hm : behindInMarks op b = false := by rfl) : PT X (.Compare a [op] [b] pos) (tTst G (mTru (mBin f ma mb))) := by
  refine (pt_cmpR (op_of hf) ha hb hm).imp fun σ H Q h => ?_
  obtain ⟨ua, u, B, env, d, u', hE, hW, hm, q⟩ := h
  obtain ⟨x, u1, h1, h2⟩ := bnd_some hm
  obtain ⟨l2, rfl⟩ := lft_some h2
  obtain ⟨k, rfl⟩ : ∃ k, x = .bl k := by
    obtain ⟨x1, u3, h3, h4⟩ := bnd_some h1
    obtain ⟨x2, u4, h4, h5⟩ := bnd_some h4
    exact bf _ _ _ (lft_some h5).1
  unfold truD at l2; cases l2
  refine bin_read ⟨ua, u, B, env, _, u', hE, hW, h1, fun v H1 ⟨B1, g1, w1, r1⟩ => ?_⟩
  cases r1.bl
  exact ⟨_, rfl, q _ ⟨B1, g1, w1⟩⟩
theorem dt_chain {op op' : CmpOp} {f g : D → D → Option D} (hf : BinOk G (compareOp op) f) (hg : BinOk G (compareOp op') g) (bg : BoolF g) (ha : PE X a (tEv G ma)) (hb : PE X b (tEv G mb)) (hc : PE X c (tEv G mc))
    (hm : lastMarks [op, op'] [b, c] = false := by with_unfolding_all rfl) : PT X (.Compare a [op, op'] [b, c] pos) (tTst G (mTru (mChain f g ma mb mc))) := by
  refine (pt_chain (op_of hf) (op_of hg) ha hb hc hm).imp fun σ H Q h => ?_
  obtain ⟨ua, u, B, env, d, u', hE, hW, hm, q⟩ := h
  obtain ⟨x0, u0, h1, h2⟩ := bnd_some hm
  obtain ⟨h0, rfl⟩ := lft_some h2
  obtain ⟨x, u1, h1, h2⟩ := bnd_some h1
  obtain ⟨y, u2, h2, h3⟩ := bnd_some h2
  refine ⟨ua, u, B, env, x, u1, hE, hW, h1, fun v H1 ⟨B1, g1, w1, r1⟩ => ⟨ua, u1, B1, env, y, u2, hE.grow g1, w1, h2, fun v2 H2 ⟨B2, g2, w2, r2⟩ => ?_⟩⟩
  split at h3
  · rename_i hk
    obtain ⟨z, u3, h4, h5⟩ := bnd_some h3
    obtain ⟨l5, rfl⟩ := lft_some h5
    refine ⟨ua, u2, B2, x, y, _, hk, r1.mono _ _ g2.pub, r2, w2, fun v3 H3 a3 => ?_⟩
    obtain ⟨B3, g3, w3, r3⟩ := a3
    cases r3.bl
    refine ⟨true, rfl, ?_⟩
    rw [if_pos rfl]
    refine ⟨ua, u2, B3, env, z, u', (hE.grow (g1.trans g2)).grow g3, w3, h4, fun v4 H4 ⟨B4, g4, w4, r4⟩ => ?_⟩
    refine ⟨ua, u', B4, y, z, x0, l5, (r2.mono _ _ g3.pub).mono _ _ g4.pub, r4, w4, fun v5 H5 a5 => ?_⟩
    obtain ⟨k, rfl⟩ := bg _ _ _ l5
    unfold truD at h0; cases h0
    obtain ⟨B5, g5, w5, r5⟩ := a5
    cases r5.bl
    exact ⟨_, rfl, q _ ⟨B5, g1.trans (g2.trans (g3.trans (g4.trans g5))), w5⟩⟩
  · rename_i hk
    cases h3
    unfold truD at h0; cases h0
    refine ⟨ua, _, B2, x, y, _, hk, r1.mono _ _ g2.pub, r2, w2, fun v3 H3 a3 => ?_⟩
    obtain ⟨B3, g3, w3, r3⟩ := a3
    cases r3.bl
    refine ⟨false, rfl, ?_⟩
    rw [if_neg Bool.false_ne_true]
    exact ⟨false, rfl, q _ ⟨B3, g1.trans (g2.trans g3), w3⟩⟩
  · cases h3
variable {na nb : MB} {rest : List Expr}
def mNotB (a : MB) : MB := fun env u => bnd (a env u) fun k u1 => some (!k, u1)
def mAndB (a b : MB) : MB := fun env u => bnd (a env u) fun k u1 => if k = true then b env u1 else some (false, u1)
def mOrB (a b : MB) : MB := fun env u => bnd (a env u) fun k u1 => if k = true then some (true, u1) else b env u1
theorem dt_not (ha : PT X a (tTst G na)) : PT X (.UnaryOp .Not a pos) (tTst G (mNotB na)) := by
  refine (pt_not ha).imp fun σ H Q h => ?_
  obtain ⟨ua, u, B, env, d, u', hE, hW, hm, q⟩ := h
  obtain ⟨k, u1, h1, h2⟩ := bnd_some hm
  cases h2
  exact ⟨ua, u, B, env, k, _, hE, hW, h1, fun H1 g => q _ g⟩
theorem dw_and1 (ha : PT X a (tTst G na)) : PW X (.BoolOp .And [a] pos) (tTst G na) := pw_and1 ha
theorem dw_or1 (ha : PT X a (tTst G na)) : PW X (.BoolOp .Or [a] pos) (tTst G na) := pw_or1 ha
theorem dw_and (ha : PT X a (tTst G na)) (hb : PW X (.BoolOp .And (b :: rest) pos) (tTst G nb)) : PW X (.BoolOp .And (a :: b :: rest) pos) (tTst G (mAndB na nb)) := by
  refine (pw_and ha hb).imp fun σ H Q h => ?_
  obtain ⟨ua, u, B, env, d, u', hE, hW, hm, q⟩ := h
  obtain ⟨k, u1, h1, h2⟩ := bnd_some hm
  refine ⟨ua, u, B, env, k, _, hE, hW, h1, fun H1 ⟨B1, g1, w1⟩ => ?_⟩
  cases k with
  | true => rw [if_pos rfl] at h2 ⊢; exact ⟨ua, u1, B1, env, d, u', hE.grow g1, w1, h2, fun H2 ⟨B2, g2, w2⟩ => q _ ⟨B2, g1.trans g2, w2⟩⟩
  | false => rw [if_neg Bool.false_ne_true] at h2 ⊢; cases h2; exact q _ ⟨B1, g1, w1⟩
theorem dw_or (ha : PT X a (tTst G na)) (hb : PW X (.BoolOp .Or (b :: rest) pos) (tTst G nb)) : PW X (.BoolOp .Or (a :: b :: rest) pos) (tTst G (mOrB na nb)) := by
  refine (pw_or ha hb).imp fun σ H Q h => ?_
  obtain ⟨ua, u, B, env, d, u', hE, hW, hm, q⟩ := h
  obtain ⟨k, u1, h1, h2⟩ := bnd_some hm
  refine ⟨ua, u, B, env, k, _, hE, hW, h1, fun H1 ⟨B1, g1, w1⟩ => ?_⟩
  cases k with
  | false => rw [if_neg Bool.false_ne_true] at h2 ⊢; exact ⟨ua, u1, B1, env, d, u', hE.grow g1, w1, h2, fun H2 ⟨B2, g2, w2⟩ => q _ ⟨B2, g1.trans g2, w2⟩⟩
  | true => rw [if_pos rfl] at h2 ⊢; cases h2; exact q _ ⟨B1, g1, w1⟩
def mNot (a : M) : M := fun env u => bnd (a env u) fun x u1 => bnd (lft (truD x) u1) fun k u2 => some (.bl (!k), u2)
def mAnd (a b : M) : M := fun env u => bnd (a env u) fun x u1 => bnd (lft (truD x) u1) fun k u2 => if k = true then b env u2 else some (x, u2)
def mOr (a b : M) : M := fun env u => bnd (a env u) fun x u1 => bnd (lft (truD x) u1) fun k u2 => if k = true then some (x, u2) else b env u2
theorem dv_not (ha : PE X a (tEv G ma)) : PE X (.UnaryOp .Not a pos) (tEv G (mNot ma)) := by
  refine (pe_notT ha).imp fun σ H Q h => ?_
  obtain ⟨ua, u, B, env, d, u', hE, hW, hm, q⟩ := h
  obtain ⟨x, u1, h1, h2⟩ := bnd_some hm
  obtain ⟨k, u2, h2, h3⟩ := bnd_some h2
  obtain ⟨l2, rfl⟩ := lft_some h2
  cases h3
  exact ⟨ua, u, B, env, x, _, hE, hW, h1, fun v H1 ⟨B1, g1, w1, r1⟩ => ⟨k, rep_tru l2 r1 w1, q _ _ ⟨B1, g1, w1, rep_bl⟩⟩⟩
theorem dv_one (op : PySem.BoolOp) (ha : PE X a (tEv G ma)) : PE X (.BoolOp op [a] pos) (tEv G ma) := pe_one ha
theorem dv_and (ha : PE X a (tEv G ma)) (hb : PE X (.BoolOp .And (b :: rest) pos) (tEv G mb)) : PE X (.BoolOp .And (a :: b :: rest) pos) (tEv G (mAnd ma mb)) := by
  refine (pe_andT ha hb).imp fun σ H Q h => ?_
  obtain ⟨ua, u, B, env, d, u', hE, hW, hm, q⟩ := h
  obtain ⟨x, u1, h1, h2⟩ := bnd_some hm
  obtain ⟨k, u2, h2, h3⟩ := bnd_some h2
  obtain ⟨l2, rfl⟩ := lft_some h2
  refine ⟨ua, u, B, env, x, _, hE, hW, h1, fun v H1 ⟨B1, g1, w1, r1⟩ => ⟨k, rep_tru l2 r1 w1, ?_⟩⟩
  cases k with
  | true => rw [if_pos rfl] at h3 ⊢; exact ⟨ua, _, B1, env, d, u', hE.grow g1, w1, h3, fun v2 H2 a2 => q _ _ (.up g1 a2)⟩
  | false => rw [if_neg Bool.false_ne_true] at h3 ⊢; cases h3; exact q _ _ ⟨B1, g1, w1, r1⟩
def mIte (c : MB) (a b : M) : M := fun env u => bnd (c env u) fun k u1 => if k = true then a env u1 else b env u1
theorem dv_ite (hc : PT X c (tTst G na)) (ha : PE X a (tEv G ma)) (hb : PE X b (tEv G mb)) : PE X (.IfExp c a b pos) (tEv G (mIte na ma mb)) := by
  refine (pe_ifExp hc ha hb).imp fun σ H Q h => ?_
  obtain ⟨ua, u, B, env, d, u', hE, hW, hm, q⟩ := h
  obtain ⟨k, u1, h1, h2⟩ := bnd_some hm
  refine ⟨ua, u, B, env, k, _, hE, hW, h1, fun H1 ⟨B1, g1, w1⟩ => ?_⟩
  cases k with
  | true => rw [if_pos rfl] at h2 ⊢; exact ⟨ua, u1, B1, env, d, u', hE.grow g1, w1, h2, fun v2 H2 a2 => q _ _ (.up g1 a2)⟩
  | false => rw [if_neg Bool.false_ne_true] at h2 ⊢; exact ⟨ua, u1, B1, env, d, u', hE.grow g1, w1, h2, fun v2 H2 a2 => q _ _ (.up g1 a2)⟩
end
end Dv
namespace Dv
open PySem PySem.Spec PyProof.Rows L2
def spF {K : PySem.W.Frag} (G : Gx K) (F : List D → U → Option (D × U)) (n : Nat) : Sp := fun vs H Q _ => ∃ ua u B ds d u', Reps G ua ds vs B ∧ ds.length = n ∧ Wd ua u B H ∧ F ds u = some (d, u') ∧ ∀ v H', Aft G ua B H u' d v H' → Q v H'
/-- the def x of the module, called by place, does F -/
def DefOk (P : Program) (w : World) {K : PySem.W.Frag} (mg : Str → Option Value) (base : Heap) (G : Gx K) (x : Str) (k n : Nat) (F : List D → U → Option (D × U)) : Prop :=
  ∃ f fd ps, FnOk P w K mg base CX0 k f fd ps (spF G F n) ∧ mg x = some (.ref f) ∧ PySem.W.keepIn K (.ref f) = true ∧ Binds K fd ps []
theorem DefOk.mono {P : Program} {w : World} {K : PySem.W.Frag} {mg : Str → Option Value} {base : Heap} {G : Gx K} {x : Str} {j k n : Nat} {F : List D → U → Option (D × U)} (h : DefOk P w mg base G x j n F) (l : j ≤ k) : DefOk P w mg base G x k n F := by
  obtain ⟨f, fd, ps, h1, h2⟩ := h
  exact ⟨f, fd, ps, h1.mono l, h2⟩
def mCall (n : Nat) (F : List D → U → Option (D × U)) (m : Ms) : M := fun env u => bnd (m env u) fun ds u1 => if ds.length = n then F ds u1 else none
section
variable {X : Cx} {G : Gx X.K} {a b c e : Expr} {es : List Expr} {ma mb mc : M} {ms : Ms} {pos p : Pos}
theorem dv_call {x : Str} {k n : Nat} {F : List D → U → Option (D × U)} (D0 : DefOk X.prog X.w X.mg X.base G x k n F) (hr : Room k X.A) (hg : Gl X x) (ha : PA X (e :: es) (tEvs G ms))
    (hdb : (x == ("__debug__" : Str)) = false := by decide) (he : starEach (e :: es) X.env = (false, eval e X.env) :: starEach es X.env := by rfl) (hpl : (backTo pos (starEach es X.env)).any (·.1) = false := by rfl) :
    PE X (.Call (.Name x p) (e :: es) [] pos) (tEv G (mCall n F ms)) := by
  obtain ⟨f, fd, ps, hf, hm, hk, hb⟩ := D0
  refine (pe_call hf hr hg hm hk hb .nil pass0 ha hdb he hpl).imp fun σ H Q h => ?_
  obtain ⟨ua, u, B, env, d, u', hE, hW, hm, q⟩ := h
  obtain ⟨ds, u1, h1, h2⟩ := bnd_some hm
  split at h2
  · refine ⟨ua, u, B, env, ds, u1, hE, hW, h1, fun vs H1 ⟨B1, g1, w1, r1⟩ => ?_⟩
    show spF G F n (vs ++ []) H1 Q E0
    rw [List.append_nil]
    exact ⟨ua, u1, B1, ds, d, u', r1, ‹_›, w1, h2, fun v H2 a => q _ _ (.up g1 a)⟩
  · cases h2
theorem dv_call0 {x : Str} {k : Nat} {F : List D → U → Option (D × U)} (D0 : DefOk X.prog X.w X.mg X.base G x k 0 F) (hr : Room k X.A) (hg : Gl X x)
    (hdb : (x == ("__debug__" : Str)) = false := by decide) : PE X (.Call (.Name x p) [] [] pos) (tEv G (mCall 0 F mNil)) := by
  obtain ⟨f, fd, ps, hf, hm, hk, hb⟩ := D0
  refine (pe_call0 hf hr hg hm hk hb .nil pass0 hdb).imp fun σ H Q h => ?_
  obtain ⟨ua, u, B, env, d, u', hE, hW, hm, q⟩ := h
  obtain ⟨ds, u1, h1, h2⟩ := bnd_some hm
  cases h1
  have h2 : F [] u = some (d, u') := h2
  exact ⟨ua, u, B, [], d, u', .nil, rfl, hW, h2, fun v H2 a => q _ _ a⟩
def BiOk {X : Cx} (G : Gx X.K) (f : Value) (sem : List D → Option D) : Prop := ∀ (ua : Option Addr) (u : U) (B H : Hp) (ds : List D) (d : D) (vs : List V), sem ds = some d → Reps G ua ds vs B → Wd ua u B H →
  ∃ r, CallR X f r ∧ r vs H (Aft G ua B H u d)
def rBi (G : Gx X.K) (sem : List D → Option D) : List V → Hp → VK → Prop := fun vs H Q => ∃ ua u B ds d, sem ds = some d ∧ Reps G ua ds vs B ∧ Wd ua u B H ∧ ∀ v H', Aft G ua B H u d v H' → Q v H'
theorem call_of {f : Value} {sem : List D → Option D} (hf : BiOk G f sem) : CallR X f (rBi G sem) := by
  intro pins s σ H xs us Q I r h
  obtain ⟨ua, u0, B, ds, d, e, rs, w, q⟩ := h
  obtain ⟨r', hr, hc⟩ := hf ua u0 B H ds d xs e rs w
  exact thn (hr pins s σ H xs us _ I r hc) fun v s ⟨z, H', I', r', a⟩ => ⟨z, H', I', r', q _ _ a⟩
def mBi (sem : List D → Option D) (m : Ms) : M := fun env u => bnd (m env u) fun ds u1 => lft (sem ds) u1
theorem bi_read {sem : List D → Option D} {σ : L2.St} {H : Hp} {Q : VK} (h : tEv G (mBi sem ms) σ H Q) : tCB (rBi G sem) (tEvs G ms) σ H Q := by
  obtain ⟨ua, u, B, env, d, u', hE, hW, hm, q⟩ := h
  obtain ⟨ds, u1, h1, h2⟩ := bnd_some hm
  obtain ⟨l2, rfl⟩ := lft_some h2
  exact ⟨ua, u, B, env, ds, u', hE, hW, h1, fun vs H1 ⟨B1, g1, w1, r1⟩ => ⟨ua, u', B1, ds, d, l2, r1, w1, fun v H2 a => q _ _ (.up g1 a)⟩⟩
theorem dv_bi {x : Str} {id : String} {sem : List D → Option D} (hc : BiOk G (.builtin id) sem) (hg : Gl X x) (hm : X.mg x = none) (hv : bootBuiltins x = some (.builtin id)) (ha : PA X (e :: es) (tEvs G ms)) (hn : x ≠ "__name__" := by decide) (hdb : (x == ("__debug__" : Str)) = false := by decide)
    (he : starEach (e :: es) X.env = (false, eval e X.env) :: starEach es X.env := by rfl) (hpl : (backTo pos (starEach es X.env)).any (·.1) = false := by rfl) : PE X (.Call (.Name x p) (e :: es) [] pos) (tEv G (mBi sem ms)) :=
  (pe_callB (call_of hc) hg hm hv ha hn hdb he hpl).imp fun _ _ _ h => bi_read h
theorem dv_ty {x : Str} {T : String} {sem : List D → Option D} (hc : BiOk G (.type T) sem) (hg : Gl X x) (hm : X.mg x = none) (hv : bootBuiltins x = some (.type T)) (ha : PA X (e :: es) (tEvs G ms)) (hn : x ≠ "__name__" := by decide) (hdb : (x == ("__debug__" : Str)) = false := by decide)
    (he : starEach (e :: es) X.env = (false, eval e X.env) :: starEach es X.env := by rfl) (hpl : (backTo pos (starEach es X.env)).any (·.1) = false := by rfl) : PE X (.Call (.Name x p) (e :: es) [] pos) (tEv G (mBi sem ms)) :=
  (pe_callTy (call_of hc) hg hm hv ha hn hdb he hpl).imp fun _ _ _ h => bi_read h
def bLen : List D → Option D
  | [.lst ds] => some (.int ds.length)
  | [.tup ds] => some (.int ds.length)
  | [.str x] => if x.length ≤ sizeLine then some (.int x.length) else none
  | _ => none
def bAbs : List D → Option D
  | [.int i] => some (.int (if i < 0 then -i else i))
  | _ => none
def bInt : List D → Option D
  | [.int i] => some (.int i)
  | [.bl k] => some (.int (if k then 1 else 0))
  | _ => none
def blsOf : List D → Option (List Bool)
  | [] => some []
  | .bl b :: r => (blsOf r).map fun bs => b :: bs
  | _ :: _ => none
def strsOf : List D → Option (List Str)
  | [] => some []
  | .str b :: r => (strsOf r).map fun bs => b :: bs
  | _ :: _ => none
theorem blsOf_eq : ∀ {ds : List D} {bs : List Bool}, blsOf ds = some bs → ds = bs.map .bl
  | [], bs, h => by unfold blsOf at h; cases h; rfl
  | d :: ds, bs, h => by
    cases d with
    | bl b =>
      unfold blsOf at h
      cases q : blsOf ds with
      | none => rw [q] at h; cases h
      | some r => rw [q] at h; cases h; rw [blsOf_eq q]; rfl
    | _ => unfold blsOf at h; cases h
theorem strsOf_eq : ∀ {ds : List D} {bs : List Str}, strsOf ds = some bs → ds = bs.map .str
  | [], bs, h => by unfold strsOf at h; cases h; rfl
  | d :: ds, bs, h => by
    cases d with
    | str b =>
      unfold strsOf at h
      cases q : strsOf ds with
      | none => rw [q] at h; cases h
      | some r => rw [q] at h; cases h; rw [strsOf_eq q]; rfl
    | _ => unfold strsOf at h; cases h
def bAll : List D → Option D
  | [.lst ds] => (blsOf ds).map fun bs => .bl (bs.all id)
  | _ => none
def bTuple : List D → Option D
  | [.lst ds] => some (.tup ds)
  | [.tup ds] => some (.tup ds)
  | _ => none
/-- insertion by the texts' order -/
def insS (x : Str) : List Str → List Str
  | [] => [x]
  | y :: r => if y.cps.toList < x.cps.toList then y :: insS x r else x :: y :: r
def sortS : List Str → List Str
  | [] => []
  | x :: r => insS x (sortS r)
def leS (a b : Str) : Prop := a.cps.toList ≤ b.cps.toList
theorem leS_anti {a b : Str} (h : leS a b) (h' : leS b a) : a = b := by
  have e : a.cps.toList = b.cps.toList := List.le_antisymm h h'
  obtain ⟨⟨x⟩⟩ := a
  obtain ⟨⟨y⟩⟩ := b
  have e' : x = y := e
  rw [e']
theorem insS_perm (x : Str) : ∀ l : List Str, (insS x l).Perm (x :: l)
  | [] => .refl _
  | y :: r => by
    unfold insS
    split
    · exact ((insS_perm x r).cons y).trans (.swap x y r)
    · exact .refl _
theorem sortS_perm : ∀ l : List Str, (sortS l).Perm l
  | [] => .refl _
  | x :: r => (insS_perm x _).trans ((sortS_perm r).cons x)
theorem insS_sorted (x : Str) : ∀ l : List Str, l.Pairwise leS → (insS x l).Pairwise leS
  | [], _ => by unfold insS; exact List.pairwise_singleton _ _
  | y :: r, h => by
    have h1 := List.pairwise_cons.mp h
    unfold insS
    split
    · rename_i hl
      refine List.pairwise_cons.mpr ⟨fun z hz => ?_, insS_sorted x r h1.2⟩
      rcases List.mem_cons.mp ((insS_perm x r).subset hz) with rfl | hz
      · exact List.not_lt.mp (fun q => List.lt_irrefl _ (List.lt_trans hl q))
      · exact h1.1 z hz
    · rename_i hl
      have hxy : leS x y := List.not_lt.mp hl
      refine List.pairwise_cons.mpr ⟨fun z hz => ?_, h⟩
      rcases List.mem_cons.mp hz with rfl | hz
      · exact hxy
      · exact List.le_trans hxy (h1.1 z hz)
theorem sortS_sorted : ∀ l : List Str, (sortS l).Pairwise leS
  | [] => .nil
  | x :: r => insS_sorted x _ (sortS_sorted r)
theorem rising_pw : ∀ (p : Str) (l : List Str), risingS p l = true → (p :: l).Pairwise leS
  | p, [], _ => List.pairwise_singleton _ _
  | p, x :: r, h => by
    unfold risingS at h
    simp only [Bool.and_eq_true, Bool.not_eq_true'] at h
    have h1 : leS p x := by
      have := h.1
      rw [ltCps_eq] at this
      exact List.not_lt.mp (of_decide_eq_false this)
    have h2 := rising_pw x r h.2
    refine List.pairwise_cons.mpr ⟨fun z hz => ?_, h2⟩
    rcases List.mem_cons.mp hz with rfl | hz
    · exact h1
    · exact List.le_trans h1 ((List.pairwise_cons.mp h2).1 z hz)
theorem sorted_pw (l : List Str) (h : sortedS l = true) : l.Pairwise leS := by
  cases l with
  | nil => exact .nil
  | cons x r => exact rising_pw x r h
theorem sortS_uniq {xs ys : List Str} (p : ys.Perm xs) (h : sortedS ys = true) : ys = sortS xs :=
  List.Perm.eq_of_pairwise (fun _ _ _ _ h1 h2 => leS_anti h1 h2) (sorted_pw _ h) (sortS_sorted xs) (p.trans (sortS_perm xs).symm)
def bSorted : List D → Option D
  | [.lst ds] => (strsOf ds).bind fun xs => if xs.length < 64 then some (.lst ((sortS xs).map .str)) else none
  | _ => none
theorem ok_len : BiOk G (.builtin "len") bLen := by
  intro ua u B H ds d vs e rs w
  unfold bLen at e
  split at e
  · cases e
    obtain ⟨v, t, rfl, r1, r2⟩ := rs.of_cons
    rw [r2.of_nil]
    obtain ⟨a, ys, rfl, h, r3⟩ := r1.lst
    exact ⟨_, call_len_seq, a, ys, rfl, .inl (.of (w.sub _ _ h)), .here w (by rw [← r3.len]; exact rep_int)⟩
  · cases e
    obtain ⟨v, t, rfl, r1, r2⟩ := rs.of_cons
    rw [r2.of_nil]
    obtain ⟨a, ys, rfl, h, r3⟩ := r1.tup
    exact ⟨_, call_len_seq, a, ys, rfl, .inr (h.mono w.sub).sq, .here w (by rw [← r3.len]; exact rep_int)⟩
  · split at e
    · cases e
      obtain ⟨v, t, rfl, r1, r2⟩ := rs.of_cons
      rw [r2.of_nil]
      cases r1.str
      exact ⟨_, call_len_str, _, rfl, ‹_›, .here w rep_int⟩
    · cases e
  · cases e
theorem ok_abs : BiOk G (.builtin "abs") bAbs := by
  intro ua u B H ds d vs e rs w
  unfold bAbs at e
  split at e
  · cases e
    obtain ⟨v, t, rfl, r1, r2⟩ := rs.of_cons
    rw [r2.of_nil]
    cases r1.int
    exact ⟨_, call_abs, _, rfl, .here w rep_int⟩
  · cases e
theorem ok_int : BiOk G (.type "int") bInt := by
  intro ua u B H ds d vs e rs w
  unfold bInt at e
  split at e
  · cases e
    obtain ⟨v, t, rfl, r1, r2⟩ := rs.of_cons
    rw [r2.of_nil]
    cases r1.int
    exact ⟨_, call_int1, .inl ⟨_, rfl, .here w rep_int⟩⟩
  · cases e
    obtain ⟨v, t, rfl, r1, r2⟩ := rs.of_cons
    rw [r2.of_nil]
    cases r1.bl
    exact ⟨_, call_int1, .inr ⟨_, rfl, .here w rep_int⟩⟩
  · cases e
theorem ok_all (hc : X.calm = true) : BiOk G (.builtin "all") bAll := by
  intro ua u B H ds d vs e rs w
  unfold bAll at e
  split at e
  · rename_i ds
    cases q : blsOf ds with
    | none => rw [q] at e; cases e
    | some bs =>
      rw [q] at e; cases e
      obtain ⟨v, t, rfl, r1, r2⟩ := rs.of_cons
      rw [r2.of_nil]
      obtain ⟨a, ys, rfl, h, r3⟩ := r1.lst
      rw [blsOf_eq q] at r3
      rw [r3.bls_of] at h
      exact ⟨_, cr_all hc, a, bs, rfl, .of (w.sub _ _ h), .here w rep_bl⟩
  · cases e
theorem ok_tuple : BiOk G (.type "tuple") bTuple := by
  intro ua u B H ds d vs e rs w
  unfold bTuple at e
  split at e
  · cases e
    obtain ⟨v, t, rfl, r1, r2⟩ := rs.of_cons
    rw [r2.of_nil]
    obtain ⟨a, ys, rfl, h, r3⟩ := r1.lst
    exact ⟨_, call_tupF, a, ys, rfl, .inl ⟨.of (w.sub _ _ h), fun l o hl ho => .tup w hl ho r3⟩⟩
  · cases e
    obtain ⟨v, t, rfl, r1, r2⟩ := rs.of_cons
    rw [r2.of_nil]
    have r1' := r1
    obtain ⟨a, ys, rfl, h, r3⟩ := r1.tup
    exact ⟨_, call_tupF, a, ys, rfl, .inr ⟨(h.mono w.sub).sq, .here w r1'⟩⟩
  · cases e
theorem ok_sorted : BiOk G (.builtin "sorted") bSorted := by
  intro ua u B H ds d vs e rs w
  unfold bSorted at e
  split at e
  · rename_i ds
    cases q : strsOf ds with
    | none => rw [q] at e; cases e
    | some xs =>
      rw [q] at e
      simp only [Option.bind_some] at e
      split at e
      · cases e
        obtain ⟨v, t, rfl, r1, r2⟩ := rs.of_cons
        rw [r2.of_nil]
        obtain ⟨a, ys, rfl, h, r3⟩ := r1.lst
        rw [strsOf_eq q] at r3
        rw [r3.strs_of] at h
        refine ⟨_, cr_sortedS, a, xs, rfl, .of (w.sub _ _ h), ‹_›, fun ys p hp hs hn => ?_⟩
        rw [sortS_uniq hp hs]
        exact .lst w hn Reps.strs
      · cases e
  · cases e
def tyN : D → Option String
  | .non => some "NoneType"
  | .bl _ => some "bool"
  | .int _ => some "int"
  | .str _ => some "str"
  | .lst _ => some "list"
  | .tup _ => some "tuple"
  | _ => none
def kitAnyB (t : String) : List String → Option Bool
  | [] => some false
  | n :: r => match kitB t n with
    | some true => some true
    | some false => kitAnyB t r
    | none => none
def plainTys : List String := ["str", "int", "bool", "list", "tuple"]
def isiD (d : D) (ts : List String) : Option Bool := match d with
  | .ins _ _ _ => if ts.all (plainTys.contains ·) then some false else none
  | d => (tyN d).bind fun t => kitAnyB t ts
theorem kitAny_of {K : PySem.W.Frag} {t : String} : ∀ {ts : List String} {b : Bool}, kitAnyB t ts = some b → PySem.W.kitAny K (.type t) (ts.map Value.type) = some b
  | [], b, h => by unfold kitAnyB at h; cases h; rfl
  | n :: r, b, h => by
    unfold kitAnyB at h
    show PySem.W.kitAny K (.type t) (.type n :: r.map Value.type) = some b
    split at h
    · rename_i q; cases h; exact kitAny_cons (kit_ty q) (fun z => nomatch z) (fun _ => rfl)
    · rename_i q; exact kitAny_cons (kit_ty q) (fun _ => kitAny_of h) (fun z => nomatch z)
    · cases h
theorem InsOk.one {K : PySem.W.Frag} {C : Addr} (h : InsOk K C) {n : String} (hn : plainTys.contains n = true) : PySem.W.kitOne K (.ref C) (.type n) = some false := by
  simp only [plainTys, List.contains_cons, List.contains_nil, Bool.or_eq_true, beq_iff_eq, Bool.or_false] at hn
  rcases hn with rfl | rfl | rfl | rfl | rfl
  · exact h.kStr
  · exact h.kInt
  · exact h.kBool
  · exact h.kList
  · exact h.kTup
theorem InsOk.any {K : PySem.W.Frag} {C : Addr} (h : InsOk K C) : ∀ {ts : List String}, ts.all (plainTys.contains ·) = true → PySem.W.kitAny K (.ref C) (ts.map Value.type) = some false
  | [], _ => rfl
  | n :: r, hn => by
    simp only [List.all_cons, Bool.and_eq_true] at hn
    exact kitAny_cons (h.one hn.1) (fun _ => InsOk.any h hn.2) (fun z => nomatch z)
theorem rep_isi {ua : Option Addr} {u : U} {B H : Hp} {d : D} {v : V} {ts : List String} {k : Bool} (e : isiD d ts = some k) (r : Rep G ua d v B) (w : Wd ua u B H) : ∃ t, TyX X.K H v t ∧ PySem.W.kitAny X.K t (ts.map Value.type) = some k := by
  unfold isiD at e
  cases d with
  | non => cases r.non; exact ⟨_, .base .non, kitAny_of e⟩
  | bl b => cases r.bl; exact ⟨_, .base (.bl b), kitAny_of e⟩
  | int b => cases r.int; exact ⟨_, .base (.int b), kitAny_of e⟩
  | str b => cases r.str; exact ⟨_, .base (.str b), kitAny_of e⟩
  | lst b => obtain ⟨a, vs, rfl, h, _⟩ := r.lst; exact ⟨_, .base (.lst (w.sub _ _ h)), kitAny_of e⟩
  | tup b => obtain ⟨a, vs, rfl, ⟨o, _, h⟩, _⟩ := r.tup; exact ⟨_, .fTuple (w.sub _ _ h), kitAny_of e⟩
  | pr b => exact absurd e (by simp [tyN])
  | ins c ns xs =>
    unfold Rep at r
    obtain ⟨a, C, dx, vs, rfl, hc, h, _⟩ := r
    have i := G.ok c C hc
    dsimp only at e
    split at e
    · cases e; exact ⟨_, .base (.ins (w.sub _ _ h) i.cl i.ha i.hn i.htk i.hm), i.any ‹_›⟩
    · cases e
  | exc c ns xs => exact absurd e (by simp [tyN])
  | fn x => exact absurd e (by simp [tyN])
  | dct k x => exact absurd e (by simp [tyN])
  | dtt k x => exact absurd e (by simp [tyN])
  | dtn k x => exact absurd e (by simp [tyN])
  | urn => exact absurd e (by simp [tyN])
def mIsi (ts : List String) (a : M) : M := fun env u => bnd (a env u) fun x u1 => lft ((isiD x ts).map .bl) u1
theorem map_some {α β : Type} {o : Option α} {f : α → β} {b : β} (h : o.map f = some b) : ∃ a, o = some a ∧ f a = b := by
  cases o with
  | none => cases h
  | some a => exact ⟨a, rfl, Option.some.inj h⟩
/-- isinstance(e, T) -/
theorem dv_isi {T : Str} {n : String} {pT : Pos} (hg : Gl X "isinstance") (hm : X.mg "isinstance" = none) (ha : PE X a (tEv G ma)) (hgT : Gl X T) (hmT : X.mg T = none) (hvT : bootBuiltins T = some (.type n)) (hnT : T ≠ "__name__" := by decide) (hdT : (T == ("__debug__" : Str)) = false := by decide)
    (hs : starEach (a :: [.Name T pT]) X.env = (false, eval a X.env) :: starEach [.Name T pT] X.env := by rfl) : PE X (.Call (.Name "isinstance" p) [a, .Name T pT] [] pos) (tEv G (mIsi [n] ma)) := by
  refine (pe_callB call_isi hg hm (by decide +kernel) (pa_cons ha (pa_cons (pe_bltn (v := .ty n) hgT hmT hvT rfl hnT hdT) pa_nil) hs) (he := hs)).imp fun σ H Q h => ?_
  obtain ⟨ua, u, B, env, d, u', hE, hW, hm, q⟩ := h
  obtain ⟨x, u1, h1, h2⟩ := bnd_some hm
  obtain ⟨l2, rfl⟩ := lft_some h2
  obtain ⟨k, e, rfl⟩ := map_some l2
  refine ⟨ua, u, B, env, x, u', hE, hW, h1, fun v H1 ⟨B1, g1, w1, r1⟩ => ?_⟩
  obtain ⟨t, ty, kk⟩ := rep_isi e r1 w1
  refine ⟨v, .ty n, t, .type n, k, rfl, .ty n, ty, ?_, q _ _ ⟨B1, g1, w1, rep_bl⟩⟩
  have kk : PySem.W.kitAny X.K t [Value.type n] = some k := kk
  unfold PySem.W.kitAny at kk
  split at kk
  · rename_i z; cases kk; exact z
  · rename_i z; cases kk; exact z
  · cases kk
theorem dv_isi2 {T T2 : Str} {n n2 : String} {pT pT2 pt : Pos} {kt : Nat} (hg : Gl X "isinstance") (hm : X.mg "isinstance" = none) (ha : PE X a (tEv G ma)) (hgT : Gl X T) (hmT : X.mg T = none) (hvT : bootBuiltins T = some (.type n)) (hgT2 : Gl X T2) (hmT2 : X.mg T2 = none) (hvT2 : bootBuiltins T2 = some (.type n2))
    (hnT : T ≠ "__name__" := by decide) (hdT : (T == ("__debug__" : Str)) = false := by decide) (hnT2 : T2 ≠ "__name__" := by decide) (hdT2 : (T2 == ("__debug__" : Str)) = false := by decide)
    (hs : starEach (a :: [.Tuple [.Name T pT, .Name T2 pT2] kt pt]) X.env = (false, eval a X.env) :: starEach [.Tuple [.Name T pT, .Name T2 pT2] kt pt] X.env := by rfl) :
    PE X (.Call (.Name "isinstance" p) [a, .Tuple [.Name T pT, .Name T2 pT2] kt pt] [] pos) (tEv G (mIsi [n, n2] ma)) := by
  refine (pe_callB call_isiT hg hm (by decide +kernel) (pa_cons ha (pa_cons (pe_tup (pa_cons (pe_bltn (v := .ty n) hgT hmT hvT rfl hnT hdT) (pa_cons (pe_bltn (v := .ty n2) hgT2 hmT2 hvT2 rfl hnT2 hdT2) pa_nil))) pa_nil) hs) (he := hs)).imp fun σ H Q h => ?_
  obtain ⟨ua, u, B, env, d, u', hE, hW, hm, q⟩ := h
  obtain ⟨x, u1, h1, h2⟩ := bnd_some hm
  obtain ⟨l2, rfl⟩ := lft_some h2
  obtain ⟨k, e, rfl⟩ := map_some l2
  refine ⟨ua, u, B, env, x, u', hE, hW, h1, fun v H1 ⟨B1, g1, w1, r1⟩ => ?_⟩
  refine ⟨by show 2 ≤ sizeLine; decide, fun tp htp => ?_⟩
  have w2 : Wd ua u' (upd B1 tp (.tup [.ty n, .ty n2])) (upd H1 tp (.tup [.ty n, .ty n2])) := w1.new1 htp
  have g2 : Grow ua B1 H1 (upd B1 tp (.tup [.ty n, .ty n2])) (upd H1 tp (.tup [.ty n, .ty n2])) := .new1 w1 htp
  obtain ⟨t, ty, kk⟩ := rep_isi e (r1.mono _ _ g2.pub) w2
  exact ⟨v, tp, [.ty n, .ty n2], t, [.type n, .type n2], k, rfl, upd_same, .cons (.ty n) (.cons (.ty n2) .nil), ty, kk, q _ _ ⟨_, g1.trans g2, w2, rep_bl⟩⟩
def ixD : D → D → Option D
  | .lst ds, .int i => atI ds i
  | .tup ds, .int i => atI ds i
  | .pr ds, .int i => atI ds i
  | .str z, .int i => if z.length ≤ sizeLine then (atI z.cps.toList i).map fun c => .str ⟨#[c]⟩ else none
  | _, _ => none
theorem Reps.at {ua : Option Addr} {B : Hp} {ds : List D} {vs : List V} {i : Int} {d : D} (r : Reps G ua ds vs B) (e : atI ds i = some d) : ∃ v, atI vs i = some v ∧ Rep G ua d v B := by
  unfold atI at e ⊢
  rw [← r.len]
  cases q : ixN ds.length i with
  | none => rw [q] at e; cases e
  | some j => rw [q] at e; exact r.get e
theorem dv_ix (ha : PE X a (tEv G ma)) (hb : PE X b (tEv G mb)) (hs : PlainIx b := by exact fun _ _ => rfl) : PE X (.Subscript a b pos) (tEv G (mBin ixD ma mb)) := by
  refine (pe_ix ix_seq ha hb hs).imp fun σ H Q h => ?_
  obtain ⟨ua, u, B, env, d, u', hE, hW, hm, q⟩ := h
  obtain ⟨x, u1, h1, h2⟩ := bnd_some hm
  obtain ⟨y, u2, h2, h3⟩ := bnd_some h2
  obtain ⟨l3, rfl⟩ := lft_some h3
  refine ⟨ua, u, B, env, x, u1, hE, hW, h1, fun v H1 ⟨B1, g1, w1, r1⟩ => ⟨ua, u1, B1, env, y, u', hE.grow g1, w1, h2, fun v2 H2 ⟨B2, g2, w2, r2⟩ => ?_⟩⟩
  have r1 := r1.mono _ _ g2.pub
  unfold ixD at l3
  split at l3
  · obtain ⟨p, xs, rfl, h, r3⟩ := r1.lst
    cases r2.int
    obtain ⟨z, e, r4⟩ := r3.at l3
    exact .inl ⟨p, xs, _, z, rfl, rfl, .of (w2.sub _ _ h), e, q _ _ ⟨B2, g1.trans g2, w2, r4⟩⟩
  · obtain ⟨p, xs, rfl, h, r3⟩ := r1.tup
    cases r2.int
    obtain ⟨z, e, r4⟩ := r3.at l3
    exact .inr (.inl ⟨p, xs, _, z, rfl, rfl, (h.mono w2.sub).sq, e, q _ _ ⟨B2, g1.trans g2, w2, r4⟩⟩)
  · obtain ⟨p, xs, rfl, h, r3⟩ := r1.pr
    cases r2.int
    obtain ⟨z, e, r4⟩ := r3.at l3
    exact .inr (.inl ⟨p, xs, _, z, rfl, rfl, .of (w2.sub _ _ h), e, q _ _ ⟨B2, g1.trans g2, w2, r4⟩⟩)
  · split at l3
    · cases r1.str
      cases r2.int
      obtain ⟨c, e, rfl⟩ := map_some l3
      exact .inr (.inr ⟨_, _, c, rfl, rfl, ‹_›, e, q _ _ ⟨B2, g1.trans g2, w2, rep_str⟩⟩)
    · cases l3
  · cases l3
abbrev MO := List Sl → U → Option (Option Int × U)
def tEvO (G : Gx X.K) (m : MO) : TO := fun σ H Q => ∃ ua u B env o u', EnvOk G ua env σ B H ∧ Wd ua u B H ∧ m env u = some (o, u') ∧ ∀ H', AftB ua B H u' H' → Q o H'
def moNo : MO := fun _ u => some (none, u)
def moAt (m : M) : MO := fun env u => bnd (m env u) fun d u1 => match d with
  | .int i => some (some i, u1)
  | _ => none
theorem _root_.L2.PO.imp {X : Cx} {e : Option Expr} {t t' : TO} (h : PO X e t) (i : ∀ σ H Q, t' σ H Q → t σ H Q) : PO X e t' := ⟨fun pins s σ H Q I q => h.run pins s σ H Q I (i σ H Q q)⟩
theorem do_no : PO X none (tEvO G moNo) := po_none.imp fun σ H Q h => by
  obtain ⟨ua, u, B, env, d, u', hE, hW, hm, q⟩ := h
  cases hm
  exact q _ ⟨B, .refl, hW⟩
theorem do_at (ha : PE X a (tEv G ma)) : PO X (some a) (tEvO G (moAt ma)) := (po_some ha).imp fun σ H Q h => by
  obtain ⟨ua, u, B, env, d, u', hE, hW, hm, q⟩ := h
  obtain ⟨x, u1, h1, h2⟩ := bnd_some hm
  split at h2
  · cases h2
    refine ⟨ua, u, B, env, _, _, hE, hW, h1, fun v H1 ⟨B1, g1, w1, r1⟩ => ?_⟩
    cases r1.int
    exact ⟨_, rfl, q _ ⟨B1, g1, w1⟩⟩
  · cases h2
def cutD (xs : List D) (lo hi : Option Int) : List D := (xs.drop (HT.sIx xs.length 0 lo)).take (HT.sIx xs.length xs.length hi - HT.sIx xs.length 0 lo)
def slD : D → Option Int → Option Int → Option D
  | .lst ds, lo, hi => some (.lst (cutD ds lo hi))
  | .tup ds, lo, hi => some (.tup (cutD ds lo hi))
  | .str z, lo, hi => if z.length ≤ sizeLine then some (.str (cutS z lo hi)) else none
  | _, _, _ => none
def mSl (a : M) (lo hi : MO) : M := fun env u => bnd (a env u) fun x u1 => bnd (lo env u1) fun l u2 => bnd (hi env u2) fun h u3 => lft (slD x l h) u3
theorem Reps.cut {ua : Option Addr} {B : Hp} {ds : List D} {vs : List V} (r : Reps G ua ds vs B) (lo hi : Option Int) : Reps G ua (cutD ds lo hi) (cutV vs lo hi) B := by
  unfold cutD cutV
  rw [← r.len]
  exact (r.drop _).take _
theorem dv_sl {lo hi : Option Expr} {ml mh : MO} {p2 : Pos} (ha : PE X a (tEv G ma)) (hl : PO X lo (tEvO G ml)) (hh : PO X hi (tEvO G mh)) : PE X (.Subscript a (.Slice lo hi none p2) pos) (tEv G (mSl ma ml mh)) := by
  refine (pe_slice (sl_list.or (sl_tupF.or sl_str)) ha hl hh).imp fun σ H Q h => ?_
  obtain ⟨ua, u, B, env, d, u', hE, hW, hm, q⟩ := h
  obtain ⟨x, u1, h1, h2⟩ := bnd_some hm
  obtain ⟨l, u2, h2, h3⟩ := bnd_some h2
  obtain ⟨h, u3, h3, h4⟩ := bnd_some h3
  obtain ⟨l4, rfl⟩ := lft_some h4
  refine ⟨ua, u, B, env, x, u1, hE, hW, h1, fun v H1 ⟨B1, g1, w1, r1⟩ => ⟨ua, u1, B1, env, l, u2, hE.grow g1, w1, h2, fun H2 ⟨B2, g2, w2⟩ => ⟨ua, u2, B2, env, h, u', (hE.grow g1).grow g2, w2, h3, fun H3 ⟨B3, g3, w3⟩ => ?_⟩⟩⟩
  have r1 := (r1.mono _ _ g2.pub).mono _ _ g3.pub
  have gg := g1.trans (g2.trans g3)
  unfold slD at l4
  split at l4
  · cases l4
    obtain ⟨p, xs, rfl, h, r3⟩ := r1.lst
    exact .inl ⟨p, xs, rfl, .of (w3.sub _ _ h), fun p hp => q _ _ (.up gg (.lst w3 hp (r3.cut _ _)))⟩
  · cases l4
    have r1' := r1
    obtain ⟨p, xs, rfl, h, r3⟩ := r1.tup
    refine .inr (.inl ⟨p, xs, rfl, (h.mono w3.sub).sq, fun hw => q _ _ ⟨B3, gg, w3, ?_⟩, fun _ p o hp ho => q _ _ (.up gg (.tup w3 hp ho (r3.cut _ _)))⟩)
    unfold cutD
    rw [r3.len, hw.1, hw.2, List.drop_zero, Nat.sub_zero, ← r3.len, List.take_length]
    exact r1'
  · split at l4
    · cases l4
      cases r1.str
      exact .inr (.inr ⟨_, rfl, ‹_›, q _ _ ⟨B3, gg, w3, rep_str⟩⟩)
    · cases l4
  · cases l4
end
end Dv
namespace Dv
open PySem PySem.Spec PyProof.Rows L2 RZ
def Wk {K : PySem.W.Frag} (G : Gx K) (ua : Option Addr) (J : It) (B0 : Hp) (ds : List D) : Prop := ∀ (i : Nat) (B H : Hp) (u : U), Same B0 B → Wd ua u B H →
  (∀ d, ds[i]? = some d → J.go i H ∧ ∀ x H', J.yld i H x H' → Aft G ua B H u d x H') ∧ (ds[i]? = none → J.stop i H)
abbrev MI := List Sl → U → Option (List D × U)
def tIt {K : PySem.W.Frag} (G : Gx K) (m : MI) : TI := fun σ H R => ∃ ua u B env ds u', EnvOk G ua env σ B H ∧ Wd ua u B H ∧ m env u = some (ds, u') ∧ ∀ J B' H', Grow ua B H B' H' → Wd ua u' B' H' → Wk G ua J B' ds → R J H'
def itemsD : D → Option (List D)
  | .lst ds => some ds
  | .tup ds => some ds
  | .str x => some (x.cps.toList.map fun c => .str ⟨#[c]⟩)
  | _ => none
def mItems (m : M) : MI := fun env u => bnd (m env u) fun d u1 => lft (itemsD d) u1
section
variable {X : Cx} {G : Gx X.K} {ua : Option Addr} {B H : Hp} {ds es : List D} {vs ws : List V}
theorem Reps.none {ua : Option Addr} {i : Nat} (r : Reps G ua ds vs B) (h : ds[i]? = none) : vs[i]? = none := by
  rw [List.getElem?_eq_none_iff] at h ⊢
  rw [← r.len]; exact h
theorem wk_lst {a : Addr} (h : B a = some (.lst vs)) (r : Reps G ua ds vs B) : Wk G ua (Itl X.K a) B ds := fun i B' H' u s w => by
  have hq : SqL X.K H' a vs := .of (w.sub _ _ (s _ _ h))
  refine ⟨fun d hd => ?_, fun hn => ⟨vs, hq, List.getElem?_eq_none_iff.mp (r.none hn)⟩⟩
  obtain ⟨v, hv, rv⟩ := r.get hd
  refine ⟨⟨vs, v, hq, hv⟩, fun x H2 y => ?_⟩
  obtain ⟨rfl, y⟩ := y
  have := y vs hq
  rw [hv] at this; cases this
  exact .here w (rv.mono _ _ s)
theorem wk_tup {a : Addr} (h : TupB B a vs) (r : Reps G ua ds vs B) : Wk G ua (Itt X.K a) B ds := fun i B' H' u s w => by
  have hq : SqT X.K H' a vs := ((h.mono s).mono w.sub).sq
  refine ⟨fun d hd => ?_, fun hn => ⟨vs, hq, List.getElem?_eq_none_iff.mp (r.none hn)⟩⟩
  obtain ⟨v, hv, rv⟩ := r.get hd
  refine ⟨⟨vs, v, hq, hv⟩, fun x H2 y => ?_⟩
  obtain ⟨rfl, y⟩ := y
  have := y vs hq
  rw [hv] at this; cases this
  exact .here w (rv.mono _ _ s)
theorem wk_str {x : Str} : Wk G ua (Its x) B (x.cps.toList.map fun c => .str ⟨#[c]⟩) := fun i B' H' u s w => by
  refine ⟨fun d hd => ?_, fun hn => ?_⟩
  · rw [List.getElem?_map] at hd
    obtain ⟨c, hc, rfl⟩ := map_some hd
    have hc' : x.cps[i]? = some c := by rw [← Array.getElem?_toList]; exact hc
    refine ⟨(Array.getElem?_eq_some_iff.mp hc').1, fun v H2 y => ?_⟩
    obtain ⟨rfl, c2, h2, rfl⟩ := y
    rw [hc'] at h2; cases h2
    exact .here w rep_str
  · rw [List.getElem?_eq_none_iff, List.length_map, Array.length_toList] at hn
    exact hn
theorem di_items {tg e : Expr} {m : M} (he : PE X e (tEv G m)) : PI X tg e (tIt G (mItems m)) := by
  refine PI.by fun σ H R h => ?_
  obtain ⟨ua, u, B, env, ds, u', hE, hW, hm, q⟩ := h
  obtain ⟨d, u1, h1, h2⟩ := bnd_some hm
  obtain ⟨l2, rfl⟩ := lft_some h2
  cases d with
  | lst xs =>
    cases l2
    refine ⟨_, pi_list he, ua, u, B, env, _, u', hE, hW, h1, fun v H1 ⟨B1, g1, w1, r1⟩ => ?_⟩
    obtain ⟨a, vs, rfl, h, rs⟩ := r1.lst
    exact ⟨a, rfl, ⟨vs, .of (w1.sub _ _ h)⟩, q _ _ _ g1 w1 (wk_lst h rs)⟩
  | tup xs =>
    cases l2
    refine ⟨_, pi_tup he, ua, u, B, env, _, u', hE, hW, h1, fun v H1 ⟨B1, g1, w1, r1⟩ => ?_⟩
    obtain ⟨a, vs, rfl, h, rs⟩ := r1.tup
    exact ⟨a, rfl, ⟨vs, (h.mono w1.sub).sq⟩, q _ _ _ g1 w1 (wk_tup h rs)⟩
  | str x =>
    cases l2
    refine ⟨_, pi_str he, ua, u, B, env, _, u', hE, hW, h1, fun v H1 ⟨B1, g1, w1, r1⟩ => ?_⟩
    cases r1.str
    exact ⟨_, rfl, q _ _ _ g1 w1 wk_str⟩
  | _ => cases l2
def rangeD (lo : Int) (n : Nat) : List D := (List.range n).map fun i => .int (lo + (i : Nat))
theorem wk_range {lo : Int} {n : Nat} : Wk G ua (Itr lo n) B (rangeD lo n) := fun i B' H' u s w => by
  unfold rangeD
  refine ⟨fun d hd => ?_, fun hn => ?_⟩
  · rw [List.getElem?_map] at hd
    obtain ⟨c, hc, rfl⟩ := map_some hd
    obtain ⟨hi, e⟩ := List.getElem?_eq_some_iff.mp hc
    rw [List.getElem_range] at e
    rw [List.length_range] at hi
    subst e
    refine ⟨hi, fun v H2 y => ?_⟩
    obtain ⟨rfl, rfl⟩ := y
    exact .here w rep_int
  · rw [List.getElem?_eq_none_iff, List.length_map, List.length_range] at hn
    exact hn
def mRange1 (m : M) : MI := fun env u => bnd (m env u) fun d u1 => match d with
  | .int j => if -(2 ^ 62) ≤ j ∧ j < 2 ^ 62 then some (rangeD 0 j.toNat, u1) else none
  | _ => none
theorem di_range1 {tg a : Expr} {m : M} {p pos : Pos} (hg : Gl X "range") (hm : X.mg "range" = none) (ha : PE X a (tEv G m)) (hs : starEach [a] X.env = [(false, eval a X.env)] := by rfl) : PI X tg (.Call (.Name "range" p) [a] [] pos) (tIt G (mRange1 m)) := by
  refine (pi_range1 hg hm (pa_cons ha pa_nil hs) hs).imp fun σ H R h => ?_
  obtain ⟨ua, u, B, env, ds, u', hE, hW, hm, q⟩ := h
  obtain ⟨d, u1, h1, h2⟩ := bnd_some hm
  refine ⟨ua, u, B, env, d, u1, hE, hW, h1, fun v H1 ⟨B1, g1, w1, r1⟩ => ?_⟩
  split at h2
  · split at h2
    · rename_i hj
      cases h2
      cases r1.int
      exact ⟨_, rfl, hj.1, hj.2, q _ _ _ g1 w1 wk_range⟩
    · cases h2
  · cases h2
/-- enumerate of a list -/
def enumD : Nat → List D → List D
  | _, [] => []
  | n, d :: r => .pr [.int n, d] :: enumD (n + 1) r
theorem enumD_get : ∀ (ds : List D) (n i : Nat), (enumD n ds)[i]? = (ds[i]?).map fun d => .pr [.int ((n + i : Nat) : Int), d]
  | [], n, i => by unfold enumD; simp
  | d :: r, n, 0 => by unfold enumD; simp
  | d :: r, n, i + 1 => by
    unfold enumD
    rw [List.getElem?_cons_succ, List.getElem?_cons_succ, enumD_get r (n + 1) i, show n + 1 + i = n + (i + 1) by omega]
theorem wk_enum {a : Addr} (h : B a = some (.lst vs)) (r : Reps G ua ds vs B) : Wk G ua (Ite X.K a) B (enumD 0 ds) := fun i B' H' u s w => by
  have hq : SqL X.K H' a vs := .of (w.sub _ _ (s _ _ h))
  rw [enumD_get]
  refine ⟨fun d hd => ?_, fun hn => ⟨vs, hq, List.getElem?_eq_none_iff.mp (r.none (Option.map_eq_none_iff.mp hn))⟩⟩
  obtain ⟨d', hd', rfl⟩ := map_some hd
  obtain ⟨v, hv, rv⟩ := r.get hd'
  refine ⟨⟨vs, v, hq, hv⟩, fun x H2 y => ?_⟩
  obtain ⟨T, x, rfl, hT, rfl, y⟩ := y
  have := y vs hq
  rw [hv] at this; cases this
  rw [Nat.zero_add]
  exact .pr w hT (.cons rep_int (.cons (rv.mono _ _ s) .nil))
/-- zip of two lists, of two tuples -/
def zipD (ds es : List D) : List D := List.zipWith (fun x y => .pr [x, y]) ds es
theorem zipD_get (ds es : List D) (i : Nat) : (zipD ds es)[i]? = match ds[i]?, es[i]? with | some x, some y => some (.pr [x, y]) | _, _ => none := by
  unfold zipD; rw [List.getElem?_zipWith]; cases ds[i]? <;> cases es[i]? <;> rfl
theorem wk_zipL {a b : Addr} (h : B a = some (.lst vs)) (r : Reps G ua ds vs B) (h2 : B b = some (.lst ws)) (r2 : Reps G ua es ws B) : Wk G ua (Itz X.K a b) B (zipD ds es) := fun i B' H' u s w => by
  have hq : SqL X.K H' a vs := .of (w.sub _ _ (s _ _ h))
  have hq2 : SqL X.K H' b ws := .of (w.sub _ _ (s _ _ h2))
  rw [zipD_get]
  refine ⟨fun d hd => ?_, fun hn => ⟨vs, ws, hq, hq2, ?_⟩⟩
  · split at hd
    · rename_i x y hx hy
      cases hd
      obtain ⟨v, hv, rv⟩ := r.get hx
      obtain ⟨v2, hv2, rv2⟩ := r2.get hy
      refine ⟨⟨vs, ws, v, v2, hq, hq2, hv, hv2⟩, fun x H2 y => ?_⟩
      obtain ⟨T, x, y, rfl, hT, rfl, y1, y2⟩ := y
      have e1 := y1 vs hq
      have e2 := y2 ws hq2
      rw [hv] at e1; cases e1
      rw [hv2] at e2; cases e2
      exact .pr w hT (.cons (rv.mono _ _ s) (.cons (rv2.mono _ _ s) .nil))
    · cases hd
  · cases q1 : ds[i]? with
    | none => exact .inl (List.getElem?_eq_none_iff.mp (r.none q1))
    | some x =>
      cases q2 : es[i]? with
      | none => exact .inr (List.getElem?_eq_none_iff.mp (r2.none q2))
      | some y => rw [q1, q2] at hn; cases hn
theorem wk_zipT {a b : Addr} (h : TupB B a vs) (r : Reps G ua ds vs B) (h2 : TupB B b ws) (r2 : Reps G ua es ws B) : Wk G ua (ItzT X.K a b) B (zipD ds es) := fun i B' H' u s w => by
  have hq : SqT X.K H' a vs := ((h.mono s).mono w.sub).sq
  have hq2 : SqT X.K H' b ws := ((h2.mono s).mono w.sub).sq
  rw [zipD_get]
  refine ⟨fun d hd => ?_, fun hn => ⟨vs, ws, hq, hq2, ?_⟩⟩
  · split at hd
    · rename_i x y hx hy
      cases hd
      obtain ⟨v, hv, rv⟩ := r.get hx
      obtain ⟨v2, hv2, rv2⟩ := r2.get hy
      refine ⟨⟨vs, ws, v, v2, hq, hq2, hv, hv2⟩, fun x H2 y => ?_⟩
      obtain ⟨T, x, y, rfl, hT, rfl, y1, y2⟩ := y
      have e1 := y1 vs hq
      have e2 := y2 ws hq2
      rw [hv] at e1; cases e1
      rw [hv2] at e2; cases e2
      exact .pr w hT (.cons (rv.mono _ _ s) (.cons (rv2.mono _ _ s) .nil))
    · cases hd
  · cases q1 : ds[i]? with
    | none => exact .inl (List.getElem?_eq_none_iff.mp (r.none q1))
    | some x =>
      cases q2 : es[i]? with
      | none => exact .inr (List.getElem?_eq_none_iff.mp (r2.none q2))
      | some y => rw [q1, q2] at hn; cases hn
def mZip (m m2 : M) : MI := fun env u => bnd (m env u) fun d u1 => bnd (m2 env u1) fun e u2 => match d, e with
  | .lst ds, .lst es => some (zipD ds es, u2)
  | .tup ds, .tup es => some (zipD ds es, u2)
  | _, _ => none
theorem di_zip {a b : Expr} {m m2 : M} {p pos tpos : Pos} {elts : List Expr} {kk : Nat} (hg : Gl X "zip") (hm : X.mg "zip" = none) (ha : PE X a (tEv G m)) (hb : PE X b (tEv G m2))
    (hs : starEach [a, b] X.env = (false, eval a X.env) :: starEach [b] X.env := by rfl) (hs2 : starEach [b] X.env = (false, eval b X.env) :: starEach [] X.env := by rfl) (hpl : (backTo pos (starEach [b] X.env)).any (·.1) = false := by rfl) :
    PI X (.Tuple elts kk tpos) (.Call (.Name "zip" p) [a, b] [] pos) (tIt G (mZip m m2)) := by
  refine (pi_zipA hg hm (pa_cons ha (pa_cons hb pa_nil hs2) hs) hs hpl).imp fun σ H R h => ?_
  obtain ⟨ua, u, B, env, ds, u', hE, hW, hm, q⟩ := h
  obtain ⟨d, u1, h1, h2⟩ := bnd_some hm
  obtain ⟨d2, u2, h3, h2⟩ := bnd_some h2
  refine ⟨ua, u, B, env, d, u1, hE, hW, h1, fun v H1 ⟨B1, g1, w1, r1⟩ => ⟨ua, u1, B1, env, d2, u2, hE.grow g1, w1, h3, fun v2 H2 ⟨B2, g2, w2, r2⟩ => ?_⟩⟩
  have r1 := r1.mono _ _ g2.pub
  split at h2
  · cases h2
    obtain ⟨a, vs, rfl, h, rs⟩ := r1.lst
    obtain ⟨b, ws, rfl, h', rs'⟩ := r2.lst
    exact ⟨a, b, vs, ws, rfl, .inl ⟨.of (w2.sub _ _ h), .of (w2.sub _ _ h'), q _ _ _ (g1.trans g2) w2 (wk_zipL h rs h' rs')⟩⟩
  · cases h2
    obtain ⟨a, vs, rfl, h, rs⟩ := r1.tup
    obtain ⟨b, ws, rfl, h', rs'⟩ := r2.tup
    exact ⟨a, b, vs, ws, rfl, .inr ⟨(h.mono w2.sub).sq, (h'.mono w2.sub).sq, q _ _ _ (g1.trans g2) w2 (wk_zipT h rs h' rs')⟩⟩
  · cases h2
end
inductive Tgt where
  | one (i : Nat) | many (is : List Nat) | tree (ts : List (Nat ⊕ List Nat)) | sq (is : List Nat)
def treeIds : List (Nat ⊕ List Nat) → List Nat
  | [] => []
  | .inl i :: r => i :: treeIds r
  | .inr is :: r => is ++ treeIds r
def Tgt.ids : Tgt → List Nat
  | .one i => [i]
  | .many is => is
  | .tree ts => treeIds ts
  | .sq is => is
def gNames : List Nat → TGs
  | [] => gNil
  | i :: r => gCons (gName i) (gNames r)
def gTrees (K : PySem.W.Frag) : List (Nat ⊕ List Nat) → TGs
  | [] => gNil
  | .inl i :: r => gCons (gName i) (gTrees K r)
  | .inr is :: r => gCons (gTup K is.length (gNames is)) (gTrees K r)
def gSq (K : PySem.W.Frag) (n : Nat) (t : TGs) : TG := fun v σ H Q => ∃ a xs, v = .ref a ∧ (SqT K H a xs ∨ SqL K H a xs) ∧ xs.length = n ∧ t xs σ H Q
def gOf (K : PySem.W.Frag) : Tgt → TG
  | .one i => gName i
  | .many is => gTup K is.length (gNames is)
  | .tree ts => gTup K ts.length (gTrees K ts)
  | .sq is => gSq K is.length (gNames is)
def setE : List Sl → List Nat → List D → List Sl
  | env, i :: is, d :: ds => setE (env.set i (Sl.pub d)) is ds
  | env, _, _ => env
def setV : List (Option V) → List Nat → List V → List (Option V)
  | σ, i :: is, v :: vs => setV (σ.set i (some v)) is vs
  | σ, _, _ => σ
theorem gNames_ok : ∀ (is : List Nat) (vs : List V) (σ : L2.St) (H : Hp) (Q : L2.St → Hp → Prop), vs.length = is.length → Q (setV σ is vs) H → gNames is vs σ H Q
  | [], [], σ, H, Q, _, q => ⟨rfl, q⟩
  | [], _ :: _, _, _, _, h, _ => by cases h
  | _ :: _, [], _, _, _, h, _ => by cases h
  | i :: is, v :: vs, σ, H, Q, h, q => ⟨v, vs, rfl, gNames_ok is vs _ H Q (by simpa using h) q⟩
section
variable {K : PySem.W.Frag} {G : Gx K} {ua : Option Addr} {B H : Hp}
theorem setE_ok : ∀ (is : List Nat) (ds : List D) (vs : List V) (env : List Sl) (σ : List (Option V)), EnvOk G ua env σ B H → Reps G ua ds vs B → EnvOk G ua (setE env is ds) (setV σ is vs) B H
  | [], ds, vs, env, σ, e, r => e
  | i :: is, [], vs, env, σ, e, r => by rw [r.of_nil]; exact e
  | i :: is, d :: ds, vs, env, σ, e, r => by
    obtain ⟨v, t, rfl, r1, r2⟩ := r.of_cons
    exact setE_ok is ds t _ _ (e.set r1 i) r2
end
theorem wipe_get (σ : List (Option V)) : ∀ (vs : List Nat) (j : Nat), (wipe σ vs)[j]? = if j ∈ vs then (σ[j]?).map (fun _ => none) else σ[j]?
  | [], j => by unfold wipe; simp
  | v :: vs, j => by
    unfold wipe
    by_cases h : v = j
    · subst h
      rw [if_pos List.mem_cons_self]
      by_cases hl : v < σ.length
      · rw [List.getElem?_set_self (by rw [wipe_length]; exact hl), List.getElem?_eq_getElem hl]; rfl
      · rw [List.getElem?_eq_none (by rw [List.length_set, wipe_length]; omega), List.getElem?_eq_none (by omega)]; rfl
    · rw [List.getElem?_set_ne h, wipe_get σ vs j]
      by_cases hj : j ∈ vs
      · rw [if_pos hj, if_pos (List.mem_cons_of_mem _ hj)]
      · rw [if_neg hj, if_neg (fun z => by rcases List.mem_cons.mp z with z | z; exact h z.symm; exact hj z)]
theorem wipe_set {σ : List (Option V)} {vs : List Nat} {i : Nat} {x : Option V} (h : i ∈ vs) : wipe (σ.set i x) vs = wipe σ vs := by
  apply List.ext_getElem?
  intro j
  rw [wipe_get, wipe_get]
  by_cases hj : j ∈ vs
  · rw [if_pos hj, if_pos hj]
    by_cases e : i = j
    · subst e
      by_cases hl : i < σ.length
      · rw [List.getElem?_set_self hl, List.getElem?_eq_getElem hl]; rfl
      · rw [List.getElem?_eq_none (by rw [List.length_set]; omega), List.getElem?_eq_none (by omega)]
    · rw [List.getElem?_set_ne e]
  · rw [if_neg hj, if_neg hj, List.getElem?_set_ne (fun z => hj (by rw [← z]; exact h))]
theorem wipe_wipe {σ : List (Option V)} {vs : List Nat} : wipe (wipe σ vs) vs = wipe σ vs := by
  apply List.ext_getElem?
  intro j
  rw [wipe_get, wipe_get]
  by_cases hj : j ∈ vs
  · rw [if_pos hj, if_pos hj]; cases σ[j]? <;> rfl
  · rw [if_neg hj, if_neg hj]
theorem wipe_setV {vs : List Nat} : ∀ {is : List Nat} {xs : List V} {σ : List (Option V)}, (∀ i ∈ is, i ∈ vs) → wipe (setV σ is xs) vs = wipe σ vs
  | [], _, _, _ => rfl
  | _ :: _, [], _, _ => rfl
  | i :: is, x :: xs, σ, h => by
    show wipe (setV (σ.set i (some x)) is xs) vs = _
    rw [wipe_setV fun j hj => h j (List.mem_cons_of_mem _ hj), wipe_set (h i List.mem_cons_self)]
theorem setV_keep : ∀ {is : List Nat} {vs : List V} {σ : List (Option V)} (j : Nat) (x : V), (setV σ is vs)[j]? = some (some x) → j ∉ is → σ[j]? = some (some x)
  | [], _, _, _, _, h, _ => h
  | _ :: _, [], _, _, _, h, _ => h
  | i :: is, v :: vs, σ, j, x, h, hj => by
    have := setV_keep (is := is) (vs := vs) (σ := σ.set i (some v)) j x h (fun z => hj (List.mem_cons_of_mem _ z))
    rw [List.getElem?_set_ne (fun z => hj (by rw [z]; exact List.mem_cons_self))] at this
    exact this
def flatN (n : Nat) : D → Option (List D)
  | .tup ds => if ds.length = n then some ds else none
  | .pr ds => if ds.length = n then some ds else none
  | _ => none
theorem flatN_ok {K : PySem.W.Frag} {G : Gx K} {ua : Option Addr} {u : U} {B H : Hp} {n : Nat} {d : D} {v : V} {ds : List D} (w : Wd ua u B H) (r : Rep G ua d v B) (h : flatN n d = some ds) : ∃ a vs, v = .ref a ∧ SqT K H a vs ∧ vs.length = n ∧ Reps G ua ds vs B := by
  cases d with
  | tup xs =>
    dsimp only [flatN] at h
    split at h
    · rename_i hl
      cases h
      obtain ⟨a, vs, rfl, h, rs⟩ := r.tup
      exact ⟨a, vs, rfl, (h.mono w.sub).sq, by rw [← rs.len]; exact hl, rs⟩
    · cases h
  | pr xs =>
    dsimp only [flatN] at h
    split at h
    · rename_i hl
      cases h
      obtain ⟨a, vs, rfl, h, rs⟩ := r.pr
      exact ⟨a, vs, rfl, .of (w.sub _ _ h), by rw [← rs.len]; exact hl, rs⟩
    · cases h
  | _ => cases h
def setT : List Sl → List (Nat ⊕ List Nat) → List D → Option (List Sl)
  | env, [], [] => some env
  | env, .inl i :: r, d :: ds => setT (env.set i (Sl.pub d)) r ds
  | env, .inr is :: r, d :: ds => match flatN is.length d with
    | some xs => setT (setE env is xs) r ds
    | none => none
  | _, _, _ => none
theorem tree_ok {K : PySem.W.Frag} {G : Gx K} {ua : Option Addr} {u : U} {B H : Hp} (w : Wd ua u B H) : ∀ (ts : List (Nat ⊕ List Nat)) (ds : List D) (vs : List V) (env env' : List Sl) (σ : List (Option V)) (Q : L2.St → Hp → Prop), EnvOk G ua env σ B H → Reps G ua ds vs B → setT env ts ds = some env' →
    (∀ σ' : List (Option V), EnvOk G ua env' σ' B H → (∀ vs, (∀ i ∈ treeIds ts, i ∈ vs) → wipe σ' vs = wipe σ vs) → (∀ (j : Nat) x, σ'[j]? = some (some x) → j ∉ treeIds ts → σ[j]? = some (some x)) → Q σ' H) → gTrees K ts vs σ H Q
  | [], [], vs, env, env', σ, Q, e, r, h, q => by
    cases h
    rw [r.of_nil]
    exact ⟨rfl, q σ e (fun _ _ => rfl) fun _ _ h _ => h⟩
  | [], _ :: _, vs, env, env', σ, Q, e, r, h, q => by cases h
  | .inl i :: ts, [], vs, env, env', σ, Q, e, r, h, q => by cases h
  | .inr is :: ts, [], vs, env, env', σ, Q, e, r, h, q => by cases h
  | .inl i :: ts, d :: ds, vs, env, env', σ, Q, e, r, h, q => by
    obtain ⟨v, t, rfl, r1, r2⟩ := r.of_cons
    refine ⟨v, t, rfl, ?_⟩
    refine tree_ok w ts ds t (env.set i (Sl.pub d)) env' (σ.set i (some v)) Q (e.set r1 i) r2 h fun σ' e' hw hk => q σ' e' (fun vs hv => ?_) fun j x hx hj => ?_
    · rw [hw vs (fun j hj => hv j (List.mem_cons_of_mem _ hj)), wipe_set (hv i List.mem_cons_self)]
    · have := hk j x hx (fun z => hj (List.mem_cons_of_mem _ z))
      rw [List.getElem?_set_ne (fun z => hj (by rw [z]; exact List.mem_cons_self))] at this
      exact this
  | .inr is :: ts, d :: ds, vs, env, env', σ, Q, e, r, h, q => by
    obtain ⟨v, t, rfl, r1, r2⟩ := r.of_cons
    have h : (match flatN is.length d with | some xs => setT (setE env is xs) ts ds | none => none) = some env' := h
    split at h
    · rename_i xs hf
      obtain ⟨a, ws, rfl, hs, hl, rs⟩ := flatN_ok w r1 hf
      refine ⟨_, t, rfl, a, ws, rfl, hs, hl, gNames_ok is ws σ H _ hl ?_⟩
      refine tree_ok w ts ds t (setE env is xs) env' (setV σ is ws) Q (setE_ok is xs ws env σ e rs) r2 h fun σ' e' hw hk => q σ' e' (fun vs hv => ?_) fun j x hx hj => ?_
      · rw [hw vs (fun j hj => hv j (List.mem_append_right _ hj)), wipe_setV fun j hj => hv j (List.mem_append_left _ hj)]
      · exact setV_keep j x (hk j x hx (fun z => hj (List.mem_append_right _ z))) fun z => hj (List.mem_append_left _ z)
    · cases h
def flatS (n : Nat) : D → Option (List D)
  | .tup ds => if ds.length = n then some ds else none
  | .lst ds => if ds.length = n then some ds else none
  | .pr ds => if ds.length = n then some ds else none
  | _ => none
theorem flatS_ok {K : PySem.W.Frag} {G : Gx K} {ua : Option Addr} {u : U} {B H : Hp} {n : Nat} {d : D} {v : V} {ds : List D} (w : Wd ua u B H) (r : Rep G ua d v B) (h : flatS n d = some ds) : ∃ a vs, v = .ref a ∧ (SqT K H a vs ∨ SqL K H a vs) ∧ vs.length = n ∧ Reps G ua ds vs B := by
  cases d with
  | tup xs =>
    dsimp only [flatS] at h
    split at h
    · rename_i hl
      cases h
      obtain ⟨a, vs, rfl, h, rs⟩ := r.tup
      exact ⟨a, vs, rfl, .inl (h.mono w.sub).sq, by rw [← rs.len]; exact hl, rs⟩
    · cases h
  | lst xs =>
    dsimp only [flatS] at h
    split at h
    · rename_i hl
      cases h
      obtain ⟨a, vs, rfl, h, rs⟩ := r.lst
      exact ⟨a, vs, rfl, .inr (.of (w.sub _ _ h)), by rw [← rs.len]; exact hl, rs⟩
    · cases h
  | pr xs =>
    dsimp only [flatS] at h
    split at h
    · rename_i hl
      cases h
      obtain ⟨a, vs, rfl, h, rs⟩ := r.pr
      exact ⟨a, vs, rfl, .inl (.of (w.sub _ _ h)), by rw [← rs.len]; exact hl, rs⟩
    · cases h
  | _ => cases h
def bindT : Tgt → D → List Sl → Option (List Sl)
  | .one i, d, env => some (env.set i (Sl.pub d))
  | .many is, .tup ds, env => if ds.length = is.length then some (setE env is ds) else none
  | .many is, .pr ds, env => if ds.length = is.length then some (setE env is ds) else none
  | .tree ts, d, env => match flatN ts.length d with
    | some ds => setT env ts ds
    | none => none
  | .sq is, d, env => match flatS is.length d with
    | some ds => some (setE env is ds)
    | none => none
  | _, _, _ => none
theorem bindT_ok {K : PySem.W.Frag} {G : Gx K} {ua : Option Addr} {u : U} {B H : Hp} {t : Tgt} {d : D} {v : V} {env env' : List Sl} {σ : List (Option V)} {Q : L2.St → Hp → Prop} (e : EnvOk G ua env σ B H) (w : Wd ua u B H) (r : Rep G ua d v B) (b : bindT t d env = some env')
    (q : ∀ σ' : List (Option V), EnvOk G ua env' σ' B H → (∀ vs, (∀ i ∈ t.ids, i ∈ vs) → wipe σ' vs = wipe σ vs) → (∀ (j : Nat) x, σ'[j]? = some (some x) → j ∉ t.ids → σ[j]? = some (some x)) → Q σ' H) : gOf K t v σ H Q := by
  cases t with
  | one i =>
    unfold bindT at b; cases b
    refine q (σ.set i (some v)) (e.set r i) (fun vs h => wipe_set (h i (by simp [Tgt.ids]))) fun j x hx hj => ?_
    rw [List.getElem?_set_ne (fun z => hj (by simp [Tgt.ids, z]))] at hx
    exact hx
  | many is =>
    cases d with
    | tup ds =>
      dsimp only [bindT] at b
      split at b
      · rename_i hl
        cases b
        obtain ⟨a, vs, rfl, h, rs⟩ := r.tup
        have hlv : vs.length = is.length := by rw [← rs.len]; exact hl
        refine ⟨a, vs, rfl, (h.mono w.sub).sq, hlv, gNames_ok is vs σ H Q hlv (q _ (setE_ok is ds vs env σ e rs) (fun ws h => wipe_setV h) ?_)⟩
        clear q e hl hlv h rs
        induction is generalizing σ vs with
        | nil => intro j x hx _; exact hx
        | cons i is ih =>
          intro j x hx hj
          cases vs with
          | nil => exact hx
          | cons v vs =>
            have hj' : j ∉ i :: is := hj
            have := ih (σ := σ.set i (some v)) (vs := vs) j x hx (fun z => hj' (List.mem_cons_of_mem _ z))
            rw [List.getElem?_set_ne (fun z => hj' (by rw [z]; exact List.mem_cons_self))] at this
            exact this
      · cases b
    | pr ds =>
      dsimp only [bindT] at b
      split at b
      · rename_i hl
        cases b
        obtain ⟨a, vs, rfl, h, rs⟩ := r.pr
        have hlv : vs.length = is.length := by rw [← rs.len]; exact hl
        refine ⟨a, vs, rfl, .of (w.sub _ _ h), hlv, gNames_ok is vs σ H Q hlv (q _ (setE_ok is ds vs env σ e rs) (fun ws h => wipe_setV h) ?_)⟩
        clear q e hl hlv h rs
        induction is generalizing σ vs with
        | nil => intro j x hx _; exact hx
        | cons i is ih =>
          intro j x hx hj
          cases vs with
          | nil => exact hx
          | cons v vs =>
            have hj' : j ∉ i :: is := hj
            have := ih (σ := σ.set i (some v)) (vs := vs) j x hx (fun z => hj' (List.mem_cons_of_mem _ z))
            rw [List.getElem?_set_ne (fun z => hj' (by rw [z]; exact List.mem_cons_self))] at this
            exact this
      · cases b
    | _ => cases b
  | tree ts =>
    unfold bindT at b
    dsimp only at b
    split at b
    · rename_i ds hf
      obtain ⟨a, vs, rfl, hs, hl, rs⟩ := flatN_ok w r hf
      exact ⟨a, vs, rfl, hs, hl, tree_ok w ts ds vs env env' σ Q e rs b q⟩
    · cases b
  | sq is =>
    unfold bindT at b
    dsimp only at b
    split at b
    · rename_i ds hf
      cases b
      obtain ⟨a, vs, rfl, hs, hl, rs⟩ := flatS_ok w r hf
      exact ⟨a, vs, rfl, hs, hl, gNames_ok is vs σ H Q hl (q _ (setE_ok is ds vs env σ e rs) (fun ws h => wipe_setV h) fun j x hx hj => setV_keep j x hx hj)⟩
    · cases b
end Dv
namespace Dv
open PySem PySem.Spec PyProof.Rows L2
def compL (f : D → U → Option (Option D × U)) : List D → U → Option (List D × U)
  | [], u => some ([], u)
  | d :: ds, u => bnd (f d u) fun o u1 => bnd (compL f ds u1) fun r u2 => some (match o with | some x => x :: r | none => r, u2)
def turnL (t : Tgt) (own : List Nat) (env : List Sl) (mc : MB) (me : M) : D → U → Option (Option D × U) := fun d u => match bindT t d (wipeE env own) with
  | none => none
  | some env' => bnd (mc env' u) fun b u1 => if b = true then bnd (me env' u1) fun x u2 => some (some x, u2) else some (none, u1)
def mLc (t : Tgt) (own : List Nat) (mi : MI) (mc : MB) (me : M) : M := fun env u => bnd (mi env u) fun ds u1 => bnd (compL (turnL t own env mc me) ds u1) fun r u2 => if r.length ≤ sizeLine then some (.lst r, u2) else none
def mYes : MB := fun _ u => some (true, u)
theorem Grow.put {ua : Option Addr} {B H B' H' : Hp} {p : Addr} {o : HO} (g : Grow ua B H B' H') (h : H p = none) : Grow ua B H B' (upd H' p o) := by
  refine ⟨fun a x e n => ?_, fun a e => ?_, g.pub, g.new⟩
  · rw [upd_ne (ne_of_none e h)]; exact g.keep a x e n
  · by_cases q : a = p
    · subst q; exact h
    · rw [upd_ne q] at e; exact g.live a e
/-- one's own object is shown to all -/
theorem Grow.show {ua : Option Addr} {B H B' H' : Hp} {p : Addr} {o : HO} (g : Grow ua B H B' H') (h : H p = none) (hb : B' p = none) : Grow ua B H (upd B' p o) H' := by
  refine ⟨g.keep, g.live, fun a x e => same_new hb a x (g.pub a x e), fun a x e => ?_⟩
  by_cases q : a = p
  · subst q; exact .inr h
  · rw [upd_ne q] at e; exact g.new a x e
theorem Wd.show {ua : Option Addr} {u : U} {B H : Hp} {p : Addr} {o : HO} (w : Wd ua u B H) (h : H p = some o) (n : ua ≠ some p) : Wd ua u (upd B p o) H := by
  refine ⟨fun a x e => ?_, fun a e => ?_⟩
  · by_cases q : a = p
    · subst q; rw [upd_same] at e; cases e; exact h
    · rw [upd_ne q] at e; exact w.sub a x e
  · rw [upd_ne (fun z => n (by rw [← z]; exact e))]; exact w.urn a e
theorem Grow.none_of {ua : Option Addr} {B H B' H' : Hp} {p : Addr} {o : HO} (g : Grow ua B H B' H') (h : H p = some o) (hb : B p = none) : B' p = none := by
  cases q : B' p with
  | none => rfl
  | some x =>
    rcases g.new p x q with z | z
    · rw [z] at hb; cases hb
    · rw [z] at h; cases h
section
variable {X : Cx} {G : Gx X.K} {mi : MI} {mc : MB} {me : M}
theorem lc_inner {t : Tgt} {own : List Nat} {σ : L2.St} {Q : VK} {ua : Option Addr} {u1 u' : U} {B1 H1 : Hp} {env : List Sl} {J : It} {ds r : List D} (ht : ∀ i ∈ t.ids, i ∈ own) (hE1 : EnvOk G ua env σ B1 H1) (w1 : Wd ua u1 B1 H1) (wk : Wk G ua J B1 ds)
    (h3 : compL (turnL t own env mc me) ds u1 = some (r, u')) (hr : r.length ≤ sizeLine) (q : ∀ v H', Aft G ua B1 H1 u' (.lst r) v H' → Q v H') :
    ∀ D, H1 D = none → ∃ W : Nat → Nat → Hp → Prop, (∃ m, W 0 m (upd H1 D (.lst []))) ∧ ∀ i m H, W i m H →
  (J.stop i H ∧ Q (.ref D) H) ∨ (J.go i H ∧ ∃ Nx : Hp → Prop, (∀ H', Nx H' → ∃ m', m' < m ∧ W (i + 1) m' H') ∧ ∀ x H', J.yld i H x H' → gOf X.K t x (wipe σ own) H' fun σ2 H2 => wipe σ2 own = wipe σ own ∧ tTst G mc σ2 H2 fun b H3 =>
    if b = true then tEv G me σ2 H3 fun y H4 => ∃ acc, H4 D = some (.lst acc) ∧ acc.length < sizeLine ∧ Nx (upd H4 D (.lst (acc ++ [y]))) else Nx H3) := by
  intro Dp hD
  refine ⟨fun i m H' => m = ds.length - i ∧ i ≤ ds.length ∧ ∃ B' uu done vs rest, Grow ua B1 H1 B' H' ∧ Wd ua uu B' H' ∧ H' Dp = some (.lst vs) ∧ B' Dp = none ∧ Reps G ua done vs B' ∧ compL (turnL t own env mc me) (ds.drop i) uu = some (rest, u') ∧ done ++ rest = r,
    ⟨ds.length, by omega, by omega, B1, u1, [], [], r, .own1 w1 hD, w1.own1 hD, upd_same, w1.none_of hD, .nil, h3, rfl⟩, ?_⟩
  rintro i m H' ⟨rfl, hi, B', uu, done, vs, rest, g2, w2, hv, hb, rs, hc, hcat⟩
  have sB : Same B1 B' := g2.pub
  have nu : ua ≠ some Dp := w1.ne_urn hD
  have hk := wk i B' H' uu sB w2
  by_cases hlt : i < ds.length
  · have hd : ds[i]? = some ds[i] := List.getElem?_eq_getElem hlt
    obtain ⟨hgo, hy⟩ := hk.1 _ hd
    rw [List.drop_eq_getElem_cons hlt] at hc
    obtain ⟨o, u3, c1, c2⟩ := bnd_some (show bnd (turnL t own env mc me ds[i] uu) _ = _ from hc)
    obtain ⟨rest', u4, c3, c4⟩ := bnd_some c2
    refine .inr ⟨hgo, fun H2 => ∃ B' uu done vs rest, Grow ua B1 H1 B' H2 ∧ Wd ua uu B' H2 ∧ H2 Dp = some (.lst vs) ∧ B' Dp = none ∧ Reps G ua done vs B' ∧ compL (turnL t own env mc me) (ds.drop (i + 1)) uu = some (rest, u') ∧ done ++ rest = r,
      fun H2 h2 => ⟨ds.length - (i + 1), by omega, rfl, hlt, h2⟩, fun x H2 y => ?_⟩
    obtain ⟨B2, g3, w3, r3⟩ := hy x H2 y
    have hv2 : H2 Dp = some (.lst vs) := g3.keep _ _ hv nu
    have hb2 : B2 Dp = none := g3.none_of hv hb
    have rs2 := rs.mono _ _ g3.pub
    have hE2 : EnvOk G ua (wipeE env own) (wipe σ own) B2 H2 := ((hE1.wipe own).grow g2).grow g3
    unfold turnL at c1
    split at c1
    · cases c1
    · rename_i env' hbt
      refine bindT_ok hE2 w3 r3 hbt fun σ' hE3 hwp hback => ⟨by rw [hwp own ht, wipe_wipe], ?_⟩
      obtain ⟨b, u5, c5, c6⟩ := bnd_some c1
      refine ⟨ua, uu, B2, env', b, u5, hE3, w3, c5, fun H3 ⟨B3, g4, w4⟩ => ?_⟩
      have hv3 : H3 Dp = some (.lst vs) := g4.keep _ _ hv2 nu
      have hb3 : B3 Dp = none := g4.none_of hv2 hb2
      have rs3 := rs2.mono _ _ g4.pub
      have gg := g2.trans (g3.trans g4)
      cases b with
      | true =>
        rw [if_pos rfl] at c6
        refine iteT ?_
        obtain ⟨x', u6, c7, c8⟩ := bnd_some c6
        cases c8
        cases c4
        refine ⟨ua, u5, B3, env', x', u3, hE3.grow g4, w4, c7, fun yv H4 ⟨B4, g5, w5, r5⟩ => ?_⟩
        have hv4 : H4 Dp = some (.lst vs) := g5.keep _ _ hv3 nu
        have hb4 : B4 Dp = none := g5.none_of hv3 hb3
        have rs4 := rs3.mono _ _ g5.pub
        refine ⟨vs, hv4, ?_, B4, u3, done ++ [x'], vs ++ [yv], rest', (gg.trans g5).put hD, w5.put hb4 nu, upd_same, hb4, rs4.append (.cons r5 .nil), c3, by rw [← hcat]; simp⟩
        have := congrArg List.length hcat
        rw [List.length_append, List.length_cons] at this
        rw [← rs4.len]
        omega
      | false =>
        rw [if_neg Bool.false_ne_true] at c6
        refine iteF ?_
        cases c6
        cases c4
        exact ⟨B3, _, done, vs, rest', gg, w4, hv3, hb3, rs3, c3, hcat⟩
  · have e : i = ds.length := by omega
    subst e
    rw [List.drop_length] at hc
    cases hc
    rw [List.append_nil] at hcat
    subst hcat
    refine .inl ⟨hk.2 (List.getElem?_eq_none (Nat.le_refl _)), q _ _ ⟨upd B' Dp (.lst vs), g2.show hD hb, w2.show hv nu, ?_⟩⟩
    unfold Rep
    exact ⟨Dp, vs, rfl, upd_same, rs.mono _ _ (same_new hb)⟩
theorem lc_read {t : Tgt} {own : List Nat} {σ : L2.St} {H : Hp} {Q : VK} (ht : ∀ i ∈ t.ids, i ∈ own) (h : tEv G (mLc t own mi mc me) σ H Q) : tLc (tIt G mi) (gOf X.K t) (tTst G mc) (tEv G me) own σ H Q := by
  obtain ⟨ua, u, B, env, d, u', hE, hW, hm, q⟩ := h
  obtain ⟨ds, u1, h1, h2⟩ := bnd_some hm
  obtain ⟨r, u2, h3, h4⟩ := bnd_some h2
  split at h4
  · cases h4
    exact ⟨ua, u, B, env, ds, u1, hE, hW, h1, fun J B1 H1 g1 w1 wk => lc_inner ht (hE.grow g1) w1 wk h3 ‹_› fun v H' a => q v H' (.up g1 a)⟩
  · cases h4
theorem dts_no : PTs X [] (tTst G mYes) := ⟨fun pins s σ H Q I h => by
  obtain ⟨ua, u, B, env, b, u', hE, hW, hm, q⟩ := h
  cases hm
  exact pts_nil.run pins s σ H Q I (q _ ⟨B, .refl, hW⟩)⟩
theorem dts_one {c : Expr} (h : PT X c (tTst G mc)) : PTs X [c] (tTst G mc) := pts_one h
variable {elt tg iter : Expr} {ifs : List Expr} {scope : Scope} {own : List (Str × Nat)} {pos : Pos}
theorem dv_lc (t : Tgt) (ids : List Nat) (hc : X.calm = true) (hN : X.N.Nodup) (hi : PI X tg iter (tIt G mi)) (ok : BlkOk X.N X.env.scope scope own) (hid : own.map (·.2) = ids) (ht : ∀ i ∈ t.ids, i ∈ ids)
    (hg : ∀ (s : Shared) (H : Hp) (C : Addr) (cl : List (Str × Addr)) (fp : List Addr), PG (X.blk s H scope (compEnvC scope cl C X.env) fp) tg (gOf X.K t)) (hq : ∀ (s : Shared) (H : Hp) (C : Addr) (cl : List (Str × Addr)) (fp : List Addr), PTs (X.blk s H scope (compEnvC scope cl C X.env) fp) ifs (tTst (K := X.K) G mc))
    (he : ∀ (s : Shared) (H : Hp) (C : Addr) (cl : List (Str × Addr)) (fp : List Addr), PE (X.blk s H scope (compEnvC scope cl C X.env) fp) elt (tEv (K := X.K) G me)) (hs : ∀ x, foldedSetIterable iter X.env x = pure x := by intro _; rfl) :
    PE X (.ListComp elt [⟨tg, iter, ifs, 0⟩] scope pos) (tEv G (mLc t ids mi mc me)) := by
  subst hid
  exact (pe_lc hc hN hi ok hg hq he hs).imp fun _ _ _ h => lc_read ht h
end
inductive Fl where
  | nx (env : List Sl) | rt (d : D) | er (env : List Sl) (c : Str) (ns : List Str) (xs : List D)
/-- an error in the air: its class, its dict, its fields -/
def ErR {K : PySem.W.Frag} (G : Gx K) (ua : Option Addr) (c : Str) (ns : List Str) (xs : List D) (cls : Value) (d : Option Addr) (B : Hp) : Prop := ∃ C vs, G.exc c = some C ∧ cls = .ref C ∧ ErD B ns vs d ∧ Reps G ua xs vs B
theorem ErR.mono {K : PySem.W.Frag} {G : Gx K} {ua : Option Addr} {c : Str} {ns : List Str} {xs : List D} {cls : Value} {d : Option Addr} {B B' : Hp} (h : ErR G ua c ns xs cls d B) (s : Same B B') : ErR G ua c ns xs cls d B' := by
  obtain ⟨C, vs, h1, h2, h3, h4⟩ := h
  exact ⟨C, vs, h1, h2, h3.mono s, h4.mono _ _ s⟩
abbrev MS := List Sl → U → Option (Fl × U)
def OwnNew (env : List Sl) (σ : List (Option V)) (H0 : Hp) : Prop := ∀ (i : Nat) ds p, env[i]? = some (Sl.own ds) → σ[i]? = some (some (V.ref p)) → H0 p = none
theorem OwnNew.set {env : List Sl} {σ : List (Option V)} {H0 : Hp} (h : OwnNew env σ H0) (i : Nat) (d : D) (v : V) : OwnNew (env.set i (Sl.pub d)) (σ.set i (some v)) H0 := fun j ds p h1 h2 => by
  rcases get_set h1 with ⟨rfl, q⟩ | ⟨q, h1⟩
  · cases q
  · rw [List.getElem?_set_ne (fun z => q z.symm)] at h2
    exact h j ds p h1 h2
def tSt {K : PySem.W.Frag} (G : Gx K) (W : WX) (m : MS) : TS := fun Dn σ H => ∃ ua u B env fl u' B0 H0, Grow ua B0 H0 B H ∧ OwnNew env σ H0 ∧ EnvOk G ua env σ B H ∧ Wd ua u B H ∧ m env u = some (fl, u') ∧ match fl with
  | .nx env' => ∀ (σ' : List (Option V)) B' H', Grow ua B0 H0 B' H' → OwnNew env' σ' H0 → EnvOk G ua env' σ' B' H' → Wd ua u' B' H' → Dn.nx σ' H'
  | .rt d => ∀ v B' H', Grow ua B0 H0 B' H' → Wd ua u' B' H' → Rep G ua d v B' → Dn.rt v H'
  | .er env' c ns xs => ∀ (σ' : List (Option V)) B' H' cls d, Grow ua B0 H0 B' H' → OwnNew env' σ' H0 → EnvOk G ua env' σ' B' H' → Wd ua u' B' H' → ErR G ua c ns xs cls d B' → W cls d σ' H'
theorem _root_.L2.PS.imp {X : Cx} {st : Stmt} {t t' : TS} (h : PS X st t) (i : ∀ Dn σ H, t' Dn σ H → t Dn σ H) : PS X st t' := ⟨fun pins s σ H Q I q => h.run pins s σ H Q I (i Q σ H q)⟩
theorem _root_.L2.PSs.imp {X : Cx} {st : List Stmt} {t t' : TS} (h : PSs X st t) (i : ∀ Dn σ H, t' Dn σ H → t Dn σ H) : PSs X st t' := ⟨fun pins s σ H Q I q => h.run pins s σ H Q I (i Q σ H q)⟩
section
variable {X : Cx} {G : Gx X.K} {W : WX} {a b e : Expr} {me ma mb : M} {mc : MB} {pos : Pos} {st : Stmt} {sts : List Stmt} {m1 m2 : MS}
def sNil : MS := fun env u => some (.nx env, u)
def sCons (a b : MS) : MS := fun env u => bnd (a env u) fun fl u1 => match fl with
  | .nx env' => b env' u1
  | fl => some (fl, u1)
theorem dss_nil : PSs X [] (tSt G W sNil) := pss_nil.imp fun Dn σ H h => by
  obtain ⟨ua, u, B, env, fl, u', B0, H0, hg, hO, hE, hW, hm, q⟩ := h
  cases hm
  exact q σ B H hg hO hE hW
theorem dss_cons (h1 : PS X st (tSt G W m1)) (h2 : PSs X sts (tSt G W m2)) : PSs X (st :: sts) (tSt G W (sCons m1 m2)) := (pss_cons h1 h2).imp fun Dn σ H h => by
  obtain ⟨ua, u, B, env, fl, u', B0, H0, hg, hO, hE, hW, hm, q⟩ := h
  obtain ⟨f1, u1, c1, c2⟩ := bnd_some hm
  refine ⟨ua, u, B, env, f1, u1, B0, H0, hg, hO, hE, hW, c1, ?_⟩
  cases f1 with
  | nx env' => exact fun σ' B' H' g o e w => ⟨ua, u1, B', env', fl, u', B0, H0, g, o, e, w, c2, q⟩
  | rt d => cases c2; exact q
  | er env' c ns xs => cases c2; exact q
def sSet (i : Nat) (m : M) : MS := fun env u => bnd (m env u) fun d u1 => some (.nx (env.set i (Sl.pub d)), u1)
theorem ds_set (i : Nat) {x : Str} {pos' : Pos} (hN : X.N.Nodup) (he : PE X e (tEv G me)) (hi : X.N[i]? = some x := by rfl) (hx : Loc X.env.scope x := by first | exact Or.inl rfl | exact Or.inr rfl) (hs : swapsWith e (some (.Name x pos')) pos.line X.env = pure false := by rfl)
    (hf : X.fn x = true ∨ X.env.scope.names.lookup x = some .local := by first | exact .inl rfl | exact .inr rfl | assumption) : PS X (.Assign [.Name x pos'] e pos) (tSt G W (sSet i me)) := (ps_set hN hi hx he hs hf).imp fun Dn σ H h => by
  obtain ⟨ua, u, B, env, fl, u', B0, H0, hg, hO, hE, hW, hm, q⟩ := h
  obtain ⟨d, u1, c1, c2⟩ := bnd_some hm
  cases c2
  exact ⟨ua, u, B, env, d, _, hE, hW, c1, fun v H1 ⟨B1, g1, w1, r1⟩ => q _ B1 H1 (hg.trans g1) (hO.set i d v) ((hE.grow g1).set r1 i) w1⟩
theorem ds_setLc (i : Nat) {y : Str} {py : Pos} {elt tg iter : Expr} {ifs : List Expr} {scope : Scope} {own : List (Str × Nat)} {spos : Pos} {mi : MI} (t : Tgt) (ids : List Nat) (hc : X.calm = true) (hN : X.N.Nodup)
    (hsw : swapsWith (.ListComp elt [⟨tg, iter, ifs, 0⟩] scope pos) (some (.Name y py)) spos.line X.env = pure true) (hi : PI X tg iter (tIt G mi)) (ok : BlkOk X.N X.env.scope scope own) (hid : own.map (·.2) = ids) (ht : ∀ i ∈ t.ids, i ∈ ids)
    (hg : ∀ (s : Shared) (H : Hp) (C : Addr) (cl : List (Str × Addr)) (fp : List Addr), PG (X.blk s H scope (compEnvC scope cl C X.env) fp) tg (gOf X.K t)) (hq : ∀ (s : Shared) (H : Hp) (C : Addr) (cl : List (Str × Addr)) (fp : List Addr), PTs (X.blk s H scope (compEnvC scope cl C X.env) fp) ifs (tTst (K := X.K) G mc))
    (he : ∀ (s : Shared) (H : Hp) (C : Addr) (cl : List (Str × Addr)) (fp : List Addr), PE (X.blk s H scope (compEnvC scope cl C X.env) fp) elt (tEv (K := X.K) G me)) (hy : X.N[i]? = some y := by rfl) (hyl : X.env.scope.names.lookup y = some .local := by rfl) (hs : ∀ x, foldedSetIterable iter X.env x = pure x := by intro _; rfl) :
    PS X (.Assign [.Name y py] (.ListComp elt [⟨tg, iter, ifs, 0⟩] scope pos) spos) (tSt G W (sSet i (mLc t ids mi mc me))) := by
  subst hid
  refine (ps_setLc hc hN hy hyl hsw hi ok hg hq he hs).imp fun Dn σ H h => ?_
  obtain ⟨ua, u, B, env, fl, u', B0, H0, hg, hO, hE, hW, hm, q⟩ := h
  obtain ⟨d, u1, c1, c2⟩ := bnd_some hm
  cases c2
  exact lc_read ht ⟨ua, u, B, env, d, _, hE, hW, c1, fun v H1 ⟨B1, g1, w1, r1⟩ => q _ B1 H1 (hg.trans g1) (hO.set i d v) ((hE.grow g1).set r1 i) w1⟩
/-- a, b = a tuple -/
def sTgt (t : Tgt) (m : M) : MS := fun env u => bnd (m env u) fun d u1 => match bindT t d env with
  | some env' => some (.nx env', u1)
  | none => none
theorem setE_own : ∀ {is : List Nat} {xs : List D} {env : List Sl} (j : Nat) (ds : Oo), (setE env is xs)[j]? = some (Sl.own ds) → xs.length = is.length → env[j]? = some (Sl.own ds) ∧ j ∉ is
  | [], _, _, _, _, h, _ => ⟨h, by simp⟩
  | _ :: _, [], _, _, _, _, hl => by cases hl
  | i :: is, x :: xs, env, j, ds, h, hl => by
    obtain ⟨h1, h2⟩ := setE_own (is := is) (xs := xs) (env := env.set i (Sl.pub x)) j ds h (by simpa using hl)
    rcases get_set h1 with ⟨rfl, q⟩ | ⟨q, h3⟩
    · cases q
    · exact ⟨h3, fun z => by rcases List.mem_cons.mp z with z | z; exact q z; exact h2 z⟩
theorem flatN_len {n : Nat} {d : D} {xs : List D} (h : flatN n d = some xs) : xs.length = n := by
  cases d with
  | tup ys => dsimp only [flatN] at h; split at h; (cases h; assumption); cases h
  | pr ys => dsimp only [flatN] at h; split at h; (cases h; assumption); cases h
  | _ => cases h
theorem flatS_len {n : Nat} {d : D} {xs : List D} (h : flatS n d = some xs) : xs.length = n := by
  cases d with
  | tup ys => dsimp only [flatS] at h; split at h; (cases h; assumption); cases h
  | lst ys => dsimp only [flatS] at h; split at h; (cases h; assumption); cases h
  | pr ys => dsimp only [flatS] at h; split at h; (cases h; assumption); cases h
  | _ => cases h
theorem setT_own : ∀ {ts : List (Nat ⊕ List Nat)} {xs : List D} {env env' : List Sl} (j : Nat) (ds : Oo), setT env ts xs = some env' → env'[j]? = some (Sl.own ds) → env[j]? = some (Sl.own ds) ∧ j ∉ treeIds ts
  | [], [], _, _, _, _, b, h => by cases b; exact ⟨h, by simp [treeIds]⟩
  | [], _ :: _, _, _, _, _, b, _ => by cases b
  | .inl _ :: _, [], _, _, _, _, b, _ => by cases b
  | .inr _ :: _, [], _, _, _, _, b, _ => by cases b
  | .inl i :: ts, x :: xs, env, env', j, ds, b, h => by
    obtain ⟨h1, h2⟩ := setT_own (ts := ts) (xs := xs) (env := env.set i (Sl.pub x)) j ds b h
    rcases get_set h1 with ⟨rfl, q⟩ | ⟨q, h3⟩
    · cases q
    · exact ⟨h3, fun z => by rcases List.mem_cons.mp z with z | z; exact q z; exact h2 z⟩
  | .inr is :: ts, x :: xs, env, env', j, ds, b, h => by
    have b : (match flatN is.length x with | some ys => setT (setE env is ys) ts xs | none => none) = some env' := b
    split at b
    · rename_i ys hf
      obtain ⟨h1, h2⟩ := setT_own (ts := ts) (xs := xs) (env := setE env is ys) j ds b h
      obtain ⟨h3, h4⟩ := setE_own j ds h1 (flatN_len hf)
      exact ⟨h3, fun z => (List.mem_append.mp z).elim h4 h2⟩
    · cases b
theorem bindT_own {t : Tgt} {d : D} {env env' : List Sl} (b : bindT t d env = some env') (j : Nat) (ds : Oo) (h : env'[j]? = some (Sl.own ds)) : env[j]? = some (Sl.own ds) ∧ j ∉ t.ids := by
  cases t with
  | one i =>
    unfold bindT at b; cases b
    rcases get_set h with ⟨rfl, q⟩ | ⟨q, h⟩
    · cases q
    · exact ⟨h, by simp [Tgt.ids, q]⟩
  | many is =>
    cases d with
    | tup xs =>
      dsimp only [bindT] at b
      split at b
      · rename_i hl
        cases b
        show env[j]? = some (Sl.own ds) ∧ j ∉ is
        induction is generalizing env xs with
        | nil => exact ⟨h, by simp⟩
        | cons i is ih =>
          cases xs with
          | nil => cases hl
          | cons x xs =>
            obtain ⟨h1, h2⟩ := ih (env := env.set i (Sl.pub x)) xs (by simpa using hl) h
            rcases get_set h1 with ⟨rfl, q⟩ | ⟨q, h3⟩
            · cases q
            · exact ⟨h3, fun z => by rcases List.mem_cons.mp z with z | z; exact q z; exact h2 z⟩
      · cases b
    | pr xs =>
      dsimp only [bindT] at b
      split at b
      · rename_i hl
        cases b
        show env[j]? = some (Sl.own ds) ∧ j ∉ is
        induction is generalizing env xs with
        | nil => exact ⟨h, by simp⟩
        | cons i is ih =>
          cases xs with
          | nil => cases hl
          | cons x xs =>
            obtain ⟨h1, h2⟩ := ih (env := env.set i (Sl.pub x)) xs (by simpa using hl) h
            rcases get_set h1 with ⟨rfl, q⟩ | ⟨q, h3⟩
            · cases q
            · exact ⟨h3, fun z => by rcases List.mem_cons.mp z with z | z; exact q z; exact h2 z⟩
      · cases b
    | _ => cases b
  | tree ts =>
    unfold bindT at b
    dsimp only at b
    split at b
    · exact setT_own j ds b h
    · cases b
  | sq is =>
    unfold bindT at b
    dsimp only at b
    split at b
    · rename_i xs hf
      cases b
      exact setE_own j ds h (flatS_len hf)
    · cases b
theorem ds_tgt (t : Tgt) {tg : Expr} (he : PE X e (tEv G me)) (hg : PG X tg (gOf X.K t)) (hs : swapsWithSole [tg] e pos.line X.env = pure false := by rfl) (hw : swappedStores [tg] e X.env = pure none := by rfl)
    (h1 : (assignEach [tg] X.env).map (·.2) = [assign tg X.env] := by rfl) : PS X (.Assign [tg] e pos) (tSt G W (sTgt t me)) := (ps_asg he hg hs hw h1).imp fun Dn σ H h => by
  obtain ⟨ua, u, B, env, fl, u', B0, H0, hg, hO, hE, hW, hm, q⟩ := h
  obtain ⟨d, u1, c1, c2⟩ := bnd_some hm
  split at c2
  · rename_i env' hb
    cases c2
    refine ⟨ua, u, B, env, d, _, hE, hW, c1, fun v H1 ⟨B1, g1, w1, r1⟩ => bindT_ok (hE.grow g1) w1 r1 hb fun σ' e' _ hk => q _ B1 H1 (hg.trans g1) (fun j ds p z1 z2 => ?_) e' w1⟩
    obtain ⟨z3, z4⟩ := bindT_own hb j ds z1
    exact hO j ds p z3 (hk j _ z2 z4)
  · cases c2
/-- a, b = x, y -/
def sPar (i j : Nat) (a b : M) : MS := fun env u => bnd (a env u) fun d u1 => bnd (b env u1) fun d2 u2 => some (.nx ((env.set i (Sl.pub d)).set j (Sl.pub d2)), u2)
theorem ds_par (i j : Nat) {x y : Str} {px py pt pt2 : Pos} {kt k2 : Nat} (ha : PE X a (tEv G ma)) (hb : PE X b (tEv G mb)) (h : ∀ {ta : TA}, PA X [a, b] ta → PS X (.Assign [.Tuple [.Name x px, .Name y py] kt pt] (.Tuple [a, b] k2 pt2) pos) (tPar i j ta))
    (hs : starEach (a :: [b]) X.env = (false, eval a X.env) :: starEach [b] X.env := by rfl) (hs2 : starEach (b :: []) X.env = (false, eval b X.env) :: starEach [] X.env := by rfl) :
    PS X (.Assign [.Tuple [.Name x px, .Name y py] kt pt] (.Tuple [a, b] k2 pt2) pos) (tSt G W (sPar i j ma mb)) := (h (pa_cons ha (pa_cons hb pa_nil hs2) hs)).imp fun Dn σ H h => by
  obtain ⟨ua, u, B, env, fl, u', B0, H0, hg, hO, hE, hW, hm, q⟩ := h
  obtain ⟨d, u1, c1, c2⟩ := bnd_some hm
  obtain ⟨d2, u2, c3, c4⟩ := bnd_some c2
  cases c4
  refine ⟨ua, u, B, env, d, u1, hE, hW, c1, fun v H1 ⟨B1, g1, w1, r1⟩ => ⟨ua, u1, B1, env, d2, _, hE.grow g1, w1, c3, fun v2 H2 ⟨B2, g2, w2, r2⟩ => ?_⟩⟩
  exact ⟨v, v2, rfl, q _ B2 H2 (hg.trans (g1.trans g2)) ((hO.set i d v).set j d2 v2) ((((hE.grow g1).grow g2).set (r1.mono _ _ g2.pub) i).set r2 j) w2⟩
def sRet (m : M) : MS := fun env u => bnd (m env u) fun d u1 => some (.rt d, u1)
theorem ds_ret (he : PE X e (tEv G me)) : PS X (.Return (some e) pos) (tSt G W (sRet me)) := (ps_ret he).imp fun Dn σ H h => by
  obtain ⟨ua, u, B, env, fl, u', B0, H0, hg, hO, hE, hW, hm, q⟩ := h
  obtain ⟨d, u1, c1, c2⟩ := bnd_some hm
  cases c2
  exact ⟨ua, u, B, env, d, _, hE, hW, c1, fun v H1 ⟨B1, g1, w1, r1⟩ => q v B1 H1 (hg.trans g1) w1 r1⟩
def sIf (c : MB) (a b : MS) : MS := fun env u => bnd (c env u) fun k u1 => if k = true then a env u1 else b env u1
theorem ds_if {c : Expr} {x y : List Stmt} (hc : PT X c (tTst G mc)) (ha : PSs X x (tSt G W m1)) (hb : PSs X y (tSt G W m2)) : PS X (.If c x y pos) (tSt G W (sIf mc m1 m2)) := (ps_if hc ha hb).imp fun Dn σ H h => by
  obtain ⟨ua, u, B, env, fl, u', B0, H0, hg, hO, hE, hW, hm, q⟩ := h
  obtain ⟨k, u1, c1, c2⟩ := bnd_some hm
  refine ⟨ua, u, B, env, k, u1, hE, hW, c1, fun H1 ⟨B1, g1, w1⟩ => ?_⟩
  cases k with
  | true => rw [if_pos rfl] at c2 ⊢; exact ⟨ua, u1, B1, env, fl, u', B0, H0, hg.trans g1, hO, hE.grow g1, w1, c2, q⟩
  | false => rw [if_neg Bool.false_ne_true] at c2 ⊢; exact ⟨ua, u1, B1, env, fl, u', B0, H0, hg.trans g1, hO, hE.grow g1, w1, c2, q⟩
def sDrop (m : M) : MS := fun env u => bnd (m env u) fun _ u1 => some (.nx env, u1)
theorem ds_drop (he : PE X e (tEv G me)) (hs : swapsWith e none pos.line X.env = pure false := by rfl) : PS X (.Expr e pos) (tSt G W (sDrop me)) := (ps_expr he hs).imp fun Dn σ H h => by
  obtain ⟨ua, u, B, env, fl, u', B0, H0, hg, hO, hE, hW, hm, q⟩ := h
  obtain ⟨d, u1, c1, c2⟩ := bnd_some hm
  cases c2
  exact ⟨ua, u, B, _, d, _, hE, hW, c1, fun v H1 ⟨B1, g1, w1, r1⟩ => q σ B1 H1 (hg.trans g1) hO (hE.grow g1) w1⟩
/-- a loop; no break, no continue -/
def forL (t : Tgt) (f : MS) : List D → List Sl → U → Option (Fl × U)
  | [], env, u => some (.nx env, u)
  | d :: ds, env, u => match bindT t d env with
    | none => none
    | some env1 => bnd (f env1 u) fun fl u1 => match fl with
      | .nx env2 => forL t f ds env2 u1
      | fl => some (fl, u1)
def sFor (t : Tgt) (mi : MI) (f : MS) : MS := fun env u => bnd (mi env u) fun ds u1 => forL t f ds env u1
theorem Grow.mid {ua : Option Addr} {B0 H0 B1 B2 H1 H2 : Hp} (g1 : Grow ua B0 H0 B1 H1) (g2 : Grow ua B0 H0 B2 H2) (s : Same B1 B2) : Grow ua B1 H0 B2 H2 :=
  ⟨g2.keep, g2.live, s, fun a o h => by
    rcases g2.new a o h with z | z
    · exact .inl (by
        have z1 := g1.pub a o z
        exact z1)
    · exact .inr z⟩
theorem Grow.unmid {ua : Option Addr} {B0 H0 B1 B2 H1 H2 : Hp} (g1 : Grow ua B0 H0 B1 H1) (g2 : Grow ua B1 H0 B2 H2) : Grow ua B0 H0 B2 H2 :=
  ⟨g2.keep, g2.live, fun a o h => g2.pub a o (g1.pub a o h), fun a o h => by
    rcases g2.new a o h with z | z
    · exact g1.new a o z
    · exact .inr z⟩
theorem for_read {t : Tgt} {mi : MI} {Dn : Ends} {σ : L2.St} {H : Hp} (h : tSt G W (sFor t mi m1) Dn σ H) : tFor (tIt G mi) (gOf X.K t) (tSt G W m1) Dn σ H := by
  obtain ⟨ua, u, B, env, fl, u', B0, H0, hg, hO, hE, hW, hm, q⟩ := h
  obtain ⟨ds, u1, c1, c2⟩ := bnd_some hm
  refine ⟨ua, u, B, env, ds, u1, hE, hW, c1, fun J B1 H1 g1 w1 wk => ?_⟩
  have g01 : Grow ua B0 H0 B1 H1 := hg.trans g1
  refine ⟨fun i m σ2 H2 => m = ds.length - i ∧ i ≤ ds.length ∧ ∃ B2 u2 env2, Grow ua B1 H0 B2 H2 ∧ OwnNew env2 σ2 H0 ∧ EnvOk G ua env2 σ2 B2 H2 ∧ Wd ua u2 B2 H2 ∧ forL t m1 (ds.drop i) env2 u2 = some (fl, u'),
    ⟨ds.length, by omega, by omega, B1, u1, env, g01.mid g01 (fun _ _ z => z), hO, hE.grow g1, w1, c2⟩, ?_⟩
  rintro i m σ2 H2 ⟨rfl, hi, B2, u2, env2, g2, o2, e2, w2, hf⟩
  have hk := wk i B2 H2 u2 g2.pub w2
  by_cases hlt : i < ds.length
  · have hd : ds[i]? = some ds[i] := List.getElem?_eq_getElem hlt
    obtain ⟨hgo, hy⟩ := hk.1 _ hd
    rw [List.drop_eq_getElem_cons hlt] at hf
    refine .inr ⟨hgo, fun σ3 H3 => ∃ B3 u3 env3, Grow ua B1 H0 B3 H3 ∧ OwnNew env3 σ3 H0 ∧ EnvOk G ua env3 σ3 B3 H3 ∧ Wd ua u3 B3 H3 ∧ forL t m1 (ds.drop (i + 1)) env3 u3 = some (fl, u'),
      fun σ3 H3 z => ⟨ds.length - (i + 1), by omega, rfl, hlt, z⟩, fun x H3 y => ?_⟩
    obtain ⟨B3, g3, w3, r3⟩ := hy x H3 y
    unfold forL at hf
    split at hf
    · cases hf
    · rename_i env3 hb
      refine bindT_ok (e2.grow g3) w3 r3 hb fun σ3 e3 _ hkk => ?_
      obtain ⟨f1, u3, c3, c4⟩ := bnd_some hf
      have o3 : OwnNew env3 σ3 H0 := fun j es p z1 z2 => by
        obtain ⟨z3, z4⟩ := bindT_own hb j es z1
        exact o2 j es p z3 (hkk j _ z2 z4)
      refine ⟨ua, u2, B3, env3, f1, u3, B1, H0, g2.trans g3, o3, e3, w3, c3, ?_⟩
      cases f1 with
      | nx env4 => exact fun σ4 B4 H4 z1 z2 z3 z4 => ⟨B4, u3, env4, z1, z2, z3, z4, c4⟩
      | rt x =>
        cases c4
        exact fun v B4 H4 z1 z2 z3 => q v B4 H4 (g01.unmid z1) z2 z3
      | er env4 c ns xs =>
        cases c4
        exact fun σ4 B4 H4 cls d z1 z2 z3 z4 z5 => q σ4 B4 H4 cls d (g01.unmid z1) z2 z3 z4 z5
  · have e : i = ds.length := by omega
    subst e
    rw [List.drop_length] at hf
    cases hf
    exact .inl ⟨hk.2 (List.getElem?_eq_none (Nat.le_refl _)), q σ2 B2 H2 (g01.unmid g2) o2 e2 w2⟩
theorem ds_for (t : Tgt) {mi : MI} {tg it : Expr} {body : List Stmt} (hp : PassesOwn (model X.prog X.w) X.A X.env X.xe) (hc : X.calm = true) (hi : PI X tg it (tIt G mi)) (hg : PG X tg (gOf X.K t)) (hb : PSs X body (tSt G W m1)) (hs : ∀ x, foldedSetIterable it X.env x = pure x := by intro _; rfl) :
    PS X (.For tg it body [] pos) (tSt G W (sFor t mi m1)) := (ps_for hp hc hi hg hb hs).imp fun _ _ _ h => for_read h
end
def runB (m : MS) (L : Nat) (ds : List D) (u : U) : Option (D × U) := match m (ds.map Sl.pub ++ List.replicate (L - ds.length) Sl.no) u with
  | some (.rt d, u') => some (d, u')
  | some (.nx _, u') => some (.non, u')
  | _ => none
theorem start_ok {K : PySem.W.Frag} {G : Gx K} {ua : Option Addr} {B H : Hp} {ds : List D} {vs : List V} {N : List Str} (r : Reps G ua ds vs B) : EnvOk G ua (ds.map Sl.pub ++ List.replicate (N.length - ds.length) Sl.no) (L2.start N vs) B H := by
  have hpub : ∀ (i : Nat) x, (ds.map Sl.pub ++ List.replicate (N.length - ds.length) Sl.no)[i]? = some x → (∃ d, ds[i]? = some d ∧ x = Sl.pub d) ∨ x = Sl.no := fun i x h => by
    by_cases hi : i < ds.length
    · rw [List.getElem?_append_left (by rw [List.length_map]; exact hi), List.getElem?_map] at h
      obtain ⟨d, h1, h2⟩ := map_some h
      exact .inl ⟨d, h1, h2.symm⟩
    · rw [List.getElem?_append_right (by rw [List.length_map]; omega), List.getElem?_replicate] at h
      split at h
      · exact .inr (Option.some.inj h).symm
      · cases h
  refine ⟨?_, fun i d h => ?_, fun i es h => ?_, fun i j es fs p h => ?_⟩
  · unfold L2.start
    rw [List.length_append, List.length_append, List.length_map, List.length_map, List.length_replicate, List.length_replicate, r.len]
  · rcases hpub i _ h with ⟨d', h1, h2⟩ | h2
    · cases h2
      obtain ⟨v, h3, h4⟩ := r.get h1
      refine ⟨v, ?_, h4⟩
      unfold L2.start
      rw [List.getElem?_append_left (by rw [List.length_map]; exact lt_of_get h3), List.getElem?_map, h3]; rfl
    · cases h2
  · rcases hpub i _ h with ⟨d', h1, h2⟩ | h2 <;> cases h2
  · rcases hpub i _ h with ⟨d', h1, h2⟩ | h2 <;> cases h2
/-- no error is wished for -/
def W0 : WX := fun _ _ _ _ => False
theorem def_ok {P : Program} {w : World} {K : PySem.W.Frag} {mg : Str → Option Value} {base : Heap} {G : Gx K} {x qual : Str} {st : Stmt} {f : Addr} {fd : FuncData} {N ps : List Str} {k n : Nat} {m : MS} (F : Fun K x qual st f fd) (S : FnScope N ps (defScope st)) (hn : ps.length = n)
    (hb : ∀ (cdv : Value) (A : Around) (outer : List Env) (s : Shared) (H : Hp) (E : XK), Room k (A.deeper (envOfC qual (defScope st) s.heap.objs.size f cdv)) → PSs (cxOf CX0 P w K mg base N qual (defScope st) f cdv A outer s H E).nox (defBody st) (tSt G W0 m)) :
    FnOk P w K mg base CX0 (k + 1) f fd ps (spF G (runB m N.length) n) := by
  refine F.ok S (fun vs H Q E h => ?_) (fun cdv A outer s H vs Q E hr h => ⟨_, hb cdv A outer s H E hr, ?_⟩)
  · obtain ⟨ua, u, B, ds, d, u', r, hl, _⟩ := h
    rw [← r.len, hl, hn]
  · obtain ⟨ua, u, B, ds, d, u', r, hl, hw, hf, q⟩ := h
    unfold runB at hf
    split at hf
    · rename_i d0 u0 hm
      cases hf
      refine ⟨ua, u, B, _, _, _, B, H, .refl, fun i es p z _ => ?_, start_ok r, hw, hm, fun v B' H' g w' r' => q v H' ⟨B', g, w', r'⟩⟩
      obtain ⟨_, _, h1, _⟩ := (start_ok (N := N) (H := H) r).own i es z
      have z2 := (start_ok (N := N) (H := H) r).own i es z
      exfalso
      by_cases hi : i < ds.length
      · rw [List.getElem?_append_left (by rw [List.length_map]; exact hi), List.getElem?_map] at z
        obtain ⟨_, _, h2⟩ := map_some z
        cases h2
      · rw [List.getElem?_append_right (by rw [List.length_map]; omega), List.getElem?_replicate] at z
        split at z <;> cases z
    · rename_i e0 u0 hm
      cases hf
      refine ⟨ua, u, B, _, _, _, B, H, .refl, fun i es p z _ => ?_, start_ok r, hw, hm, fun σ' B' H' g o e w' => q _ H' ⟨B', g, w', rep_non⟩⟩
      exfalso
      by_cases hi : i < ds.length
      · rw [List.getElem?_append_left (by rw [List.length_map]; exact hi), List.getElem?_map] at z
        obtain ⟨_, _, h2⟩ := map_some z
        cases h2
      · rw [List.getElem?_append_right (by rw [List.length_map]; omega), List.getElem?_replicate] at z
        split at z <;> cases z
    · cases hf
end Dv
namespace Dv
open PySem PySem.Spec PyProof.Rows L2
theorem hU64 {A : Around} {k : Nat} (hr : Room k A) : A.units + 64 < cLine := hr.units
section
variable {X : Cx} {G : Gx X.K} {W : WX} {e : Expr} {me : M} {pos : Pos}
def isUrn (env : List Sl) (i : Nat) : Bool := match env[i]? with
  | some (.pub .urn) => true
  | _ => false
theorem isUrn_pub {env : List Sl} {i : Nat} (h : isUrn env i = true) : env[i]? = some (.pub .urn) := by
  unfold isUrn at h
  split at h
  · assumption
  · cases h
def mUrn0 (i : Nat) : M := fun env u => if isUrn env i = true then some (.int u.a, u) else none
def mUrn1 (i : Nat) : M := fun env u => if isUrn env i = true then some (.int u.b, u) else none
def mUrn2 (i : Nat) : M := fun env u => if isUrn env i = true then some (.int u.c, u) else none
def sUrn0 (i : Nat) (m : M) : MS := fun env u => bnd (m env u) fun d u1 => match d with
  | .int z => if isUrn env i = true then some (.nx env, { u1 with a := z }) else none
  | _ => none
def sUrn2 (i : Nat) (m : M) : MS := fun env u => bnd (m env u) fun d u1 => match d with
  | .int z => if isUrn env i = true then some (.nx env, { u1 with c := z }) else none
  | _ => none
theorem urn_read {j : Nat} {z : U → Int} {i : Nat} {σ : L2.St} {H : Hp} {Q : VK} (hj : ∀ u : U, ([V.int u.a, .int u.b, .int u.c] : List V)[j]? = some (.int (z u))) (h : tEv G (fun env u => if isUrn env i = true then some (D.int (z u), u) else none) σ H Q) :
    tOp (rIx X.K) (tVar i) (tC (.int (j : Nat))) σ H Q := by
  obtain ⟨ua, u, B, env, d, u', hE, hW, hm, q⟩ := h
  dsimp only at hm
  split at hm
  · rename_i hi
    cases hm
    obtain ⟨v, hv, r⟩ := hE.pub _ _ (isUrn_pub hi)
    unfold Rep at r
    obtain ⟨p, e1, rfl⟩ := r
    have hw := hW.urn p e1
    exact ⟨_, hv, .inl ⟨p, _, _, _, rfl, rfl, .of hw.2, atI_nat (hj u), q _ _ ⟨B, .refl, hW, rep_int⟩⟩⟩
  · cases hm
section
variable {x : Str} {px pc : Pos} {k : Nat}
theorem dv_urn0 (i : Nat) (hN : X.N[i]? = some x := by rfl) (hv : Vis X.env.scope x := by first | exact Or.inl rfl | exact Or.inr (Or.inl rfl) | exact Or.inr (Or.inr rfl)) (hd : (x == ("__debug__" : Str)) = false := by decide)
    (hcd : (x == ("__classdict__" : Str)) = false := by decide) : PE X (.Subscript (.Name x px) (.Constant (.int 0) k pc) pos) (tEv G (mUrn0 i)) := (pe_ix ix_seq (pe_var hN hv hd hcd) pe_int fun _ _ => rfl).imp fun _ _ _ h => urn_read (j := 0) (z := fun u => u.a) (fun _ => rfl) h
theorem dv_urn1 (i : Nat) (hN : X.N[i]? = some x := by rfl) (hv : Vis X.env.scope x := by first | exact Or.inl rfl | exact Or.inr (Or.inl rfl) | exact Or.inr (Or.inr rfl)) (hd : (x == ("__debug__" : Str)) = false := by decide)
    (hcd : (x == ("__classdict__" : Str)) = false := by decide) : PE X (.Subscript (.Name x px) (.Constant (.int 1) k pc) pos) (tEv G (mUrn1 i)) := (pe_ix ix_seq (pe_var hN hv hd hcd) pe_int fun _ _ => rfl).imp fun _ _ _ h => urn_read (j := 1) (z := fun u => u.b) (fun _ => rfl) h
theorem dv_urn2 (i : Nat) (hN : X.N[i]? = some x := by rfl) (hv : Vis X.env.scope x := by first | exact Or.inl rfl | exact Or.inr (Or.inl rfl) | exact Or.inr (Or.inr rfl)) (hd : (x == ("__debug__" : Str)) = false := by decide)
    (hcd : (x == ("__classdict__" : Str)) = false := by decide) : PE X (.Subscript (.Name x px) (.Constant (.int 2) k pc) pos) (tEv G (mUrn2 i)) := (pe_ix ix_seq (pe_var hN hv hd hcd) pe_int fun _ _ => rfl).imp fun _ _ _ h => urn_read (j := 2) (z := fun u => u.c) (fun _ => rfl) h
theorem urn_put {j : Nat} {i : Nat} {f : U → Int → U} {Dn : Ends} {σ : L2.St} {H : Hp} (hj : ∀ (u : U) (z : Int), ([V.int u.a, .int u.b, .int u.c] : List V).set j (.int z) = [V.int (f u z).a, .int (f u z).b, .int (f u z).c]) (hj3 : j < 3)
    (h : tSt G W (fun env u => bnd (me env u) fun d u1 => match d with | .int z => if isUrn env i = true then some (.nx env, f u1 z) else none | _ => none) Dn σ H) :
    tAsg (tEv G me) (gSub (tVar i) (tC (.int (j : Nat))) rSetL) Dn σ H := by
  obtain ⟨ua, u, B, env, fl, u', B0, H0, hg, hO, hE, hW, hm, q⟩ := h
  obtain ⟨d, u1, c1, c2⟩ := bnd_some hm
  refine ⟨ua, u, B, env, d, u1, hE, hW, c1, fun v H1 ⟨B1, g1, w1, r1⟩ => ?_⟩
  split at c2
  · split at c2
    · rename_i z hi
      cases c2
      cases r1.int
      have hE1 := hE.grow g1
      obtain ⟨v, hv, r⟩ := hE1.pub _ _ (isUrn_pub hi)
      unfold Rep at r
      obtain ⟨p, e1, rfl⟩ := r
      have hw := w1.urn p e1
      refine ⟨_, hv, p, _, _, j, rfl, rfl, hw.2, ?_, ?_⟩
      · unfold ixN
        rw [if_pos (by omega), if_pos (by show (j : Int) < ((3 : Nat) : Int); omega)]
        rfl
      · rw [hj]
        have gg := hg.trans g1
        refine q σ B1 _ ⟨fun a o h n => ?_, fun a h => ?_, gg.pub, gg.new⟩ hO ⟨hE1.len, hE1.pub, fun k ds hk => ?_, hE1.inj⟩ ⟨fun a o h => ?_, fun a ha => ?_⟩
        · rw [upd_ne (fun z => n (by rw [z]; exact e1))]; exact gg.keep a o h n
        · refine gg.live a ?_
          by_cases z : a = p
          · subst z; rw [upd_same] at h; cases h
          · rw [upd_ne z] at h; exact h
        · obtain ⟨p2, vs, h1, h2, h3, h4, h5⟩ := hE1.own k ds hk
          refine ⟨p2, vs, h1, ?_, h3, h4, h5⟩
          rw [upd_ne (fun z => h5 (by rw [z]; exact e1))]; exact h2
        · rw [upd_ne (ne_of_none h hw.1)]; exact w1.sub a o h
        · rw [e1] at ha
          cases ha
          exact ⟨hw.1, upd_same⟩
    · cases c2
  · cases c2
theorem ds_urn0 (i : Nat) (he : PE X e (tEv G me)) (hN : X.N[i]? = some x := by rfl) (hv : Vis X.env.scope x := by first | exact Or.inl rfl | exact Or.inr (Or.inl rfl) | exact Or.inr (Or.inr rfl)) (hd : (x == ("__debug__" : Str)) = false := by decide) (hcd : (x == ("__classdict__" : Str)) = false := by decide)
    (hs : swapsWithSole [.Subscript (.Name x px) (.Constant (.int 0) k pc) pos] e pos.line X.env = pure false := by rfl) {pos2 : Pos} (hs : swapsWithSole [.Subscript (.Name x px) (.Constant (.int 0) k pc) pos] e pos2.line X.env = pure false := by rfl) (hw : swappedStores [.Subscript (.Name x px) (.Constant (.int 0) k pc) pos] e X.env = pure none := by rfl) :
    PS X (.Assign [.Subscript (.Name x px) (.Constant (.int 0) k pc) pos] e pos2) (tSt G W (sUrn0 i me)) := (ps_asg he (pg_sub (pe_var hN hv hd hcd) pe_int set_list) hs hw).imp fun _ _ _ h => urn_put (j := 0) (f := fun u z => { u with a := z }) (fun _ _ => rfl) (by decide) h
theorem ds_urn2 (i : Nat) (he : PE X e (tEv G me)) (hN : X.N[i]? = some x := by rfl) (hv : Vis X.env.scope x := by first | exact Or.inl rfl | exact Or.inr (Or.inl rfl) | exact Or.inr (Or.inr rfl)) (hd : (x == ("__debug__" : Str)) = false := by decide) (hcd : (x == ("__classdict__" : Str)) = false := by decide)
    {pos2 : Pos} (hs : swapsWithSole [.Subscript (.Name x px) (.Constant (.int 2) k pc) pos] e pos2.line X.env = pure false := by rfl) (hw : swappedStores [.Subscript (.Name x px) (.Constant (.int 2) k pc) pos] e X.env = pure none := by rfl) :
    PS X (.Assign [.Subscript (.Name x px) (.Constant (.int 2) k pc) pos] e pos2) (tSt G W (sUrn2 i me)) := (ps_asg he (pg_sub (pe_var hN hv hd hcd) pe_int set_list) hs hw).imp fun _ _ _ h => urn_put (j := 2) (f := fun u z => { u with c := z }) (fun _ _ => rfl) (by decide) h
end
def DefK (P : Program) (w : World) {K : PySem.W.Frag} (mg : Str → Option Value) (base : Heap) (G : Gx K) (x : Str) (ks : List Str) (k : Nat) (F : List D → U → Option (D × U)) : Prop :=
  ∃ f fd, FnOk P w K mg base CX0 k f fd ks (spF G F ks.length) ∧ mg x = some (.ref f) ∧ PySem.W.keepIn K (.ref f) = true ∧ ∀ (s : Shared) (ws : List Value), K.In s.heap → ws.length = ks.length → BindsTo s fd ⟨[], ks.zip ws⟩ (ks.zip ws)
theorem DefK.mono {P : Program} {w : World} {K : PySem.W.Frag} {mg : Str → Option Value} {base : Heap} {G : Gx K} {x : Str} {ks : List Str} {j k : Nat} {F : List D → U → Option (D × U)} (h : DefK P w mg base G x ks j F) (l : j ≤ k) : DefK P w mg base G x ks k F := by
  obtain ⟨f, fd, h1, h2⟩ := h
  exact ⟨f, fd, h1.mono l, h2⟩
variable {kws : List Keyword} {ms : Ms} {kpos p : Pos} {nm : Option Str}
/-- C(d): a new instance with the fields that mk tells -/
def MakeOk (P : Program) (w : World) {K : PySem.W.Frag} (mg : Str → Option Value) (base : Heap) (G : Gx K) (x : Str) (k n : Nat) (F : List D → U → Option (D × U)) : Prop :=
  ∃ C f fd ps sp ds dvs, Mk K C f ∧ FnOk P w K mg base CX0 k f fd ps sp ∧ mg x = some (.ref C) ∧ Binds K fd ps ds ∧ Vals dvs ds ∧
    ∀ (ua : Option Addr) (u u' : U) (B H : Hp) (as : List D) (vs : List V) (d : D), as.length = n → F as u = some (d, u') → Reps G ua as vs B → Wd ua u B H → ∀ (y dx : Addr), H y = none → H dx = none → dx ≠ y →
      ∀ Q : VK, (∀ H', Aft G ua B H u' d (.ref y) H' → Q (.ref y) H') → sp (.ref y :: (vs ++ dvs)) (upd (upd H dx (.own y)) y (.ins C dx [])) (fun v H2 => v = .non ∧ Q (.ref y) H2) E0
theorem MakeOk.mono {P : Program} {w : World} {K : PySem.W.Frag} {mg : Str → Option Value} {base : Heap} {G : Gx K} {x : Str} {j k n : Nat} {F : List D → U → Option (D × U)} (h : MakeOk P w mg base G x j n F) (l : j ≤ k) : MakeOk P w mg base G x k n F := by
  obtain ⟨C, f, fd, ps, sp, ds, dvs, h1, h2, h3⟩ := h
  exact ⟨C, f, fd, ps, sp, ds, dvs, h1, h2.mono l, h3⟩
end
end Dv
namespace Dv
open PySem PySem.Spec PyProof.Rows L2
section
variable {X : Cx} {G : Gx X.K} {W : WX}
theorem dv_gS {x : Str} {z : Str} {pos : Pos} (hg : Gl X x) (hm : ∃ t, X.mg x = some (.str z t)) (hd : (x == ("__debug__" : Str)) = false := by decide) : PE X (.Name x pos) (tEv G (mC (.str z))) := by
  obtain ⟨t, hm⟩ := hm
  exact dv_globS hg hm hd
end
end Dv
namespace Dv
open PySem PySem.Spec PyProof.Rows L2
section
variable {env env' : List Sl} {u u1 u2 u3 : U} {m a b : M} {ms : Ms} {mi : MI} {mc na nb : MB} {me : M} {p q : MS} {d x y z : D} {ds r : List D} {i n : Nat} {fl : Fl} {k : Bool}
theorem runB_rt {m : MS} {L : Nat} (h : m (ds.map Sl.pub ++ List.replicate (L - ds.length) Sl.no) u = some (.rt d, u1)) : runB m L ds u = some (d, u1) := by
  unfold runB; rw [h]
theorem sc_nx (h : p env u = some (.nx env', u1)) (h2 : q env' u1 = some (fl, u2)) : sCons p q env u = some (fl, u2) := by
  unfold sCons; rw [h]; exact h2
theorem sc_rt (h : p env u = some (.rt d, u1)) : sCons p q env u = some (.rt d, u1) := by
  unfold sCons; rw [h]; rfl
theorem sSet_eq (h : m env u = some (d, u1)) : sSet i m env u = some (.nx (env.set i (Sl.pub d)), u1) := by
  unfold sSet; rw [h]; rfl
theorem sTgt_eq {t : Tgt} (h : m env u = some (d, u1)) (h2 : bindT t d env = some env') : sTgt t m env u = some (.nx env', u1) := by
  unfold sTgt; rw [h]; show (match bindT t d env with | some env' => some (Fl.nx env', u1) | none => none) = _; rw [h2]
theorem sPar_eq {j : Nat} (h : a env u = some (x, u1)) (h2 : b env u1 = some (y, u2)) : sPar i j a b env u = some (.nx ((env.set i (Sl.pub x)).set j (Sl.pub y)), u2) := by
  unfold sPar; rw [h]; show bnd (b env u1) _ = _; rw [h2]; rfl
theorem sRet_eq (h : m env u = some (d, u1)) : sRet m env u = some (.rt d, u1) := by
  unfold sRet; rw [h]; rfl
theorem sIf_t (h : mc env u = some (true, u1)) (h2 : p env u1 = some (fl, u2)) : sIf mc p q env u = some (fl, u2) := by
  unfold sIf; rw [h]; exact h2
theorem sIf_f (h : mc env u = some (false, u1)) (h2 : q env u1 = some (fl, u2)) : sIf mc p q env u = some (fl, u2) := by
  unfold sIf; rw [h]; exact h2
theorem mVar_eq (h : env[i]? = some (Sl.pub d)) : mVar i env u = some (d, u) := by
  unfold mVar; rw [h]
theorem mCons_eq (h : m env u = some (x, u1)) (h2 : ms env u1 = some (ds, u2)) : mCons m ms env u = some (x :: ds, u2) := by
  unfold mCons; rw [h]; show bnd (ms env u1) _ = _; rw [h2]; rfl
theorem mNil_eq : mNil env u = some ([], u) := rfl
theorem mLst_eq (h : ms env u = some (ds, u1)) (hl : ds.length ≤ sizeLine) : mLst ms env u = some (.lst ds, u1) := by
  unfold mLst; rw [h]; exact if_pos hl
theorem mTup_eq (h : ms env u = some (ds, u1)) (hl : ds.length ≤ sizeLine) : mTup ms env u = some (.tup ds, u1) := by
  unfold mTup; rw [h]; exact if_pos hl
theorem mBin_eq {f : D → D → Option D} (h : a env u = some (x, u1)) (h2 : b env u1 = some (y, u2)) (h3 : f x y = some z) : mBin f a b env u = some (z, u2) := by
  unfold mBin; rw [h]; show bnd (b env u1) _ = _; rw [h2]; show lft (f x y) u2 = _; rw [h3]; rfl
theorem mBi_eq {f : List D → Option D} (h : ms env u = some (ds, u1)) (h2 : f ds = some d) : mBi f ms env u = some (d, u1) := by
  unfold mBi; rw [h]; show lft (f ds) u1 = _; rw [h2]; rfl
theorem mCall_eq {F : List D → U → Option (D × U)} (h : ms env u = some (ds, u1)) (hl : ds.length = n) (h2 : F ds u1 = some (d, u2)) : mCall n F ms env u = some (d, u2) := by
  unfold mCall; rw [h]; show (if ds.length = n then F ds u1 else none) = _; rw [if_pos hl]; exact h2
theorem mTru_eq (h : a env u = some (x, u1)) (h2 : truD x = some k) : mTru a env u = some (k, u1) := by
  unfold mTru; rw [h]; show lft (truD x) u1 = _; rw [h2]; rfl
theorem mNotB_eq (h : na env u = some (k, u1)) : mNotB na env u = some (!k, u1) := by
  unfold mNotB; rw [h]; rfl
theorem mAndB_t (h : na env u = some (true, u1)) (h2 : nb env u1 = some (k, u2)) : mAndB na nb env u = some (k, u2) := by
  unfold mAndB; rw [h]; exact h2
theorem mAndB_f (h : na env u = some (false, u1)) : mAndB na nb env u = some (false, u1) := by
  unfold mAndB; rw [h]; rfl
theorem mOrB_t (h : na env u = some (true, u1)) : mOrB na nb env u = some (true, u1) := by
  unfold mOrB; rw [h]; rfl
theorem mOrB_f (h : na env u = some (false, u1)) (h2 : nb env u1 = some (k, u2)) : mOrB na nb env u = some (k, u2) := by
  unfold mOrB; rw [h]; exact h2
theorem mAnd_t (h : a env u = some (x, u1)) (ht : truD x = some true) (h2 : b env u1 = some (y, u2)) : mAnd a b env u = some (y, u2) := by
  unfold mAnd; rw [h]; show bnd (lft (truD x) u1) _ = _; rw [ht]; exact h2
theorem mAnd_f (h : a env u = some (x, u1)) (ht : truD x = some false) : mAnd a b env u = some (x, u1) := by
  unfold mAnd; rw [h]; show bnd (lft (truD x) u1) _ = _; rw [ht]; rfl
theorem mNot_eq (h : a env u = some (x, u1)) (ht : truD x = some k) : mNot a env u = some (.bl (!k), u1) := by
  unfold mNot; rw [h]; show bnd (lft (truD x) u1) _ = _; rw [ht]; rfl
theorem mIte_t (h : na env u = some (true, u1)) (h2 : a env u1 = some (d, u2)) : mIte na a b env u = some (d, u2) := by
  unfold mIte; rw [h]; exact h2
theorem mIte_f (h : na env u = some (false, u1)) (h2 : b env u1 = some (d, u2)) : mIte na a b env u = some (d, u2) := by
  unfold mIte; rw [h]; exact h2
theorem mSl_eq {lo hi : MO} {l h' : Option Int} (h : a env u = some (x, u1)) (h2 : lo env u1 = some (l, u2)) (h3 : hi env u2 = some (h', u3)) (h4 : slD x l h' = some z) : mSl a lo hi env u = some (z, u3) := by
  unfold mSl; rw [h]; show bnd (lo env u1) _ = _; rw [h2]; show bnd (hi env u2) _ = _; rw [h3]; show lft (slD x l h') u3 = _; rw [h4]; rfl
theorem moAt_eq {i : Int} (h : a env u = some (.int i, u1)) : moAt a env u = some (some i, u1) := by
  unfold moAt; rw [h]; rfl
theorem mIsi_eq {ts : List String} (h : a env u = some (x, u1)) (h2 : isiD x ts = some k) : mIsi ts a env u = some (.bl k, u1) := by
  unfold mIsi; rw [h]; show lft ((isiD x ts).map D.bl) u1 = _; rw [h2]; rfl
theorem mLc_eq {t : Tgt} {own : List Nat} (h : mi env u = some (ds, u1)) (h2 : compL (turnL t own env mc me) ds u1 = some (r, u2)) (hl : r.length ≤ sizeLine) : mLc t own mi mc me env u = some (.lst r, u2) := by
  unfold mLc; rw [h]; show bnd (compL (turnL t own env mc me) ds u1) _ = _; rw [h2]; exact if_pos hl
theorem mItems_eq (h : a env u = some (x, u1)) (h2 : itemsD x = some ds) : mItems a env u = some (ds, u1) := by
  unfold mItems; rw [h]; show lft (itemsD x) u1 = _; rw [h2]; rfl
theorem mRange1_eq {j : Int} (h : a env u = some (.int j, u1)) (h2 : -(2 ^ 62) ≤ j ∧ j < 2 ^ 62) : mRange1 a env u = some (rangeD 0 j.toNat, u1) := by
  unfold mRange1; rw [h]; exact if_pos h2
theorem turnL_eq {t : Tgt} {own : List Nat} (h : bindT t d (wipeE env own) = some env') (h2 : me env' u = some (x, u1)) : turnL t own env mYes me d u = some (some x, u1) := by
  unfold turnL; rw [h]; show bnd (me env' u) _ = _; rw [h2]; rfl
theorem turnL_c {t : Tgt} {own : List Nat} (h : bindT t d (wipeE env own) = some env') (hc : mc env' u = some (true, u1)) (h2 : me env' u1 = some (x, u2)) : turnL t own env mc me d u = some (some x, u2) := by
  unfold turnL; rw [h]; show bnd (mc env' u) _ = _; rw [hc]; show bnd (me env' u1) _ = _; rw [h2]; rfl
theorem turnL_n {t : Tgt} {own : List Nat} (h : bindT t d (wipeE env own) = some env') (hc : mc env' u = some (false, u1)) : turnL t own env mc me d u = some (none, u1) := by
  unfold turnL; rw [h]; show bnd (mc env' u) _ = _; rw [hc]; rfl
theorem sFor_eq {t : Tgt} (h : mi env u = some (ds, u1)) (h2 : forL t p ds env u1 = some (fl, u2)) : sFor t mi p env u = some (fl, u2) := by
  unfold sFor; rw [h]; exact h2
theorem mem_rangeD {lo : Int} (h : d ∈ rangeD lo n) : ∃ i : Nat, i < n ∧ d = .int (lo + i) := by
  unfold rangeD at h
  obtain ⟨i, hi, rfl⟩ := List.mem_map.mp h
  exact ⟨i, List.mem_range.mp hi, rfl⟩
theorem rangeD_len {lo : Int} : (rangeD lo n).length = n := by unfold rangeD; rw [List.length_map, List.length_range]
end
end Dv
namespace Dv
open PySem PySem.Spec PyProof.Rows L2
def cntS (x : Str) : List Str → Nat
  | [] => 0
  | y :: r => if y = x then cntS x r + 1 else cntS x r
/-- a dict of texts and numbers: what it holds -/
structure Tally (seen : List Str) (kvs : List (Key × V)) : Prop where
  val : ∀ x : Str, valV kvs (Sum.inr x) = if cntS x seen = 0 then none else some (.int (cntS x seen))
  len : kvs.length ≤ seen.length
theorem Tally.nil : Tally [] [] := ⟨fun _ => rfl, Nat.le_refl _⟩
theorem Tally.getD {seen : List Str} {kvs : List (Key × V)} (t : Tally seen kvs) (x : Str) : (valV kvs (Sum.inr x)).getD (.int 0) = .int (cntS x seen) := by
  rw [t.val]
  by_cases h : cntS x seen = 0
  · rw [if_pos h, h]; rfl
  · rw [if_neg h]; rfl
theorem Tally.put {seen : List Str} {kvs : List (Key × V)} (t : Tally seen kvs) (x : Str) : Tally (x :: seen) (putK kvs (Sum.inr x) (.int ((cntS x seen : Nat) + 1 : Int))) := by
  refine ⟨fun y => ?_, Nat.le_trans (length_putK _ _ _) (Nat.add_le_add_right t.len 1)⟩
  rw [valV_put]
  by_cases e : y = x
  · subst e
    rw [if_pos rfl]
    have : cntS y (y :: seen) = cntS y seen + 1 := if_pos rfl
    rw [this, if_neg (Nat.succ_ne_zero _)]; rfl
  · have h1 : ¬ (Sum.inr y : Key) = Sum.inr x := fun z => e (Sum.inr.inj z)
    have h2 : cntS y (x :: seen) = cntS y seen := if_neg fun z => e z.symm
    rw [if_neg h1, h2, t.val]
theorem Grow.putOwn {ua : Option Addr} {B H B2 H2 : Hp} {p : Addr} {o : HO} (g : Grow ua B H B2 H2) (hp : H p = none) : Grow ua B H B2 (upd H2 p o) := by
  refine ⟨fun b x e n => ?_, fun b e => ?_, g.pub, g.new⟩
  · rw [upd_ne (ne_of_none e hp)]; exact g.keep b x e n
  · by_cases q : b = p
    · subst q; exact hp
    · rw [upd_ne q] at e; exact g.live b e
end Dv
namespace Dv
open PySem PySem.Spec PyProof.Rows L2
/-- the property f of the class c does F -/
def PrpOk (P : Program) (w : World) {K : PySem.W.Frag} (mg : Str → Option Value) (base : Heap) (G : Gx K) (c f : Str) (k : Nat) (F : List D → U → Option (D × U)) : Prop :=
  ∃ C p g fd ps, G.cls c = some C ∧ Cls K C ∧ PropOf K C f p g ∧ FnOk P w K mg base CX0 k g fd ps (spF G F 1) ∧ Binds K fd ps []
theorem PrpOk.mono {P : Program} {w : World} {K : PySem.W.Frag} {mg : Str → Option Value} {base : Heap} {G : Gx K} {c f : Str} {j k : Nat} {F : List D → U → Option (D × U)} (h : PrpOk P w mg base G c f j F) (l : j ≤ k) : PrpOk P w mg base G c f k F := by
  obtain ⟨C, p, g, fd, ps, h1, h2, h3, h4, h5⟩ := h
  exact ⟨C, p, g, fd, ps, h1, h2, h3, h4.mono l, h5⟩
end Dv
namespace Dv
open PySem PySem.Spec PyProof.Rows L2
/-- the special method of the class c does F -/
def SpcOk (P : Program) (w : World) {K : PySem.W.Frag} (mg : Str → Option Value) (base : Heap) (G : Gx K) (c name : Str) (k n : Nat) (F : List D → U → Option (D × U)) : Prop :=
  ∃ C f fd ps, G.cls c = some C ∧ PySem.W.findIn K (.ref C) name = some (some (.ref f)) ∧ PySem.W.isFn K (.ref f) = true ∧ PySem.W.fnIn K f = true ∧ FnOk P w K mg base CX0 k f fd ps (spF G F n) ∧ Binds K fd ps []
theorem SpcOk.mono {P : Program} {w : World} {K : PySem.W.Frag} {mg : Str → Option Value} {base : Heap} {G : Gx K} {c name : Str} {j k n : Nat} {F : List D → U → Option (D × U)} (h : SpcOk P w mg base G c name j n F) (l : j ≤ k) : SpcOk P w mg base G c name k n F := by
  obtain ⟨C, f, fd, ps, h1, h2, h3, h4, h5, h6⟩ := h
  exact ⟨C, f, fd, ps, h1, h2, h3, h4, h5.mono l, h6⟩
end Dv
namespace Dv
open PySem PySem.Spec PyProof.Rows L2
end Dv
namespace Dv
open PySem PySem.Spec PyProof.Rows L2
end Dv
namespace Dv
open PySem PySem.Spec PyProof.Rows L2
end Dv
namespace Dv
open PySem PySem.Spec PyProof.Rows L2
end Dv
namespace Dv
open PySem PySem.Spec PyProof.Rows L2
end Dv
namespace Dv
open PySem PySem.Spec PyProof.Rows L2
end Dv
namespace Dv
open PySem PySem.Spec PyProof.Rows L2
theorem upd_id {H : Hp} {a : Addr} {o : HO} (h : H a = some o) : upd H a o = H := by
  funext b
  by_cases e : b = a
  · rw [e, upd_same, h]
  · rw [upd_ne e]
section
variable {K : PySem.W.Frag} {G : Gx K} {ua : Option Addr} {u : U} {env : List Sl} {σ : List (Option V)} {B H H0 : Hp} {i : Nat} {o o' : Oo} {l : Addr} {ho ho' : HO} {d : D}
/-- one's own thing is changed -/
theorem EnvOk.chg (e : EnvOk G ua env σ B H) (hi : env[i]? = some (.own o)) (hs : σ[i]? = some (some (.ref l))) (hb : B l = none) (nu : ua ≠ some l) (r : RepO G ua o' ho' B) : EnvOk G ua (env.set i (.own o')) σ B (upd H l ho') := by
  refine ⟨by rw [List.length_set]; exact e.len, fun j x hj => ?_, fun j x hj => ?_, fun j k x y p a1 a2 a3 a4 => ?_⟩
  · rcases get_set hj with ⟨_, z⟩ | ⟨_, hj⟩
    · cases z
    · exact e.pub j x hj
  · rcases get_set hj with ⟨rfl, z⟩ | ⟨hne, hj⟩
    · cases z
      exact ⟨l, _, hs, upd_same, hb, r, nu⟩
    · obtain ⟨p, ws, b1, b2, b3, b4, b5⟩ := e.own j x hj
      refine ⟨p, ws, b1, ?_, b3, b4, b5⟩
      rw [upd_ne (fun z => hne (by subst z; exact e.inj j i x o p hj hi b1 hs))]
      exact b2
  · have o1 : ∃ x', env[j]? = some (Sl.own x') := by
      rcases get_set a1 with ⟨rfl, _⟩ | ⟨_, a1⟩
      · exact ⟨o, hi⟩
      · exact ⟨x, a1⟩
    have o2 : ∃ x', env[k]? = some (Sl.own x') := by
      rcases get_set a2 with ⟨rfl, _⟩ | ⟨_, a2⟩
      · exact ⟨o, hi⟩
      · exact ⟨y, a2⟩
    exact e.inj j k _ _ p o1.choose_spec o2.choose_spec a3 a4
theorem OwnNew.chg (h : OwnNew env σ H0) (hi : env[i]? = some (.own o)) : OwnNew (env.set i (.own o')) σ H0 := fun j es p' h1 h2 => by
  rcases get_set h1 with ⟨rfl, _⟩ | ⟨_, h1'⟩
  · exact h _ o p' hi h2
  · exact h j es p' h1' h2
theorem OwnNew.pub (h : OwnNew env σ H0) (i : Nat) (d : D) : OwnNew (env.set i (.pub d)) σ H0 := fun j es p' h1 h2 => by
  rcases get_set h1 with ⟨_, z⟩ | ⟨_, h1'⟩
  · cases z
  · exact h j es p' h1' h2
/-- a new thing of one's own -/
theorem EnvOk.newOwn {p : Addr} (e : EnvOk G ua env σ B H) (hn : ∀ q o2, H q = some o2 → ∀ (j : Nat) es, env[j]? = some (Sl.own es) → σ[j]? = some (some (V.ref q)) → q ≠ p) (hp : H p = some ho) (hb : B p = none) (nu : ua ≠ some p) (r : RepO G ua o ho B) : EnvOk G ua (env.set i (.own o)) (σ.set i (some (.ref p))) B H :=
  e.setOwn hp hb r nu fun j es q h1 h2 hj => by
    obtain ⟨p2, vs2, a1, a2, _⟩ := e.own j es h1
    rw [h2] at a1
    cases a1
    exact hn q _ a2 j es h1 h2
theorem OwnNew.newOwn {p : Addr} (h : OwnNew env σ H0) (h0 : H0 p = none) : OwnNew (env.set i (.own o)) (σ.set i (some (.ref p))) H0 := fun j es' p' h1 h2 => by
  rcases get_set h1 with ⟨rfl, _⟩ | ⟨hj, h1'⟩
  · have hl := lt_of_get h2
    rw [List.length_set] at hl
    rw [set_get hl] at h2
    cases h2
    exact h0
  · rw [List.getElem?_set_ne (fun z => hj z.symm)] at h2
    exact h j es' p' h1' h2
/-- one's own thing is shown -/
theorem EnvOk.show (e : EnvOk G ua env σ B H) (hi : env[i]? = some (.own o)) (hs : σ[i]? = some (some (.ref l))) (hb : B l = none) (r : Rep G ua d (.ref l) (upd B l ho')) : EnvOk G ua (env.set i (.pub d)) σ (upd B l ho') (upd H l ho') := by
  have sB : Same B (upd B l ho') := same_new hb
  refine ⟨by rw [List.length_set]; exact e.len, fun j x hj => ?_, fun j x hj => ?_, fun j k x y p a1 a2 a3 a4 => ?_⟩
  · rcases get_set hj with ⟨rfl, z⟩ | ⟨_, hj⟩
    · cases z
      exact ⟨_, hs, r⟩
    · obtain ⟨v, b1, b2⟩ := e.pub j x hj
      exact ⟨v, b1, b2.mono _ _ sB⟩
  · rcases get_set hj with ⟨_, z⟩ | ⟨hne, hj⟩
    · cases z
    · obtain ⟨p, ws, b1, b2, b3, b4, b5⟩ := e.own j x hj
      have np : p ≠ l := fun z => hne (by subst z; exact e.inj j i x o p hj hi b1 hs)
      exact ⟨p, ws, b1, by rw [upd_ne np]; exact b2, by rw [upd_ne np]; exact b3, b4.mono sB, b5⟩
  · rcases get_set a1 with ⟨_, z⟩ | ⟨_, a1⟩
    · cases z
    · rcases get_set a2 with ⟨_, z⟩ | ⟨_, a2⟩
      · cases z
      · exact e.inj j k x y p a1 a2 a3 a4
theorem Wd.showU (w : Wd ua u B H) (hb : B l = none) (nu : ua ≠ some l) : Wd ua u (upd B l ho') (upd H l ho') := by
  refine ⟨fun a x z => ?_, fun a z => ?_⟩
  · by_cases c : a = l
    · subst c; rw [upd_same] at z ⊢; exact z
    · rw [upd_ne c] at z ⊢; exact w.sub a x z
  · have := w.urn a z
    have c : a ≠ l := fun c => nu (by rw [← c]; exact z)
    rw [upd_ne c, upd_ne c]; exact this
/-- what is shown: a list as it is, a dict frozen -/
def ooD : Oo → D
  | .lst ds => .lst ds
  | .dct ks ds => .dct ks ds
  | .dtt ks ds => .dtt ks ds
  | .dtn ks ds => .dtn ks ds
def isDk : Oo → Bool
  | .dct _ _ => true
  | _ => false
theorem RepO.show (r : RepO G ua o ho B) (hb : B l = none) : (isDk o = false ∧ Rep G ua (ooD o) (.ref l) (upd B l ho)) ∨ ∃ ks ds, o = .dct ks ds ∧ Mut (some ho) ∧ ∀ od, Rep G ua (.dct ks ds) (.ref l) (upd B l (.frz od ho)) := by
  cases o with
  | lst ds =>
    obtain ⟨vs, rfl, rs⟩ := r
    refine .inl ⟨rfl, ?_⟩
    unfold ooD Rep
    exact ⟨l, vs, rfl, upd_same, rs.mono _ _ (same_new hb)⟩
  | dtt ks ds =>
    obtain ⟨vs, hd, rs⟩ := r
    refine .inl ⟨rfl, ?_⟩
    unfold ooD Rep
    exact ⟨l, vs, ho, rfl, upd_same, hd.mono (same_new hb), rs.mono _ _ (same_new hb)⟩
  | dtn ks ds =>
    obtain ⟨vs, hd, rs⟩ := r
    refine .inl ⟨rfl, ?_⟩
    unfold ooD Rep
    exact ⟨l, vs, ho, rfl, upd_same, hd.mono (same_new hb), rs.mono _ _ (same_new hb)⟩
  | dct ks ds =>
    obtain ⟨vs, rfl, hl, rs, _⟩ := r
    refine .inr ⟨ks, ds, rfl, trivial, fun od => ?_⟩
    unfold Rep
    exact ⟨l, vs, rfl, ⟨od, upd_same⟩, hl, rs.mono _ _ (same_new hb)⟩
end
abbrev MSl := List Sl → U → Option (Sl × U)
section
variable {K : PySem.W.Frag} (G : Gx K)
/-- v stands for s; Hs: the heap from which it came -/
def SlR (ua : Option Addr) (Hs : Hp) : Sl → V → Hp → Hp → Prop
  | .pub d => fun v B _ => Rep G ua d v B
  | .own o => fun v B H => ∃ p ho, v = .ref p ∧ Hs p = none ∧ H p = some ho ∧ B p = none ∧ ua ≠ some p ∧ RepO G ua o ho B
  | .no => fun _ _ _ => False
def AftS (ua : Option Addr) (B H : Hp) (u' : U) (s : Sl) : V → Hp → Prop := fun v H' => ∃ B', Grow ua B H B' H' ∧ Wd ua u' B' H' ∧ SlR G ua H s v B' H'
def tSv (m : MSl) : TE := fun σ H Q => ∃ ua u B env s u', EnvOk G ua env σ B H ∧ Wd ua u B H ∧ m env u = some (s, u') ∧ ∀ v H', AftS G ua B H u' s v H' → Q v H'
end
section
variable {K : PySem.W.Frag} {G : Gx K} {ua : Option Addr} {u u' : U} {env : List Sl} {σ : List (Option V)} {B H B1 H1 H0 B0 Hs : Hp} {i : Nat} {s : Sl} {v : V}
theorem SlR.grow (r : SlR G ua Hs s v B H) (g : Grow ua B H B1 H1) : SlR G ua Hs s v B1 H1 := by
  cases s with
  | no => exact r.elim
  | pub d => exact Rep.mono _ _ g.pub r
  | own o =>
    obtain ⟨p, ho, e, h1, h2, h3, h4, h5⟩ := r
    exact ⟨p, ho, e, h1, g.keep _ _ h2 h4, g.none_of h2 h3, h4, h5.mono g.pub⟩
/-- such a value is stored -/
theorem SlR.store (r : SlR G ua Hs s v B H) (e : EnvOk G ua env σ B H) (i : Nat) (far : ∀ (j : Nat) es q, env[j]? = some (Sl.own es) → σ[j]? = some (some (V.ref q)) → Hs q ≠ none) : EnvOk G ua (env.set i s) (σ.set i (some v)) B H := by
  cases s with
  | no => exact r.elim
  | pub d => exact e.set r i
  | own o =>
    obtain ⟨p, ho, rfl, h1, h2, h3, h4, h5⟩ := r
    exact e.setOwn h2 h3 h5 h4 fun j es q z1 z2 hj z => far j es q z1 z2 (by rw [z]; exact h1)
theorem SlR.news (r : SlR G ua Hs s v B H) (hO : OwnNew env σ H0) (live : ∀ a, Hs a = none → H0 a = none) (i : Nat) : OwnNew (env.set i s) (σ.set i (some v)) H0 := by
  cases s with
  | no => exact r.elim
  | pub d => exact hO.set i d v
  | own o =>
    obtain ⟨p, ho, rfl, h1, _⟩ := r
    exact hO.newOwn (live _ h1)
theorem EnvOk.far (e : EnvOk G ua env σ B H) : ∀ (j : Nat) es q, env[j]? = some (Sl.own es) → σ[j]? = some (some (V.ref q)) → H q ≠ none := fun j es q z1 z2 z => by
  obtain ⟨p2, vs2, a1, a2, _⟩ := e.own j es z1
  rw [z2] at a1
  cases a1
  rw [z] at a2
  cases a2
end
section
variable {X : Cx} {G : Gx X.K} {W : WX} {e f : Expr} {es : List Expr} {me : M} {ms : Ms} {pos apos cpos p : Pos} {sts : List Stmt} {m : MS} {mv mv2 : MSl}
/-- [..] -/
def vLst (ms : Ms) : MSl := fun env u => bnd (ms env u) fun ds u1 => if ds.length ≤ sizeLine then some (.own (.lst ds), u1) else none
theorem dv_oLst (h : PA X es (tEvs G ms)) : PE X (.List es pos) (tSv G (vLst ms)) := (pe_lst h).imp fun σ H Q z => by
  obtain ⟨ua, u, B, env, s, u', hE, hW, hm, q⟩ := z
  obtain ⟨ds, u1, c1, c2⟩ := bnd_some hm
  split at c2
  · cases c2
    exact ⟨ua, u, B, env, ds, _, hE, hW, c1, fun vs H1 ⟨B1, g1, w1, r1⟩ => ⟨by rw [← r1.len]; assumption, fun p hp =>
      q _ _ ⟨B1, g1.trans (.own1 w1 hp), w1.own1 hp, p, _, rfl, g1.live _ hp, upd_same, w1.none_of hp, w1.ne_urn hp, _, rfl, r1⟩⟩⟩
  · cases c2
def sSv (i : Nat) (m : MSl) : MS := fun env u => bnd (m env u) fun s u1 => some (.nx (env.set i s), u1)
theorem ds_setv (i : Nat) {x : Str} {pos' : Pos} (hN : X.N.Nodup) (he : PE X e (tSv G mv)) (hi : X.N[i]? = some x := by rfl) (hx : Loc X.env.scope x := by first | exact Or.inl rfl | exact Or.inr rfl) (hs : swapsWith e (some (.Name x pos')) pos.line X.env = pure false := by rfl)
    (hf : X.fn x = true ∨ X.env.scope.names.lookup x = some .local := by first | exact .inl rfl | exact .inr rfl | assumption) : PS X (.Assign [.Name x pos'] e pos) (tSt G W (sSv i mv)) := (ps_set hN hi hx he hs hf).imp fun Dn σ H h => by
  obtain ⟨ua, u, B, env, fl, u', B0, H0, hg, hO, hE, hW, hm, q⟩ := h
  obtain ⟨s, u1, c1, c2⟩ := bnd_some hm
  cases c2
  refine ⟨ua, u, B, env, s, _, hE, hW, c1, fun v H1 a => ?_⟩
  obtain ⟨B', g, w, r⟩ := a
  exact q _ B' H1 (hg.trans g) (r.news hO hg.live i) (r.store (hE.grow g) i hE.far) w
/-- x.append(e), x one's own list -/
def sApp (i : Nat) (m : M) : MS := fun env u => match env[i]? with
  | some (.own (.lst ds)) => bnd (m env u) fun d u1 => if ds.length < sizeLine then some (.nx (env.set i (.own (.lst (ds ++ [d])))), u1) else none
  | _ => none
theorem ds_app (i : Nat) {x : Str} {px : Pos} (he : PE X e (tEv G me)) (hN : X.N[i]? = some x := by rfl) (hv : Vis X.env.scope x := by first | exact Or.inl rfl | exact Or.inr (Or.inl rfl) | exact Or.inr (Or.inr rfl)) (hd : (x == ("__debug__" : Str)) = false := by decide) (hcd : (x == ("__classdict__" : Str)) = false := by decide)
    (hbase : attributeBase (.Name x px) "append" X.env (eval (.Name x px) X.env) = eval (.Name x px) X.env := by rfl)
    (hfew : ((backTo cpos (starEach [e] X.env)).all (fun x => !x.1) && (backToKw cpos (keywordEach [] X.env)).all (fun x => x.1.isSome)
      && decide ([e].length + ([] : List Keyword).length + (if ([] : List Keyword).isEmpty then 0 else 1) < 30)) = true := by rfl)
    (hline : (apos.endLine == cpos.line) = true := by rfl) (hs : starEach [e] X.env = (false, eval e X.env) :: starEach [] X.env := by rfl) (hp : (backTo cpos (starEach [] X.env)).any (·.1) = false := by rfl)
    (hsw : swapsWith (.Call (.Attribute (.Name x px) "append" apos) [e] [] cpos) none pos.line X.env = pure false := by rfl) :
    PS X (.Expr (.Call (.Attribute (.Name x px) "append" apos) [e] [] cpos) pos) (tSt G W (sApp i me)) :=
  (ps_expr (pe_bm PySem.F.plainAttrs_list PySem.F.slot_list_append PySem.F.type_list_append mt_append (pe_var hN hv hd hcd) (pa_cons he pa_nil hs) hbase hfew hline hs hp) hsw).imp fun Dn σ H h => by
  obtain ⟨ua, u, B, env, fl, u', B0, H0, hg, hO, hE, hW, hm, q⟩ := h
  unfold sApp at hm
  split at hm
  · rename_i ds hi
    obtain ⟨d, u1, c1, c2⟩ := bnd_some hm
    split at c2
    · rename_i hz
      cases c2
      obtain ⟨l, ho, s1, s2, s3, ⟨vs, rfl, s4⟩, s5⟩ := hE.own i _ hi
      refine ⟨_, s1, .inl ⟨rfl, _, SqL.of s2⟩, ua, u, B, env, d, _, hE, hW, c1, fun v H1 ⟨B1, g1, w1, r1⟩ => ?_⟩
      have e1 := hE.grow g1
      obtain ⟨l', ho', t1, t2, t3, ⟨vs', rfl, t4⟩, t5⟩ := e1.own i _ hi
      rw [s1] at t1
      cases t1
      refine ⟨l, vs', v, rfl, rfl, t2, by rw [← t4.len]; exact hz, ?_⟩
      exact q σ B1 _ ((hg.trans g1).putOwn (hO i _ l hi s1)) (hO.chg hi) (e1.chg hi s1 t3 t5 ⟨_, rfl, t4.append (.cons r1 .nil)⟩) (w1.put t3 t5)
    · cases c2
  · cases hm
/-- x[k] = e, x one's own dict -/
def keyOf : D → Option Key
  | .int i => some (.inl i)
  | .str x => some (.inr x)
  | _ => none
theorem keyOf_rep {K : PySem.W.Frag} {G : Gx K} {ua : Option Addr} {B : Hp} {d : D} {v : V} {k : Key} (h : keyOf d = some k) (r : Rep G ua d v B) : v = kV k := by
  unfold keyOf at h
  split at h
  · cases h; cases r.int; rfl
  · cases h; cases r.str; rfl
  · cases h
/-- in its place, or at the end -/
def putD : List Key → List D → Key → D → List Key × List D
  | k :: ks, d :: ds, j, x => if k = j then (k :: ks, x :: ds) else let r := putD ks ds j x; (k :: r.1, d :: r.2)
  | ks, ds, j, x => (ks ++ [j], ds ++ [x])
theorem putK_cons {κ : Type} [DecidableEq κ] (p : κ × V) (r : List (κ × V)) (k : κ) (v : V) (hn : k ∉ r.map (·.1) ∨ p.1 ≠ k) : putK (p :: r) k v = if p.1 = k then (p.1, v) :: r else p :: putK r k v := by
  by_cases e : p.1 = k
  · rw [if_pos e]
    unfold putK
    have h1 : ((p :: r).any fun kv => decide (kv.1 = k)) = true := by simp [e]
    rw [if_pos h1, List.map_cons, if_pos e]
    congr 1
    rcases hn with hn | hn
    · conv => rhs; rw [← List.map_id r]
      refine List.map_congr_left fun q hq => ?_
      rw [if_neg (fun z => hn (List.mem_map.mpr ⟨q, hq, z⟩))]; rfl
    · exact (hn e).elim
  · rw [if_neg e]
    unfold putK
    rw [List.any_cons, decide_eq_false e, Bool.false_or]
    split
    · rw [List.map_cons, if_neg e]
    · rfl
theorem putD_rep {K : PySem.W.Frag} {G : Gx K} {ua : Option Addr} {B : Hp} {j : Key} {x : D} {w : V} (rx : Rep G ua x w B) : ∀ {ks : List Key} {ds : List D} {vs : List V}, ks.Nodup → ks.length = vs.length → Reps G ua ds vs B →
    ∃ ws, putK (ks.zip vs) j w = (putD ks ds j x).1.zip ws ∧ (putD ks ds j x).1.length = ws.length ∧ Reps G ua (putD ks ds j x).2 ws B ∧ (∀ k ∈ (putD ks ds j x).1, k ∈ ks ∨ k = j) ∧ (putD ks ds j x).1.Nodup
  | [], ds, vs, hn, hl, r => by
    cases vs with
    | cons v vs => cases hl
    | nil =>
      cases ds with
      | cons d ds => obtain ⟨_, _, h, _⟩ := r.of_cons; cases h
      | nil => exact ⟨[w], rfl, rfl, .cons rx .nil, fun k hk => .inr (by simpa [putD] using hk), by simp [putD]⟩
  | k :: ks, ds, vs, hn, hl, r => by
    cases vs with
    | nil => cases hl
    | cons v vs =>
      cases ds with
      | nil => have := r.of_nil; cases this
      | cons d ds =>
        obtain ⟨v', t, hv, r1, r2⟩ := r.of_cons
        cases hv
        obtain ⟨h1, h2⟩ := List.nodup_cons.mp hn
        have hl' : ks.length = vs.length := Nat.succ.inj hl
        rw [List.zip_cons_cons]
        unfold putD
        by_cases e : k = j
        · subst e
          rw [if_pos rfl, putK_cons (k, v) (ks.zip vs) k w (.inl fun z => h1 (by
            obtain ⟨q, hq, e⟩ := List.mem_map.mp z
            rw [← e]; exact (List.of_mem_zip hq).1)), if_pos rfl]
          exact ⟨w :: vs, rfl, hl, .cons rx r2, fun k' hk => .inl hk, hn⟩
        · rw [if_neg e]
          rw [putK_cons (k, v) (ks.zip vs) j w (.inr e), if_neg e]
          obtain ⟨ws, q1, q2, q3, q4, q5⟩ := putD_rep rx h2 hl' r2
          refine ⟨v :: ws, by rw [q1]; rfl, by show _ + 1 = _ + 1; rw [q2], .cons r1 q3, fun k' hk => ?_, List.nodup_cons.mpr ⟨fun z => ?_, q5⟩⟩
          · rcases List.mem_cons.mp hk with rfl | hk
            · exact .inl List.mem_cons_self
            · rcases q4 k' hk with z | z
              · exact .inl (List.mem_cons_of_mem _ z)
              · exact .inr z
          · rcases q4 k z with z | z
            · exact h1 z
            · exact e z
end
end Dv
namespace Dv
open PySem PySem.Spec PyProof.Rows L2
section
variable {X : Cx} {e : Expr} {t : TT}
theorem pss_frz {sts : List Stmt} {t : TS} (h : PSs X sts t) : PSs X sts (fun Dn σ H => t Dn σ H ∨ ∃ d u, H d = some u ∧ Mut (some u) ∧ ∀ od, t Dn σ (upd H d (.frz od u))) := by
  refine ⟨fun pins s σ H D I hw => ?_⟩
  rcases hw with hw | ⟨d, u, hd, mu, hw⟩
  · exact h.run pins s σ H D I hw
  · obtain ⟨od, I1⟩ := I.lock hd mu
    exact h.run pins s σ _ D I1 (hw od)
end
section
variable {K : PySem.W.Frag} {G : Gx K} {ua : Option Addr} {u : U} {env : List Sl} {σ : List (Option V)} {B H B0 H0 B1 H1 : Hp} {i : Nat} {o : Oo} {l : Addr} {ho ho' : HO} {d : D} {v : V}
theorem Grow.showU (g : Grow ua B0 H0 B H) (h0 : H0 l = none) (hb : B l = none) : Grow ua B0 H0 (upd B l ho') (upd H l ho') := by
  refine ⟨fun a x e n => ?_, fun a e => ?_, fun a x e => same_new hb a x (g.pub a x e), fun a x e => ?_⟩
  · rw [upd_ne (fun z => by rw [z, h0] at e; cases e)]; exact g.keep a x e n
  · by_cases q : a = l
    · rw [q]; exact h0
    · rw [upd_ne q] at e; exact g.live a e
  · by_cases q : a = l
    · rw [q]; exact .inr h0
    · rw [upd_ne q] at e; exact g.new a x e
/-- data without objects -/
def scalD : D → Bool
  | .non => true
  | .bl _ => true
  | .int _ => true
  | .str _ => true
  | _ => false
theorem Rep.scal (h : scalD d = true) (r : Rep G ua d v B) : Rep G ua d v B1 := by
  cases d <;> first | (unfold Rep at r ⊢; exact r) | cases h
/-- behind a look into one's own thing -/
theorem peek_back (w : Wd ua u B H) (hl : H l = some ho) (hb : B l = none) (nu : ua ≠ some l) {u' : U} (g : Grow ua (upd B l ho') (upd H l ho') B1 H1) (w1 : Wd ua u' B1 H1) : Grow ua B H B (upd H1 l ho) ∧ Wd ua u' B (upd H1 l ho) := by
  have key : ∀ a x, H a = some x → a ≠ l → ua ≠ some a → H1 a = some x := fun a x e n m => g.keep a x (by rw [upd_ne n]; exact e) m
  refine ⟨⟨fun a x e n => ?_, fun a e => ?_, fun _ _ e => e, fun _ _ e => .inl e⟩, ⟨fun a x e => ?_, fun a e => ?_⟩⟩
  · by_cases q : a = l
    · subst q; rw [hl] at e; cases e; exact upd_same
    · rw [upd_ne q]; exact key a x e q n
  · by_cases q : a = l
    · subst q; rw [upd_same] at e; cases e
    · rw [upd_ne q] at e
      have := g.live a e
      rw [upd_ne q] at this
      exact this
  · have q : a ≠ l := fun z => by rw [z, hb] at e; cases e
    rw [upd_ne q]
    exact key a x (w.sub a x e) q (fun z => by rw [(w.urn a z).1] at e; cases e)
  · have q : a ≠ l := fun z => nu (by rw [← z]; exact e)
    rw [upd_ne q]
    exact ⟨(w.urn a e).1, (w1.urn a e).2⟩
end
section
variable {X : Cx} {G : Gx X.K} {W : WX} {e f : Expr} {es : List Expr} {me mk : M} {mb : MB} {ms : Ms} {pos apos cpos p : Pos} {sts : List Stmt} {m : MS}
/-- one's own thing is let out -/
def sPub (i : Nat) (m : MS) : MS := fun env u => match env[i]? with
  | some (.own o) => m (env.set i (.pub (ooD o))) u
  | _ => none
theorem dss_pub (i : Nat) (h : PSs X sts (tSt G W m)) : PSs X sts (tSt G W (sPub i m)) := (pss_frz h).imp fun Dn σ H h => by
  obtain ⟨ua, u, B, env, fl, u', B0, H0, hg, hO, hE, hW, hm, q⟩ := h
  unfold sPub at hm
  split at hm
  · rename_i o hi
    obtain ⟨l, ho, s1, s2, s3, s4, s5⟩ := hE.own i o hi
    have h0 : H0 l = none := hO i o l hi s1
    rcases s4.show s3 with ⟨_, r⟩ | ⟨ks, ds, rfl, mu, r⟩
    · left
      have eS := hE.show hi s1 s3 r
      have gS := hg.showU (ho' := ho) h0 s3
      have wS := hW.showU (ho' := ho) s3 s5
      rw [upd_id s2] at eS gS wS
      exact ⟨ua, u, _, _, fl, u', B0, H0, gS, hO.pub i _, eS, wS, hm, q⟩
    · right
      exact ⟨l, ho, s2, mu, fun od => ⟨ua, u, _, _, fl, u', B0, H0, hg.showU h0 s3, hO.pub i _, hE.show hi s1 s3 (r od), hW.showU s3 s5, hm, q⟩⟩
  · cases hm
/-- an expression without objects looks into one's own list, one's own dict -/
def mPeek (i : Nat) (m : M) : M := fun env u => match env[i]? with
  | some (.own o) => bnd (m (env.set i (.pub (ooD o))) u) fun d u1 => if scalD d = true then some (d, u1) else none
  | _ => none
theorem dv_peek (i : Nat) (h : PE X e (tEv G me)) : PE X e (tEv G (mPeek i me)) := by
  refine PE.by fun σ H Q z => ?_
  obtain ⟨ua, u, B, env, d, u', hE, hW, hm, q⟩ := z
  unfold mPeek at hm
  split at hm
  · rename_i o hi
    obtain ⟨d, u1, c1, c2⟩ := bnd_some hm
    split at c2
    · rename_i hsc
      cases c2
      obtain ⟨l, ho, s1, s2, s3, s4, s5⟩ := hE.own i o hi
      rcases s4.show s3 with ⟨_, r⟩ | ⟨ks, ds, rfl, mu, r⟩
      · refine ⟨_, h, ?_⟩
        have eS := hE.show hi s1 s3 r
        have wS := hW.showU (ho' := ho) s3 s5
        have id := upd_id s2
        rw [id] at eS wS
        refine ⟨ua, u, _, _, d, _, eS, wS, c1, fun v H1 ⟨B1, g1, w1, r1⟩ => ?_⟩
        have g1' : Grow ua (upd B l ho) (upd H l ho) B1 H1 := by rw [id]; exact g1
        obtain ⟨g2, w2⟩ := peek_back hW s2 s3 s5 g1' w1
        have k1 : H1 l = some ho := g1.keep _ _ s2 s5
        rw [upd_id k1] at g2 w2
        exact q v H1 ⟨B, g2, w2, r1.scal hsc⟩
      · refine ⟨_, pe_lock h, l, ho, s2, mu, fun od => ?_⟩
        refine ⟨ua, u, _, _, d, _, hE.show hi s1 s3 (r od), hW.showU s3 s5, c1, fun v H1 ⟨B1, g1, w1, r1⟩ => ?_⟩
        obtain ⟨g2, w2⟩ := peek_back hW s2 s3 s5 g1 w1
        exact ⟨g1.keep _ _ upd_same s5, q v _ ⟨B, g2, w2, r1.scal hsc⟩⟩
    · cases c2
  · cases hm
end
end Dv
namespace Dv
open PySem PySem.Spec PyProof.Rows L2
def ltK : Key → Key → Bool
  | .inl i, .inl j => decide (i < j)
  | .inr x, .inr y => decide (x.cps.toList < y.cps.toList)
  | .inl _, .inr _ => true
  | .inr _, .inl _ => false
theorem ltK_irr (a : Key) : ltK a a = false := by
  cases a with
  | inl i => exact decide_eq_false (Int.lt_irrefl _)
  | inr x => exact decide_eq_false (List.lt_irrefl _)
theorem ltK_trans {a b c : Key} (h : ltK a b = true) (g : ltK b c = true) : ltK a c = true := by
  cases a <;> cases b <;> cases c <;> simp only [ltK, decide_eq_true_eq, Bool.false_eq_true] at h g ⊢
  · omega
  · exact List.lt_trans h g
theorem ltK_tri (a b : Key) : ltK a b = true ∨ a = b ∨ ltK b a = true := by
  cases a with
  | inl i =>
    cases b with
    | inl j =>
      rcases Int.lt_trichotomy i j with h | h | h
      · exact .inl (decide_eq_true h)
      · exact .inr (.inl (by rw [h]))
      · exact .inr (.inr (decide_eq_true h))
    | inr y => exact .inl rfl
  | inr x =>
    cases b with
    | inl j => exact .inr (.inr rfl)
    | inr y =>
      by_cases h : x.cps.toList < y.cps.toList
      · exact .inl (decide_eq_true h)
      · by_cases g : y.cps.toList < x.cps.toList
        · exact .inr (.inr (decide_eq_true g))
        · exact .inr (.inl (by rw [leS_anti (List.not_lt.mp g) (List.not_lt.mp h)]))
def leR : List Key → List Key → Bool
  | [], _ => true
  | _ :: _, [] => false
  | a :: as, b :: bs => if a = b then leR as bs else ltK a b
theorem leR_cons (a b : Key) (as bs : List Key) : leR (a :: as) (b :: bs) = if a = b then leR as bs else ltK a b := by rw [leR]
theorem leR_trans : ∀ {a b c : List Key}, leR a b = true → leR b c = true → leR a c = true
  | [], _, _, _, _ => by unfold leR; rfl
  | _ :: _, [], _, h, _ => by unfold leR at h; cases h
  | _ :: _, _ :: _, [], _, h => by unfold leR at h; cases h
  | a :: as, b :: bs, c :: cs, h, g => by
    unfold leR at h g ⊢
    by_cases e : a = b
    · subst e
      rw [if_pos rfl] at h
      by_cases f : a = c
      · rw [if_pos f] at g ⊢; exact leR_trans h g
      · rw [if_neg f] at g ⊢; exact g
    · rw [if_neg e] at h
      by_cases f : b = c
      · subst f
        rw [if_neg e]; exact h
      · rw [if_neg f] at g
        have t := ltK_trans h g
        by_cases k : a = c
        · subst k; rw [ltK_irr] at t; cases t
        · rw [if_neg k]; exact t
theorem leR_total : ∀ a b : List Key, leR a b = true ∨ leR b a = true
  | [], _ => .inl (by unfold leR; rfl)
  | _ :: _, [] => .inr (by unfold leR; rfl)
  | a :: as, b :: bs => by
    unfold leR
    by_cases e : a = b
    · rw [if_pos e, if_pos e.symm]; exact leR_total as bs
    · rw [if_neg e, if_neg (fun z => e z.symm)]
      rcases ltK_tri a b with h | h | h
      · exact .inl h
      · exact absurd h e
      · exact .inr h
theorem leR_anti : ∀ {a b : List Key}, leR a b = true → leR b a = true → a = b
  | [], [], _, _ => rfl
  | [], _ :: _, _, h => by unfold leR at h; cases h
  | _ :: _, [], h, _ => by unfold leR at h; cases h
  | a :: as, b :: bs, h, g => by
    unfold leR at h g
    by_cases e : a = b
    · subst e
      rw [if_pos rfl] at h g
      rw [leR_anti h g]
    · rw [if_neg e] at h
      rw [if_neg (fun z => e z.symm)] at g
      have := ltK_trans h g
      rw [ltK_irr] at this; cases this
def insR (x : List Key) : List (List Key) → List (List Key)
  | [] => [x]
  | y :: r => if leR x y = true then x :: y :: r else y :: insR x r
def sortR : List (List Key) → List (List Key)
  | [] => []
  | x :: r => insR x (sortR r)
theorem insR_perm (x : List Key) : ∀ l, (insR x l).Perm (x :: l)
  | [] => .refl _
  | y :: r => by
    unfold insR
    split
    · exact .refl _
    · exact ((insR_perm x r).cons y).trans (.swap x y r)
theorem sortR_perm : ∀ l, (sortR l).Perm l
  | [] => .refl _
  | x :: r => (insR_perm x _).trans ((sortR_perm r).cons x)
abbrev LeR (a b : List Key) : Prop := leR a b = true
theorem insR_sorted (x : List Key) : ∀ l : List (List Key), l.Pairwise LeR → (insR x l).Pairwise LeR
  | [], _ => List.pairwise_singleton _ _
  | y :: r, h => by
    have h1 := List.pairwise_cons.mp h
    unfold insR
    split
    · rename_i hl
      refine List.pairwise_cons.mpr ⟨fun z hz => ?_, h⟩
      rcases List.mem_cons.mp hz with rfl | hz
      · exact hl
      · exact leR_trans hl (h1.1 z hz)
    · rename_i hl
      refine List.pairwise_cons.mpr ⟨fun z hz => ?_, insR_sorted x r h1.2⟩
      rcases List.mem_cons.mp ((insR_perm x r).subset hz) with rfl | hz
      · exact (leR_total _ _).resolve_left hl
      · exact h1.1 z hz
theorem sortR_sorted : ∀ l : List (List Key), (sortR l).Pairwise LeR
  | [] => .nil
  | x :: r => insR_sorted x _ (sortR_sorted r)
theorem sortR_uniq {xs ys : List (List Key)} (p : ys.Perm xs) (h : ys.Pairwise LeR) : ys = sortR xs :=
  List.Perm.eq_of_pairwise (fun _ _ _ _ h1 h2 => leR_anti h1 h2) h (sortR_sorted xs) (p.trans (sortR_perm xs).symm)
def keyPy : Key → PyData
  | .inl i => .int i
  | .inr x => .str x
def rowPy (ks : List Key) : PyData := .tuple (ks.map keyPy)
def kindK : Key → Bool
  | .inl _ => true
  | .inr _ => false
abbrev shapeR (ks : List Key) : List Bool := ks.map kindK
theorem key_alike {a b : Key} (h : kindK a = kindK b) : W.alike (keyPy a) (keyPy b) = true := by
  cases a <;> cases b <;> simp_all [kindK, keyPy, W.alike]
theorem key_eqv {a b : Key} (h : kindK a = kindK b) : PyData.eqv (keyPy a) (keyPy b) = decide (a = b) := by
  cases a <;> cases b <;> simp_all [kindK, keyPy, PyData.eqv]
  · rename_i i j; by_cases e : i = j <;> simp [e]
  · rename_i i j; by_cases e : i = j <;> simp [e]
theorem key_lt {a b : Key} (h : kindK a = kindK b) : W.dataLt (keyPy a) (keyPy b) = ltK a b := by
  cases a <;> cases b <;> simp only [kindK, Bool.false_eq_true, Bool.true_eq_false] at h <;> unfold keyPy ltK
  · exact W.dataLt_int _ _
  · exact W.dataLt_str _ _
theorem row_alike : ∀ {a b : List Key}, shapeR a = shapeR b → W.alikeAll (a.map keyPy) (b.map keyPy) = true
  | [], _, _ => by simp [W.alikeAll]
  | _ :: _, [], h => by cases h
  | a :: as, b :: bs, h => by
    obtain ⟨h1, h2⟩ := List.cons.inj h
    show W.alikeAll (keyPy a :: as.map keyPy) (keyPy b :: bs.map keyPy) = true
    rw [W.alikeAll, key_alike h1, row_alike h2]; rfl
theorem row_lt : ∀ {a b : List Key}, shapeR a = shapeR b → W.rowLt (b.map keyPy) (a.map keyPy) = !leR a b
  | [], [], _ => by
    have e : W.rowLt [] [] = false := PyProof.Rows.lex_irrefl _
    unfold leR; exact e
  | [], _ :: _, h => by cases h
  | _ :: _, [], h => by cases h
  | a :: as, b :: bs, h => by
    obtain ⟨h1, h2⟩ := List.cons.inj h
    have e : W.rowLt ((b :: bs).map keyPy) ((a :: as).map keyPy) = if PyData.eqv (keyPy b) (keyPy a) = true then W.rowLt (bs.map keyPy) (as.map keyPy) else W.dataLt (keyPy b) (keyPy a) := W.dataLt_cons (key_alike h1.symm) _ _
    rw [e, key_eqv h1.symm, key_lt h1.symm, row_lt h2, leR_cons]
    by_cases f : a = b
    · subst f; simp
    · rw [if_neg (by simpa using fun z => f z.symm), if_neg f]
      rcases ltK_tri a b with h | h | h
      · rw [h]
        cases q : ltK b a with
        | false => rfl
        | true => have := ltK_trans h q; rw [ltK_irr] at this; cases this
      · exact absurd h f
      · rw [h]
        cases q : ltK a b with
        | false => rfl
        | true => have := ltK_trans h q; rw [ltK_irr] at this; cases this
theorem row_depth : ∀ ks : List Key, PyData.depthAll (ks.map keyPy) = 0
  | [] => by simp [PyData.depthAll]
  | k :: ks => by
    show PyData.depthAll (keyPy k :: ks.map keyPy) = 0
    rw [PyData.depthAll, row_depth ks]
    cases k <;> simp [keyPy, PyData.depth]
def keyD : Key → D
  | .inl i => .int i
  | .inr x => .str x
def rowD (ks : List Key) : D := .tup (ks.map keyD)
def keysOf : List D → Option (List Key)
  | [] => some []
  | d :: ds => (keyOf d).bind fun k => (keysOf ds).map fun ks => k :: ks
def rowOf : D → Option (List Key)
  | .tup ds => keysOf ds
  | _ => none
def rowsOf : List D → Option (List (List Key))
  | [] => some []
  | d :: ds => (rowOf d).bind fun k => (rowsOf ds).map fun ks => k :: ks
theorem keyOf_eq {d : D} {k : Key} (h : keyOf d = some k) : d = keyD k := by
  unfold keyOf at h
  split at h
  · cases h; rfl
  · cases h; rfl
  · cases h
theorem keysOf_eq : ∀ {ds : List D} {ks : List Key}, keysOf ds = some ks → ds = ks.map keyD
  | [], ks, h => by cases h; rfl
  | d :: ds, ks, h => by
    unfold keysOf at h
    cases q : keyOf d with
    | none => rw [q] at h; cases h
    | some k =>
      rw [q] at h
      cases q2 : keysOf ds with
      | none => rw [q2] at h; cases h
      | some r => rw [q2] at h; cases h; rw [keyOf_eq q, keysOf_eq q2]; rfl
theorem rowsOf_eq : ∀ {ds : List D} {ks : List (List Key)}, rowsOf ds = some ks → ds = ks.map rowD
  | [], ks, h => by cases h; rfl
  | d :: ds, ks, h => by
    unfold rowsOf at h
    cases q : rowOf d with
    | none => rw [q] at h; cases h
    | some k =>
      rw [q] at h
      cases q2 : rowsOf ds with
      | none => rw [q2] at h; cases h
      | some r =>
        rw [q2] at h; cases h
        unfold rowOf at q
        split at q
        · rw [keysOf_eq q, rowsOf_eq q2]; rfl
        · cases q
theorem keyD_of (k : Key) : keyOf (keyD k) = some k := by cases k <;> rfl
theorem keysOf_map : ∀ ks : List Key, keysOf (ks.map keyD) = some ks
  | [] => rfl
  | k :: ks => by
    show (keyOf (keyD k)).bind _ = _
    rw [keyD_of]
    show (keysOf (ks.map keyD)).map _ = _
    rw [keysOf_map ks]; rfl
theorem rowsOf_map : ∀ ks : List (List Key), rowsOf (ks.map rowD) = some ks
  | [] => rfl
  | k :: ks => by
    show (keysOf (k.map keyD)).bind _ = _
    rw [keysOf_map]
    show (rowsOf (ks.map rowD)).map _ = _
    rw [rowsOf_map ks]; rfl
theorem key_py (k : Key) : toPy (keyD k) = some (keyPy k) := by cases k <;> (unfold keyD toPy; rfl)
theorem keys_py : ∀ ks : List Key, toPys (ks.map keyD) = some (ks.map keyPy)
  | [] => by unfold toPys; rfl
  | k :: ks => by
    show toPys (keyD k :: ks.map keyD) = _
    unfold toPys
    rw [key_py, keys_py ks]; rfl
theorem row_py (ks : List Key) : toPy (rowD ks) = some (rowPy ks) := by
  unfold rowD toPy
  rw [keys_py]; rfl
def rSortedD (X : Cx) : List V → Hp → VK → Prop := fun vs H Q => ∃ (a : Addr) (zs : List (V × List Key)) (sh : List Bool), vs = [.ref a] ∧ SqL X.K H a (zs.map (·.1)) ∧ (∀ z ∈ zs, Dp X.K H z.1 (rowPy z.2)) ∧ (∀ z ∈ zs, shapeR z.2 = sh) ∧ sh ≠ [] ∧
  ∀ (p : Addr) (ys : List (V × List Key)), ys.Perm zs → (ys.map (·.2)).Pairwise LeR → H p = none → Q (.ref p) (upd H p (.lst (ys.map (·.1))))
theorem vals_each {R : Value → V × List Key → Prop} (hR : ∀ u z, R u z → RelV z.1 u) : ∀ {us : List Value} {zs : List (V × List Key)}, W.EachIs R us zs → Vals (zs.map (·.1)) us
  | _, _, .nil => .nil
  | _, _, .cons h t => .cons (hR _ _ h) (vals_each hR t)
theorem each_vals : ∀ {zs : List (V × List Key)} {us : List Value}, Vals (zs.map (·.1)) us → W.EachIs (fun u (z : V × List Key) => RelV z.1 u) us zs
  | [], us, h => by cases us with
    | nil => exact .nil
    | cons u us => cases h
  | z :: zs, us, h => by cases us with
    | nil => cases h
    | cons u us => cases h with
      | cons h1 h2 => exact .cons h1 (each_vals h2)
theorem each_reads {R S : Value → V × List Key → Prop} : ∀ {us : List Value} {zs : List (V × List Key)}, W.EachIs R us zs → (∀ u z, z ∈ zs → R u z → S u z) → W.EachIs S us zs
  | _, _, .nil, _ => .nil
  | _, _, .cons h t, f => .cons (f _ _ List.mem_cons_self h) (each_reads t fun u z hz => f u z (List.mem_cons_of_mem _ hz))
theorem shaped_ne {sh : List Bool} {k : List Key} (h : shapeR k = sh) (hn : sh ≠ []) : ∃ a r, k = a :: r := by
  cases k with
  | nil => exact absurd h.symm hn
  | cons a r => exact ⟨a, r, rfl⟩
theorem cr_sortedD {X : Cx} (hu : X.A.units + 64 < cLine) : CallR X (.builtin "sorted") (rSortedD X) := by
  intro pins s σ H vs us Q I r h
  obtain ⟨a, zs, sh, rfl, hs, hd, hsh, hne, q⟩ := h
  obtain ⟨its, rv, hl, hz⟩ := I.list hs
  obtain ⟨u, rfl, ru⟩ := vals1 r
  obtain rfl : u = Value.ref a := ru
  have e0 := each_vals rv
  have er : W.EachIs (fun u (z : V × List Key) => ∃ as, Reads s.heap u (rowPy z.2) as) its zs := each_reads e0 fun u z hz' ru => Dp.reads I _ _ _ (hd z hz') ru
  have hal : W.AllAlike (zs.map fun z => rowPy z.2) := by
    intro d hd1 d' hd2
    obtain ⟨z, hz1, rfl⟩ := List.mem_map.mp hd1
    obtain ⟨z', hz2, rfl⟩ := List.mem_map.mp hd2
    show W.alike (.tuple _) (.tuple _) = true
    rw [W.alike]
    exact row_alike ((hsh z hz1).trans (hsh z' hz2).symm)
  have hk : W.Sortable (zs.map fun z => rowPy z.2) := .inl fun d hd1 => by
    obtain ⟨z, hz1, rfl⟩ := List.mem_map.mp hd1
    obtain ⟨x, r, e⟩ := shaped_ne (hsh z hz1) hne
    exact ⟨keyPy x, r.map keyPy, by show PyData.tuple (z.2.map keyPy) = _; rw [e]; rfl⟩
  have hlen : its.length = zs.length := by rw [← rv.length, List.length_map]
  refine W.sorted_data (enc := fun z : V × List Key => rowPy z.2) (R := fun u z => RelV z.1 u) hl.isList e0 er hal hk (by rw [← hlen, ← rv.length]; exact hz) (fun b _ => by
    have : (rowPy b.2).depth = 1 := by show PyData.depth (.tuple (b.2.map keyPy)) = 1; rw [PyData.depth, row_depth]
    rw [this]; omega) fun out ho eo => ?_
  have hle : ∀ x ∈ zs, ∀ y ∈ zs, W.dataLe false (fun z : V × List Key => rowPy z.2) x y = leR x.2 y.2 := fun x hx y hy => by
    show (!W.dataLt (rowPy y.2) (rowPy x.2)) = _
    have : W.dataLt (rowPy y.2) (rowPy x.2) = W.rowLt (y.2.map keyPy) (x.2.map keyPy) := W.dataLt_tuple _ _
    rw [this, row_lt ((hsh x hx).trans (hsh y hy).symm), Bool.not_not]
  obtain ⟨ys, hys⟩ : ∃ ys, ys = zs.mergeSort (W.dataLe false fun z : V × List Key => rowPy z.2) := ⟨_, rfl⟩
  have hperm : ys.Perm zs := by rw [hys]; exact List.mergeSort_perm _ _
  rw [← hys] at eo
  obtain ⟨c, hc⟩ := PyProof.Rows.sortedAll_at s.heap its out.toArray
  refine ⟨.ref (s.heap.objs.size + 1), upd H (s.heap.objs.size + 1) (.lst (ys.map (·.1))), I.laid (t' := s.toks) (fun b o e => PyProof.Rows.sortedAll_old e) (Nat.le_succ _) ⟨?_, out, c, vals_each (fun _ _ h => h) eo, hc⟩, rfl, q _ ys hperm ?_ (I.hok.fresh (Nat.le_succ _))⟩
  · rw [List.length_map, hperm.length_eq, ← hlen, ← rv.length]; exact hz
  · rw [List.pairwise_map]
    rw [hys, W.sort_congr (s := fun x y : V × List Key => leR x.2 y.2) hle]
    exact W.sort_pairwise (le := fun x y : V × List Key => leR x.2 y.2) ⟨fun _ _ _ h g => leR_trans h g, fun _ _ => leR_total _ _⟩ zs
def sameShape (sh : List Bool) (ks : List (List Key)) : Bool := ks.all fun k => decide (shapeR k = sh)
def sortKs : List (List Key) → Option D
  | [] => some (.lst [])
  | k :: r => if sameShape (shapeR k) r = true ∧ k ≠ [] then some (.lst ((sortR (k :: r)).map rowD)) else none
def sortT (ds : List D) : Option D := (rowsOf ds).bind sortKs
def bSortA : List D → Option D
  | [.lst ds] => match bSorted [.lst ds] with
    | some d => some d
    | none => sortT ds
  | _ => none
theorem rep_rows {K : PySem.W.Frag} {G : Gx K} {ua : Option Addr} {B H : Hp} (sub : Same B H) : ∀ {ks : List (List Key)} {vs : List V}, Reps G ua (ks.map rowD) vs B → ∃ zs : List (V × List Key), zs.map (·.1) = vs ∧ zs.map (·.2) = ks ∧ ∀ z ∈ zs, Rep G ua (rowD z.2) z.1 B ∧ Dp K H z.1 (rowPy z.2)
  | [], vs, r => by
    have r : Reps G ua [] vs B := r
    exact ⟨[], by rw [r.of_nil]; rfl, rfl, fun z hz => by cases hz⟩
  | k :: ks, vs, r => by
    obtain ⟨v, t, rfl, r1, r2⟩ := (show Reps G ua (rowD k :: ks.map rowD) vs B from r).of_cons
    obtain ⟨zs, h1, h2, h3⟩ := rep_rows sub r2
    refine ⟨(v, k) :: zs, by rw [List.map_cons, h1], by rw [List.map_cons, h2], fun z hz => ?_⟩
    rcases List.mem_cons.mp hz with rfl | hz
    · exact ⟨r1, rep_dp sub _ _ _ (row_py k) r1⟩
    · exact h3 z hz
theorem reps_of {K : PySem.W.Frag} {G : Gx K} {ua : Option Addr} {B : Hp} : ∀ {zs : List (V × List Key)}, (∀ z ∈ zs, Rep G ua (rowD z.2) z.1 B) → Reps G ua ((zs.map (·.2)).map rowD) (zs.map (·.1)) B
  | [], _ => .nil
  | z :: zs, h => .cons (h z List.mem_cons_self) (reps_of fun y hy => h y (List.mem_cons_of_mem _ hy))
theorem ok_sortA {X : Cx} {G : Gx X.K} (hu : X.A.units + 64 < cLine) : BiOk G (.builtin "sorted") bSortA := by
  intro ua u B H ds d vs e rs w
  unfold bSortA at e
  split at e
  · rename_i ds
    split at e
    · rename_i d' hd
      cases e
      exact ok_sorted ua u B H _ _ vs hd rs w
    · rename_i hno
      unfold sortT at e
      cases q : rowsOf ds with
      | none => rw [q] at e; cases e
      | some ks =>
        rw [q] at e
        have e : sortKs ks = some d := e
        obtain ⟨v, t, rfl, r1, r2⟩ := rs.of_cons
        rw [r2.of_nil]
        obtain ⟨a, ys, rfl, h, r3⟩ := r1.lst
        rw [rowsOf_eq q] at r3
        cases ks with
        | nil =>
          rw [rowsOf_eq q] at hno
          cases (show (some (D.lst []) : Option D) = none from hno)
        | cons k r =>
          have e : (if sameShape (shapeR k) r = true ∧ k ≠ [] then some (D.lst ((sortR (k :: r)).map rowD)) else none) = some d := e
          split at e
          · rename_i hh
            cases e
            obtain ⟨zs, h1, h2, h3⟩ := rep_rows w.sub r3
            refine ⟨_, cr_sortedD hu, a, zs, shapeR k, rfl, by rw [h1]; exact .of (w.sub _ _ h), fun z hz => (h3 z hz).2, fun z hz => ?_, fun z => hh.2 (List.map_eq_nil_iff.mp z), fun p zs' hp hs hn => ?_⟩
            · have : z.2 ∈ k :: r := by rw [← h2]; exact List.mem_map.mpr ⟨z, hz, rfl⟩
              rcases List.mem_cons.mp this with e | m
              · rw [e]
              · exact of_decide_eq_true (List.all_eq_true.mp hh.1 _ m)
            · have : zs'.map (·.2) = sortR (k :: r) := sortR_uniq (by rw [← h2]; exact hp.map _) hs
              rw [← this]
              exact .lst w hn (reps_of fun z hz => (h3 z (hp.mem_iff.mp hz)).1)
          · cases e
  · cases e
theorem sortA_r {ks : List (List Key)} {sh : List Bool} (h : ∀ k ∈ ks, shapeR k = sh) (hn : sh ≠ []) : bSortA [.lst (ks.map rowD)] = some (.lst ((sortR ks).map rowD)) := by
  cases ks with
  | nil => rfl
  | cons k r =>
    have e : bSorted [.lst ((k :: r).map rowD)] = none := rfl
    show (match bSorted [.lst ((k :: r).map rowD)] with | some d => some d | none => sortT ((k :: r).map rowD)) = _
    rw [e]
    show (rowsOf ((k :: r).map rowD)).bind _ = _
    rw [rowsOf_map]
    show (if _ then _ else _) = _
    rw [if_pos]
    refine ⟨List.all_eq_true.mpr fun z hz => decide_eq_true ((h z (List.mem_cons_of_mem _ hz)).trans (h k List.mem_cons_self).symm), fun z => hn ?_⟩
    rw [← h k List.mem_cons_self, z]; rfl
end Dv
namespace Dv
open PySem PySem.Spec PyProof.Rows L2
def txtOf (e : Int × Value) : Str := match e.2 with
  | .str x _ => x
  | _ => Str.ofString ""
def TxtE (w : World) (e : Int × Value) : Prop := ∃ x tk, e.2 = Value.str x tk ∧ e.1 = hashStr w x
/-- at a: the set of the texts ks; its table can be walked -/
def TxtSet (w : World) (h : Heap) (a : Addr) (ks : List Str) : Prop := ∃ o es ep t, h.get? a = some o ∧ o.ExactSet ∧ o.data = .set es ep t ∧ (∀ e ∈ es.toList, TxtE w e) ∧ (es.toList.map txtOf).Perm ks ∧ ks.Nodup ∧
  es.size < scanBound ∧ t.fits es.size = true ∧ Ris t.place.toList ∧ (w.params.followText "set-order" = true ∨ t.led = true)
section
variable {P : Program} {w : World} {A : Around} {E : Value → Shared → Prop} {s : Shared} {h h' : Heap} {a : Addr} {ks : List Str}
theorem TxtSet.at (R : TxtSet w h a ks) (k : ∀ o, h.get? a = some o → h'.get? a = some o) : TxtSet w h' a ks := by
  obtain ⟨o, es, ep, t, ho, r⟩ := R
  exact ⟨o, es, ep, t, k o ho, r⟩
end
end Dv
namespace Dv
open PySem PySem.Spec PyProof.Rows L2
end Dv
namespace Dv
open PySem PySem.Spec PyProof.Rows L2
section
variable {X : Cx} {G : Gx X.K} {W : WX} {a b : Expr} {ma mb : M} {pos p cpos : Pos}
def sNone : MS := fun _ _ => none
theorem ds_never {st : Stmt} : PS X st (tSt G W sNone) := ⟨fun pins s σ H D I h => by
  obtain ⟨ua, u, B, env, fl, u', B0, H0, hg, hO, hE, hW, hm, q⟩ := h
  cases hm⟩
end
end Dv
namespace PySem
open Builtin
theorem enumT_new (t : Addr) (o : Obj) (items : Array Value) (n : Nat) :
    Meets (Builtin.«enumerate.__new__» ⟨[.type "enumerate", .ref t], []⟩) (fun _ R s => (s.heap.get? t = some o ∧ o.cls = .type "tuple" ∧ o.data = .seq items n) ∧
      R (.ok (.ret (.ref (s.heap.objs.size + 1)))) { s with heap := (s.heap.push { cls := .type "tuple_iterator", data := .fields #[.ref t, .int 0 0] }).push { cls := .type "enumerate", data := .fields #[.none, .bool false, .ref s.heap.objs.size, rawInt 0, .none, .none] } }) :=
  .of_wp fun prog w A R s h => by
    obtain ⟨hh, g, d, tk, os⟩ := s
    obtain ⟨⟨hl, hc, hd⟩, q⟩ := h
    have sb := sub_enumerate
    have ht : Heap.IsTuple (Shared.heap ⟨hh, g, d, tk, os⟩) t items := ⟨_, hl, hc, n, hd⟩
    obtain ⟨oc, od, odt, osl⟩ := o
    dsimp only at hc hd
    subst hc
    subst hd
    have e : (hh.push { cls := .type "tuple_iterator", data := .fields #[.ref t, .int 0 0] }).objs.size = hh.objs.size + 1 := Heap.size_push ..
    wp_walk using wpAny_loadPart' hl
    refine wpAny_stack_any fun st => wpAny_pure ?_
    have fin : R (.ok (.ret (.ref (hh.push { cls := .type "tuple_iterator", data := .fields #[.ref t, .int 0 0] }).objs.size))) ⟨(hh.push { cls := .type "tuple_iterator", data := .fields #[.ref t, .int 0 0] }).push { cls := .type "enumerate", data := .fields #[.none, .bool false, .ref hh.objs.size, rawInt 0, .none, .none] }, g, d, tk, os⟩ := by rw [e]; exact q
    split
    · rename_i c _ _ _ _ _
      cases (c == Value.type "enumerate") <;> (wp_walk using wpAny_loadPart' hl, wpAny_pyIter_tuple ht; exact ⟨_, rfl, fin⟩)
    · wp_walk using wpAny_loadPart' hl, wpAny_pyIter_tuple ht
      exact ⟨_, rfl, fin⟩
end PySem
namespace PySem
open Builtin
section
variable {prog : Program} {w : World} {A : Around} {E : Value → Shared → Prop} {s : Shared}
theorem call_enumT {t : Addr} {items : Array Value} {Q : Value → Shared → Prop} (ht : s.heap.IsTuple t items)
    (h : ∀ h', IsEnum h' (s.heap.objs.size + 1) s.heap.objs.size 0 .none → h'.IsTupleIter s.heap.objs.size t 0 → (∀ b o, s.heap.get? b = some o → h'.get? b = some o) → Q (.ref (s.heap.objs.size + 1)) { s with heap := h' }) :
    wpAny (model prog w) A (call (.type "enumerate") [.ref t]) Q E s := by
  obtain ⟨o, hl, hc, n, hd⟩ := ht
  refine callType_new F.called_enumerate (by decide) (F.typeCall_enumerate_1 _) (F.newCall_enumerate_1 _) (fun obj => F.args_object_init_2 obj _) F.entry_enumerate_new (enumT_new t o items n) ⟨⟨hl, hc, hd⟩, ?_⟩
  have e : (s.heap.push { cls := .type "tuple_iterator", data := .fields #[.ref t, .int 0 0] }).objs.size = s.heap.objs.size + 1 := Heap.size_push ..
  have g1 : IsEnum ((s.heap.push { cls := .type "tuple_iterator", data := .fields #[.ref t, .int 0 0] }).push { cls := .type "enumerate", data := .fields #[.none, .bool false, .ref s.heap.objs.size, rawInt 0, .none, .none] }) (s.heap.objs.size + 1) s.heap.objs.size 0 .none := by
    have := Heap.get?_push_size (s.heap.push { cls := .type "tuple_iterator", data := .fields #[.ref t, .int 0 0] }) (o := { cls := .type "enumerate", data := .fields #[.none, .bool false, .ref s.heap.objs.size, rawInt 0, .none, .none] }) rfl
    rw [e] at this
    exact this
  exact ⟨⟨_, g1, rfl⟩, h _ g1 ⟨_, Heap.get?_push_of_some _ (Heap.get?_push_size _ rfl), rfl, rfl⟩ fun b o x => Heap.get?_push_of_some _ (Heap.get?_push_of_some _ x)⟩
end
end PySem
namespace Dv
open PySem PySem.Spec PyProof.Rows L2
/-- the tuple at a, each item in a new pair -/
def IteT (a : Addr) : It :=
  ⟨fun i H => ∃ (xs : List V) (x : V), TupB H a xs ∧ xs[i]? = some x, fun i H v H' => ∃ T x, v = .ref T ∧ H T = none ∧ H' = upd H T (.tup [.int (i : Nat), x]) ∧ ∀ xs, TupB H a xs → xs[i]? = some x, fun i H => ∃ xs : List V, TupB H a xs ∧ xs.length ≤ i⟩
theorem TupB.inj {H : Hp} {a : Addr} {xs ys : List V} (h : TupB H a xs) (h' : TupB H a ys) : xs = ys := by
  obtain ⟨o, _, e⟩ := h
  obtain ⟨o', _, e'⟩ := h'
  rw [e] at e'
  cases e'
  rfl
theorem TupB.some_ {H : Hp} {a : Addr} {xs : List V} (h : TupB H a xs) : ∃ u, H a = some u := ⟨_, h.choose_spec.2⟩
theorem Draws.ended {prog : Program} {w : World} {A : Around} (hh : A.handled = none) (it t : Addr) (items : Array Value) (i : Nat) (hx : items[i]? = none) :
    Draws prog w A it [it, t] i (fun _ _ => False) (fun j h => j = i ∧ h.IsTupleIter it t i ∧ h.IsTuple t items) where
  live := fun _ _ st => let ⟨o, ho, _⟩ := st.2.1; ⟨o, ho⟩
  frame := fun _ _ _ st hk => ⟨st.1, st.2.1.at fun o e => hk it (by simp) o e, st.2.2.at fun o e => hk t (by simp) o e⟩
  item := fun j s Q E hj st hQ => absurd hj (by rw [st.1]; exact Nat.lt_irrefl _)
  done := fun s Q E st hE => wpAny_nextOf_tuple_end hh st.2.1 st.2.2 hx hE
theorem turn_enumT {P : Program} {w : World} {K : PySem.W.Frag} {elts : List Expr} {kk : Nat} {tpos : Pos} (a e it : Addr) :
    Turn P w K (.Tuple elts kk tpos) (IteT a) [e, it] e (fun i h => (∃ old, IsEnum h e it ((i : Nat) : Int) old) ∧ h.IsTupleIter it a i ∧ e ≠ it) where
  mem := List.mem_cons_self
  obj := fun i h ⟨⟨old, he⟩, ⟨o, ho, hc, hd⟩, _⟩ b hb => by
    rcases (show b = e ∨ b = it by simpa using hb) with rfl | rfl
    · exact ⟨_, he, fun v q => nomatch q⟩
    · exact ⟨o, ho, fun v q => by rw [hd] at q; cases q⟩
  keep := fun i h h' ⟨⟨old, he⟩, hi, hne⟩ k => ⟨⟨old, k e (by simp) _ he⟩, hi.at fun o q => k it (by simp) o q, hne⟩
  item := by
    intro X hP hw hK hc i pins s σ H E I hf ⟨⟨old, he⟩, hit, hne⟩ ⟨xs, x, hq, hx⟩
    subst hP hw hK
    obtain ⟨its, rv, p, hz⟩ := I.tuple (hq.sq (K := X.K))
    obtain ⟨u, hu, ru⟩ := rv.get hx
    obtain ⟨ob, hob⟩ := hq.some_
    have hel : e < s.heap.objs.size := Heap.lt_size he
    have hil : it < s.heap.objs.size := by obtain ⟨_, q, _⟩ := hit; exact Heap.lt_size q
    have nof : ∀ b ∈ [e, it], a ≠ b := fun b hb z => by
      have q := (hf b hb).1
      rw [← z, hob] at q
      cases q
    have hai : a ≠ it := nof it (by simp)
    have hae : e ≠ a := fun z => nof e (by simp) z.symm
    have hlt : i < its.toArray.size := by
      have := (List.getElem?_eq_some_iff.mp hu).1
      rw [List.size_toArray]; exact this
    refine wpAny_pyNext_enum_itemD (Draws.tuple (A := X.A.in1) (I.ok.hd hc) it a hai its.toArray) he ⟨hit, p⟩ hlt hne (by simp [hne, hae]) fun v h' tk hv ho hst hT hsz hk => ?_
    have ev : v = u := by
      have h1 : its.toArray[i]? = some v := hv
      rw [List.getElem?_toArray, hu] at h1
      exact (Option.some.inj h1).symm
    subst ev
    refine ⟨_, rfl, wpAny_letOwnedTupleGo_enum (s := { s with heap := h', toks := tk + 1 }) ho fun h2 he2 sb => ?_⟩
    have hT2 : h2.get? s.heap.objs.size = some { cls := .type "tuple", data := .seq #[.int i tk, v] } := (sb.2 _ (Nat.ne_of_gt hel)).trans hT
    have new : ObjOk X.prog X.w (upd H s.heap.objs.size (.tup [.int (i : Nat), x])) h2 s.heap.objs.size (.tup [.int (i : Nat), x]) :=
      ⟨by show 2 ≤ sizeLine; decide, [.int i tk, v], .cons ⟨_, rfl⟩ (.cons ru .nil), ⟨_, hT2, rfl, _, rfl⟩⟩
    have J : Inv X pins σ (upd H s.heap.objs.size (.tup [.int (i : Nat), x])) { s with heap := h2, toks := tk + 1 } :=
      I.turnedNew (ch := [e, it]) (fun b ob2 hb q => (sb.2 b (fun z => hb (by simp [z]))).trans (hk b ob2 (fun z => hb (by simp [z])) (fun z => hb (by simp [z])) q)) hf (Nat.le_refl _) new
    refine ⟨.ref s.heap.objs.size, _, J, rfl, ⟨_, x, rfl, I.hok.fresh (Nat.le_refl _), rfl, fun ys hy => by rw [hy.inj hq]; exact hx⟩, ⟨⟨v, ?_⟩, hst.1.at fun o q => (sb.2 it (Ne.symm hne)).trans q, hne⟩, fun b hb => ?_⟩
    · rw [show ((i + 1 : Nat) : Int) = (i : Int) + 1 by omega]; exact he2
    · have hb' : b < s.heap.objs.size := by
        rcases (show b = e ∨ b = it by simpa using hb) with z | z <;> rw [z] <;> assumption
      rw [upd_ne (Nat.ne_of_lt hb')]
      exact (hf b hb).1
  done := by
    intro X hP hw hK hc i pins s σ H E I hf ⟨⟨old, he⟩, hit, hne⟩ ⟨xs, hq, hx⟩
    subst hP hw hK
    obtain ⟨its, rv, p, hz⟩ := I.tuple (hq.sq (K := X.K))
    obtain ⟨ob, hob⟩ := hq.some_
    obtain ⟨f0, f1, f2, f3, f4, f5⟩ := hf it (by simp)
    have hai : a ≠ it := fun z => by rw [← z, hob] at f0; cases f0
    have hn : its.toArray[i]? = none := by
      rw [List.getElem?_toArray, List.getElem?_eq_none_iff, ← rv.length]; exact hx
    exact wpAny_pyNext_enum_endD (Draws.ended (A := X.A.in1) (I.ok.hd hc) it a its.toArray i hn) he ⟨rfl, hit, p⟩ fun h' eb => ⟨rfl, I.turned (t' := s.toks) (fun b o hb q => eb b o hb q) f0 f1 f3 f4 f5⟩
  self := fun A i s Q E ⟨⟨_, he⟩, _⟩ h => wpAny_pyIter_enum he h
section
variable {X : Cx} {G : Gx X.K} {ua : Option Addr} {B H : Hp} {ds : List D} {vs : List V}
def iEnumT (ta : TA) : TI := fun σ H R => ta σ H fun vs H1 => ∃ a xs, vs = [.ref a] ∧ TupB H1 a xs ∧ R (IteT a) H1
theorem pi_enumT {e : Expr} {ta : TA} {p pos tpos : Pos} {elts : List Expr} {kk : Nat} (hg : Gl X "enumerate") (hm : X.mg "enumerate" = none) (ha : PA X [e] ta) (hs : starEach [e] X.env = [(false, eval e X.env)] := by rfl) :
    PI X (.Tuple elts kk tpos) (.Call (.Name "enumerate" p) [e] [] pos) (iEnumT ta) := by
  refine ⟨fun pins s σ H R I h => Call_ (ld_blt I hg hm boot_enumerate (PyProof.Rows.callWith_type1 (thn (ha.run pos pins s σ H _ I h) fun us s1 ⟨vs, H1, I1, r1, a, xs, ex, hq, q⟩ => ?_) hs rfl))⟩
  subst ex
  obtain ⟨u, rfl, ru⟩ := vals1 r1
  cases ru
  obtain ⟨its, rv, p', hz⟩ := I1.tuple (hq.sq (K := X.K))
  refine call_enumT p' fun h' he hit hk => wpAny_pyIter_enum he ?_
  refine ⟨s1.heap.objs.size + 1, [s1.heap.objs.size + 1, s1.heap.objs.size], _, _, H1, rfl, I1.kept (t' := s1.toks) hk, turn_enumT a (s1.heap.objs.size + 1) s1.heap.objs.size, ⟨⟨.none, he⟩, hit, Nat.succ_ne_self _⟩, fun b hb => ?_, q⟩
  have hle : s1.heap.objs.size ≤ b := by
    rcases (show b = s1.heap.objs.size + 1 ∨ b = s1.heap.objs.size by simpa using hb) with z | z
    · rw [z]; exact Nat.le_succ _
    · rw [z]; exact Nat.le_refl _
  exact I1.fpOk hle (I1.hok.fresh hle)
theorem wk_enumT {a : Addr} (h : TupB B a vs) (r : Reps G ua ds vs B) : Wk G ua (IteT a) B (enumD 0 ds) := fun i B' H' u s w => by
  have hq : TupB H' a vs := (h.mono s).mono w.sub
  rw [enumD_get]
  refine ⟨fun d hd => ?_, fun hn => ⟨vs, hq, List.getElem?_eq_none_iff.mp (r.none (Option.map_eq_none_iff.mp hn))⟩⟩
  obtain ⟨d', hd', rfl⟩ := map_some hd
  obtain ⟨v, hv, rv⟩ := r.get hd'
  refine ⟨⟨vs, v, hq, hv⟩, fun x H2 y => ?_⟩
  obtain ⟨T, x, rfl, hT, rfl, y⟩ := y
  have := y vs hq
  rw [hv] at this; cases this
  rw [Nat.zero_add]
  exact .pr w hT (.cons rep_int (.cons (rv.mono _ _ s) .nil))
/-- enumerate of a list or a tuple -/
def mEnumA (m : M) : MI := fun env u => bnd (m env u) fun d u1 => match d with
  | .lst ds => some (enumD 0 ds, u1)
  | .tup ds => some (enumD 0 ds, u1)
  | _ => none
theorem di_enumA {a : Expr} {m : M} {p pos tpos : Pos} {elts : List Expr} {kk : Nat} (hg : Gl X "enumerate") (hm : X.mg "enumerate" = none) (ha : PE X a (tEv G m)) (hs : starEach [a] X.env = [(false, eval a X.env)] := by rfl) :
    PI X (.Tuple elts kk tpos) (.Call (.Name "enumerate" p) [a] [] pos) (tIt G (mEnumA m)) := by
  refine PI.by fun σ H R h => ?_
  obtain ⟨ua, u, B, env, ds, u', hE, hW, hm2, q⟩ := h
  obtain ⟨d, u1, h1, h2⟩ := bnd_some hm2
  split at h2
  · cases h2
    refine ⟨_, pi_enum hg hm (pa_cons ha pa_nil hs) hs, ua, u, B, env, _, _, hE, hW, h1, fun v H1 ⟨B1, g1, w1, r1⟩ => ?_⟩
    obtain ⟨a, vs, rfl, h, rs⟩ := r1.lst
    exact ⟨a, vs, rfl, .of (w1.sub _ _ h), q _ _ _ g1 w1 (wk_enum h rs)⟩
  · cases h2
    refine ⟨_, pi_enumT hg hm (pa_cons ha pa_nil hs) hs, ua, u, B, env, _, _, hE, hW, h1, fun v H1 ⟨B1, g1, w1, r1⟩ => ?_⟩
    obtain ⟨a, vs, rfl, h, rs⟩ := r1.tup
    exact ⟨a, vs, rfl, h.mono w1.sub, q _ _ _ g1 w1 (wk_enumT h rs)⟩
  · cases h2
end
end Dv
namespace Dv
open PySem PySem.Spec PyProof.Rows L2
/-- what a def gives -/
inductive R where
  | ok (d : D) | er (c : Str) (ns : List Str) (xs : List D)
abbrev MX := List Sl → U → Option (R × U)
def AftE {K : PySem.W.Frag} (G : Gx K) (ua : Option Addr) (B H : Hp) (u' : U) (c : Str) (ns : List Str) (xs : List D) : Value → Option Addr → Hp → Prop := fun cls d H' => ∃ B', Grow ua B H B' H' ∧ Wd ua u' B' H' ∧ ErR G ua c ns xs cls d B'
theorem AftE.up {K : PySem.W.Frag} {G : Gx K} {ua : Option Addr} {B H B1 H1 H' : Hp} {u' : U} {c : Str} {ns : List Str} {xs : List D} {cls : Value} {d : Option Addr} (g : Grow ua B H B1 H1) (a : AftE G ua B1 H1 u' c ns xs cls d H') : AftE G ua B H u' c ns xs cls d H' := by
  obtain ⟨B', g', w, r⟩ := a
  exact ⟨B', g.trans g', w, r⟩
def OutR {K : PySem.W.Frag} (G : Gx K) (ua : Option Addr) (B H : Hp) (u' : U) (Q : VK) (E : XK) : R → Prop
  | .ok d => ∀ v H', Aft G ua B H u' d v H' → Q v H'
  | .er c ns xs => ∀ cls d H', AftE G ua B H u' c ns xs cls d H' → E cls d H'
theorem OutR.up {K : PySem.W.Frag} {G : Gx K} {ua : Option Addr} {B H B1 H1 : Hp} {u' : U} {Q : VK} {E : XK} {r : R} (g : Grow ua B H B1 H1) (a : OutR G ua B H u' Q E r) : OutR G ua B1 H1 u' Q E r := by
  cases r with
  | ok d => exact fun v H' z => a v H' (.up g z)
  | er c ns xs => exact fun cls d H' z => a cls d H' (.up g z)
theorem OutR.imp {K : PySem.W.Frag} {G : Gx K} {ua : Option Addr} {B H : Hp} {u' : U} {Q Q' : VK} {E E' : XK} {r : R} (a : OutR G ua B H u' Q E r) (q : ∀ v H', Q v H' → Q' v H') (e : ∀ c d H', E c d H' → E' c d H') : OutR G ua B H u' Q' E' r := by
  cases r with
  | ok d => exact fun v H' z => q _ _ (a v H' z)
  | er c ns xs => exact fun cls d H' z => e _ _ _ (a cls d H' z)
def spX {K : PySem.W.Frag} (G : Gx K) (F : List D → U → Option (R × U)) (n : Nat) : Sp := fun vs H Q E => ∃ ua u B ds r u', Reps G ua ds vs B ∧ ds.length = n ∧ Wd ua u B H ∧ F ds u = some (r, u') ∧ OutR G ua B H u' Q E r
def DefOkX (P : Program) (w : World) {K : PySem.W.Frag} (mg : Str → Option Value) (base : Heap) (G : Gx K) (x : Str) (k n : Nat) (F : List D → U → Option (R × U)) : Prop :=
  ∃ f fd ps, FnOk P w K mg base (L2.CX P w) k f fd ps (spX G F n) ∧ mg x = some (.ref f) ∧ PySem.W.keepIn K (.ref f) = true ∧ Binds K fd ps []
theorem DefOkX.mono {P : Program} {w : World} {K : PySem.W.Frag} {mg : Str → Option Value} {base : Heap} {G : Gx K} {x : Str} {j k n : Nat} {F : List D → U → Option (R × U)} (h : DefOkX P w mg base G x j n F) (l : j ≤ k) : DefOkX P w mg base G x k n F := by
  obtain ⟨f, fd, ps, h1, h2⟩ := h
  exact ⟨f, fd, ps, h1.mono l, h2⟩
/-- where it doesn't raise -/
def okF (F : List D → U → Option (R × U)) : List D → U → Option (D × U) := fun ds u => match F ds u with
  | some (.ok d, u') => some (d, u')
  | _ => none
theorem okF_some {F : List D → U → Option (R × U)} {ds : List D} {u u' : U} {d : D} (h : okF F ds u = some (d, u')) : F ds u = some (.ok d, u') := by
  unfold okF at h
  split at h
  · cases h; assumption
  · cases h
theorem fn_calm {P : Program} {w : World} {K : PySem.W.Frag} {mg : Str → Option Value} {base : Heap} {G : Gx K} {k n : Nat} {f : Addr} {fd : FuncData} {ps : List Str} {F : List D → U → Option (R × U)} (h : FnOk P w K mg base (L2.CX P w) k f fd ps (spX G F n)) :
    FnOk P w K mg base CX0 k f fd ps (spF G (okF F) n) := by
  have key : ∀ {vs H Q E}, spF G (okF F) n vs H Q E → spX G F n vs H Q (fun _ _ _ => False) := fun ⟨ua, u, B, ds, d, u', r, l, w, e, q⟩ => ⟨ua, u, B, ds, .ok d, u', r, l, w, okF_some e, q⟩
  refine ⟨fun vs H Q E z => h.len _ _ _ _ (key z), fun A outer s H args us vs Q E hr he hb hv z => codeAny_mono (h.run A outer s H args us vs Q _ hr he hb hv (key z)) fun r s' c => ?_⟩
  cases r with
  | ok fl => cases fl <;> exact c
  | error e =>
    obtain ⟨_, _, _, _, _, _, _, _, _, _, _, _, z⟩ := c
    exact z.elim
theorem DefOkX.calm {P : Program} {w : World} {K : PySem.W.Frag} {mg : Str → Option Value} {base : Heap} {G : Gx K} {x : Str} {k n : Nat} {F : List D → U → Option (R × U)} (h : DefOkX P w mg base G x k n F) : DefOk P w mg base G x k n (okF F) := by
  obtain ⟨f, fd, ps, h1, h2⟩ := h
  exact ⟨f, fd, ps, fn_calm h1, h2⟩
section
variable {X : Cx} {G : Gx X.K} {W : WX} {e a b : Expr} {es : List Expr} {m ma mb : M} {ms : Ms} {mx : MX} {pos p pc : Pos}
def SpcOkX (P : Program) (w : World) {K : PySem.W.Frag} (mg : Str → Option Value) (base : Heap) (G : Gx K) (c name : Str) (k n : Nat) (F : List D → U → Option (R × U)) : Prop :=
  ∃ C f fd ps, G.cls c = some C ∧ PySem.W.findIn K (.ref C) name = some (some (.ref f)) ∧ PySem.W.isFn K (.ref f) = true ∧ PySem.W.fnIn K f = true ∧ FnOk P w K mg base (L2.CX P w) k f fd ps (spX G F n) ∧ Binds K fd ps []
theorem SpcOkX.mono {P : Program} {w : World} {K : PySem.W.Frag} {mg : Str → Option Value} {base : Heap} {G : Gx K} {c name : Str} {j k n : Nat} {F : List D → U → Option (R × U)} (h : SpcOkX P w mg base G c name j n F) (l : j ≤ k) : SpcOkX P w mg base G c name k n F := by
  obtain ⟨C, f, fd, ps, h1, h2, h3, h4, h5, h6⟩ := h
  exact ⟨C, f, fd, ps, h1, h2, h3, h4, h5.mono l, h6⟩
theorem SpcOkX.calm {P : Program} {w : World} {K : PySem.W.Frag} {mg : Str → Option Value} {base : Heap} {G : Gx K} {c name : Str} {k n : Nat} {F : List D → U → Option (R × U)} (h : SpcOkX P w mg base G c name k n F) : SpcOk P w mg base G c name k n (okF F) := by
  obtain ⟨C, f, fd, ps, h1, h2, h3, h4, h5, h6⟩ := h
  exact ⟨C, f, fd, ps, h1, h2, h3, h4, fn_calm h5, h6⟩
end
def spEr {K : PySem.W.Frag} (G : Gx K) (C : Addr) (f : Str) (F : List D → U → Option (D × U)) : Sp := fun vs H Q _ => ∃ ua u B a v d0 d u', vs = [.ref a, v] ∧ Rep G ua d0 v B ∧ Wd ua u B H ∧ B a = none ∧ ua ≠ some a ∧ H a = some (exo a C none) ∧ F [d0] u = some (d, u') ∧
  ∀ y dx B' H', Grow ua B H B' H' → Wd ua u' B' H' → Rep G ua d y B' → H' dx = none → dx ≠ a → Q .non (upd (upd H' dx (exd dx [(f, y)])) a (exo a C (some dx)))
/-- the error class x keeps F of what it is made with in its field f -/
def ErMk (P : Program) (w : World) {K : PySem.W.Frag} (mg : Str → Option Value) (base : Heap) (G : Gx K) (x f : Str) (k : Nat) (F : List D → U → Option (D × U)) : Prop :=
  ∃ C fI fd ps B newId initId bmB, OxC K C B newId initId bmB ∧ PySem.W.findIn K (.ref C) "__init__" = some (some (.ref fI)) ∧ PySem.W.typeIn K (.ref fI) = some (.type "function") ∧ FnOk P w K mg base CX0 k fI fd ps (spEr G C f F) ∧ Binds K fd ps [] ∧ mg x = some (.ref C) ∧ G.exc x = some C
theorem ErMk.mono {P : Program} {w : World} {K : PySem.W.Frag} {mg : Str → Option Value} {base : Heap} {G : Gx K} {x f : Str} {j k : Nat} {F : List D → U → Option (D × U)} (h : ErMk P w mg base G x f j F) (l : j ≤ k) : ErMk P w mg base G x f k F := by
  obtain ⟨C, fI, fd, ps, B, n1, n2, bm, h1, h2, h3, h4, h5⟩ := h
  exact ⟨C, fI, fd, ps, B, n1, n2, bm, h1, h2, h3, h4.mono l, h5⟩
end Dv
namespace Dv
open PySem PySem.Spec PyProof.Rows L2
end Dv
namespace Dv
open PySem PySem.Spec PyProof.Rows L2
theorem Reps.reverse {K : PySem.W.Frag} {G : Gx K} {ua : Option Addr} {B : Hp} : ∀ {ds : List D} {vs : List V}, Reps G ua ds vs B → Reps G ua ds.reverse vs.reverse B
  | [], vs, h => by rw [h.of_nil]; exact .nil
  | d :: ds, vs, h => by
    obtain ⟨v, r, rfl, q, t⟩ := h.of_cons
    rw [List.reverse_cons, List.reverse_cons]
    exact (Reps.reverse t).append (.cons q .nil)
def MakeK (P : Program) (w : World) {K : PySem.W.Frag} (mg : Str → Option Value) (base : Heap) (G : Gx K) (x : Str) (ks : List Str) (k : Nat) (F : List D → U → Option (D × U)) : Prop :=
  ∃ C f fd ps sp g, Mk K C f ∧ FnOk P w K mg base CX0 k f fd ps sp ∧ mg x = some (.ref C) ∧ KBn K fd ps 1 ks g (fun vs zs => vs ++ zs) ∧
    ∀ (ua : Option Addr) (u u' : U) (B H : Hp) (as : List D) (vs : List V) (d : D), as.length = ks.length → F as u = some (d, u') → Reps G ua as vs B → Wd ua u B H → ∀ (y dx : Addr), H y = none → H dx = none → dx ≠ y →
      ∀ Q : VK, (∀ H', Aft G ua B H u' d (.ref y) H' → Q (.ref y) H') → sp (.ref y :: vs) (upd (upd H dx (.own y)) y (.ins C dx [])) (fun v H2 => v = .non ∧ Q (.ref y) H2) E0
theorem MakeK.mono {P : Program} {w : World} {K : PySem.W.Frag} {mg : Str → Option Value} {base : Heap} {G : Gx K} {x : Str} {ks : List Str} {j k : Nat} {F : List D → U → Option (D × U)} (h : MakeK P w mg base G x ks j F) (l : j ≤ k) : MakeK P w mg base G x ks k F := by
  obtain ⟨C, f, fd, ps, sp, g, h1, h2, h3⟩ := h
  exact ⟨C, f, fd, ps, sp, g, h1, h2.mono l, h3⟩
end Dv
namespace Dv
open PySem PySem.Spec PyProof.Rows L2
end Dv
namespace Dv
open PySem PySem.Spec PyProof.Rows L2
end Dv
namespace PySem.W
open PySem PySem.Calls PyProof.Rows Builtin
end PySem.W
namespace Dv
open PySem PySem.Spec PyProof.Rows L2
section
variable {X : Cx} {G : Gx X.K} {a b e : Expr} {es : List Expr} {ma mb : M} {ms : Ms} {pos apos p1 : Pos}
/-- the class x has F as its static method m -/
def StOk (P : Program) (w : World) {K : PySem.W.Frag} (mg : Str → Option Value) (base : Heap) (G : Gx K) (x m : Str) (k n : Nat) (F : List D → U → Option (D × U)) : Prop :=
  ∃ C p f fd ps, mg x = some (.ref C) ∧ PySem.W.specialIn K (.ref C) "__getattribute__" = some (some (.builtin "type.__getattribute__")) ∧ PySem.W.readsIn K C (.type "type") = true ∧
    PySem.W.findCls K (.ref C) (.type "type") m = some (.get (.builtin "staticmethod.__get__") (.ref p) .none (.ref C)) ∧ (∃ rest, PySem.W.recIn K p "staticmethod" = some (.ref f :: rest)) ∧ FnOk P w K mg base CX0 k f fd ps (spF G F n) ∧ PySem.W.keepIn K (.ref f) = true ∧ Binds K fd ps []
theorem StOk.mono {P : Program} {w : World} {K : PySem.W.Frag} {mg : Str → Option Value} {base : Heap} {G : Gx K} {x m : Str} {j k n : Nat} {F : List D → U → Option (D × U)} (h : StOk P w mg base G x m j n F) (l : j ≤ k) : StOk P w mg base G x m k n F := by
  obtain ⟨C, p, f, fd, ps, h1, h2, h3, h4, h5, h6, h7⟩ := h
  exact ⟨C, p, f, fd, ps, h1, h2, h3, h4, h5, h6.mono l, h7⟩
end
end Dv
namespace Dv
open PySem PySem.Spec PyProof.Rows L2
def perm {α : Type} (π : List Nat) (l : List α) : List α := π.filterMap fun i => l[i]?
def DefKp (P : Program) (w : World) {K : PySem.W.Frag} (mg : Str → Option Value) (base : Heap) (G : Gx K) (x : Str) (ks : List Str) (π : List Nat) (k : Nat) (F : List D → U → Option (D × U)) : Prop :=
  ∃ f fd ps, FnOk P w K mg base CX0 k f fd ps (spF G F π.length) ∧ mg x = some (.ref f) ∧ PySem.W.keepIn K (.ref f) = true ∧ ∀ (s : Shared) (ws : List Value), K.In s.heap → ws.length = ks.length → BindsTo s fd ⟨[], ks.zip ws⟩ (ps.zip (perm π ws))
theorem DefKp.mono {P : Program} {w : World} {K : PySem.W.Frag} {mg : Str → Option Value} {base : Heap} {G : Gx K} {x : Str} {ks : List Str} {π : List Nat} {j k : Nat} {F : List D → U → Option (D × U)} (h : DefKp P w mg base G x ks π j F) (l : j ≤ k) : DefKp P w mg base G x ks π k F := by
  obtain ⟨f, fd, ps, h1, h2⟩ := h
  exact ⟨f, fd, ps, h1.mono l, h2⟩
end Dv
namespace Dv
open PySem PySem.Spec PyProof.Rows L2
section
variable {X : Cx} {G : Gx X.K} {W : WX} {e : Expr} {es : List Expr} {ms : Ms} {pos p : Pos}
/-- tab tells what the defs do that a name may hold -/
def FnX (P : Program) (w : World) {K : PySem.W.Frag} (mg : Str → Option Value) (base : Heap) (G : Gx K) (tab : Str → Option (List D → U → Option (R × U))) (k n : Nat) : Prop :=
  ∀ y F, tab y = some F → ∃ f fd ps, FnOk P w K mg base (L2.CX P w) k f fd ps (spX G F n) ∧ PySem.W.keepIn K (.ref f) = true ∧ Binds K fd ps [] ∧ G.fns y = some f
def bindS (is : List Nat) : D → List Sl → Option (List Sl)
  | .tup ds, env => bindT (.many is) (.tup ds) env
  | .lst ds, env => bindT (.many is) (.tup ds) env
  | _, _ => none
def sTgtS (is : List Nat) (m : M) : MS := fun env u => bnd (m env u) fun d u1 => match bindS is d env with
  | some env' => some (.nx env', u1)
  | none => none
theorem pg_sq {es : List Expr} {k n : Nat} {t : TGs} {tpos : Pos} (hc : X.calm = true) (h : PGs X es t) (hn : (assignEach es X.env).length = n := by rfl) (hst : (assignEach es X.env).findIdx? (·.1) = none := by rfl) : PG X (.Tuple es k tpos) (gSq X.K n t) := by
  refine ⟨fun pins s σ H v u Q I r hw => ?_⟩
  obtain ⟨a, xs, e1, hq | hq, hl, hw⟩ := hw
  · exact (pg_tup hc h hn hst).run pins s σ H v u Q I r ⟨a, xs, e1, hq, hl, hw⟩
  · exact (pg_lst hc h hn hst).run pins s σ H v u Q I r ⟨a, xs, e1, hq, hl, hw⟩
theorem names_ok {ua : Option Addr} {u : U} {B H : Hp} {env : List Sl} {Q : L2.St → Hp → Prop} : ∀ {is : List Nat} {ds : List D} {vs : List V} {σ : List (Option V)}, EnvOk G ua env σ B H → Reps G ua ds vs B → ds.length = is.length →
    (∀ σ' : List (Option V), EnvOk G ua (setE env is ds) σ' B H → (∀ (j : Nat) x, σ'[j]? = some (some x) → j ∉ is → σ[j]? = some (some x)) → Q σ' H) → gNames is vs σ H Q := by
  intro is ds vs σ e rs hl q
  have hlv : vs.length = is.length := by rw [← rs.len]; exact hl
  refine gNames_ok is vs σ H Q hlv (q _ (setE_ok is ds vs env σ e rs) ?_)
  clear q e hl hlv rs
  induction is generalizing σ vs with
  | nil => intro j x hx _; exact hx
  | cons i is ih =>
    intro j x hx hj
    cases vs with
    | nil => exact hx
    | cons v vs =>
      have hj' : j ∉ i :: is := hj
      have := ih (σ := σ.set i (some v)) (vs := vs) j x hx (fun z => hj' (List.mem_cons_of_mem _ z))
      rw [List.getElem?_set_ne (fun z => hj' (by rw [z]; exact List.mem_cons_self))] at this
      exact this
theorem ds_tgtS (is : List Nat) {e : Expr} {me : M} {tg : Expr} (he : PE X e (tEv G me)) (hg : PG X tg (gSq X.K is.length (gNames is))) (hs : swapsWithSole [tg] e pos.line X.env = pure false := by rfl) (hw : swappedStores [tg] e X.env = pure none := by rfl)
    (h1 : (assignEach [tg] X.env).map (·.2) = [assign tg X.env] := by rfl) : PS X (.Assign [tg] e pos) (tSt G W (sTgtS is me)) := (ps_asg he hg hs hw h1).imp fun Dn σ H h => by
  obtain ⟨ua, u, B, env, fl, u', B0, H0, hg, hO, hE, hW, hm, q⟩ := h
  obtain ⟨d, u1, c1, c2⟩ := bnd_some hm
  split at c2
  · rename_i env' hb
    cases c2
    refine ⟨ua, u, B, env, d, _, hE, hW, c1, fun v H1 ⟨B1, g1, w1, r1⟩ => ?_⟩
    have fin : ∀ (ds : List D) (vs : List V), Reps G ua ds vs B1 → bindT (.many is) (.tup ds) env = some env' → gNames is vs σ H1 (fun σ' H' => Dn.nx σ' H') ∧ vs.length = is.length := fun ds vs rs hb' => by
      have hb0 := hb'
      dsimp only [bindT] at hb'
      split at hb'
      · rename_i hl
        cases hb'
        exact ⟨names_ok (u := u) (hE.grow g1) rs hl fun σ' e' hk => q _ B1 H1 (hg.trans g1) (fun j es p z1 z2 => by
          obtain ⟨z3, z4⟩ := bindT_own hb0 j es z1
          exact hO j es p z3 (hk j _ z2 z4)) e' w1, by rw [← rs.len]; exact hl⟩
      · cases hb'
    unfold bindS at hb
    split at hb
    · obtain ⟨a, vs, rfl, h, rs⟩ := r1.tup
      obtain ⟨f1, f2⟩ := fin _ vs rs hb
      exact ⟨a, vs, rfl, .inl (h.mono w1.sub).sq, f2, f1⟩
    · obtain ⟨a, vs, rfl, h, rs⟩ := r1.lst
      obtain ⟨f1, f2⟩ := fin _ vs rs hb
      exact ⟨a, vs, rfl, .inr (.of (w1.sub _ _ h)), f2, f1⟩
    · cases hb
  · cases c2
end
end Dv
namespace Dv
open PySem PySem.Spec PyProof.Rows L2
end Dv
namespace Dv
open PySem PySem.Spec PyProof.Rows L2
theorem FnX.mono {P : Program} {w : World} {K : PySem.W.Frag} {mg : Str → Option Value} {base : Heap} {G : Gx K} {tab : Str → Option (List D → U → Option (R × U))} {j k n : Nat} (h : FnX P w mg base G tab j n) (l : j ≤ k) : FnX P w mg base G tab k n := fun y F e => by
  obtain ⟨f, fd, ps, h1, h2⟩ := h y F e
  exact ⟨f, fd, ps, h1.mono l, h2⟩
end Dv
namespace Dv
open PySem PySem.Spec PyProof.Rows L2
def valD (ks : List Key) (ds : List D) (k : Key) : Option D := ((ks.zip ds).find? fun kd => decide (kd.1 = k)).map (·.2)
theorem Reps.val {K : PySem.W.Frag} {G : Gx K} {ua : Option Addr} {B : Hp} {k : Key} : ∀ {ks : List Key} {ds : List D} {vs : List V}, Reps G ua ds vs B → ks.length = vs.length →
    (valD ks ds k = Option.none ∧ valV (ks.zip vs) k = Option.none) ∨ ∃ d v, valD ks ds k = some d ∧ valV (ks.zip vs) k = some v ∧ Rep G ua d v B
  | [], ds, vs, r, l => .inl ⟨rfl, rfl⟩
  | j :: ks, [], vs, r, l => by rw [r.of_nil] at l; cases l
  | j :: ks, d :: ds, vs, r, l => by
    obtain ⟨v, t, rfl, r1, r2⟩ := r.of_cons
    unfold valD valV
    rw [List.zip_cons_cons, List.zip_cons_cons]
    by_cases e : j = k
    · refine .inr ⟨d, v, ?_, ?_, r1⟩
      · rw [List.find?_cons_of_pos (by exact decide_eq_true e)]; rfl
      · rw [List.find?_cons_of_pos (by exact decide_eq_true e)]; rfl
    · rw [List.find?_cons_of_neg (by simpa using e), List.find?_cons_of_neg (by simpa using e)]
      exact Reps.val r2 (Nat.succ.inj l)
theorem DctB.rd {H : Hp} {a : Addr} {kvs : List (Key × V)} (h : DctB H a kvs) : Rd H a (.dK kvs) := by
  obtain ⟨o, h⟩ := h
  exact .inr ⟨o, h⟩
theorem rep_dct {K : PySem.W.Frag} {G : Gx K} {ua : Option Addr} {B : Hp} {ks : List Key} {ds : List D} {v : V} (r : Rep G ua (.dct ks ds) v B) : ∃ a vs, v = .ref a ∧ DctB B a (ks.zip vs) ∧ ks.length = vs.length ∧ Reps G ua ds vs B := by
  unfold Rep at r; exact r
section
variable {X : Cx} {G : Gx X.K} {o e f i : Expr} {mo me mf : M} {pos cpos apos : Pos}
def dixD : D → D → Option D
  | .dct ks ds, k => (keyOf k).bind fun key => valD ks ds key
  | _, _ => none
theorem dv_dix (hu : X.A.units + 1 < cLine) (ho : PE X o (tEv G mo)) (he : PE X i (tEv G me)) (hs : NoSl i := by exact fun _ _ => rfl) : PE X (.Subscript o i pos) (tEv G (mBin dixD mo me)) := by
  refine (pe_dget hu ho he hs).imp fun σ H Q h => ?_
  obtain ⟨ua, u, B, env, d, u', hE, hW, hm, q⟩ := h
  obtain ⟨x, u1, c1, c2⟩ := bnd_some hm
  obtain ⟨k, u2, c3, c4⟩ := bnd_some c2
  obtain ⟨l4, rfl⟩ := lft_some c4
  refine ⟨ua, u, B, env, x, u1, hE, hW, c1, fun v H1 ⟨B1, g1, w1, r1⟩ => ⟨ua, u1, B1, env, k, _, hE.grow g1, w1, c3, fun v2 H2 ⟨B2, g2, w2, r2⟩ => ?_⟩⟩
  cases x with
  | dct ks ds =>
    obtain ⟨a, vs, rfl, hd, hl, rs⟩ := rep_dct r1
    have l4 : ((keyOf k).bind fun key => valD ks ds key) = some d := l4
    cases hk : keyOf k with
    | none => rw [hk] at l4; cases l4
    | some key =>
      rw [hk] at l4
      have l4 : valD ks ds key = some d := l4
      rcases rs.val (k := key) hl with ⟨e1, e2⟩ | ⟨dv, vv, e1, e2, rr⟩
      · rw [e1] at l4; cases l4
      · rw [e1] at l4; cases l4
        exact ⟨a, vv, rfl, .inl ⟨_, key, ((hd.mono g2.pub).mono w2.sub).rd, keyOf_rep hk r2, e2.symm⟩, q _ _ (.up g1 ⟨B2, g2, w2, rr.mono _ _ g2.pub⟩)⟩
  | _ => cases l4
end
end Dv
namespace Dv
open PySem PySem.Spec PyProof.Rows L2
section
variable {X : Cx} {G : Gx X.K} {ua : Option Addr} {B H : Hp} {ds : List D} {vs : List V} {ks : List Key}
def itemsK (ks : List Key) (ds : List D) : List D := (ks.zip ds).map fun kd => .pr [keyD kd.1, kd.2]
theorem keyD_kV {K : PySem.W.Frag} {G : Gx K} {ua : Option Addr} {B : Hp} (k : Key) : Rep G ua (keyD k) (kV k) B := by
  cases k with
  | inl i => exact rep_int
  | inr x => exact rep_str
theorem zip_get {α β γ : Type} {ks : List α} {ds : List β} {vs : List γ} (hl : ks.length = vs.length) (hd : ds.length = vs.length) {i : Nat} {k : α} {d : β} (h : (ks.zip ds)[i]? = some (k, d)) : ks[i]? = some k ∧ ds[i]? = some d := by
  rw [List.getElem?_zip_eq_some] at h
  exact h
theorem wk_ditems {a : Addr} {o : Obj} (h : B a = some (.frz o (.dK (ks.zip vs)))) (hl : ks.length = vs.length) (r : Reps G ua ds vs B) : Wk G ua (Iti a o (ks.zip vs)) B (itemsK ks ds) := fun i B' H' u s w => by
  have hq : H' a = some (.frz o (.dK (ks.zip vs))) := w.sub _ _ (s _ _ h)
  have hlen : (itemsK ks ds).length = (ks.zip vs).length := by
    unfold itemsK
    rw [List.length_map, List.length_zip, List.length_zip, r.len]
  refine ⟨fun d hd => ?_, fun hn => ⟨hq, by rw [← hlen]; exact List.getElem?_eq_none_iff.mp hn⟩⟩
  unfold itemsK at hd
  rw [List.getElem?_map] at hd
  obtain ⟨⟨k, e⟩, hke, rfl⟩ := map_some hd
  obtain ⟨hk, he⟩ := zip_get hl (r.len ▸ rfl) hke
  obtain ⟨v, hv, rv⟩ := r.get he
  have hz : (ks.zip vs)[i]? = some (k, v) := List.getElem?_zip_eq_some.mpr ⟨hk, hv⟩
  refine ⟨⟨hq, (List.getElem?_eq_some_iff.mp hz).1⟩, fun x H2 y => ?_⟩
  obtain ⟨T, k', v', h1, rfl, hT, rfl⟩ := y
  rw [hz] at h1; cases h1
  exact .pr w hT (.cons (keyD_kV k) (.cons (rv.mono _ _ s) .nil))
theorem wk_dkeys {a : Addr} {o : Obj} (h : B a = some (.frz o (.dK (ks.zip vs)))) (hl : ks.length = vs.length) : Wk G ua (Itk a o (ks.zip vs)) B (ks.map keyD) := fun i B' H' u s w => by
  have hq : H' a = some (.frz o (.dK (ks.zip vs))) := w.sub _ _ (s _ _ h)
  have hlen : (ks.zip vs).length = ks.length := by rw [List.length_zip, hl, Nat.min_self]
  refine ⟨fun d hd => ?_, fun hn => ⟨hq, by rw [hlen, ← List.length_map (f := keyD)]; exact List.getElem?_eq_none_iff.mp hn⟩⟩
  rw [List.getElem?_map] at hd
  obtain ⟨k, hk, rfl⟩ := map_some hd
  have hi : i < ks.length := (List.getElem?_eq_some_iff.mp hk).1
  refine ⟨⟨hq, by rw [hlen]; exact hi⟩, fun x H2 y => ?_⟩
  obtain ⟨rfl, k', v', h1, rfl⟩ := y
  have : k' = k := by
    have := (List.getElem?_zip_eq_some.mp h1).1
    rw [hk] at this; cases this; rfl
  subst this
  exact .here w (keyD_kV _)
def mDItems (m : M) : MI := fun env u => bnd (m env u) fun d u1 => match d with
  | .dct ks ds => some (itemsK ks ds, u1)
  | _ => none
theorem di_ditems {e : Expr} {m : M} {apos cpos tpos : Pos} {elts : List Expr} {kk : Nat} (he : PE X e (tEv G m)) (hbase : attributeBase e "items" X.env (eval e X.env) = eval e X.env := by rfl) (hline : (apos.endLine == cpos.line) = true := by rfl) :
    PI X (.Tuple elts kk tpos) (.Call (.Attribute e "items" apos) [] [] cpos) (tIt G (mDItems m)) := (pi_items he hbase hline).imp fun σ H R h => by
  obtain ⟨ua, u, B, env, ds, u', hE, hW, hm, q⟩ := h
  obtain ⟨d, u1, h1, h2⟩ := bnd_some hm
  split at h2
  · cases h2
    refine ⟨ua, u, B, env, _, u', hE, hW, h1, fun v H1 ⟨B1, g1, w1, r1⟩ => ?_⟩
    obtain ⟨a, vs, rfl, ⟨o, h⟩, hl, rs⟩ := rep_dct r1
    exact ⟨a, o, _, rfl, w1.sub _ _ h, q _ _ _ g1 w1 (wk_ditems h hl rs)⟩
  · cases h2
/-- going through a list, a tuple, a text, or a dict's keys -/
def mItemsK (m : M) : MI := fun env u => bnd (m env u) fun d u1 => match d with
  | .dct ks _ => some (ks.map keyD, u1)
  | d => lft (itemsD d) u1
theorem di_itemsK {tg e : Expr} {m : M} (he : PE X e (tEv G m)) : PI X tg e (tIt G (mItemsK m)) := by
  refine PI.by fun σ H R h => ?_
  obtain ⟨ua, u, B, env, ds, u', hE, hW, hm, q⟩ := h
  obtain ⟨d, u1, h1, h2⟩ := bnd_some hm
  have other : (∀ ks es, d ≠ .dct ks es) → ∃ t, PI X tg e t ∧ t σ H R := fun hn => by
    have h2 : lft (itemsD d) u1 = some (ds, u') := by
      cases d with
      | dct ks es => exact absurd rfl (hn ks es)
      | _ => exact h2
    exact ⟨_, di_items he, ua, u, B, env, ds, u', hE, hW, by unfold mItems; rw [h1]; exact h2, q⟩
  cases d with
  | dct ks es =>
    cases h2
    refine ⟨_, pi_keys he, ua, u, B, env, _, u', hE, hW, h1, fun v H1 ⟨B1, g1, w1, r1⟩ => ?_⟩
    obtain ⟨a, vs, rfl, ⟨o, h⟩, hl, rs⟩ := rep_dct r1
    exact ⟨a, o, rfl, .inl ⟨_, w1.sub _ _ h, q _ _ _ g1 w1 (wk_dkeys h hl)⟩⟩
  | _ => exact other fun _ _ z => by cases z
end
end Dv
namespace Dv
open PySem L2
theorem hU1 {A : Around} {k : Nat} (hr : Room k A) : A.units + 1 < cLine := by have := hU64 hr; omega
end Dv
namespace Dv
end Dv
namespace Dv
open PySem PySem.Spec PyProof.Rows L2
def turnD (t : Tgt) (own : List Nat) (env : List Sl) (mc : MB) (mk mv : M) : D → U → Option (Option (Key × D) × U) := fun d u => match bindT t d (wipeE env own) with
  | none => none
  | some env' => bnd (mc env' u) fun b u1 => if b = true then bnd (mk env' u1) fun k u2 => bnd (mv env' u2) fun v u3 => match keyOf k with
      | some key => some (some (key, v), u3)
      | none => none
    else some (none, u1)
def foldD (f : D → U → Option (Option (Key × D) × U)) : List D → List Key → List D → U → Option ((List Key × List D) × U)
  | [], ks, vs, u => some ((ks, vs), u)
  | d :: ds, ks, vs, u => bnd (f d u) fun o u1 => match o with
    | some kv => if ks.length < sizeLine then foldD f ds (putD ks vs kv.1 kv.2).1 (putD ks vs kv.1 kv.2).2 u1 else none
    | none => foldD f ds ks vs u1
def vDC (t : Tgt) (own : List Nat) (mi : MI) (mc : MB) (mk mv : M) : MSl := fun env u => bnd (mi env u) fun ds u1 => bnd (foldD (turnD t own env mc mk mv) ds [] [] u1) fun r u2 => some (.own (.dct r.1 r.2), u2)
section
variable {X : Cx} {G : Gx X.K} {mi : MI} {mc : MB} {mk mv : M}
theorem dc_read {t : Tgt} {own : List Nat} {σ : L2.St} {H : Hp} {Q : VK} (ht : ∀ i ∈ t.ids, i ∈ own) (h : tSv G (vDC t own mi mc mk mv) σ H Q) : tDc (tIt G mi) (gOf X.K t) (tTst G mc) (tEv G mk) (tEv G mv) own σ H Q := by
  obtain ⟨ua, u, B, env, s, u', hE, hW, hm, q⟩ := h
  obtain ⟨ds, u1, h1, h2⟩ := bnd_some hm
  obtain ⟨r, u2, h3, h4⟩ := bnd_some h2
  cases h4
  refine ⟨ua, u, B, env, ds, u1, hE, hW, h1, fun J B1 H1 g1 w1 wk Dp hD => ?_⟩
  have hE1 := hE.grow g1
  refine ⟨fun i m H' => m = ds.length - i ∧ i ≤ ds.length ∧ ∃ B' uu ks es vs, Grow ua B1 H1 B' H' ∧ Wd ua uu B' H' ∧ H' Dp = some (.dK (ks.zip vs)) ∧ B' Dp = none ∧ ks.Nodup ∧ ks.length = vs.length ∧ Reps G ua es vs B' ∧ foldD (turnD t own env mc mk mv) (ds.drop i) ks es uu = some (r, u'),
    ⟨ds.length, by omega, by omega, B1, u1, [], [], [], .own1 w1 hD, w1.own1 hD, upd_same, w1.none_of hD, List.nodup_nil, rfl, .nil, h3⟩, ?_⟩
  rintro i m H' ⟨rfl, hi, B', uu, ks, es, vs, g2, w2, hv, hb, hn, hl, rs, hc⟩
  have sB : Same B1 B' := g2.pub
  have nu : ua ≠ some Dp := w1.ne_urn hD
  have hk := wk i B' H' uu sB w2
  by_cases hlt : i < ds.length
  · have hd : ds[i]? = some ds[i] := List.getElem?_eq_getElem hlt
    obtain ⟨hgo, hy⟩ := hk.1 _ hd
    rw [List.drop_eq_getElem_cons hlt] at hc
    obtain ⟨o, u3, c1, c2⟩ := bnd_some (show bnd (turnD t own env mc mk mv ds[i] uu) _ = _ from hc)
    refine .inr ⟨hgo, fun H2 => ∃ B' uu ks es vs, Grow ua B1 H1 B' H2 ∧ Wd ua uu B' H2 ∧ H2 Dp = some (.dK (ks.zip vs)) ∧ B' Dp = none ∧ ks.Nodup ∧ ks.length = vs.length ∧ Reps G ua es vs B' ∧ foldD (turnD t own env mc mk mv) (ds.drop (i + 1)) ks es uu = some (r, u'),
      fun H2 h2 => ⟨ds.length - (i + 1), by omega, rfl, hlt, h2⟩, fun x H2 y => ?_⟩
    obtain ⟨B2, g3, w3, r3⟩ := hy x H2 y
    have hv2 : H2 Dp = some (.dK (ks.zip vs)) := g3.keep _ _ hv nu
    have hb2 : B2 Dp = none := g3.none_of hv hb
    have rs2 := rs.mono _ _ g3.pub
    have hE2 : EnvOk G ua (wipeE env own) (wipe σ own) B2 H2 := ((hE1.wipe own).grow g2).grow g3
    unfold turnD at c1
    split at c1
    · cases c1
    · rename_i env' hbt
      refine bindT_ok hE2 w3 r3 hbt fun σ' hE3 hwp hback => ⟨by rw [hwp own ht, wipe_wipe], ?_⟩
      obtain ⟨b, u5, c5, c6⟩ := bnd_some c1
      refine ⟨ua, uu, B2, env', b, u5, hE3, w3, c5, fun H3 ⟨B3, g4, w4⟩ => ?_⟩
      have hv3 : H3 Dp = some (.dK (ks.zip vs)) := g4.keep _ _ hv2 nu
      have hb3 : B3 Dp = none := g4.none_of hv2 hb2
      have rs3 := rs2.mono _ _ g4.pub
      have gg := g2.trans (g3.trans g4)
      cases b with
      | true =>
        rw [if_pos rfl] at c6
        refine iteT ?_
        obtain ⟨k0, u6, c7, c8⟩ := bnd_some c6
        obtain ⟨v0, u7, c9, c10⟩ := bnd_some c8
        cases hky : keyOf k0 with
        | none => rw [hky] at c10; cases c10
        | some key =>
          rw [hky] at c10
          have c10 : some (some (key, v0), u7) = some (o, u3) := c10
          cases c10
          have c2 : (if ks.length < sizeLine then foldD (turnD t own env mc mk mv) (ds.drop (i + 1)) (putD ks es key v0).1 (putD ks es key v0).2 u3 else none) = some (r, u') := c2
          split at c2
          · rename_i hz
            refine ⟨ua, u5, B3, env', k0, u6, hE3.grow g4, w4, c7, fun yv H4 ⟨B4, g5, w5, r5⟩ => ⟨ua, u6, B4, env', v0, u3, (hE3.grow g4).grow g5, w5, c9, fun zv H5 ⟨B5, g6, w6, r6⟩ => ?_⟩⟩
            have hv4 : H4 Dp = some (.dK (ks.zip vs)) := g5.keep _ _ hv3 nu
            have hb4 : B4 Dp = none := g5.none_of hv3 hb3
            have hv5 : H5 Dp = some (.dK (ks.zip vs)) := g6.keep _ _ hv4 nu
            have hb5 : B5 Dp = none := g6.none_of hv4 hb4
            have rs5 := (rs3.mono _ _ g5.pub).mono _ _ g6.pub
            obtain ⟨ws, q1, q2, q3, _, q5⟩ := putD_rep (j := key) r6 hn hl rs5
            refine ⟨_, key, keyOf_rep hky r5, hv5, by rw [List.length_zip, ← hl, Nat.min_self]; exact hz, B5, u3, (putD ks es key v0).1, (putD ks es key v0).2, ws, ((gg.trans g5).trans g6).put hD, w6.put hb5 nu, ?_, hb5, q5, q2, q3, c2⟩
            rw [upd_same, q1]
          · cases c2
      | false =>
        rw [if_neg Bool.false_ne_true] at c6
        refine iteF ?_
        cases c6
        exact ⟨B3, _, ks, es, vs, gg, w4, hv3, hb3, hn, hl, rs3, c2⟩
  · have e : i = ds.length := by omega
    subst e
    rw [List.drop_length] at hc
    cases hc
    refine .inl ⟨hk.2 (List.getElem?_eq_none (Nat.le_refl _)), q _ _ ⟨B', g1.trans g2, w2, Dp, _, rfl, g1.live _ hD, hv, hb, nu, vs, rfl, hl, rs, hn⟩⟩
variable {kx vx tg iter : Expr} {ifs : List Expr} {scope : Scope} {own : List (Str × Nat)} {pos : Pos}
theorem dv_dc (t : Tgt) (ids : List Nat) (hc : X.calm = true) (hN : X.N.Nodup) (hi : PI X tg iter (tIt G mi)) (ok : BlkOk X.N X.env.scope scope own) (hid : own.map (·.2) = ids) (ht : ∀ i ∈ t.ids, i ∈ ids)
    (hg : ∀ (s : Shared) (H : Hp) (C : Addr) (cl : List (Str × Addr)) (fp : List Addr), PG (X.blk s H scope (compEnvC scope cl C X.env) fp) tg (gOf X.K t)) (hq : ∀ (s : Shared) (H : Hp) (C : Addr) (cl : List (Str × Addr)) (fp : List Addr), PTs (X.blk s H scope (compEnvC scope cl C X.env) fp) ifs (tTst (K := X.K) G mc))
    (hk : ∀ (s : Shared) (H : Hp) (C : Addr) (cl : List (Str × Addr)) (fp : List Addr), PE (X.blk s H scope (compEnvC scope cl C X.env) fp) kx (tEv (K := X.K) G mk))
    (he : ∀ (s : Shared) (H : Hp) (C : Addr) (cl : List (Str × Addr)) (fp : List Addr), PE (X.blk s H scope (compEnvC scope cl C X.env) fp) vx (tEv (K := X.K) G mv)) (hs : ∀ x, foldedSetIterable iter X.env x = pure x := by intro _; rfl) :
    PE X (.DictComp kx vx [⟨tg, iter, ifs, 0⟩] scope pos) (tSv G (vDC t ids mi mc mk mv)) := by
  subst hid
  exact (pe_dc hc hN hi ok hg hq hk he hs).imp fun _ _ _ h => dc_read ht h
end
def scalO : Oo → Bool
  | .lst ds => ds.all scalD
  | .dct _ ds => ds.all scalD
  | .dtt _ _ => false
  | .dtn _ _ => false
theorem reps_scal {K : PySem.W.Frag} {G : Gx K} {ua : Option Addr} {B B1 : Hp} : ∀ {ds : List D} {vs : List V}, ds.all scalD = true → Reps G ua ds vs B → Reps G ua ds vs B1
  | [], vs, _, r => by rw [r.of_nil]; exact .nil
  | d :: ds, vs, h, r => by
    obtain ⟨v, t, rfl, r1, r2⟩ := r.of_cons
    rw [List.all_cons, Bool.and_eq_true] at h
    exact .cons (r1.scal h.1) (reps_scal h.2 r2)
theorem RepO.scal {K : PySem.W.Frag} {G : Gx K} {ua : Option Addr} {B B1 : Hp} {o : Oo} {ho : HO} (h : scalO o = true) (r : RepO G ua o ho B) : RepO G ua o ho B1 := by
  cases o with
  | lst ds =>
    obtain ⟨vs, rfl, rs⟩ := r
    exact ⟨vs, rfl, reps_scal h rs⟩
  | dct ks ds =>
    obtain ⟨vs, rfl, hl, rs, hn⟩ := r
    exact ⟨vs, rfl, hl, reps_scal h rs, hn⟩
  | dtt ks ds => cases h
  | dtn ks ds => cases h
end Dv
namespace Dv
open PySem PySem.Spec PyProof.Rows L2
def pyD (d : D) : PyData := (toPy d).getD .none
def leG (a b : D) : Bool := W.dataLe false pyD a b
theorem leG_total : W.TotalLe leG := by
  have := W.sortLe_total (PyProof.Rows.listOrd PyProof.Rows.itemOrd) false (fun d : D => W.keyToks (pyD d))
  exact ⟨fun a b c h g => this.trans a b c h g, fun a b => this.total a b⟩
def insG (x : D) : List D → List D
  | [] => [x]
  | y :: r => if leG x y = true then x :: y :: r else y :: insG x r
def sortG : List D → List D
  | [] => []
  | x :: r => insG x (sortG r)
theorem insG_perm (x : D) : ∀ l, (insG x l).Perm (x :: l)
  | [] => .refl _
  | y :: r => by
    unfold insG
    split
    · exact .refl _
    · exact ((insG_perm x r).cons y).trans (.swap x y r)
abbrev LeG (a b : D) : Prop := leG a b = true
theorem insG_sorted (x : D) : ∀ l : List D, l.Pairwise LeG → (insG x l).Pairwise LeG
  | [], _ => List.pairwise_singleton _ _
  | y :: r, h => by
    have h1 := List.pairwise_cons.mp h
    unfold insG
    split
    · rename_i hl
      refine List.pairwise_cons.mpr ⟨fun z hz => ?_, h⟩
      rcases List.mem_cons.mp hz with rfl | hz
      · exact hl
      · exact leG_total.trans _ _ _ hl (h1.1 z hz)
    · rename_i hl
      refine List.pairwise_cons.mpr ⟨fun z hz => ?_, insG_sorted x r h1.2⟩
      rcases List.mem_cons.mp ((insG_perm x r).subset hz) with rfl | hz
      · exact (leG_total.total _ _).resolve_left hl
      · exact h1.1 z hz
theorem sortG_sorted : ∀ l : List D, (sortG l).Pairwise LeG
  | [] => .nil
  | x :: r => insG_sorted x _ (sortG_sorted r)
theorem insG_rank (x c : D) : ∀ l : List D, (insG x l).filter (W.sameRank leG c) = (x :: l).filter (W.sameRank leG c)
  | [] => rfl
  | y :: r => by
    unfold insG
    split
    · rfl
    · rename_i hl
      rw [List.filter_cons, insG_rank x c r, List.filter_cons, List.filter_cons, List.filter_cons]
      by_cases hx : W.sameRank leG c x = true
      · have hy : ¬ W.sameRank leG c y = true := fun hy => hl (by
          unfold W.sameRank at hx hy
          rw [Bool.and_eq_true] at hx hy
          exact leG_total.trans _ _ _ hx.2 hy.1)
        rw [if_neg hy, if_pos hx, if_pos hx, if_neg hy]
      · rw [if_neg hx, if_neg hx]
theorem sortG_rank (c : D) : ∀ l : List D, (sortG l).filter (W.sameRank leG c) = l.filter (W.sameRank leG c)
  | [] => rfl
  | x :: r => by
    show (insG x (sortG r)).filter _ = _
    rw [insG_rank, List.filter_cons, List.filter_cons, sortG_rank c r]
theorem sortG_eq (l : List D) : sortG l = l.mergeSort leG := W.sort_unique leG_total (sortG_sorted l) fun c => sortG_rank c l
def alikeB (ps : List PyData) : Bool := ps.all fun p => ps.all fun q => W.alike p q
def tupB : PyData → Bool
  | .tuple (_ :: _) => true
  | _ => false
def flatP : PyData → Bool
  | .none => false
  | .tuple _ => false
  | _ => true
def sortableB (ps : List PyData) : Bool := ps.all tupB || ps.all flatP
def okG (ps : List PyData) : Bool := alikeB ps && sortableB ps && ps.all fun p => decide (p.depth ≤ 60)
theorem okG_al {ps : List PyData} (h : okG ps = true) : W.AllAlike ps := fun d hd d' hd' => by
  unfold okG alikeB at h
  rw [Bool.and_eq_true, Bool.and_eq_true] at h
  exact List.all_eq_true.mp (List.all_eq_true.mp h.1.1 d hd) d' hd'
theorem okG_so {ps : List PyData} (h : okG ps = true) : W.Sortable ps := by
  unfold okG sortableB at h
  rw [Bool.and_eq_true, Bool.and_eq_true, Bool.or_eq_true] at h
  rcases h.1.2 with h | h
  · refine .inl fun d hd => ?_
    have := List.all_eq_true.mp h d hd
    unfold tupB at this
    split at this
    · exact ⟨_, _, rfl⟩
    · cases this
  · refine .inr fun d hd => ?_
    have := List.all_eq_true.mp h d hd
    unfold flatP at this
    split at this
    · cases this
    · cases this
    · rename_i h1 h2
      exact ⟨h1, h2⟩
theorem okG_dep {ps : List PyData} (h : okG ps = true) : ∀ p ∈ ps, p.depth ≤ 60 := fun p hp => by
  unfold okG at h
  rw [Bool.and_eq_true] at h
  exact of_decide_eq_true (List.all_eq_true.mp h.2 p hp)
theorem toPys_pyD : ∀ {ds : List D} {ps : List PyData}, toPys ds = some ps → ps = ds.map pyD ∧ ∀ d ∈ ds, toPy d = some (pyD d)
  | [], ps, h => by unfold toPys at h; cases h; exact ⟨rfl, fun d hd => by cases hd⟩
  | d :: ds, ps, h => by
    unfold toPys at h
    cases q : toPy d with
    | none => rw [q] at h; cases h
    | some p =>
      rw [q] at h
      cases q2 : toPys ds with
      | none => rw [q2] at h; cases h
      | some r =>
        rw [q2] at h
        have h : some (p :: r) = some ps := h
        cases h
        obtain ⟨h1, h2⟩ := toPys_pyD q2
        have e : pyD d = p := by unfold pyD; rw [q]; rfl
        refine ⟨by rw [List.map_cons, e, h1], fun x hx => ?_⟩
        rcases List.mem_cons.mp hx with rfl | hx
        · rw [e]; exact q
        · exact h2 x hx
def rSortedG (X : Cx) : List V → Hp → VK → Prop := fun vs H Q => ∃ (a : Addr) (zs : List (V × D)), vs = [.ref a] ∧ SqL X.K H a (zs.map (·.1)) ∧ (∀ z ∈ zs, Dp X.K H z.1 (pyD z.2)) ∧ okG (zs.map fun z => pyD z.2) = true ∧
  ∀ (p : Addr), H p = none → Q (.ref p) (upd H p (.lst ((zs.mergeSort fun x y => leG x.2 y.2).map (·.1))))
theorem vals_eachD {R : Value → V × D → Prop} (hR : ∀ u z, R u z → RelV z.1 u) : ∀ {us : List Value} {zs : List (V × D)}, W.EachIs R us zs → Vals (zs.map (·.1)) us
  | _, _, .nil => .nil
  | _, _, .cons h t => .cons (hR _ _ h) (vals_eachD hR t)
theorem each_valsD : ∀ {zs : List (V × D)} {us : List Value}, Vals (zs.map (·.1)) us → W.EachIs (fun u (z : V × D) => RelV z.1 u) us zs
  | [], us, h => by cases us with
    | nil => exact .nil
    | cons u us => cases h
  | z :: zs, us, h => by cases us with
    | nil => cases h
    | cons u us => cases h with
      | cons h1 h2 => exact .cons h1 (each_valsD h2)
theorem each_readsD {R S : Value → V × D → Prop} : ∀ {us : List Value} {zs : List (V × D)}, W.EachIs R us zs → (∀ u z, z ∈ zs → R u z → S u z) → W.EachIs S us zs
  | _, _, .nil, _ => .nil
  | _, _, .cons h t, f => .cons (f _ _ List.mem_cons_self h) (each_readsD t fun u z hz => f u z (List.mem_cons_of_mem _ hz))
theorem cr_sortedG {X : Cx} (hu : X.A.units + 64 < cLine) : CallR X (.builtin "sorted") (rSortedG X) := by
  intro pins s σ H vs us Q I r h
  obtain ⟨a, zs, rfl, hs, hd, hok, q⟩ := h
  obtain ⟨its, rv, hl, hz⟩ := I.list hs
  obtain ⟨u, rfl, ru⟩ := vals1 r
  obtain rfl : u = Value.ref a := ru
  have e0 := each_valsD rv
  have er : W.EachIs (fun u (z : V × D) => ∃ as, Reads s.heap u (pyD z.2) as) its zs := each_readsD e0 fun u z hz' ru => Dp.reads I _ _ _ (hd z hz') ru
  have hlen : its.length = zs.length := by rw [← rv.length, List.length_map]
  refine W.sorted_data (enc := fun z : V × D => pyD z.2) (R := fun u z => RelV z.1 u) hl.isList e0 er (okG_al hok) (okG_so hok) (by rw [← hlen, ← rv.length]; exact hz) (fun b hb => by
    have := okG_dep hok (pyD b.2) (List.mem_map.mpr ⟨b, hb, rfl⟩)
    omega) fun out ho eo => ?_
  obtain ⟨ys, hys⟩ : ∃ ys, ys = zs.mergeSort (W.dataLe false fun z : V × D => pyD z.2) := ⟨_, rfl⟩
  have hperm : ys.Perm zs := by rw [hys]; exact List.mergeSort_perm _ _
  rw [← hys] at eo
  obtain ⟨c, hc⟩ := PyProof.Rows.sortedAll_at s.heap its out.toArray
  refine ⟨.ref (s.heap.objs.size + 1), upd H (s.heap.objs.size + 1) (.lst (ys.map (·.1))), I.laid (t' := s.toks) (fun b o e => PyProof.Rows.sortedAll_old e) (Nat.le_succ _) ⟨?_, out, c, vals_eachD (fun _ _ h => h) eo, hc⟩, rfl, ?_⟩
  · rw [List.length_map, hperm.length_eq, ← hlen, ← rv.length]; exact hz
  · have := q (s.heap.objs.size + 1) (I.hok.fresh (Nat.le_succ _))
    rw [hys]
    exact this
def sortP (ds : List D) : Option D := (toPys ds).bind fun ps => if okG ps = true then some (.lst (sortG ds)) else none
def bSortB : List D → Option D
  | [.lst ds] => match bSortA [.lst ds] with
    | some d => some d
    | none => sortP ds
  | _ => none
theorem rep_all {K : PySem.W.Frag} {G : Gx K} {ua : Option Addr} {B H : Hp} (sub : Same B H) : ∀ {ds : List D} {vs : List V}, (∀ d ∈ ds, toPy d = some (pyD d)) → Reps G ua ds vs B → ∃ zs : List (V × D), zs.map (·.1) = vs ∧ zs.map (·.2) = ds ∧ ∀ z ∈ zs, Rep G ua z.2 z.1 B ∧ Dp K H z.1 (pyD z.2)
  | [], vs, _, r => ⟨[], by rw [r.of_nil]; rfl, rfl, fun z hz => by cases hz⟩
  | d :: ds, vs, h, r => by
    obtain ⟨v, t, rfl, r1, r2⟩ := r.of_cons
    obtain ⟨zs, h1, h2, h3⟩ := rep_all sub (fun x hx => h x (List.mem_cons_of_mem _ hx)) r2
    refine ⟨(v, d) :: zs, by rw [List.map_cons, h1], by rw [List.map_cons, h2], fun z hz => ?_⟩
    rcases List.mem_cons.mp hz with rfl | hz
    · exact ⟨r1, rep_dp sub _ _ _ (h d List.mem_cons_self) r1⟩
    · exact h3 z hz
theorem reps_ofD {K : PySem.W.Frag} {G : Gx K} {ua : Option Addr} {B : Hp} : ∀ {zs : List (V × D)}, (∀ z ∈ zs, Rep G ua z.2 z.1 B) → Reps G ua (zs.map (·.2)) (zs.map (·.1)) B
  | [], _ => .nil
  | z :: zs, h => .cons (h z List.mem_cons_self) (reps_ofD fun y hy => h y (List.mem_cons_of_mem _ hy))
theorem ok_sortB {X : Cx} {G : Gx X.K} (hu : X.A.units + 64 < cLine) : BiOk G (.builtin "sorted") bSortB := by
  intro ua u B H ds d vs e rs w
  unfold bSortB at e
  split at e
  · rename_i ds
    split at e
    · rename_i d' hd
      cases e
      exact ok_sortA hu ua u B H _ _ vs hd rs w
    · unfold sortP at e
      cases q : toPys ds with
      | none => rw [q] at e; cases e
      | some ps =>
        rw [q] at e
        have e : (if okG ps = true then some (D.lst (sortG ds)) else none) = some d := e
        split at e
        · rename_i hok
          cases e
          obtain ⟨hp, hpy⟩ := toPys_pyD q
          obtain ⟨v, t, rfl, r1, r2⟩ := rs.of_cons
          rw [r2.of_nil]
          obtain ⟨a, ys, rfl, h, r3⟩ := r1.lst
          obtain ⟨zs, h1, h2, h3⟩ := rep_all w.sub hpy r3
          refine ⟨_, cr_sortedG hu, a, zs, rfl, by rw [h1]; exact .of (w.sub _ _ h), fun z hz => (h3 z hz).2, ?_, fun p hn => ?_⟩
          · rw [show (zs.map fun z => pyD z.2) = (zs.map (·.2)).map pyD from by rw [List.map_map]; rfl, h2, ← hp]; exact hok
          · have hm : (zs.mergeSort fun x y => leG x.2 y.2).map (·.2) = sortG ds := by
              rw [sortG_eq, ← h2]
              exact W.sort_maps (f := fun z : V × D => z.2) fun a _ b _ => rfl
            rw [← hm]
            exact .lst w hn (reps_ofD fun z hz => (h3 z ((List.mergeSort_perm _ _).mem_iff.mp hz)).1)
        · cases e
  · cases e
end Dv
namespace Dv
open PySem PySem.Spec PyProof.Rows L2
end Dv
namespace Dv
open PySem PySem.Spec PyProof.Rows L2
end Dv
namespace Dv
open PySem PySem.Spec PyProof.Rows L2
/-- a text of real code points -/
def TxO (x : Str) : Prop := PyData.strOk x = true
abbrev Dd := Bool × Str
def lineD (l : Str × Int) : D := .tup [.str l.1, .int l.2]
def lineP (l : Str × Int) : PyData := .tuple [.str l.1, .int l.2]
theorem line_py (l : Str × Int) : toPy (lineD l) = some (lineP l) := by simp [lineD, lineP, toPy, toPys]
theorem line_lay {l : Str × Int} (h : TxO l.1) : (lineP l).canLay0 = true := by
  have h : PyData.strOk l.1 = true := h
  simp [lineP, PyData.canLay0, PyData.canLayAll0, h]
theorem line_dep (l : Str × Int) : (lineP l).depth ≤ 1 := by simp [lineP, PyData.depth, PyData.depthAll]
theorem line_eqv (p q : Str × Int) : PyData.eqv (lineP p) (lineP q) = decide (p = q) := by
  simp only [lineP, PyData.eqv, PyData.eqvAll, Bool.and_true]
  have e : p = q ↔ p.1 = q.1 ∧ p.2 = q.2 := ⟨fun h => by rw [h]; exact ⟨rfl, rfl⟩, fun h => Prod.ext h.1 h.2⟩
  rw [show (p.1 == q.1) = decide (p.1 = q.1) from rfl, show (p.2 == q.2) = decide (p.2 = q.2) from rfl, ← Bool.decide_and]
  exact (decide_eq_decide.mpr e).symm
def plainN : Nat → D → Bool
  | _, .non => true
  | _, .bl _ => true
  | _, .int _ => true
  | _, .str _ => true
  | n + 1, .lst ds => decide (ds.length ≤ 1000) && ds.all (plainN n)
  | n + 1, .tup ds => decide (ds.length ≤ 1000) && ds.all (plainN n)
  | _, _ => false
end Dv
namespace Dv
open PySem PySem.Spec PyProof.Rows L2
theorem fMul_r {i j : Int} (h : -(2 ^ 64) < j ∧ j < 2 ^ 64) : fMul (.int i) (.int j) = some (.int (i * j)) := by
  simp only [fMul]; rw [if_pos (.inr h)]
theorem fMod_p {i j : Int} (h : 0 < j) : fMod (.int i) (.int j) = some (.int (i % j)) := by simp only [fMod]; rw [if_pos h]
theorem compL_pure {f : D → U → Option (Option D × U)} {g : D → D} {u : U} : ∀ {ds : List D}, (∀ d ∈ ds, f d u = some (some (g d), u)) → compL f ds u = some (ds.map g, u)
  | [], _ => rfl
  | d :: ds, h => by
    unfold compL
    rw [h d List.mem_cons_self]
    show bnd (compL f ds u) _ = _
    rw [compL_pure fun d hd => h d (List.mem_cons_of_mem _ hd)]
    rfl
def AZ (x : Str) : Prop := ∀ c ∈ x.cps.toList, 97 ≤ c ∧ c ≤ 122
theorem app_cps (x y : Str) : (x ++ y).cps.toList = x.cps.toList ++ y.cps.toList := by
  show (x.cps ++ y.cps).toList = _
  simp
theorem AZ.app {x y : Str} (h : AZ x) (g : AZ y) : AZ (x ++ y) := by
  intro c hc
  rw [app_cps] at hc
  rcases List.mem_append.mp hc with hc | hc
  · exact h c hc
  · exact g c hc
theorem line : sizeLine = 16777216 := rfl
theorem isiz {n : Nat} (h : n ≤ 1000) : n ≤ sizeLine := by rw [line]; omega
theorem mChain_t {f g : D → D → Option D} {a b c : M} {env : List Sl} {u u1 u2 u3 : U} {x y z w : D} (h1 : a env u = some (x, u1)) (h2 : b env u1 = some (y, u2)) (h3 : f x y = some (.bl true)) (h4 : c env u2 = some (z, u3)) (h5 : g y z = some w) : mChain f g a b c env u = some (w, u3) := by
  unfold mChain; rw [h1]; show bnd (b env u1) _ = _; rw [h2]; dsimp only [bnd]; rw [h3]; dsimp only; rw [h4]; dsimp only [bnd]; rw [h5]; rfl
theorem isi_tt (x : List D) : isiD (.tup x) ["tuple"] = some true := by show kitAnyB "tuple" ["tuple"] = some true; decide +kernel
theorem isi_lt (x : List D) : isiD (.lst x) ["tuple"] = some false := by show kitAnyB "list" ["tuple"] = some false; decide +kernel
theorem isi_ii (x : Int) : isiD (.int x) ["int"] = some true := by show kitAnyB "int" ["int"] = some true; decide +kernel
theorem isi_ib (x : Int) : isiD (.int x) ["bool"] = some false := by show kitAnyB "int" ["bool"] = some false; decide +kernel
theorem c1 {x : D} {env : List Sl} {u u1 : U} {a : M} (h : a env u = some (x, u1)) : mCons a mNil env u = some ([x], u1) := mCons_eq h mNil_eq
theorem forL_inv {t : Tgt} {f : MS} {I : Int → List Sl → U → Prop} {N : Int} : ∀ {ds : List D} {i : Int} {env : List Sl} {u : U}, (∀ d ∈ ds, ∀ i env u, i ≤ N → I i env u → ∃ env1 env2 u2, bindT t d env = some env1 ∧ f env1 u = some (.nx env2, u2) ∧ I (i + 1) env2 u2) → I i env u → i + ds.length ≤ N + 1 →
    ∃ env' u', forL t f ds env u = some (.nx env', u') ∧ I (i + ds.length) env' u'
  | [], i, env, u, _, hi, _ => ⟨env, u, rfl, by simpa using hi⟩
  | d :: ds, i, env, u, h, hi, hN => by
    rw [List.length_cons] at hN
    obtain ⟨env1, env2, u2, e1, e2, hi2⟩ := h d List.mem_cons_self i env u (by omega) hi
    obtain ⟨env', u', e3, hi3⟩ := forL_inv (i := i + 1) (fun d hd => h d (List.mem_cons_of_mem _ hd)) hi2 (by omega)
    refine ⟨env', u', ?_, by rw [List.length_cons, show i + ((ds.length + 1 : Nat) : Int) = i + 1 + ds.length by omega]; exact hi3⟩
    unfold forL
    rw [e1]
    show bnd (f env1 u) _ = _
    rw [e2]
    exact e3
theorem isi2_str (x : Str) : isiD (.str x) ["list", "tuple"] = some false := by show kitAnyB "str" ["list", "tuple"] = some false; decide +kernel
theorem isi2_int (x : Int) : isiD (.int x) ["list", "tuple"] = some false := by show kitAnyB "int" ["list", "tuple"] = some false; decide +kernel
theorem isi2_lst (x : List D) : isiD (.lst x) ["list", "tuple"] = some true := by show kitAnyB "list" ["list", "tuple"] = some true; decide +kernel
theorem isi2_tup (x : List D) : isiD (.tup x) ["list", "tuple"] = some true := by show kitAnyB "tuple" ["list", "tuple"] = some true; decide +kernel
theorem mEnumA_t {m : M} {env : List Sl} {u u1 : U} {ds : List D} (h : m env u = some (.tup ds, u1)) : mEnumA m env u = some (enumD 0 ds, u1) := by
  unfold mEnumA; rw [h]; rfl
theorem mZip_l {m m2 : M} {env : List Sl} {u u1 u2 : U} {ds es : List D} (h : m env u = some (.lst ds, u1)) (h2 : m2 env u1 = some (.lst es, u2)) : mZip m m2 env u = some (zipD ds es, u2) := by
  unfold mZip; rw [h]; show bnd (m2 env u1) _ = _; rw [h2]; rfl
theorem mZip_t {m m2 : M} {env : List Sl} {u u1 u2 : U} {ds es : List D} (h : m env u = some (.tup ds, u1)) (h2 : m2 env u1 = some (.tup es, u2)) : mZip m m2 env u = some (zipD ds es, u2) := by
  unfold mZip; rw [h]; show bnd (m2 env u1) _ = _; rw [h2]; rfl
theorem mNeg_eq {m : M} {env : List Sl} {u u1 : U} {i : Int} (h : m env u = some (.int i, u1)) : mNeg m env u = some (.int (-i), u1) := by
  unfold mNeg; rw [h]; rfl
theorem cutD_to {xs : List D} {k : Nat} (h : k ≤ xs.length) : cutD xs none (some (k : Int)) = xs.take k := by
  unfold cutD
  rw [HT.sIx_none, HT.sIx_nat, List.drop_zero, Nat.sub_zero, Nat.min_eq_left h]
theorem cutD_from {xs : List D} {k : Nat} (h : k ≤ xs.length) : cutD xs (some (k : Int)) none = xs.drop k := by
  unfold cutD
  rw [HT.sIx_none, HT.sIx_nat, Nat.min_eq_left h, ← List.length_drop, List.take_length]
theorem fAdd_t {a b : List D} (h : a.length + b.length ≤ 1000) : fAdd (.tup a) (.tup b) = some (.tup (a ++ b)) := by simp only [fAdd]; rw [if_pos (isiz h)]
theorem fAdd_l {a b : List D} (h : a.length + b.length ≤ 1000) : fAdd (.lst a) (.lst b) = some (.lst (a ++ b)) := by simp only [fAdd]; rw [if_pos (isiz h)]
theorem len_t {xs : List D} (h : xs.length ≤ 1000) : bLen [.tup xs] = some (.int xs.length) := by
  first
  | exact if_pos (isiz h)
  | rfl
theorem isi_bs_bl (b : Bool) : isiD (.bl b) ["bool", "str"] = some true := by show kitAnyB "bool" ["bool", "str"] = some true; decide +kernel
theorem isi_bs_str (b : Str) : isiD (.str b) ["bool", "str"] = some true := by show kitAnyB "str" ["bool", "str"] = some true; decide +kernel
theorem isi_bs_int (b : Int) : isiD (.int b) ["bool", "str"] = some false := by show kitAnyB "int" ["bool", "str"] = some false; decide +kernel
theorem isi2_non : isiD .non ["list", "tuple"] = some false := by decide +kernel
theorem isi2_bl (b : Bool) : isiD (.bl b) ["list", "tuple"] = some false := by show kitAnyB "bool" ["list", "tuple"] = some false; decide +kernel
theorem isi_l_l (x : List D) : isiD (.lst x) ["list"] = some true := by show kitAnyB "list" ["list"] = some true; decide +kernel
theorem isi_t_l (x : List D) : isiD (.tup x) ["list"] = some false := by show kitAnyB "tuple" ["list"] = some false; decide +kernel
theorem isi_b_non : isiD .non ["bool"] = some false := by decide +kernel
theorem isi_b_bl (b : Bool) : isiD (.bl b) ["bool"] = some true := by show kitAnyB "bool" ["bool"] = some true; decide +kernel
theorem isi_b_str (b : Str) : isiD (.str b) ["bool"] = some false := by show kitAnyB "str" ["bool"] = some false; decide +kernel
theorem ceq_bl (b : Bool) : cEq (.bl b) (.bl b) = some (.bl true) := by show some (D.bl (decide (b = b))) = _; rw [decide_eq_true rfl]
theorem ceq_str (b : Str) : cEq (.str b) (.str b) = some (.bl true) := by show some (D.bl (decide (b = b))) = _; rw [decide_eq_true rfl]
theorem ceq_int (b : Int) : cEq (.int b) (.int b) = some (.bl true) := by show some (D.bl (decide (b = b))) = _; rw [decide_eq_true rfl]
theorem bAll_ts {α : Type} (l : List α) : bAll [.lst (l.map fun _ => .bl true)] = some (.bl true) := by
  have : ∀ l : List α, blsOf (l.map fun _ => D.bl true) = some (l.map fun _ => true) := fun l => by
    induction l with
    | nil => rfl
    | cons a l ih =>
      show (blsOf (l.map fun _ => D.bl true)).map _ = _
      rw [ih]; rfl
  show (blsOf _).map _ = _
  rw [this]
  show some (D.bl _) = _
  have : (l.map fun _ => true).all id = true := by simp
  rw [this]
theorem zip_mem {xs : List D} {d : D} (h : d ∈ zipD xs xs) : ∃ x ∈ xs, d = .pr [x, x] := by
  unfold zipD at h
  induction xs with
  | nil => simp at h
  | cons x xs ih =>
    rw [List.zipWith_cons_cons] at h
    rcases List.mem_cons.mp h with rfl | h
    · exact ⟨x, List.mem_cons_self, rfl⟩
    · obtain ⟨y, hy, e⟩ := ih h
      exact ⟨y, List.mem_cons_of_mem _ hy, e⟩
theorem zip_len (xs : List D) : (zipD xs xs).length = xs.length := by unfold zipD; simp
theorem len_l {xs : List D} (h : xs.length ≤ 1000) : bLen [.lst xs] = some (.int xs.length) := by
  first
  | exact if_pos (isiz h)
  | rfl
theorem same_go {f : List D → U → Option (D × U)} {xs : List D} {a b : D} {u : U} (h : ∀ x ∈ xs, f [x, x] u = some (.bl true, u)) :
    compL (turnL (.many [2, 3]) [2, 3] [Sl.pub a, .pub b, .no, .no] mYes (mCall 2 f (mCons (mVar 2) (mCons (mVar 3) mNil)))) (zipD xs xs) u = some ((zipD xs xs).map fun _ => .bl true, u) :=
  compL_pure (g := fun _ => .bl true) fun d hd => by
    obtain ⟨x, hx, rfl⟩ := zip_mem hd
    exact turnL_eq rfl (mCall_eq (mCons_eq rfl (c1 rfl)) rfl (h x hx))
theorem plain_row {α : Type} {n : Nat} {f : α → D} {l : List α} (h : ∀ a, plainN n (f a) = true) (few : l.length ≤ 1000) : plainN (n + 1) (.tup (l.map f)) = true := by
  unfold plainN
  rw [Bool.and_eq_true]
  exact ⟨decide_eq_true (by rw [List.length_map]; exact few), List.all_eq_true.mpr fun d hd => by obtain ⟨a, _, rfl⟩ := List.mem_map.mp hd; exact h a⟩
theorem plain_l {n : Nat} {l : List D} (h : ∀ d ∈ l, plainN n d = true) (few : l.length ≤ 1000) : plainN (n + 1) (.lst l) = true := by
  unfold plainN
  rw [Bool.and_eq_true]
  exact ⟨decide_eq_true few, List.all_eq_true.mpr h⟩
def P4 (l : List D) : Prop := ∀ d ∈ l, plainN 4 d = true
theorem P4.app {a b : List D} (h : P4 a) (g : P4 b) : P4 (a ++ b) := fun d hd => (List.mem_append.mp hd).elim (h d) (g d)
theorem P4.cons {a : D} {b : List D} (h : plainN 4 a = true) (g : P4 b) : P4 (a :: b) := fun d hd => (List.mem_cons.mp hd).elim (fun e => by rw [e]; exact h) (g d)
theorem P4.nil : P4 [] := fun d hd => by cases hd
end Dv
namespace Dv
open PySem PySem.Spec PyProof.Rows L2
section
variable {env env' : List Sl} {u u1 u2 u3 : U} {m a b : M} {ms : Ms} {mb : MB} {p q : MS} {d x y z : D} {ds es : List D} {i j n : Nat} {s s2 : Sl} {mv mv2 : MSl} {fl : Fl} {k : Bool} {o : Oo}
theorem sSv_eq (h : mv env u = some (s, u1)) : sSv i mv env u = some (.nx (env.set i s), u1) := by unfold sSv; rw [h]; rfl
theorem vLst_eq (h : ms env u = some (ds, u1)) (hl : ds.length ≤ sizeLine) : vLst ms env u = some (.own (.lst ds), u1) := by unfold vLst; rw [h]; exact if_pos hl
theorem sApp_eq (hi : env[i]? = some (.own (.lst ds))) (h : m env u = some (d, u1)) (hl : ds.length < sizeLine) : sApp i m env u = some (.nx (env.set i (.own (.lst (ds ++ [d])))), u1) := by
  unfold sApp; rw [hi]; show bnd (m env u) _ = _; rw [h]; exact if_pos hl
theorem sPub_eq (hi : env[i]? = some (.own o)) (h : p (env.set i (.pub (ooD o))) u = some (fl, u1)) : sPub i p env u = some (fl, u1) := by unfold sPub; rw [hi]; exact h
theorem mPeek_eq (hi : env[i]? = some (.own o)) (h : m (env.set i (.pub (ooD o))) u = some (d, u1)) (hs : scalD d = true) : mPeek i m env u = some (d, u1) := by
  unfold mPeek; rw [hi]; show bnd (m _ u) _ = _; rw [h]; exact if_pos hs
theorem sTgtS_eq {is : List Nat} (h : m env u = some (d, u1)) (h2 : bindS is d env = some env') : sTgtS is m env u = some (.nx env', u1) := by
  unfold sTgtS; rw [h]; show (match bindS is d env with | some env' => some (Fl.nx env', u1) | none => none) = _; rw [h2]
end
structure OkU (n : Int) (u : U) : Prop where
  a : 0 ≤ u.a
  b : 0 ≤ u.b ∧ u.b < 2 ^ 62
  c : 0 ≤ u.c ∧ u.c ≤ n
theorem OkU.mono {n k : Int} {u : U} (h : OkU n u) (l : n ≤ k) : OkU k u := ⟨h.a, h.b, h.c.1, by have := h.c.2; omega⟩
end Dv
namespace Dv
open PySem PySem.Spec PyProof.Rows L2
def AllT (xs : List Str) : Prop := ∀ x ∈ xs, TxO x
theorem AllT.sub {xs ys : List Str} (h : AllT ys) (s : ∀ x ∈ xs, x ∈ ys) : AllT xs := fun x hx => h x (s x hx)
end Dv
namespace Dv
open PySem PySem.Spec L2
abbrev Al := List (Str × Int)
def alK (al : Al) : List Key := al.map fun p => .inr p.1
def alD (al : Al) : List D := al.map fun p => .int p.2
def putA (x : Str) (v : Int) : Al → Al
  | [] => [(x, v)]
  | p :: r => if p.1 = x then (p.1, v) :: r else p :: putA x v r
def getA (x : Str) : Al → Option Int
  | [] => none
  | p :: r => if p.1 = x then some p.2 else getA x r
theorem putA_cons (x : Str) (v : Int) (p : Str × Int) (r : Al) : putA x v (p :: r) = if p.1 = x then (p.1, v) :: r else p :: putA x v r := by rw [putA]
theorem getA_cons (x : Str) (p : Str × Int) (r : Al) : getA x (p :: r) = if p.1 = x then some p.2 else getA x r := by rw [getA]
theorem inr_eq {x y : Str} : ((Sum.inr x : Key) = Sum.inr y) = (x = y) := propext ⟨fun h => Sum.inr.inj h, fun h => by rw [h]⟩
theorem put_al (x : Str) (v : Int) : ∀ al : Al, putD (alK al) (alD al) (.inr x) (.int v) = (alK (putA x v al), alD (putA x v al))
  | [] => rfl
  | p :: r => by
    show (if (Sum.inr p.1 : Key) = Sum.inr x then _ else _) = _
    by_cases e : p.1 = x
    · rw [if_pos (by rw [e]), putA_cons, if_pos e]; rfl
    · rw [if_neg (fun z => e (Sum.inr.inj z))]
      show (Sum.inr p.1 :: (putD (alK r) (alD r) (.inr x) (.int v)).1, D.int p.2 :: (putD (alK r) (alD r) (.inr x) (.int v)).2) = _
      rw [put_al x v r, putA_cons, if_neg e]; rfl
theorem val_al (x : Str) : ∀ al : Al, valD (alK al) (alD al) (.inr x) = (getA x al).map .int
  | [] => rfl
  | p :: r => by
    show Option.map _ (((((Sum.inr p.1 : Key), D.int p.2) :: (alK r).zip (alD r)).find? fun kd => decide (kd.1 = (Sum.inr x : Key)))) = _
    by_cases e : p.1 = x
    · rw [List.find?_cons_of_pos (by rw [e]; exact decide_eq_true rfl), getA_cons, if_pos e]; rfl
    · rw [List.find?_cons_of_neg (by simpa [inr_eq] using e), getA_cons, if_neg e]
      exact val_al x r
theorem get_put (x y : Str) (v : Int) : ∀ al : Al, getA y (putA x v al) = if y = x then some v else getA y al
  | [] => by
    show (if x = y then some v else none) = _
    by_cases e : y = x
    · rw [if_pos e, if_pos e.symm]
    · rw [if_neg e, if_neg (fun z => e z.symm)]; rfl
  | p :: r => by
    rw [putA_cons]
    by_cases e : p.1 = x
    · rw [if_pos e, getA_cons, getA_cons]
      show (if p.1 = y then some v else getA y r) = _
      by_cases f : y = x
      · rw [if_pos f, if_pos (e.trans f.symm)]
      · rw [if_neg f, if_neg (fun z => f (z.symm.trans e)), if_neg (fun z => f (z.symm.trans e))]
    · rw [if_neg e, getA_cons, getA_cons]
      by_cases f : p.1 = y
      · rw [if_pos f, if_pos f, if_neg (fun z => e (f.trans z))]
      · rw [if_neg f, if_neg f, get_put x y v r]
def NdA (al : Al) : Prop := (al.map (·.1)).Nodup
theorem put_keys (x : Str) (v : Int) : ∀ al : Al, (putA x v al).map (·.1) = if x ∈ al.map (·.1) then al.map (·.1) else al.map (·.1) ++ [x]
  | [] => rfl
  | p :: r => by
    rw [putA_cons]
    by_cases e : p.1 = x
    · rw [if_pos e, if_pos (by rw [← e]; exact List.mem_cons_self)]; rfl
    · rw [if_neg e, List.map_cons, put_keys x v r, List.map_cons]
      by_cases f : x ∈ r.map (·.1)
      · rw [if_pos f, if_pos (List.mem_cons_of_mem _ f)]
      · rw [if_neg f, if_neg (fun z => (List.mem_cons.mp z).elim (fun w => e w.symm) f)]; rfl
theorem NdA.put {al : Al} (h : NdA al) (x : Str) (v : Int) : NdA (putA x v al) := by
  unfold NdA
  rw [put_keys]
  split
  · exact h
  · rename_i hx
    refine List.nodup_append.mpr ⟨h, List.nodup_cons.mpr ⟨by simp, .nil⟩, fun a ha b hb => ?_⟩
    simp only [List.mem_cons, List.not_mem_nil, or_false] at hb
    rw [hb]
    intro z
    exact hx (z ▸ ha)
theorem put_len (x : Str) (v : Int) (al : Al) : (putA x v al).length ≤ al.length + 1 := by
  rw [← List.length_map (f := fun p : Str × Int => p.1), put_keys]
  split
  · rw [List.length_map]; omega
  · rw [List.length_append, List.length_map]; exact Nat.le_refl _
theorem mem_get {al : Al} (h : NdA al) {x : Str} {v : Int} : (x, v) ∈ al ↔ getA x al = some v := by
  induction al with
  | nil => exact ⟨fun z => (by cases z), fun z => (by cases (show (none : Option Int) = some v from z))⟩
  | cons p r ih =>
    obtain ⟨h1, h2⟩ := List.nodup_cons.mp (show (p.1 :: r.map (·.1)).Nodup from h)
    rw [getA_cons]
    by_cases e : p.1 = x
    · rw [if_pos e]
      constructor
      · intro m
        rcases List.mem_cons.mp m with rfl | m
        · rfl
        · exact absurd (List.mem_map.mpr ⟨_, m, rfl⟩) (by rw [← e] at *; exact h1)
      · intro z
        have : p = (x, v) := by
          obtain ⟨a, b⟩ := p
          cases z; cases e; rfl
        rw [this]; exact List.mem_cons_self
    · rw [if_neg e, ← ih h2]
      exact ⟨fun m => (List.mem_cons.mp m).elim (fun z => absurd (by rw [← z]) e) id, fun m => List.mem_cons_of_mem _ m⟩
def pairK (p : Str × Int) : List Key := [.inr p.1, .inl p.2]
theorem items_al (al : Al) : itemsK (alK al) (alD al) = al.map fun p => .pr [.str p.1, .int p.2] := by
  unfold itemsK alK alD
  rw [List.zip_map', List.map_map]
  rfl
theorem pair_shape (p : Str × Int) : shapeR (pairK p) = [false, true] := rfl
/-- strictly rising texts -/
def Rising (xs : List Str) : Prop := xs.Pairwise fun a b => a.cps.toList < b.cps.toList
theorem Rising.nodup {xs : List Str} (h : Rising xs) : xs.Nodup := h.imp fun hl e => by rw [e] at hl; exact List.lt_irrefl _ hl
def told (xs : List Str) (f : Str → Int) : Al := (xs.map fun x => (x, f x)).filter fun p => decide (0 < p.2)
theorem told_le {xs : List Str} (h : Rising xs) (f : Str → Int) : ((told xs f).map pairK).Pairwise LeR := by
  rw [List.pairwise_map]
  refine List.Pairwise.sublist List.filter_sublist ?_
  rw [List.pairwise_map]
  refine h.imp fun {a b} hl => ?_
  show leR [.inr a, .inl (f a)] [.inr b, .inl (f b)] = true
  rw [leR_cons, if_neg (fun z => by rw [Sum.inr.inj z] at hl; exact List.lt_irrefl _ hl)]
  exact decide_eq_true hl
theorem told_nodup {xs : List Str} (h : Rising xs) (f : Str → Int) : (told xs f).Nodup := by
  refine List.Nodup.sublist List.filter_sublist ?_
  exact List.Pairwise.map _ (fun a b (hab : a ≠ b) z => hab (congrArg Prod.fst z)) h.nodup
theorem al_nodup {al : Al} (h : NdA al) : al.Nodup := by
  have := h
  unfold NdA at this
  exact (List.pairwise_map.mp this).imp fun hab z => hab (by rw [z])
theorem tally_sort {al : Al} {xs : List Str} {f : Str → Int} (h : NdA al) (hx : Rising xs) (hf : ∀ x, (getA x al).getD 0 = f x) (h0 : ∀ x, x ∉ xs → f x = 0) :
    sortR ((al.filter fun p => decide (0 < p.2)).map pairK) = (told xs f).map pairK := by
  refine (sortR_uniq ?_ (told_le hx f)).symm
  refine List.Perm.map _ ?_
  refine (List.perm_ext_iff_of_nodup (told_nodup hx f) ((al_nodup h).sublist List.filter_sublist)).mpr fun p => ?_
  obtain ⟨x, v⟩ := p
  unfold told
  rw [List.mem_filter, List.mem_filter, mem_get h]
  constructor
  · rintro ⟨h1, h2⟩
    obtain ⟨y, hy, e⟩ := List.mem_map.mp h1
    cases e
    have hp := of_decide_eq_true h2
    refine ⟨?_, h2⟩
    have := hf x
    cases q : getA x al with
    | none => rw [q] at this; have : (0 : Int) = f x := this; dsimp only at hp; omega
    | some w => rw [q] at this; have : w = f x := this; rw [this]
  · rintro ⟨h1, h2⟩
    have hv : v = f x := by have := hf x; rw [h1] at this; exact this
    have hp : 0 < v := of_decide_eq_true h2
    refine ⟨List.mem_map.mpr ⟨x, ?_, by rw [hv]⟩, h2⟩
    by_cases m : x ∈ xs
    · exact m
    · have := h0 x m; omega
theorem mDItems_eq {m : M} {env : List Sl} {u u1 : U} {al : Al} (h : m env u = some (.dct (alK al) (alD al), u1)) : mDItems m env u = some (al.map fun p => .pr [.str p.1, .int p.2], u1) := by
  unfold mDItems
  rw [h, ← items_al]; rfl
theorem compL_fm {α : Type} {f : D → U → Option (Option D × U)} {g h : α → D} {P : α → Bool} {u : U} : ∀ {l : List α}, (∀ a ∈ l, f (g a) u = some (if P a = true then some (h a) else none, u)) → compL f (l.map g) u = some ((l.filter P).map h, u)
  | [], _ => rfl
  | a :: l, hf => by
    rw [List.map_cons]
    unfold compL
    rw [hf a List.mem_cons_self]
    show bnd (compL f (l.map g) u) _ = _
    rw [compL_fm fun b hb => hf b (List.mem_cons_of_mem _ hb)]
    cases q : P a with
    | true => rw [List.filter_cons_of_pos q]; rfl
    | false => rw [List.filter_cons_of_neg (by rw [q]; decide)]; rfl
theorem compL_mp {α : Type} {f : D → U → Option (Option D × U)} {g h : α → D} {u : U} {l : List α} (hf : ∀ a ∈ l, f (g a) u = some (some (h a), u)) : compL f (l.map g) u = some (l.map h, u) := by
  have := compL_fm (P := fun _ => true) (h := h) (f := f) (g := g) (u := u) (l := l) fun a ha => by rw [if_pos rfl]; exact hf a ha
  rw [this, List.filter_eq_self.mpr fun _ _ => rfl]
theorem last_int {l : List Nat} {s : Nat} (h : l.getLast? = some s) : ixD (.lst (l.map fun j : Nat => .int (j : Int))) (.int (-1)) = some (.int (s : Int)) := by
  show atI _ (-1) = _
  have hn : l ≠ [] := fun z => by rw [z] at h; cases h
  have hl : 0 < l.length := List.length_pos_iff.mpr hn
  unfold atI ixN
  rw [List.length_map, if_neg (by omega), if_pos (by omega)]
  show (l.map fun j : Nat => D.int (j : Int))[((-1 : Int) + l.length).toNat]? = _
  rw [show ((-1 : Int) + l.length).toNat = l.length - 1 by omega, List.getElem?_map, ← List.getLast?_eq_getElem?, h]; rfl
end Dv
namespace Dv
open PySem PySem.Spec L2
structure Cod {α : Type} [DecidableEq α] (e : α → D) (p : α → PyData) (ok : α → Prop) (n : Nat) : Prop where
  py : ∀ a, toPy (e a) = some (p a)
  lay : ∀ a, ok a → (p a).canLay0 = true
  dep : ∀ a, (p a).depth ≤ n
  eqv : ∀ a b, PyData.eqv (p a) (p b) = decide (a = b)
  tup : ∀ a, ∃ xs, e a = .tup xs
section
variable {α : Type} [DecidableEq α] {e : α → D} {p : α → PyData} {ok : α → Prop} {n : Nat}
theorem Cod.sh (c : Cod e p ok n) (hn : n < 63) {a : α} (h : ok a) : SeqAt.shaped (p a) = true := by
  unfold SeqAt.shaped
  rw [Bool.and_eq_true]
  exact ⟨c.lay a h, decide_eq_true (by have := c.dep a; omega)⟩
theorem Cod.any (c : Cod e p ok n) (a : α) (l : List α) [Decidable (a ∈ l)] : ((l.map p).any fun z => PyData.eqv z (p a)) = decide (a ∈ l) := by
  rw [List.any_map]
  have : ((fun z => PyData.eqv z (p a)) ∘ p) = fun q => decide (q = a) := funext fun q => c.eqv q a
  rw [this, Bool.eq_iff_iff, List.any_eq_true, decide_eq_true_iff]
  exact ⟨fun ⟨x, hx, h⟩ => by rw [← of_decide_eq_true h]; exact hx, fun hx => ⟨a, hx, decide_eq_true rfl⟩⟩
theorem Cod.eq (c : Cod e p ok n) (hn : n < 63) {a b : α} [Decidable (a = b)] (h : ok a) (g : ok b) : eqD (e a) (e b) = some (decide (a = b)) := by
  have ea := c.py a
  have eb := c.py b
  obtain ⟨xs, hx⟩ := c.tup a
  rw [hx] at ea ⊢
  show (match toPy (.tup xs), toPy (e b) with | some x, some y => if SeqAt.shaped x = true ∧ SeqAt.shaped y = true then some (PyData.eqv x y) else none | _, _ => none) = _
  rw [ea, eb]
  show (if _ then _ else _) = _
  rw [if_pos ⟨c.sh hn h, c.sh hn g⟩, c.eqv]
  exact congrArg some (decide_eq_decide.mpr Iff.rfl)
theorem Cod.ceq (c : Cod e p ok n) (hn : n < 63) {a b : α} [Decidable (a = b)] (h : ok a) (g : ok b) : cEq (e a) (e b) = some (.bl (decide (a = b))) := by
  show (eqD _ _).map D.bl = _; rw [c.eq hn h g]; rfl
end
theorem lineCod : Cod lineD lineP (fun l => TxO l.1) 1 := ⟨line_py, fun _ h => line_lay h, line_dep, line_eqv, fun a => ⟨_, rfl⟩⟩
theorem ix0L {d : D} {r : List D} : ixD (.lst (d :: r)) (.int 0) = some d := by
  show atI (d :: r) 0 = _
  unfold atI ixN
  rw [if_pos (by decide), if_pos (by rw [List.length_cons]; omega)]; rfl
end Dv
namespace Dv
open PySem PySem.Spec PyProof.Rows L2
end Dv
namespace Dv
open PySem PySem.Spec PyProof.Rows L2
end Dv
namespace Dv
open PySem PySem.Spec PyProof.Rows L2
theorem sortB_r {ks : List (List Key)} {sh : List Bool} (h : ∀ k ∈ ks, shapeR k = sh) (hn : sh ≠ []) : bSortB [.lst (ks.map rowD)] = some (.lst ((sortR ks).map rowD)) := by
  show (match bSortA [.lst (ks.map rowD)] with | some d => some d | none => sortP (ks.map rowD)) = _
  rw [sortA_r h hn]
end Dv
namespace Dv
open PySem PySem.Spec PyProof.Rows L2
def manyOf (x : Str) (ds : List Dd) : Nat := ds.countP (fun q => decide (q = (true, x)))
def outR (x : Str) : List Dd → Nat
  | [] => 0
  | p :: r => if p.1 = true then outR x r else if p.2 = x then manyOf x r else outR x r
def ouOf (x : Str) (ds : List Dd) : Nat := outR x ds.reverse
structure CI (pre : List Dd) (w o : Al) : Prop where
  nw : NdA w
  no_ : NdA o
  lw : w.length ≤ pre.length
  lo : o.length ≤ pre.length
  w : ∀ x, (getA x w).getD 0 = (manyOf x pre : Int)
  o : ∀ x, (getA x o).getD 0 = (ouOf x pre : Int)
theorem CI.nil : CI [] [] [] := ⟨.nil, .nil, Nat.le_refl _, Nat.le_refl _, fun _ => rfl, fun _ => rfl⟩
/-- the streams of ds are among xs -/
def InS (ds : List Dd) (xs : List Str) : Prop := ∀ p ∈ ds, p.2 ∈ xs
theorem InS.take {ds : List Dd} {xs : List Str} (h : InS ds xs) (k : Nat) : InS (ds.take k) xs := fun p hp => h p (List.mem_of_mem_take hp)
end Dv
namespace Dv
open PySem PySem.Spec PyProof.Rows L2
theorem mItemsK_eq {m : M} {env : List Sl} {u u1 : U} {al : Al} (h : m env u = some (.dct (alK al) (alD al), u1)) : mItemsK m env u = some (al.map fun p => .str p.1, u1) := by
  unfold mItemsK; rw [h]
  show some ((alK al).map keyD, u1) = _
  unfold alK
  rw [List.map_map]; rfl
end Dv
namespace Dv
open PySem PySem.Spec PyProof.Rows L2
end Dv
namespace Dv
open PySem PySem.Spec PyProof.Rows L2
end Dv
namespace Dv
open PySem PySem.Spec PyProof.Rows L2
end Dv
namespace Dv
open PySem PySem.Spec PyProof.Rows L2
section
variable {X : Cx} {G : Gx X.K} {mi : MI} {mc : MB} {me : M}
theorem AftS.up {K : PySem.W.Frag} {G : Gx K} {ua : Option Addr} {B H B1 H1 H' : Hp} {u' : U} {o : Oo} {v : V} (g : Grow ua B H B1 H1) (a : AftS G ua B1 H1 u' (.own o) v H') : AftS G ua B H u' (.own o) v H' := by
  obtain ⟨B', g', w, p, ho, e, h1, h2⟩ := a
  exact ⟨B', g.trans g', w, p, ho, e, g.live _ h1, h2⟩
variable {elt tg iter : Expr} {ifs : List Expr} {scope : Scope} {own : List (Str × Nat)} {pos : Pos}
end
def spFO {K : PySem.W.Frag} (G : Gx K) (F : List D → U → Option (Oo × U)) (n : Nat) : Sp := fun vs H Q _ => ∃ ua u B ds o u', Reps G ua ds vs B ∧ ds.length = n ∧ Wd ua u B H ∧ F ds u = some (o, u') ∧ ∀ v H', AftS G ua B H u' (.own o) v H' → Q v H'
def DefOkO (P : Program) (w : World) {K : PySem.W.Frag} (mg : Str → Option Value) (base : Heap) (G : Gx K) (x : Str) (k n : Nat) (F : List D → U → Option (Oo × U)) : Prop :=
  ∃ f fd ps, FnOk P w K mg base CX0 k f fd ps (spFO G F n) ∧ mg x = some (.ref f) ∧ PySem.W.keepIn K (.ref f) = true ∧ Binds K fd ps []
theorem DefOkO.mono {P : Program} {w : World} {K : PySem.W.Frag} {mg : Str → Option Value} {base : Heap} {G : Gx K} {x : Str} {j k n : Nat} {F : List D → U → Option (Oo × U)} (h : DefOkO P w mg base G x j n F) (l : j ≤ k) : DefOkO P w mg base G x k n F := by
  obtain ⟨f, fd, ps, h1, h2⟩ := h
  exact ⟨f, fd, ps, h1.mono l, h2⟩
end Dv
namespace Dv
open PySem PySem.Spec PyProof.Rows L2
end Dv
namespace Dv
open PySem PySem.Spec PyProof.Rows L2
end Dv
namespace Dv
open PySem PySem.Spec PyProof.Rows L2
end Dv
namespace Dv
open PySem PySem.Spec PyProof.Rows L2
section
variable {X : Cx} {G : Gx X.K} {o e : Expr} {mo me : M} {p pos : Pos}
def dinD (neg : Bool) : D → D → Option D
  | k, .dct ks ds => (keyOf k).map fun key => .bl (xor neg (valD ks ds key).isSome)
  | _, _ => none
theorem dct_get {K : PySem.W.Frag} {G : Gx K} {ua : Option Addr} {B H : Hp} {ks : List Key} {ds : List D} {v w : V} {d : D} {key : Key} (r : Rep G ua (.dct ks ds) v B) (hs : Same B H) (hk : keyOf d = some key) (r2 : Rep G ua d w B) : ∃ a ov, v = .ref a ∧ DGet H a w ov ∧ ov.isSome = (valD ks ds key).isSome := by
  obtain ⟨a, vs, rfl, hd, hl, rs⟩ := rep_dct r
  refine ⟨a, valV (ks.zip vs) key, rfl, .inl ⟨_, key, (hd.mono hs).rd, keyOf_rep hk r2, rfl⟩, ?_⟩
  rcases rs.val (k := key) hl with ⟨e1, e2⟩ | ⟨dv, vv, e1, e2, rr⟩
  · rw [e1, e2]; rfl
  · rw [e1, e2]; rfl
end
end Dv
namespace Dv
open PySem PySem.Spec PyProof.Rows L2
end Dv
namespace Dv
open PySem PySem.Spec PyProof.Rows L2
section
variable {X : Cx} {G : Gx X.K} {a b : Expr} {ma mb : M} {pos apos : Pos}
def fDivW : D → D → Option D
  | .int i, .int j => if 0 < j ∧ j.natAbs.log2 < 9000 then some (.int (i / j)) else none
  | _, _ => none
theorem ok_divW : BinOk G (binaryOp .FloorDiv) fDivW := by
  intro ua u B H da db d va vb e ra rb w
  unfold fDivW at e
  split at e
  · split at e
    · cases e; cases ra.int; cases rb.int
      exact ⟨_, op_fdivW, _, _, rfl, rfl, ‹_›, .here w rep_int⟩
    · cases e
  · cases e
end
def DefKX (P : Program) (w : World) {K : PySem.W.Frag} (mg : Str → Option Value) (base : Heap) (G : Gx K) (x : Str) (ks : List Str) (k : Nat) (F : List D → U → Option (R × U)) : Prop :=
  ∃ f fd, FnOk P w K mg base (L2.CX P w) k f fd ks (spX G F ks.length) ∧ mg x = some (.ref f) ∧ PySem.W.keepIn K (.ref f) = true ∧ ∀ (s : Shared) (ws : List Value), K.In s.heap → ws.length = ks.length → BindsTo s fd ⟨[], ks.zip ws⟩ (ks.zip ws)
theorem DefKX.mono {P : Program} {w : World} {K : PySem.W.Frag} {mg : Str → Option Value} {base : Heap} {G : Gx K} {x : Str} {ks : List Str} {j k : Nat} {F : List D → U → Option (R × U)} (h : DefKX P w mg base G x ks j F) (l : j ≤ k) : DefKX P w mg base G x ks k F := by
  obtain ⟨f, fd, h1, h2⟩ := h
  exact ⟨f, fd, h1.mono l, h2⟩
end Dv
namespace Dv
open PySem PySem.Spec PyProof.Rows L2
section
variable {X : Cx} {G : Gx X.K} {e : Expr}
theorem pe_lockv {te : TE} (h : PE X e te) : PE X e (fun σ H Q => te σ H fun v H1 => Q v H1 ∨ ∃ l ho, v = .ref l ∧ H1 l = some ho ∧ Mut (some ho) ∧ ∀ od, Q v (upd H1 l (.frz od ho))) :=
  ⟨fun pins s σ H Q I z => wpAny_mono (h.run pins s σ H _ I z) (fun v s1 ⟨x, H1, I1, r1, q⟩ => by
    rcases q with q | ⟨l, ho, rfl, e1, mu, q⟩
    · exact ⟨x, H1, I1, r1, q⟩
    · obtain ⟨od, I2⟩ := I1.lock e1 mu
      exact ⟨.ref l, _, I2, r1, q od⟩) fun _ _ z => z⟩
def mShow (mv : MSl) : M := fun env u => match mv env u with
  | some (.own o, u1) => some (ooD o, u1)
  | some (.pub d, u1) => some (d, u1)
  | _ => none
theorem dv_show {mv : MSl} (h : PE X e (tSv G mv)) : PE X e (tEv G (mShow mv)) := (pe_lockv h).imp fun σ H Q z => by
  obtain ⟨ua, u, B, env, d, u', hE, hW, hm, q⟩ := z
  unfold mShow at hm
  split at hm
  · rename_i o u1 h1
    cases hm
    refine ⟨ua, u, B, env, _, _, hE, hW, h1, fun v H' ⟨B', g, w, r⟩ => ?_⟩
    obtain ⟨p, ho, rfl, e1, e2, e3, e4, e5⟩ := r
    rcases e5.show e3 with ⟨_, r⟩ | ⟨ks, ds, rfl, mu, r⟩
    · exact .inl (q _ _ ⟨upd B' p ho, g.show e1 e3, w.show e2 e4, r⟩)
    · exact .inr ⟨p, ho, rfl, e2, mu, fun od => q _ _ ⟨upd B' p (.frz od ho), g.showU e1 e3, w.showU e3 e4, r od⟩⟩
  · rename_i d1 u1 h1
    cases hm
    exact ⟨ua, u, B, env, _, _, hE, hW, h1, fun v H' ⟨B', g, w, r⟩ => .inl (q _ _ ⟨B', g, w, r⟩)⟩
  · cases hm
theorem mShow_own {mv : MSl} {env : List Sl} {u u1 : U} {o : Oo} (h : mv env u = some (.own o, u1)) : mShow mv env u = some (ooD o, u1) := by unfold mShow; rw [h]
end
end Dv
namespace Dv
open PySem PySem.Spec PyProof.Rows L2
/-- called by place, n and more things: what is left over as a tuple behind the n -/
def spXV {K : PySem.W.Frag} (G : Gx K) (F : List D → U → Option (R × U)) (n : Nat) : Sp := fun vs H Q E => ∃ ua u B ds r u', Reps G ua ds vs B ∧ n ≤ ds.length ∧ ds.length ≤ 1000 ∧ Wd ua u B H ∧ F (ds.take n ++ [.tup (ds.drop n)]) u = some (r, u') ∧ OutR G ua B H u' Q E r
def DefOkXV (P : Program) (w : World) {K : PySem.W.Frag} (mg : Str → Option Value) (base : Heap) (G : Gx K) (x : Str) (k n : Nat) (F : List D → U → Option (R × U)) : Prop :=
  ∃ f, FnR P w K mg base (L2.CX P w) k f (spXV G F n) ∧ mg x = some (.ref f) ∧ PySem.W.keepIn K (.ref f) = true
theorem DefOkXV.mono {P : Program} {w : World} {K : PySem.W.Frag} {mg : Str → Option Value} {base : Heap} {G : Gx K} {x : Str} {j k n : Nat} {F : List D → U → Option (R × U)} (h : DefOkXV P w mg base G x j n F) (l : j ≤ k) : DefOkXV P w mg base G x k n F := by
  obtain ⟨f, h1, h2⟩ := h
  exact ⟨f, h1.mono l, h2⟩
end Dv
namespace Dv
open PySem PySem.Spec PyProof.Rows L2
end Dv
namespace Dv
open PySem PySem.Spec PyProof.Rows L2
end Dv
namespace Dv
open PySem PySem.Spec PyProof.Rows L2
end Dv
namespace Dv
open PySem PySem.Spec PyProof.Rows L2
end Dv
namespace Dv
open PySem PySem.Spec PyProof.Rows L2
end Dv
namespace Dv
open PySem PySem.Spec PyProof.Rows L2
def intsD : List D → Option (List Int)
  | [] => some []
  | .int i :: r => (intsD r).map fun is => i :: is
  | _ :: _ => none
theorem intsD_eq : ∀ {ds : List D} {is : List Int}, intsD ds = some is → ds = is.map .int
  | [], is, h => by cases h; rfl
  | d :: ds, is, h => by
    cases d with
    | int i =>
      unfold intsD at h
      cases q : intsD ds with
      | none => rw [q] at h; cases h
      | some js => rw [q] at h; cases h; rw [List.map_cons, intsD_eq q]
    | _ => cases h
theorem intsD_map : ∀ is : List Int, intsD (is.map .int) = some is
  | [] => rfl
  | i :: is => by rw [List.map_cons]; unfold intsD; rw [intsD_map is]; rfl
theorem reps_ints {K : PySem.W.Frag} {G : Gx K} {ua : Option Addr} {B : Hp} : ∀ {is : List Int} {vs : List V}, Reps G ua (is.map .int) vs B → vs = is.map V.int
  | [], vs, r => r.of_nil
  | i :: is, vs, r => by
    obtain ⟨v, t, rfl, r1, r2⟩ := r.of_cons
    rw [r1.int, reps_ints r2]; rfl
theorem foldl_maxI : ∀ (l : List Int) (a : Int), (a ≤ l.foldl max a ∧ ∀ c ∈ l, c ≤ l.foldl max a) ∧ (l.foldl max a = a ∨ l.foldl max a ∈ l)
  | [], a => ⟨⟨Int.le_refl _, fun _ h => nomatch h⟩, .inl rfl⟩
  | b :: l, a => by
    obtain ⟨⟨h1, h2⟩, h3⟩ := foldl_maxI l (max a b)
    refine ⟨⟨by rw [List.foldl_cons]; omega, fun c hc => ?_⟩, ?_⟩
    · rw [List.foldl_cons]
      rcases List.mem_cons.mp hc with rfl | hc
      · omega
      · exact h2 c hc
    · rw [List.foldl_cons]
      rcases h3 with h3 | h3
      · rw [h3]
        by_cases z : a ≤ b
        · right; rw [show max a b = b by omega]; exact List.mem_cons_self
        · left; omega
      · exact .inr (List.mem_cons_of_mem _ h3)
def bMaxL : List D → Option D
  | [.lst ds] => (match intsD ds with
    | some (i :: r) => some (.int (r.foldl max i))
    | _ => none)
  | _ => none
variable {X : Cx} {G : Gx X.K}
theorem ok_maxL (hc : X.calm = true) : BiOk G (.builtin "max") bMaxL := by
  intro ua u B H ds d vs e rs w
  unfold bMaxL at e
  split at e
  · rename_i ds
    split at e
    · rename_i i r hq
      cases e
      obtain ⟨v, t, rfl, r1, r2⟩ := rs.of_cons
      rw [r2.of_nil]
      obtain ⟨a, xs, rfl, h, r3⟩ := r1.lst
      rw [intsD_eq hq] at r3
      have hx := reps_ints r3
      refine ⟨_, cr_max hc, a, i :: r, rfl, by rw [← hx]; exact .of (w.sub _ _ h), by simp, fun m h1 h2 => ?_⟩
      obtain ⟨⟨f1, f2⟩, f3⟩ := foldl_maxI r i
      have : m = r.foldl max i := by
        refine Int.le_antisymm ?_ ?_
        · rcases List.mem_cons.mp h1 with z | z
          · rw [z]; exact f1
          · exact f2 m z
        · rcases f3 with z | z
          · rw [z]; exact h2 _ List.mem_cons_self
          · exact h2 _ (List.mem_cons_of_mem _ z)
      rw [this]
      exact .here w rep_int
    · cases e
  · cases e
end Dv
namespace Dv
open PySem PySem.Spec PyProof.Rows L2
end Dv
namespace Dv
open PySem PySem.Spec PyProof.Rows L2
section
variable {X : Cx} {G : Gx X.K}
def bSumL : List D → Option D
  | [.lst ds] => (intsD ds).map fun is => .int is.sum
  | _ => none
theorem ok_sumL (hc : X.calm = true) : BiOk G (.builtin "sum") bSumL := by
  intro ua u B H ds d vs e rs w
  unfold bSumL at e
  split at e
  · rename_i ds
    obtain ⟨is, q, rfl⟩ := map_some e
    obtain ⟨v, t, rfl, r1, r2⟩ := rs.of_cons
    rw [r2.of_nil]
    obtain ⟨a, xs, rfl, h, r3⟩ := r1.lst
    rw [intsD_eq q] at r3
    have hx := reps_ints r3
    exact ⟨_, cr_sum hc, a, is, rfl, by rw [← hx]; exact .of (w.sub _ _ h), .here w rep_int⟩
  · cases e
variable {o i e : Expr} {mo me : M} {pos : Pos}
end
end Dv
namespace Dv
open PySem PySem.Spec PyProof.Rows L2
abbrev TKd (P : Program) (w : World) : HeapKind P w (List Key) := tupleKind (mixKind P w)
abbrev hsT (P : Program) (w : World) (k : List Key) : Int := (TKd P w).hash k
structure TupSet (P : Program) (w : World) (h : Heap) (a : Addr) (M : List (List Key × Addr)) (es : Array (Int × Value)) (ep : Nat) (t : SetTable) : Prop where
  here : ∃ o, h.get? a = some o ∧ o.ExactSet ∧ o.data = .set es ep t
  rows : es.toList = M.map fun m => (hsT P w m.1, Value.ref m.2)
  lay : TabOk t (M.map fun m => hsT P w m.1)
  once : (M.map fun m => m.1).Nodup
  keyd : ∀ m ∈ M, (TKd P w).is h m.1 m.2
  ord : w.params.followText "set-order" = true ∨ t.led = true
  space : M.length * 5 < t.mask * 3
  le63 : M.length ≤ 63
section
variable {P : Program} {w : World} {A : Around} {E : Value → Shared → Prop} {s : Shared} {a x : Addr} {M : List (List Key × Addr)} {es : Array (Int × Value)} {ep : Nat} {t : SetTable} {k : List Key} {K : Nat}
theorem TupSet.get {h : Heap} (R : TupSet P w h a M es ep t) {i : Nat} {m : List Key × Addr} (e : M[i]? = some m) : es[i]? = some (hsT P w m.1, Value.ref m.2) := by
  have := congrArg (fun l : List (Int × Value) => l[i]?) R.rows
  simp only [List.getElem?_map, e] at this
  rw [← Array.getElem?_toList]; exact this
end
end Dv
namespace Dv
open PySem PySem.Spec PyProof.Rows L2
end Dv
namespace Dv
open PySem PySem.Spec PyProof.Rows L2
end Dv
namespace Dv
open PySem PySem.Spec PyProof.Rows L2
end Dv
namespace Dv
open PySem PySem.Spec PyProof.Rows L2
end Dv
namespace Dv
open PySem PySem.Spec PyProof.Rows L2
end Dv
namespace Dv
open PySem PySem.Spec PyProof.Rows L2
end Dv
namespace Dv
open PySem PySem.Spec PyProof.Rows L2
section
variable {X : Cx}
theorem pairs_two {pins : List (Addr × Obj)} {σ : L2.St} {H : Hp} {s : Shared} (I : Inv X pins σ H s) : ∀ {ps : List Addr} {kvs : List (Key × V)}, Paired (fun p kv => SqT X.K H p [kV kv.1, kv.2]) ps kvs →
    ∃ (prs : List (Key × Value)) (pv : List (Value × Value)), KV kvs prs ∧ prs.length = ps.length ∧ pv.length = ps.length ∧ ∀ (j : Nat) (k v : Value), pv[j]? = some (k, v) → ∃ (b : Addr) (key : Key), ps[j]? = some b ∧ s.heap.IsTuple b #[k, v] ∧ prs[j]? = some (key, v) ∧ (mixKind X.prog X.w).is key k = true
  | _, _, .nil => ⟨[], [], .nil, rfl, rfl, fun j k v e => by simp at e⟩
  | _, _, .cons (a := p) (b := kv) h t => by
    obtain ⟨prs, pv, r, l1, l2, hp⟩ := pairs_two I t
    obtain ⟨its, rv, ht, _⟩ := I.tuple h
    obtain ⟨u, y, ei, ru, ry⟩ := vals2 rv
    subst ei
    refine ⟨(kv.1, y) :: prs, (u, y) :: pv, .cons ⟨rfl, ry⟩ r, by rw [List.length_cons, List.length_cons, l1], by rw [List.length_cons, List.length_cons, l2], fun j k v e => ?_⟩
    cases j with
    | zero =>
      cases (show (u, y) = (k, v) from Option.some.inj e)
      obtain ⟨o, h1, h2, n, h3⟩ := ht
      exact ⟨p, kv.1, rfl, ⟨o, h1, h2, n, h3⟩, rfl, kV_is (P := X.prog) (w := X.w) ru⟩
    | succ j =>
      obtain ⟨b, key, e1, e2, e3, e4⟩ := hp j k v (by simpa using e)
      exact ⟨b, key, by simpa using e1, e2, by simpa using e3, e4⟩
end
def pairD : D → Option (Key × D)
  | .tup [k, v] => (keyOf k).map fun j => (j, v)
  | .pr [k, v] => (keyOf k).map fun j => (j, v)
  | _ => none
def pairsD : List D → Option (List (Key × D))
  | [] => some []
  | d :: ds => (pairD d).bind fun p => (pairsD ds).map fun r => p :: r
def mergeD (ks : List Key) (ds : List D) : List (Key × D) → List Key × List D
  | [] => (ks, ds)
  | p :: r => mergeD (putD ks ds p.1 p.2).1 (putD ks ds p.1 p.2).2 r
theorem mergeD_rep {K : PySem.W.Frag} {G : Gx K} {ua : Option Addr} {B : Hp} : ∀ {ps : List (Key × D)} {kvs : List (Key × V)} {ks : List Key} {ds : List D} {vs : List V}, Paired (fun (p : Key × D) (q : Key × V) => p.1 = q.1 ∧ Rep G ua p.2 q.2 B) ps kvs → ks.Nodup → ks.length = vs.length → Reps G ua ds vs B →
    ∃ ws, mergeK (ks.zip vs) kvs = (mergeD ks ds ps).1.zip ws ∧ (mergeD ks ds ps).1.length = ws.length ∧ Reps G ua (mergeD ks ds ps).2 ws B ∧ (mergeD ks ds ps).1.Nodup
  | _, _, ks, ds, vs, .nil, hn, hl, r => ⟨vs, rfl, hl, r, hn⟩
  | _, _, ks, ds, vs, .cons (a := p) (b := q) h t, hn, hl, r => by
    obtain ⟨ws, q1, q2, q3, _, q5⟩ := putD_rep (j := p.1) h.2 hn hl r
    obtain ⟨ws', e1, e2, e3, e4⟩ := mergeD_rep t q5 q2 q3
    refine ⟨ws', ?_, e2, e3, e4⟩
    rw [← q1, h.1] at e1
    show mergeK (putK (ks.zip vs) q.1 q.2) _ = (mergeD (putD ks ds p.1 p.2).1 (putD ks ds p.1 p.2).2 _).1.zip ws'
    rw [h.1]
    exact e1
theorem pairD_rep {K : PySem.W.Frag} {G : Gx K} {ua : Option Addr} {B H : Hp} {d : D} {v : V} {p : Key × D} (s : Same B H) (h : pairD d = some p) (r : Rep G ua d v B) : ∃ b w, v = .ref b ∧ SqT K H b [kV p.1, w] ∧ Rep G ua p.2 w B := by
  unfold pairD at h
  split at h
  · rename_i k x
    obtain ⟨j, hj, rfl⟩ := map_some h
    obtain ⟨b, vs, rfl, hb, rs⟩ := r.tup
    obtain ⟨v1, t, rfl, r1, r2⟩ := rs.of_cons
    obtain ⟨v2, t, rfl, r3, r4⟩ := r2.of_cons
    rw [r4.of_nil, keyOf_rep hj r1] at hb
    exact ⟨b, v2, rfl, (hb.mono s).sq, r3⟩
  · rename_i k x
    obtain ⟨j, hj, rfl⟩ := map_some h
    obtain ⟨b, vs, rfl, hb, rs⟩ := r.pr
    obtain ⟨v1, t, rfl, r1, r2⟩ := rs.of_cons
    obtain ⟨v2, t, rfl, r3, r4⟩ := r2.of_cons
    rw [r4.of_nil, keyOf_rep hj r1] at hb
    exact ⟨b, v2, rfl, SqT.of (s _ _ hb), r3⟩
  · cases h
theorem pairsD_rep {K : PySem.W.Frag} {G : Gx K} {ua : Option Addr} {B H : Hp} (s : Same B H) : ∀ {ds : List D} {vs : List V} {ps : List (Key × D)}, pairsD ds = some ps → Reps G ua ds vs B →
    ∃ (as : List Addr) (kvs : List (Key × V)), vs = as.map V.ref ∧ Paired (fun p kv => SqT K H p [kV kv.1, kv.2]) as kvs ∧ Paired (fun (p : Key × D) (q : Key × V) => p.1 = q.1 ∧ Rep G ua p.2 q.2 B) ps kvs
  | [], vs, ps, h, r => by cases h; exact ⟨[], [], r.of_nil, .nil, .nil⟩
  | d :: ds, vs, ps, h, r => by
    obtain ⟨v, t, rfl, r1, r2⟩ := r.of_cons
    unfold pairsD at h
    obtain ⟨p, hp, h⟩ := Option.bind_eq_some_iff.mp h
    obtain ⟨rs, hr, rfl⟩ := map_some h
    obtain ⟨b, w, rfl, hb, rw'⟩ := pairD_rep s hp r1
    obtain ⟨as, kvs, rfl, q1, q2⟩ := pairsD_rep s hr r2
    exact ⟨b :: as, (p.1, w) :: kvs, rfl, .cons hb q1, .cons ⟨rfl, rw'⟩ q2⟩
end Dv
namespace Dv
open PySem PySem.Spec PyProof.Rows L2
section
variable {X : Cx} {G : Gx X.K} {e : Expr} {me : M} {p pos : Pos}
/-- the new dict, never to be changed -/
theorem cr_dictTF (hcalm : X.calm = true) : CallR X (.type "dict") (fun xs H Q => ∃ (a : Addr) (ps : List Addr) (kvs : List (Key × V)), xs = [.ref a] ∧ TupB H a (ps.map V.ref) ∧ Paired (fun p kv => SqT X.K H p [kV kv.1, kv.2]) ps kvs ∧
    ∀ p o, H p = none → Q (.ref p) (upd H p (.frz o (.dK (mergeK [] kvs))))) := by
  intro pins s σ H xs us Q I r q
  obtain ⟨a, ps, kvs, rfl, ⟨o, od, e⟩, hp, q⟩ := q
  obtain rfl := Vals.ref1 r
  obtain ⟨eo, z, its, rv, o', h1, h2, n, h3⟩ := I.hok _ _ e
  rw [eo] at h1
  cases h1
  have ei := refs_at rv
  subst ei
  rw [List.length_map] at z
  obtain ⟨prs, pv, rel, l1, l2, hpr⟩ := pairs_two I hp
  have items : PySem.PairItems s.heap (ps.map Value.ref).toArray (fun j => ps[j]?.getD 0) pv := by
    refine ⟨by simp [l2], fun j k v hj => ?_⟩
    obtain ⟨b, key, e1, e2, _⟩ := hpr j k v hj
    have eb : ps[j]?.getD 0 = b := by rw [e1]; rfl
    exact ⟨by simp [e1], by show PySem.PairAt s.heap (ps[j]?.getD 0) k v; rw [eb]; exact .inl e2⟩
  refine PySem.call_dict_pairs (knd := mixKind X.prog X.w) (kvs := prs) (PySem.PairArg.tuple a _ _ pv) (I.ok.hd hcalm) ⟨⟨o, n, eo, h2, od, h3⟩, items⟩ ⟨by rw [l1, l2], fun i key v hr => ?_⟩ (by rw [l2]; exact z) fun h' tk hd' k => ?_
  · obtain ⟨b, ky, _, _, e3, e4⟩ := hpr i key v hr
    exact ⟨ky, e3, e4⟩
  · have hm : (s.heap.objs.size == sysModules) = false := beq_eq_false_iff_ne.mpr (Nat.ne_of_gt I.big)
    have hlen : (mergeK [] kvs).length ≤ sizeLine := by
      have := length_mergeK kvs []
      have lk := rel.length
      simp only [List.length_nil] at this
      omega
    obtain ⟨ob, hob⟩ : ∃ ob, h'.get? s.heap.objs.size = some ob := by obtain ⟨q, _, _, hq, _⟩ := hd'; exact ⟨q, hq⟩
    exact ⟨.ref s.heap.objs.size, upd H s.heap.objs.size (.frz ob (.dK (mergeK [] kvs))), I.laid (t' := tk) (fun b o e => k b o (by simp) e) (Nat.le_refl _) (show ObjOk X.prog X.w _ _ _ (.frz ob (.dK (mergeK [] kvs))) from ⟨hob, hlen, hm, _, KV.merge rel .nil, hd'⟩), rfl, q _ ob (I.hok.fresh (Nat.le_refl _))⟩
/-- dict(e) of a tuple of pairs, new -/
def mDictP (m : M) : M := fun env u => bnd (m env u) fun d u1 => match d with
  | .tup ds => (match pairsD ds with
    | some ps => some (.dct (mergeD [] [] ps).1 (mergeD [] [] ps).2, u1)
    | none => none)
  | _ => none
theorem mDictP_eq {m : M} {env : List Sl} {u u1 : U} {ds : List D} {ps : List (Key × D)} (h : m env u = some (.tup ds, u1)) (h2 : pairsD ds = some ps) : mDictP m env u = some (.dct (mergeD [] [] ps).1 (mergeD [] [] ps).2, u1) := by
  unfold mDictP; rw [h]; show (match pairsD ds with | some ps => _ | none => none) = _; rw [h2]
theorem dv_dictP (hc : X.calm = true) (hg : Gl X "dict") (hm : X.mg "dict" = none) (ha : PE X e (tEv G me)) (he : starEach (e :: []) X.env = (false, eval e X.env) :: starEach [] X.env := by rfl) (hpl : (backTo pos (starEach [] X.env)).any (·.1) = false := by rfl) :
    PE X (.Call (.Name "dict" p) [e] [] pos) (tEv G (mDictP me)) :=
  (pe_callTy (cr_dictTF hc) hg hm (by decide +kernel) (pa_cons ha pa_nil he) (by decide) (by decide) he hpl).imp fun σ H Q z => by
  obtain ⟨ua, u, B, env, s, u', hE, hW, hm, q⟩ := z
  obtain ⟨d, u1, c1, c2⟩ := bnd_some hm
  refine ⟨ua, u, B, env, d, u1, hE, hW, c1, fun v H1 ⟨B1, g1, w1, r1⟩ => ?_⟩
  split at c2
  · rename_i ds
    split at c2
    · rename_i ps hps
      cases c2
      obtain ⟨a, ys, rfl, h, r3⟩ := r1.tup
      obtain ⟨as, kvs, rfl, q1, q2⟩ := pairsD_rep w1.sub hps r3
      obtain ⟨ws, m1, m2, m3, m4⟩ := mergeD_rep (ks := []) (ds := []) (vs := []) q2 List.nodup_nil rfl .nil
      refine ⟨a, as, kvs, rfl, h.mono w1.sub, q1, fun l ob hl => q _ _ ⟨upd B1 l (.frz ob (.dK (mergeK [] kvs))), g1.trans (.new1 w1 hl), w1.new1 hl, ?_⟩⟩
      have sh : Same B1 (upd B1 l (.frz ob (.dK (mergeK [] kvs)))) := fun b o e => by
        by_cases z : b = l
        · rw [z, w1.none_of hl] at e; cases e
        · rw [upd_ne z]; exact e
      unfold Rep
      exact ⟨l, ws, rfl, ⟨ob, by rw [upd_same]; exact congrArg (fun z => some (HO.frz ob (HO.dK z))) m1⟩, m2, m3.mono _ _ sh⟩
    · cases c2
  · cases c2
end
end Dv
namespace Dv
open PySem PySem.Spec PyProof.Rows L2
section
variable {X : Cx} {G : Gx X.K} {e o : Expr} {me mo : M} {pos : Pos}
theorem dt_din (hu : X.A.units + 1 < cLine) (hi : PE X e (tEv G me)) (ho : PE X o (tEv G mo)) (hm : behindInMarks .In o = false := by rfl) : PT X (.Compare e [.In] [o] pos) (tTst G (mTru (mBin (dinD false) me mo))) :=
  (pt_cmp (pc_din hu hi ho) hm).imp fun σ H Q h => by
  obtain ⟨ua, u, B, env, b, u', hE, hW, hm, q⟩ := h
  obtain ⟨d, u0, c0, c5⟩ := bnd_some hm
  obtain ⟨x, u1, c1, c2⟩ := bnd_some c0
  obtain ⟨y, u2, c3, c4⟩ := bnd_some c2
  obtain ⟨l4, rfl⟩ := lft_some c4
  refine ⟨ua, u, B, env, x, u1, hE, hW, c1, fun v H1 ⟨B1, g1, w1, r1⟩ => ⟨ua, u1, B1, env, y, _, hE.grow g1, w1, c3, fun v2 H2 ⟨B2, g2, w2, r2⟩ => ?_⟩⟩
  cases y with
  | dct ks ds =>
    have l4 : (keyOf x).map (fun key => D.bl (xor false (valD ks ds key).isSome)) = some d := l4
    cases hk : keyOf x with
    | none => rw [hk] at l4; cases l4
    | some key =>
      rw [hk] at l4
      cases l4
      obtain ⟨l2, rfl⟩ := lft_some c5
      cases l2
      obtain ⟨a, ov, rfl, hd, es⟩ := dct_get r2 w2.sub hk (r1.mono _ _ g2.pub)
      have z := q H2 ⟨B2, g1.trans g2, w2⟩
      have ez : xor false (valD ks ds key).isSome = ov.isSome := by rw [es]; cases (valD ks ds key).isSome <;> rfl
      rw [ez] at z
      exact ⟨a, ov, rfl, hd, _, rfl, z⟩
  | _ => cases l4
end
end Dv
namespace Lw98
open PySem PySem.Spec PyProof.Rows L2 Dv
def topS (i : Nat) : Stmt := PySem.Challenge.pw_lateshown_k98_whole_great_programs_one_b.main.body.getD i (.Pass ⟨0, 0, 0, 0⟩)
structure Tx (mg : Str → Option Value) : Prop where
  n_abs : mg ("abs" : Str) = none
  n_all : mg ("all" : Str) = none
  n_bool : mg ("bool" : Str) = none
  n_dict : mg ("dict" : Str) = none
  n_enumerate : mg ("enumerate" : Str) = none
  n_int : mg ("int" : Str) = none
  n_isinstance : mg ("isinstance" : Str) = none
  n_len : mg ("len" : Str) = none
  n_list : mg ("list" : Str) = none
  n_max : mg ("max" : Str) = none
  n_range : mg ("range" : Str) = none
  n_sorted : mg ("sorted" : Str) = none
  n_str : mg ("str" : Str) = none
  n_sum : mg ("sum" : Str) = none
  n_tuple : mg ("tuple" : Str) = none
  n_zip : mg ("zip" : Str) = none
  c_FLUSH : ∃ t, mg ("FLUSH" : Str) = some (.str ("flush" : Str) t)
  c_WRITE : ∃ t, mg ("WRITE" : Str) = some (.str ("write" : Str) t)
abbrev s_tupled : Stmt := topS 1
theorem sc_tupled : FnScope [("worth" : Str), ("part" : Str)] [("worth" : Str)] (defScope s_tupled) := ⟨rfl, rfl, rfl, by decide +kernel, rfl, by decide +kernel, by decide +kernel⟩
def m_tupled (F_tupled_ : List D → U → Option (D × U)) : MS := (sCons (sIf (mTru (mIsi ["list", "tuple"] (mVar 0))) (sCons (sRet (mBi bTuple (mCons (mLc (.one 1) [1] (mItems (mVar 0)) mYes (mCall 1 F_tupled_ (mCons (mVar 1) mNil))) mNil)))
    sNil) sNil)
    (sCons (sRet (mVar 0))
    sNil))
def FR_tupled : Nat → List D → U → Option (D × U)
  | 0 => fun _ _ => none
  | n + 1 => runB (m_tupled (FR_tupled n)) 2
theorem okR_tupled {P : Program} {w : World} {K : PySem.W.Frag} {mg : Str → Option Value} {base : Heap} {G : Gx K} (T : Tx mg) {f : Addr} {fd : FuncData} (F : Fun K ("tupled" : Str) ("tupled" : Str) s_tupled f fd) (hm : mg ("tupled" : Str) = some (.ref f)) (hb : Binds K fd [("worth" : Str)] [])  : ∀ n : Nat, FnOk P w K mg base CX0 (0 + n) f fd [("worth" : Str)] (spF G (FR_tupled n) 1)
  | 0 => ⟨fun _ _ _ _ h => (by obtain ⟨_, _, _, _, _, _, _, _, _, h, _⟩ := h; cases h), fun _ _ _ _ _ _ _ _ _ _ _ _ _ h => (by obtain ⟨_, _, _, _, _, _, _, _, _, h, _⟩ := h; cases h)⟩
  | n + 1 =>
    have nd := sc_tupled.nd
    have D_tupled : DefOk P w mg base G ("tupled" : Str) (0 + n) 1 (FR_tupled n) := ⟨f, fd, _, okR_tupled T F hm hb  n, hm, F.kp, hb⟩
    def_ok (k := 0 + n) F sc_tupled rfl fun cdv A outer s H E hr => (dss_cons (ds_if (dt_val (dv_isi2 rfl T.n_isinstance (dv_var 0) rfl T.n_list (by decide +kernel) rfl T.n_tuple (by decide +kernel))) (dss_cons (ds_ret (dv_ty ok_tuple rfl T.n_tuple (by decide +kernel) (dvs_cons (dv_lc (.one 1) [1] rfl nd (di_items (dv_var 0)) (blkOk_by (own := [(("part" : Str), 1)]) (N := [("worth" : Str), ("part" : Str)]) (sc := defScope s_tupled) (by decide +kernel)) rfl (by decide) (fun _ _ _ _ _ => (pg_name (i := 1) nd rfl (by first | exact Or.inl rfl | exact Or.inr rfl))) (fun _ _ _ _ _ => dts_no) (fun _ _ _ _ _ => (dv_call (D_tupled) hr rfl (dvs_cons (dv_var 1) dvs_nil)))) dvs_nil)))
    dss_nil) dss_nil)
    (dss_cons (ds_ret (dv_var 0))
    dss_nil))
abbrev s_counted : Stmt := topS 7
theorem sc_counted : FnScope [("many" : Str), ("stream" : Str), ("number" : Str)] [("many" : Str)] (defScope s_counted) := ⟨rfl, rfl, rfl, by decide +kernel, rfl, by decide +kernel, by decide +kernel⟩
def m_counted : MS := (sCons (sRet (mBi bTuple (mCons (mBi bSortB (mCons (mLc (.many [1, 2]) [1, 2] (mDItems (mVar 0)) (mTru (mBin cGt (mVar 2) (mC (.int (0))))) (mTup (mCons (mVar 1) (mCons (mVar 2) mNil)))) mNil)) mNil)))
    sNil)
def F_counted : List D → U → Option (D × U) := runB m_counted 3
theorem ok_counted {P : Program} {w : World} {K : PySem.W.Frag} {mg : Str → Option Value} {base : Heap} {G : Gx K} (T : Tx mg) {f : Addr} {fd : FuncData} (F : Fun K ("counted" : Str) ("counted" : Str) s_counted f fd)  : FnOk P w K mg base CX0 1 f fd [("many" : Str)] (spF G F_counted 1) :=
  have nd := sc_counted.nd
  def_ok F sc_counted rfl fun cdv A outer s H E hr => (dss_cons (ds_ret (dv_ty ok_tuple rfl T.n_tuple (by decide +kernel) (dvs_cons (dv_bi (ok_sortB (hU64 hr)) rfl T.n_sorted (by decide +kernel) (dvs_cons (dv_lc (.many [1, 2]) [1, 2] rfl nd (di_ditems (dv_var 0)) (blkOk_by (own := [(("stream" : Str), 1), (("number" : Str), 2)]) (N := [("many" : Str), ("stream" : Str), ("number" : Str)]) (sc := defScope s_counted) (by decide +kernel)) rfl (by decide) (fun _ _ _ _ _ => (pg_tup rfl (pgs_cons (pg_name (i := 1) nd rfl (by first | exact Or.inl rfl | exact Or.inr rfl)) (pgs_cons (pg_name (i := 2) nd rfl (by first | exact Or.inl rfl | exact Or.inr rfl)) pgs_nil)))) (fun _ _ _ _ _ => dts_one (dt_cmp ok_gt bf_gt (dv_var 2) dv_int)) (fun _ _ _ _ _ => (dv_tup (dvs_cons (dv_var 1) (dvs_cons (dv_var 2) dvs_nil))))) dvs_nil)) dvs_nil)))
    dss_nil)
abbrev s_is_write : Stmt := topS 9
theorem sc_is_write : FnScope [("deed" : Str), ("stream" : Str)] [("deed" : Str), ("stream" : Str)] (defScope s_is_write) := ⟨rfl, rfl, rfl, by decide +kernel, rfl, by decide +kernel, by decide +kernel⟩
def m_is_write : MS := (sCons (sRet (mAnd (mBin cEq (mBin ixD (mVar 0) (mC (.int (0)))) (mC (.str ("write" : Str)))) (mBin cEq (mBin ixD (mVar 0) (mC (.int (1)))) (mVar 1))))
    sNil)
def F_is_write : List D → U → Option (D × U) := runB m_is_write 2
theorem ok_is_write {P : Program} {w : World} {K : PySem.W.Frag} {mg : Str → Option Value} {base : Heap} {G : Gx K} (T : Tx mg) {f : Addr} {fd : FuncData} (F : Fun K ("is_write" : Str) ("is_write" : Str) s_is_write f fd)  : FnOk P w K mg base CX0 1 f fd [("deed" : Str), ("stream" : Str)] (spF G F_is_write 2) :=
  have nd := sc_is_write.nd
  def_ok F sc_is_write rfl fun cdv A outer s H E hr => (dss_cons (ds_ret (dv_and (dv_cmp (ok_eq (hU64 hr)) (dv_ix (dv_var 0) dv_int) (dv_gS rfl T.c_WRITE)) (dv_one _ (dv_cmp (ok_eq (hU64 hr)) (dv_ix (dv_var 0) dv_int) (dv_var 1)))))
    dss_nil)
abbrev s_how_many_in : Stmt := topS 10
theorem sc_how_many_in : FnScope [("deeds" : Str), ("stream" : Str), ("deed" : Str)] [("deeds" : Str), ("stream" : Str)] (defScope s_how_many_in) := ⟨rfl, rfl, rfl, by decide +kernel, rfl, by decide +kernel, by decide +kernel⟩
def m_how_many_in : MS := (sCons (sRet (mBi bSumL (mCons (mLc (.one 2) [2] (mItems (mVar 0)) (mTru (mCall 2 F_is_write (mCons (mVar 2) (mCons (mVar 1) mNil)))) (mBin ixD (mVar 2) (mC (.int (2))))) mNil)))
    sNil)
def F_how_many_in : List D → U → Option (D × U) := runB m_how_many_in 3
theorem ok_how_many_in {P : Program} {w : World} {K : PySem.W.Frag} {mg : Str → Option Value} {base : Heap} {G : Gx K} (T : Tx mg) {f : Addr} {fd : FuncData} (F : Fun K ("how_many_in" : Str) ("how_many_in" : Str) s_how_many_in f fd) (D_is_write : DefOk P w mg base G ("is_write" : Str) 1 2 F_is_write) : FnOk P w K mg base CX0 2 f fd [("deeds" : Str), ("stream" : Str)] (spF G F_how_many_in 2) :=
  have nd := sc_how_many_in.nd
  def_ok F sc_how_many_in rfl fun cdv A outer s H E hr => (dss_cons (ds_ret (dv_bi (ok_sumL (by rfl)) rfl T.n_sum (by decide +kernel) (dvs_cons (dv_lc (.one 2) [2] rfl nd (di_items (dv_var 0)) (blkOk_by (own := [(("deed" : Str), 2)]) (N := [("deeds" : Str), ("stream" : Str), ("deed" : Str)]) (sc := defScope s_how_many_in) (by decide +kernel)) rfl (by decide) (fun _ _ _ _ _ => (pg_name (i := 2) nd rfl (by first | exact Or.inl rfl | exact Or.inr rfl))) (fun _ _ _ _ _ => dts_one (dt_val (dv_call (D_is_write.mono (by decide)) hr rfl (dvs_cons (dv_var 2) (dvs_cons (dv_var 1) dvs_nil))))) (fun _ _ _ _ _ => (dv_ix (dv_var 2) dv_int))) dvs_nil)))
    dss_nil)
abbrev s_flushes_in : Stmt := topS 11
theorem sc_flushes_in : FnScope [("great" : Str), ("stream" : Str), ("place" : Str), ("deed" : Str)] [("great" : Str), ("stream" : Str)] (defScope s_flushes_in) := ⟨rfl, rfl, rfl, by decide +kernel, rfl, by decide +kernel, by decide +kernel⟩
def m_flushes_in : MS := (sCons (sRet (mLc (.many [2, 3]) [2, 3] (mEnumA (mVar 0)) (mAndB (mTru (mBin cEq (mBin ixD (mVar 3) (mC (.int (0)))) (mC (.str ("flush" : Str))))) (mTru (mBin cEq (mBin ixD (mVar 3) (mC (.int (1)))) (mVar 1)))) (mVar 2)))
    sNil)
def F_flushes_in : List D → U → Option (D × U) := runB m_flushes_in 4
theorem ok_flushes_in {P : Program} {w : World} {K : PySem.W.Frag} {mg : Str → Option Value} {base : Heap} {G : Gx K} (T : Tx mg) {f : Addr} {fd : FuncData} (F : Fun K ("flushes_in" : Str) ("flushes_in" : Str) s_flushes_in f fd)  : FnOk P w K mg base CX0 1 f fd [("great" : Str), ("stream" : Str)] (spF G F_flushes_in 2) :=
  have nd := sc_flushes_in.nd
  def_ok F sc_flushes_in rfl fun cdv A outer s H E hr => (dss_cons (ds_ret (dv_lc (.many [2, 3]) [2, 3] rfl nd (di_enumA rfl T.n_enumerate (dv_var 0)) (blkOk_by (own := [(("place" : Str), 2), (("deed" : Str), 3)]) (N := [("great" : Str), ("stream" : Str), ("place" : Str), ("deed" : Str)]) (sc := defScope s_flushes_in) (by decide +kernel)) rfl (by decide) (fun _ _ _ _ _ => (pg_tup rfl (pgs_cons (pg_name (i := 2) nd rfl (by first | exact Or.inl rfl | exact Or.inr rfl)) (pgs_cons (pg_name (i := 3) nd rfl (by first | exact Or.inl rfl | exact Or.inr rfl)) pgs_nil)))) (fun _ _ _ _ _ => dts_one (PW.pt (dw_and (dt_cmp (ok_eq (hU64 hr)) bf_eq (dv_ix (dv_var 3) dv_int) (dv_gS rfl T.c_FLUSH)) (dw_and1 (dt_cmp (ok_eq (hU64 hr)) bf_eq (dv_ix (dv_var 3) dv_int) (dv_var 1)))))) (fun _ _ _ _ _ => (dv_var 2))))
    dss_nil)
abbrev s_deed_of : Stmt := topS 12
theorem sc_deed_of : FnScope [("great" : Str), ("line" : Str), ("stream" : Str), ("number" : Str), ("place" : Str)] [("great" : Str), ("line" : Str)] (defScope s_deed_of) := ⟨rfl, rfl, rfl, by decide +kernel, rfl, by decide +kernel, by decide +kernel⟩
def m_deed_of : MS := (sCons (sTgt (.many [2, 3]) (mVar 1))
    (sCons (sIf (mNotB (mTru (mChain cLe cLe (mC (.int (1))) (mVar 3) (mCall 2 F_how_many_in (mCons (mVar 0) (mCons (mVar 2) mNil)))))) (sCons sNone
    sNil) sNil)
    (sCons (sRet (mBin ixD (mLc (.one 4) [4] (mRange1 (mBi bLen (mCons (mVar 0) mNil))) (mTru (mBin cLt (mCall 2 F_how_many_in (mCons (mSl (mVar 0) moNo (moAt (mVar 4))) (mCons (mVar 2) mNil))) (mVar 3))) (mVar 4)) (mNeg (mC (.int (1))))))
    sNil)))
def F_deed_of : List D → U → Option (D × U) := runB m_deed_of 5
theorem ok_deed_of {P : Program} {w : World} {K : PySem.W.Frag} {mg : Str → Option Value} {base : Heap} {G : Gx K} (T : Tx mg) {f : Addr} {fd : FuncData} (F : Fun K ("deed_of" : Str) ("deed_of" : Str) s_deed_of f fd) (D_how_many_in : DefOk P w mg base G ("how_many_in" : Str) 2 2 F_how_many_in) : FnOk P w K mg base CX0 3 f fd [("great" : Str), ("line" : Str)] (spF G F_deed_of 2) :=
  have nd := sc_deed_of.nd
  def_ok F sc_deed_of rfl fun cdv A outer s H E hr => (dss_cons (ds_tgt (.many [2, 3]) (dv_var 1) (pg_tup rfl (pgs_cons (pg_name (i := 2) nd rfl (by first | exact Or.inl rfl | exact Or.inr rfl)) (pgs_cons (pg_name (i := 3) nd rfl (by first | exact Or.inl rfl | exact Or.inr rfl)) pgs_nil))))
    (dss_cons (ds_if (dt_not (dt_chain ok_le ok_le bf_le dv_int (dv_var 3) (dv_call (D_how_many_in.mono (by decide)) hr rfl (dvs_cons (dv_var 0) (dvs_cons (dv_var 2) dvs_nil))))) (dss_cons ds_never
    dss_nil) dss_nil)
    (dss_cons (ds_ret (dv_ix (dv_lc (.one 4) [4] rfl nd (di_range1 rfl T.n_range (dv_bi ok_len rfl T.n_len (by decide +kernel) (dvs_cons (dv_var 0) dvs_nil))) (blkOk_by (own := [(("place" : Str), 4)]) (N := [("great" : Str), ("line" : Str), ("stream" : Str), ("number" : Str), ("place" : Str)]) (sc := defScope s_deed_of) (by decide +kernel)) rfl (by decide) (fun _ _ _ _ _ => (pg_name (i := 4) nd rfl (by first | exact Or.inl rfl | exact Or.inr rfl))) (fun _ _ _ _ _ => dts_one (dt_cmp ok_lt bf_lt (dv_call (D_how_many_in.mono (by decide)) hr rfl (dvs_cons (dv_sl (dv_var 0) do_no (do_at (dv_var 4))) (dvs_cons (dv_var 2) dvs_nil))) (dv_var 3))) (fun _ _ _ _ _ => (dv_var 4))) (dv_neg dv_int)))
    dss_nil)))
abbrev s_lines_of : Stmt := topS 13
theorem sc_lines_of : FnScope [("great" : Str), ("deed" : Str)] [("great" : Str)] (defScope s_lines_of) := ⟨rfl, rfl, rfl, by decide +kernel, rfl, by decide +kernel, by decide +kernel⟩
def m_lines_of : MS := (sCons (sRet (mCall 1 F_counted (mCons (mShow (vDC (.one 1) [1] (mItems (mVar 0)) mYes (mBin ixD (mVar 1) (mC (.int (1)))) (mCall 2 F_how_many_in (mCons (mVar 0) (mCons (mBin ixD (mVar 1) (mC (.int (1)))) mNil))))) mNil)))
    sNil)
def F_lines_of : List D → U → Option (D × U) := runB m_lines_of 2
theorem ok_lines_of {P : Program} {w : World} {K : PySem.W.Frag} {mg : Str → Option Value} {base : Heap} {G : Gx K} (T : Tx mg) {f : Addr} {fd : FuncData} (F : Fun K ("lines_of" : Str) ("lines_of" : Str) s_lines_of f fd) (D_counted : DefOk P w mg base G ("counted" : Str) 1 1 F_counted) (D_how_many_in : DefOk P w mg base G ("how_many_in" : Str) 2 2 F_how_many_in) : FnOk P w K mg base CX0 3 f fd [("great" : Str)] (spF G F_lines_of 1) :=
  have nd := sc_lines_of.nd
  def_ok F sc_lines_of rfl fun cdv A outer s H E hr => (dss_cons (ds_ret (dv_call (D_counted.mono (by decide)) hr rfl (dvs_cons (dv_show (dv_dc (.one 1) [1] rfl nd (di_items (dv_var 0)) (blkOk_by (own := [(("deed" : Str), 1)]) (N := [("great" : Str), ("deed" : Str)]) (sc := defScope s_lines_of) (by decide +kernel)) rfl (by decide) (fun _ _ _ _ _ => (pg_name (i := 1) nd rfl (by first | exact Or.inl rfl | exact Or.inr rfl))) (fun _ _ _ _ _ => dts_no) (fun _ _ _ _ _ => (dv_ix (dv_var 1) dv_int)) (fun _ _ _ _ _ => (dv_call (D_how_many_in.mono (by decide)) hr rfl (dvs_cons (dv_var 0) (dvs_cons (dv_ix (dv_var 1) dv_int) dvs_nil)))))) dvs_nil)))
    dss_nil)
abbrev s_ahead_of : Stmt := topS 14
theorem sc_ahead_of : FnScope [("great" : Str), ("line" : Str), ("stream" : Str), ("written" : Str), ("done" : Str), ("place" : Str)] [("great" : Str), ("line" : Str), ("stream" : Str)] (defScope s_ahead_of) := ⟨rfl, rfl, rfl, by decide +kernel, rfl, by decide +kernel, by decide +kernel⟩
def m_ahead_of : MS := (sCons (sSet 3 (mCall 2 F_deed_of (mCons (mVar 0) (mCons (mVar 1) mNil))))
    (sCons (sIf (mTru (mBin cEq (mVar 2) (mBin ixD (mVar 1) (mC (.int (0)))))) (sCons (sRet (mBin fSub (mBin ixD (mVar 1) (mC (.int (1)))) (mC (.int (1)))))
    sNil) sNil)
    (sCons (sSet 4 (mLc (.one 5) [5] (mItems (mCall 2 F_flushes_in (mCons (mVar 0) (mCons (mVar 2) mNil)))) (mTru (mBin cLt (mVar 5) (mVar 3))) (mVar 5)))
    (sCons (sRet (mIte (mTru (mVar 4)) (mCall 2 F_how_many_in (mCons (mSl (mVar 0) moNo (moAt (mBin ixD (mVar 4) (mNeg (mC (.int (1))))))) (mCons (mVar 2) mNil))) (mC (.int (0)))))
    sNil))))
def F_ahead_of : List D → U → Option (D × U) := runB m_ahead_of 6
theorem ok_ahead_of {P : Program} {w : World} {K : PySem.W.Frag} {mg : Str → Option Value} {base : Heap} {G : Gx K} (T : Tx mg) {f : Addr} {fd : FuncData} (F : Fun K ("ahead_of" : Str) ("ahead_of" : Str) s_ahead_of f fd) (D_deed_of : DefOk P w mg base G ("deed_of" : Str) 3 2 F_deed_of) (D_flushes_in : DefOk P w mg base G ("flushes_in" : Str) 1 2 F_flushes_in) (D_how_many_in : DefOk P w mg base G ("how_many_in" : Str) 2 2 F_how_many_in) : FnOk P w K mg base CX0 4 f fd [("great" : Str), ("line" : Str), ("stream" : Str)] (spF G F_ahead_of 3) :=
  have nd := sc_ahead_of.nd
  def_ok F sc_ahead_of rfl fun cdv A outer s H E hr => (dss_cons (ds_set 3 nd (dv_call (D_deed_of.mono (by decide)) hr rfl (dvs_cons (dv_var 0) (dvs_cons (dv_var 1) dvs_nil))))
    (dss_cons (ds_if (dt_cmp (ok_eq (hU64 hr)) bf_eq (dv_var 2) (dv_ix (dv_var 1) dv_int)) (dss_cons (ds_ret (dv_bin ok_sub (dv_ix (dv_var 1) dv_int) dv_int))
    dss_nil) dss_nil)
    (dss_cons (ds_setLc 4 (.one 5) [5] rfl nd (sw_true rfl rfl rfl (by decide +kernel)) (di_items (dv_call (D_flushes_in.mono (by decide)) hr rfl (dvs_cons (dv_var 0) (dvs_cons (dv_var 2) dvs_nil)))) (blkOk_by (own := [(("place" : Str), 5)]) (N := [("great" : Str), ("line" : Str), ("stream" : Str), ("written" : Str), ("done" : Str), ("place" : Str)]) (sc := defScope s_ahead_of) (by decide +kernel)) rfl (by decide) (fun _ _ _ _ _ => (pg_name (i := 5) nd rfl (by first | exact Or.inl rfl | exact Or.inr rfl))) (fun _ _ _ _ _ => dts_one (dt_cmp ok_lt bf_lt (dv_var 5) (dv_var 3))) (fun _ _ _ _ _ => (dv_var 5)))
    (dss_cons (ds_ret (dv_ite (dt_val (dv_var 4)) (dv_call (D_how_many_in.mono (by decide)) hr rfl (dvs_cons (dv_sl (dv_var 0) do_no (do_at (dv_ix (dv_var 4) (dv_neg dv_int)))) (dvs_cons (dv_var 2) dvs_nil))) dv_int))
    dss_nil))))
abbrev s_behind_of : Stmt := topS 15
theorem sc_behind_of : FnScope [("great" : Str), ("line" : Str), ("stream" : Str), ("written" : Str), ("to_come" : Str), ("place" : Str)] [("great" : Str), ("line" : Str), ("stream" : Str)] (defScope s_behind_of) := ⟨rfl, rfl, rfl, by decide +kernel, rfl, by decide +kernel, by decide +kernel⟩
def m_behind_of : MS := (sCons (sSet 3 (mCall 2 F_deed_of (mCons (mVar 0) (mCons (mVar 1) mNil))))
    (sCons (sIf (mTru (mBin cEq (mVar 2) (mBin ixD (mVar 1) (mC (.int (0)))))) (sCons (sRet (mBin fSub (mCall 2 F_how_many_in (mCons (mVar 0) (mCons (mVar 2) mNil))) (mBin ixD (mVar 1) (mC (.int (1))))))
    sNil) sNil)
    (sCons (sSet 4 (mLc (.one 5) [5] (mItems (mCall 2 F_flushes_in (mCons (mVar 0) (mCons (mBin ixD (mVar 1) (mC (.int (0)))) mNil)))) (mTru (mBin cGt (mVar 5) (mVar 3))) (mVar 5)))
    (sCons (sRet (mIte (mTru (mVar 4)) (mCall 2 F_how_many_in (mCons (mSl (mVar 0) (moAt (mBin ixD (mVar 4) (mC (.int (0))))) moNo) (mCons (mVar 2) mNil))) (mC (.int (0)))))
    sNil))))
def F_behind_of : List D → U → Option (D × U) := runB m_behind_of 6
theorem ok_behind_of {P : Program} {w : World} {K : PySem.W.Frag} {mg : Str → Option Value} {base : Heap} {G : Gx K} (T : Tx mg) {f : Addr} {fd : FuncData} (F : Fun K ("behind_of" : Str) ("behind_of" : Str) s_behind_of f fd) (D_deed_of : DefOk P w mg base G ("deed_of" : Str) 3 2 F_deed_of) (D_flushes_in : DefOk P w mg base G ("flushes_in" : Str) 1 2 F_flushes_in) (D_how_many_in : DefOk P w mg base G ("how_many_in" : Str) 2 2 F_how_many_in) : FnOk P w K mg base CX0 4 f fd [("great" : Str), ("line" : Str), ("stream" : Str)] (spF G F_behind_of 3) :=
  have nd := sc_behind_of.nd
  def_ok F sc_behind_of rfl fun cdv A outer s H E hr => (dss_cons (ds_set 3 nd (dv_call (D_deed_of.mono (by decide)) hr rfl (dvs_cons (dv_var 0) (dvs_cons (dv_var 1) dvs_nil))))
    (dss_cons (ds_if (dt_cmp (ok_eq (hU64 hr)) bf_eq (dv_var 2) (dv_ix (dv_var 1) dv_int)) (dss_cons (ds_ret (dv_bin ok_sub (dv_call (D_how_many_in.mono (by decide)) hr rfl (dvs_cons (dv_var 0) (dvs_cons (dv_var 2) dvs_nil))) (dv_ix (dv_var 1) dv_int)))
    dss_nil) dss_nil)
    (dss_cons (ds_setLc 4 (.one 5) [5] rfl nd (sw_true rfl rfl rfl (by decide +kernel)) (di_items (dv_call (D_flushes_in.mono (by decide)) hr rfl (dvs_cons (dv_var 0) (dvs_cons (dv_ix (dv_var 1) dv_int) dvs_nil)))) (blkOk_by (own := [(("place" : Str), 5)]) (N := [("great" : Str), ("line" : Str), ("stream" : Str), ("written" : Str), ("to_come" : Str), ("place" : Str)]) (sc := defScope s_behind_of) (by decide +kernel)) rfl (by decide) (fun _ _ _ _ _ => (pg_name (i := 5) nd rfl (by first | exact Or.inl rfl | exact Or.inr rfl))) (fun _ _ _ _ _ => dts_one (dt_cmp ok_gt bf_gt (dv_var 5) (dv_var 3))) (fun _ _ _ _ _ => (dv_var 5)))
    (dss_cons (ds_ret (dv_ite (dt_val (dv_var 4)) (dv_call (D_how_many_in.mono (by decide)) hr rfl (dvs_cons (dv_sl (dv_var 0) (do_at (dv_ix (dv_var 4) dv_int)) do_no) (dvs_cons (dv_var 2) dvs_nil))) dv_int))
    dss_nil))))
abbrev s_place_range : Stmt := topS 16
theorem sc_place_range : FnScope [("great" : Str), ("line" : Str), ("many" : Str), ("ahead" : Str), ("behind" : Str), ("stream" : Str), ("_" : Str), ("number" : Str)] [("great" : Str), ("line" : Str)] (defScope s_place_range) := ⟨rfl, rfl, rfl, by decide +kernel, rfl, by decide +kernel, by decide +kernel⟩
def m_place_range : MS := (sCons (sDrop (mCall 2 F_deed_of (mCons (mVar 0) (mCons (mVar 1) mNil))))
    (sCons (sSet 2 (mCall 1 F_lines_of (mCons (mVar 0) mNil)))
    (sCons (sSet 3 (mBi bSumL (mCons (mLc (.many [5, 6]) [5, 6] (mItems (mVar 2)) mYes (mCall 3 F_ahead_of (mCons (mVar 0) (mCons (mVar 1) (mCons (mVar 5) mNil))))) mNil)))
    (sCons (sSet 4 (mBi bSumL (mCons (mLc (.many [5, 6]) [5, 6] (mItems (mVar 2)) mYes (mCall 3 F_behind_of (mCons (mVar 0) (mCons (mVar 1) (mCons (mVar 5) mNil))))) mNil)))
    (sCons (sRet (mTup (mCons (mVar 3) (mCons (mBin fSub (mBin fSub (mBi bSumL (mCons (mLc (.many [6, 7]) [6, 7] (mItems (mVar 2)) mYes (mVar 7)) mNil)) (mC (.int (1)))) (mVar 4)) mNil))))
    sNil)))))
def F_place_range : List D → U → Option (D × U) := runB m_place_range 8
theorem ok_place_range {P : Program} {w : World} {K : PySem.W.Frag} {mg : Str → Option Value} {base : Heap} {G : Gx K} (T : Tx mg) {f : Addr} {fd : FuncData} (F : Fun K ("place_range" : Str) ("place_range" : Str) s_place_range f fd) (D_ahead_of : DefOk P w mg base G ("ahead_of" : Str) 4 3 F_ahead_of) (D_behind_of : DefOk P w mg base G ("behind_of" : Str) 4 3 F_behind_of) (D_deed_of : DefOk P w mg base G ("deed_of" : Str) 3 2 F_deed_of) (D_lines_of : DefOk P w mg base G ("lines_of" : Str) 3 1 F_lines_of) : FnOk P w K mg base CX0 5 f fd [("great" : Str), ("line" : Str)] (spF G F_place_range 2) :=
  have nd := sc_place_range.nd
  def_ok F sc_place_range rfl fun cdv A outer s H E hr => (dss_cons (ds_drop (dv_call (D_deed_of.mono (by decide)) hr rfl (dvs_cons (dv_var 0) (dvs_cons (dv_var 1) dvs_nil))))
    (dss_cons (ds_set 2 nd (dv_call (D_lines_of.mono (by decide)) hr rfl (dvs_cons (dv_var 0) dvs_nil)))
    (dss_cons (ds_set 3 nd (dv_bi (ok_sumL (by rfl)) rfl T.n_sum (by decide +kernel) (dvs_cons (dv_lc (.many [5, 6]) [5, 6] rfl nd (di_items (dv_var 2)) (blkOk_by (own := [(("stream" : Str), 5), (("_" : Str), 6)]) (N := [("great" : Str), ("line" : Str), ("many" : Str), ("ahead" : Str), ("behind" : Str), ("stream" : Str), ("_" : Str), ("number" : Str)]) (sc := defScope s_place_range) (by decide +kernel)) rfl (by decide) (fun _ _ _ _ _ => (pg_tup rfl (pgs_cons (pg_name (i := 5) nd rfl (by first | exact Or.inl rfl | exact Or.inr rfl)) (pgs_cons (pg_name (i := 6) nd rfl (by first | exact Or.inl rfl | exact Or.inr rfl)) pgs_nil)))) (fun _ _ _ _ _ => dts_no) (fun _ _ _ _ _ => (dv_call (D_ahead_of.mono (by decide)) hr rfl (dvs_cons (dv_var 0) (dvs_cons (dv_var 1) (dvs_cons (dv_var 5) dvs_nil)))))) dvs_nil)))
    (dss_cons (ds_set 4 nd (dv_bi (ok_sumL (by rfl)) rfl T.n_sum (by decide +kernel) (dvs_cons (dv_lc (.many [5, 6]) [5, 6] rfl nd (di_items (dv_var 2)) (blkOk_by (own := [(("stream" : Str), 5), (("_" : Str), 6)]) (N := [("great" : Str), ("line" : Str), ("many" : Str), ("ahead" : Str), ("behind" : Str), ("stream" : Str), ("_" : Str), ("number" : Str)]) (sc := defScope s_place_range) (by decide +kernel)) rfl (by decide) (fun _ _ _ _ _ => (pg_tup rfl (pgs_cons (pg_name (i := 5) nd rfl (by first | exact Or.inl rfl | exact Or.inr rfl)) (pgs_cons (pg_name (i := 6) nd rfl (by first | exact Or.inl rfl | exact Or.inr rfl)) pgs_nil)))) (fun _ _ _ _ _ => dts_no) (fun _ _ _ _ _ => (dv_call (D_behind_of.mono (by decide)) hr rfl (dvs_cons (dv_var 0) (dvs_cons (dv_var 1) (dvs_cons (dv_var 5) dvs_nil)))))) dvs_nil)))
    (dss_cons (ds_ret (dv_tup (dvs_cons (dv_var 3) (dvs_cons (dv_bin ok_sub (dv_bin ok_sub (dv_bi (ok_sumL (by rfl)) rfl T.n_sum (by decide +kernel) (dvs_cons (dv_lc (.many [6, 7]) [6, 7] rfl nd (di_items (dv_var 2)) (blkOk_by (own := [(("_" : Str), 6), (("number" : Str), 7)]) (N := [("great" : Str), ("line" : Str), ("many" : Str), ("ahead" : Str), ("behind" : Str), ("stream" : Str), ("_" : Str), ("number" : Str)]) (sc := defScope s_place_range) (by decide +kernel)) rfl (by decide) (fun _ _ _ _ _ => (pg_tup rfl (pgs_cons (pg_name (i := 6) nd rfl (by first | exact Or.inl rfl | exact Or.inr rfl)) (pgs_cons (pg_name (i := 7) nd rfl (by first | exact Or.inl rfl | exact Or.inr rfl)) pgs_nil)))) (fun _ _ _ _ _ => dts_no) (fun _ _ _ _ _ => (dv_var 7))) dvs_nil)) dv_int) (dv_var 4)) dvs_nil))))
    dss_nil)))))
abbrev s_stand : Stmt := topS 17
theorem sc_stand : FnScope [("great" : Str), ("one" : Str), ("other" : Str)] [("great" : Str), ("one" : Str), ("other" : Str)] (defScope s_stand) := ⟨rfl, rfl, rfl, by decide +kernel, rfl, by decide +kernel, by decide +kernel⟩
def m_stand : MS := (sCons (sDrop (mCall 2 F_deed_of (mCons (mVar 0) (mCons (mVar 1) mNil))))
    (sCons (sDrop (mCall 2 F_deed_of (mCons (mVar 0) (mCons (mVar 2) mNil))))
    (sCons (sIf (mTru (mBin cEq (mCall 1 (FR_tupled 6) (mCons (mVar 1) mNil)) (mCall 1 (FR_tupled 6) (mCons (mVar 2) mNil)))) (sCons (sRet (mC (.str ("same" : Str))))
    sNil) sNil)
    (sCons (sIf (mTru (mBin cGe (mCall 3 F_ahead_of (mCons (mVar 0) (mCons (mVar 2) (mCons (mBin ixD (mVar 1) (mC (.int (0)))) mNil)))) (mBin ixD (mVar 1) (mC (.int (1)))))) (sCons (sRet (mC (.str ("ahead" : Str))))
    sNil) sNil)
    (sCons (sRet (mIte (mTru (mBin cGe (mCall 3 F_ahead_of (mCons (mVar 0) (mCons (mVar 1) (mCons (mBin ixD (mVar 2) (mC (.int (0)))) mNil)))) (mBin ixD (mVar 2) (mC (.int (1)))))) (mC (.str ("behind" : Str))) (mC (.str ("either" : Str)))))
    sNil)))))
def F_stand : List D → U → Option (D × U) := runB m_stand 3
theorem ok_stand {P : Program} {w : World} {K : PySem.W.Frag} {mg : Str → Option Value} {base : Heap} {G : Gx K} (T : Tx mg) {f : Addr} {fd : FuncData} (F : Fun K ("stand" : Str) ("stand" : Str) s_stand f fd) (D_ahead_of : DefOk P w mg base G ("ahead_of" : Str) 4 3 F_ahead_of) (D_deed_of : DefOk P w mg base G ("deed_of" : Str) 3 2 F_deed_of) (D_tupled : DefOk P w mg base G ("tupled" : Str) 6 1 (FR_tupled 6)) : FnOk P w K mg base CX0 7 f fd [("great" : Str), ("one" : Str), ("other" : Str)] (spF G F_stand 3) :=
  have nd := sc_stand.nd
  def_ok F sc_stand rfl fun cdv A outer s H E hr => (dss_cons (ds_drop (dv_call (D_deed_of.mono (by decide)) hr rfl (dvs_cons (dv_var 0) (dvs_cons (dv_var 1) dvs_nil))))
    (dss_cons (ds_drop (dv_call (D_deed_of.mono (by decide)) hr rfl (dvs_cons (dv_var 0) (dvs_cons (dv_var 2) dvs_nil))))
    (dss_cons (ds_if (dt_cmp (ok_eq (hU64 hr)) bf_eq (dv_call (D_tupled.mono (by decide)) hr rfl (dvs_cons (dv_var 1) dvs_nil)) (dv_call (D_tupled.mono (by decide)) hr rfl (dvs_cons (dv_var 2) dvs_nil))) (dss_cons (ds_ret dv_str)
    dss_nil) dss_nil)
    (dss_cons (ds_if (dt_cmp ok_ge bf_ge (dv_call (D_ahead_of.mono (by decide)) hr rfl (dvs_cons (dv_var 0) (dvs_cons (dv_var 2) (dvs_cons (dv_ix (dv_var 1) dv_int) dvs_nil)))) (dv_ix (dv_var 1) dv_int)) (dss_cons (ds_ret dv_str)
    dss_nil) dss_nil)
    (dss_cons (ds_ret (dv_ite (dt_cmp ok_ge bf_ge (dv_call (D_ahead_of.mono (by decide)) hr rfl (dvs_cons (dv_var 0) (dvs_cons (dv_var 1) (dvs_cons (dv_ix (dv_var 2) dv_int) dvs_nil)))) (dv_ix (dv_var 2) dv_int)) dv_str dv_str))
    dss_nil)))))
abbrev s_most_held : Stmt := topS 18
theorem sc_most_held : FnScope [("great" : Str), ("stream" : Str), ("held" : Str), ("deed" : Str)] [("great" : Str), ("stream" : Str)] (defScope s_most_held) := ⟨rfl, rfl, rfl, by decide +kernel, rfl, by decide +kernel, by decide +kernel⟩
def m_most_held : MS := (sCons (sSv 2 (vLst (mCons (mC (.int (0))) mNil)))
    (sCons (sFor (.one 3) (mItems (mVar 0)) (sCons (sIf (mTru (mCall 2 F_is_write (mCons (mVar 3) (mCons (mVar 1) mNil)))) (sCons (sApp 2 (mBin fAdd (mPeek 2 (mBin ixD (mVar 2) (mNeg (mC (.int (1)))))) (mBin ixD (mVar 3) (mC (.int (2))))))
    sNil) (sCons (sIf (mTru (mBin cEq (mBin ixD (mVar 3) (mC (.int (1)))) (mVar 1))) (sCons (sApp 2 (mC (.int (0))))
    sNil) sNil)
    sNil))
    sNil))
    (sPub 2
    (sCons (sRet (mBi bMaxL (mCons (mVar 2) mNil)))
    sNil))))
def F_most_held : List D → U → Option (D × U) := runB m_most_held 4
theorem ok_most_held {P : Program} {w : World} {K : PySem.W.Frag} {mg : Str → Option Value} {base : Heap} {G : Gx K} (T : Tx mg) {f : Addr} {fd : FuncData} (F : Fun K ("most_held" : Str) ("most_held" : Str) s_most_held f fd) (D_is_write : DefOk P w mg base G ("is_write" : Str) 1 2 F_is_write) : FnOk P w K mg base CX0 2 f fd [("great" : Str), ("stream" : Str)] (spF G F_most_held 2) :=
  have nd := sc_most_held.nd
  def_ok F sc_most_held rfl fun cdv A outer s H E hr => (dss_cons (ds_setv 2 nd (dv_oLst (dvs_cons dv_int dvs_nil)))
    (dss_cons (ds_for (.one 3) PassesOwn.never rfl (di_items (dv_var 0)) (pg_name (i := 3) nd rfl (by first | exact Or.inl rfl | exact Or.inr rfl)) (dss_cons (ds_if (dt_val (dv_call (D_is_write.mono (by decide)) hr rfl (dvs_cons (dv_var 3) (dvs_cons (dv_var 1) dvs_nil)))) (dss_cons (ds_app 2 (dv_bin ok_add (dv_peek 2 (dv_ix (dv_var 2) (dv_neg dv_int))) (dv_ix (dv_var 3) dv_int)))
    dss_nil) (dss_cons (ds_if (dt_cmp (ok_eq (hU64 hr)) bf_eq (dv_ix (dv_var 3) dv_int) (dv_var 1)) (dss_cons (ds_app 2 dv_int)
    dss_nil) dss_nil)
    dss_nil))
    dss_nil))
    (dss_pub 2
    (dss_cons (ds_ret (dv_bi (ok_maxL (by rfl)) rfl T.n_max (by decide +kernel) (dvs_cons (dv_var 2) dvs_nil)))
    dss_nil))))
abbrev s__law_box : Stmt := topS 20
theorem sc__law_box : FnScope [("_law_script" : Str), ("_law_k" : Str), ("_law_cell" : Str)] [("_law_script" : Str), ("_law_k" : Str)] (defScope s__law_box) := ⟨rfl, rfl, rfl, by decide +kernel, rfl, by decide +kernel, by decide +kernel⟩
def m__law_box : MS := (sCons (sSet 2 (mIte (mTru (mBin cLt (mVar 1) (mBi bLen (mCons (mVar 0) mNil)))) (mBin ixD (mVar 0) (mVar 1)) (mC (.int (0)))))
    (sCons (sRet (mLst (mCons (mBin fMul (mBi bAbs (mCons (mVar 2) mNil)) (mBi bInt (mCons (mBin cGe (mBi bAbs (mCons (mVar 2) mNil)) (mBin fPow (mC (.int (10))) (mC (.int (18))))) mNil))) (mCons (mBin fAdd (mBin fAdd (mBin fMod (mBi bInt (mCons (mVar 2) mNil)) (mC (.int (2305843009213693951)))) (mBin fMul (mC (.int (39373))) (mVar 1))) (mC (.int (824198)))) (mCons (mC (.int (0))) mNil)))))
    sNil))
def F__law_box : List D → U → Option (D × U) := runB m__law_box 3
theorem ok__law_box {P : Program} {w : World} {K : PySem.W.Frag} {mg : Str → Option Value} {base : Heap} {G : Gx K} (T : Tx mg) {f : Addr} {fd : FuncData} (F : Fun K ("_law_box" : Str) ("_law_box" : Str) s__law_box f fd)  : FnOk P w K mg base CX0 1 f fd [("_law_script" : Str), ("_law_k" : Str)] (spF G F__law_box 2) :=
  have nd := sc__law_box.nd
  def_ok F sc__law_box rfl fun cdv A outer s H E hr => (dss_cons (ds_set 2 nd (dv_ite (dt_cmp ok_lt bf_lt (dv_var 1) (dv_bi ok_len rfl T.n_len (by decide +kernel) (dvs_cons (dv_var 0) dvs_nil))) (dv_ix (dv_var 0) (dv_var 1)) dv_int))
    (dss_cons (ds_ret (dv_lst (dvs_cons (dv_bin ok_mul (dv_bi ok_abs rfl T.n_abs (by decide +kernel) (dvs_cons (dv_var 2) dvs_nil)) (dv_ty ok_int rfl T.n_int (by decide +kernel) (dvs_cons (dv_cmp ok_ge (dv_bi ok_abs rfl T.n_abs (by decide +kernel) (dvs_cons (dv_var 2) dvs_nil)) (dv_bin ok_pow dv_int dv_int)) dvs_nil))) (dvs_cons (dv_bin ok_add (dv_bin ok_add (dv_bin ok_mod (dv_ty ok_int rfl T.n_int (by decide +kernel) (dvs_cons (dv_var 2) dvs_nil)) dv_int) (dv_bin ok_mul dv_int (dv_var 1))) dv_int) (dvs_cons dv_int dvs_nil)))))
    dss_nil))
abbrev s__law_take : Stmt := topS 21
theorem sc__law_take : FnScope [("_law_urn" : Str), ("_law_low_so" : Str), ("_law_drawn" : Str), ("_law_once" : Str), ("_law_far" : Str), ("_law_twice" : Str)] [("_law_urn" : Str), ("_law_low_so" : Str)] (defScope s__law_take) := ⟨rfl, rfl, rfl, by decide +kernel, rfl, by decide +kernel, by decide +kernel⟩
def m__law_take : MS := (sCons (sIf (mTru (mBin cGt (mUrn0 0) (mC (.int (0))))) (sCons (sSet 2 (mBin fMod (mBi bInt (mCons (mUrn0 0) mNil)) (mVar 1)))
    (sCons (sUrn0 0 (mBin fDivW (mUrn0 0) (mVar 1)))
    (sCons (sRet (mVar 2))
    sNil))) sNil)
    (sCons (sUrn2 0 (mBin fAdd (mUrn2 0) (mC (.int (1)))))
    (sCons (sSet 3 (mBin fMod (mBi bInt (mCons (mBin fMul (mBin fAdd (mUrn1 0) (mBin fMul (mC (.int (48271))) (mUrn2 0))) (mBin fAdd (mC (.int (39373))) (mUrn2 0))) mNil)) (mC (.int (2147483647)))))
    (sCons (sSet 4 (mBin fAdd (mBin fMod (mBi bInt (mCons (mVar 3) mNil)) (mC (.int (40009)))) (mC (.int (7)))))
    (sCons (sSet 5 (mBin fMod (mBi bInt (mCons (mBin fMul (mBin fAdd (mBin fAdd (mVar 3) (mUrn2 0)) (mBin fDivW (mUrn1 0) (mC (.int (1000003))))) (mVar 4)) mNil)) (mC (.int (2147483629)))))
    (sCons (sRet (mBin fMod (mBi bInt (mCons (mBin fDivW (mBin fMod (mBi bInt (mCons (mBin fAdd (mBin fMul (mVar 5) (mC (.int (48271)))) (mVar 3)) mNil)) (mC (.int (2147483587)))) (mC (.int (64)))) mNil)) (mVar 1)))
    sNil))))))
def F__law_take : List D → U → Option (D × U) := runB m__law_take 6
theorem ok__law_take {P : Program} {w : World} {K : PySem.W.Frag} {mg : Str → Option Value} {base : Heap} {G : Gx K} (T : Tx mg) {f : Addr} {fd : FuncData} (F : Fun K ("_law_take" : Str) ("_law_take" : Str) s__law_take f fd)  : FnOk P w K mg base CX0 1 f fd [("_law_urn" : Str), ("_law_low_so" : Str)] (spF G F__law_take 2) :=
  have nd := sc__law_take.nd
  def_ok F sc__law_take rfl fun cdv A outer s H E hr => (dss_cons (ds_if (dt_cmp ok_gt bf_gt (dv_urn0 0) dv_int) (dss_cons (ds_set 2 nd (dv_bin ok_mod (dv_ty ok_int rfl T.n_int (by decide +kernel) (dvs_cons (dv_urn0 0) dvs_nil)) (dv_var 1)))
    (dss_cons (ds_urn0 0 (dv_bin ok_divW (dv_urn0 0) (dv_var 1)))
    (dss_cons (ds_ret (dv_var 2))
    dss_nil))) dss_nil)
    (dss_cons (ds_urn2 0 (dv_bin ok_add (dv_urn2 0) dv_int))
    (dss_cons (ds_set 3 nd (dv_bin ok_mod (dv_ty ok_int rfl T.n_int (by decide +kernel) (dvs_cons (dv_bin ok_mul (dv_bin ok_add (dv_urn1 0) (dv_bin ok_mul dv_int (dv_urn2 0))) (dv_bin ok_add dv_int (dv_urn2 0))) dvs_nil)) dv_int))
    (dss_cons (ds_set 4 nd (dv_bin ok_add (dv_bin ok_mod (dv_ty ok_int rfl T.n_int (by decide +kernel) (dvs_cons (dv_var 3) dvs_nil)) dv_int) dv_int))
    (dss_cons (ds_set 5 nd (dv_bin ok_mod (dv_ty ok_int rfl T.n_int (by decide +kernel) (dvs_cons (dv_bin ok_mul (dv_bin ok_add (dv_bin ok_add (dv_var 3) (dv_urn2 0)) (dv_bin ok_divW (dv_urn1 0) dv_int)) (dv_var 4)) dvs_nil)) dv_int))
    (dss_cons (ds_ret (dv_bin ok_mod (dv_ty ok_int rfl T.n_int (by decide +kernel) (dvs_cons (dv_bin ok_divW (dv_bin ok_mod (dv_ty ok_int rfl T.n_int (by decide +kernel) (dvs_cons (dv_bin ok_add (dv_bin ok_mul (dv_var 5) dv_int) (dv_var 3)) dvs_nil)) dv_int) dv_int) dvs_nil)) (dv_var 1)))
    dss_nil))))))
abbrev s__law_of : Stmt := topS 23
theorem sc__law_of : FnScope [("_law_urn" : Str), ("_law_some_so" : Str)] [("_law_urn" : Str), ("_law_some_so" : Str)] (defScope s__law_of) := ⟨rfl, rfl, rfl, by decide +kernel, rfl, by decide +kernel, by decide +kernel⟩
def m__law_of : MS := (sCons (sRet (mBin ixD (mVar 1) (mCall 2 F__law_take (mCons (mVar 0) (mCons (mBi bLen (mCons (mVar 1) mNil)) mNil)))))
    sNil)
def F__law_of : List D → U → Option (D × U) := runB m__law_of 2
theorem ok__law_of {P : Program} {w : World} {K : PySem.W.Frag} {mg : Str → Option Value} {base : Heap} {G : Gx K} (T : Tx mg) {f : Addr} {fd : FuncData} (F : Fun K ("_law_of" : Str) ("_law_of" : Str) s__law_of f fd) (D__law_take : DefOk P w mg base G ("_law_take" : Str) 1 2 F__law_take) : FnOk P w K mg base CX0 2 f fd [("_law_urn" : Str), ("_law_some_so" : Str)] (spF G F__law_of 2) :=
  have nd := sc__law_of.nd
  def_ok F sc__law_of rfl fun cdv A outer s H E hr => (dss_cons (ds_ret (dv_ix (dv_var 1) (dv_call (D__law_take.mono (by decide)) hr rfl (dvs_cons (dv_var 0) (dvs_cons (dv_bi ok_len rfl T.n_len (by decide +kernel) (dvs_cons (dv_var 1) dvs_nil)) dvs_nil)))))
    dss_nil)
abbrev s__law_same : Stmt := topS 24
theorem sc__law_same : FnScope [("_law_got" : Str), ("_law_goal" : Str), ("_law_mine_so" : Str), ("_law_own" : Str)] [("_law_got" : Str), ("_law_goal" : Str)] (defScope s__law_same) := ⟨rfl, rfl, rfl, by decide +kernel, rfl, by decide +kernel, by decide +kernel⟩
def m__law_same (F__law_same_ : List D → U → Option (D × U)) : MS := (sCons (sIf (mTru (mIsi ["list", "tuple"] (mVar 1))) (sCons (sIf (mOrB (mTru (mBin cNe (mIsi ["list"] (mVar 0)) (mIsi ["list"] (mVar 1)))) (mTru (mBin cNe (mIsi ["tuple"] (mVar 0)) (mIsi ["tuple"] (mVar 1))))) (sCons (sRet (mC (.bl false)))
    sNil) sNil)
    (sCons (sRet (mAnd (mBin cEq (mBi bLen (mCons (mVar 0) mNil)) (mBi bLen (mCons (mVar 1) mNil))) (mBi bAll (mCons (mLc (.many [2, 3]) [2, 3] (mZip (mVar 0) (mVar 1)) mYes (mCall 2 F__law_same_ (mCons (mVar 2) (mCons (mVar 3) mNil)))) mNil))))
    sNil)) sNil)
    (sCons (sIf (mOrB (mTru (mBin cIs (mVar 1) (mC .non))) (mTru (mIsi ["bool", "str"] (mVar 1)))) (sCons (sRet (mAnd (mBin cEq (mVar 0) (mVar 1)) (mAnd (mBin cEq (mIsi ["bool"] (mVar 0)) (mIsi ["bool"] (mVar 1))) (mBin cEq (mBin cIs (mVar 0) (mC .non)) (mBin cIs (mVar 1) (mC .non))))))
    sNil) sNil)
    (sCons (sRet (mAnd (mIsi ["int"] (mVar 0)) (mAnd (mNot (mIsi ["bool"] (mVar 0))) (mBin cEq (mVar 0) (mVar 1)))))
    sNil)))
def FR__law_same : Nat → List D → U → Option (D × U)
  | 0 => fun _ _ => none
  | n + 1 => runB (m__law_same (FR__law_same n)) 4
theorem okR__law_same {P : Program} {w : World} {K : PySem.W.Frag} {mg : Str → Option Value} {base : Heap} {G : Gx K} (T : Tx mg) {f : Addr} {fd : FuncData} (F : Fun K ("_law_same" : Str) ("_law_same" : Str) s__law_same f fd) (hm : mg ("_law_same" : Str) = some (.ref f)) (hb : Binds K fd [("_law_got" : Str), ("_law_goal" : Str)] [])  : ∀ n : Nat, FnOk P w K mg base CX0 (0 + n) f fd [("_law_got" : Str), ("_law_goal" : Str)] (spF G (FR__law_same n) 2)
  | 0 => ⟨fun _ _ _ _ h => (by obtain ⟨_, _, _, _, _, _, _, _, _, h, _⟩ := h; cases h), fun _ _ _ _ _ _ _ _ _ _ _ _ _ h => (by obtain ⟨_, _, _, _, _, _, _, _, _, h, _⟩ := h; cases h)⟩
  | n + 1 =>
    have nd := sc__law_same.nd
    have D__law_same : DefOk P w mg base G ("_law_same" : Str) (0 + n) 2 (FR__law_same n) := ⟨f, fd, _, okR__law_same T F hm hb  n, hm, F.kp, hb⟩
    def_ok (k := 0 + n) F sc__law_same rfl fun cdv A outer s H E hr => (dss_cons (ds_if (dt_val (dv_isi2 rfl T.n_isinstance (dv_var 1) rfl T.n_list (by decide +kernel) rfl T.n_tuple (by decide +kernel))) (dss_cons (ds_if (PW.pt (dw_or (dt_cmp (ok_ne (hU64 hr)) bf_ne (dv_isi rfl T.n_isinstance (dv_var 0) rfl T.n_list (by decide +kernel)) (dv_isi rfl T.n_isinstance (dv_var 1) rfl T.n_list (by decide +kernel))) (dw_or1 (dt_cmp (ok_ne (hU64 hr)) bf_ne (dv_isi rfl T.n_isinstance (dv_var 0) rfl T.n_tuple (by decide +kernel)) (dv_isi rfl T.n_isinstance (dv_var 1) rfl T.n_tuple (by decide +kernel)))))) (dss_cons (ds_ret dv_bl)
    dss_nil) dss_nil)
    (dss_cons (ds_ret (dv_and (dv_cmp (ok_eq (hU64 hr)) (dv_bi ok_len rfl T.n_len (by decide +kernel) (dvs_cons (dv_var 0) dvs_nil)) (dv_bi ok_len rfl T.n_len (by decide +kernel) (dvs_cons (dv_var 1) dvs_nil))) (dv_one _ (dv_bi (ok_all (by rfl)) rfl T.n_all (by decide +kernel) (dvs_cons (dv_lc (.many [2, 3]) [2, 3] rfl nd (di_zip rfl T.n_zip (dv_var 0) (dv_var 1)) (blkOk_by (own := [(("_law_mine_so" : Str), 2), (("_law_own" : Str), 3)]) (N := [("_law_got" : Str), ("_law_goal" : Str), ("_law_mine_so" : Str), ("_law_own" : Str)]) (sc := defScope s__law_same) (by decide +kernel)) rfl (by decide) (fun _ _ _ _ _ => (pg_tup rfl (pgs_cons (pg_name (i := 2) nd rfl (by first | exact Or.inl rfl | exact Or.inr rfl)) (pgs_cons (pg_name (i := 3) nd rfl (by first | exact Or.inl rfl | exact Or.inr rfl)) pgs_nil)))) (fun _ _ _ _ _ => dts_no) (fun _ _ _ _ _ => (dv_call (D__law_same) hr rfl (dvs_cons (dv_var 2) (dvs_cons (dv_var 3) dvs_nil))))) dvs_nil)))))
    dss_nil)) dss_nil)
    (dss_cons (ds_if (PW.pt (dw_or (dt_cmp ok_is bf_is (dv_var 1) dv_non) (dw_or1 (dt_val (dv_isi2 rfl T.n_isinstance (dv_var 1) rfl T.n_bool (by decide +kernel) rfl T.n_str (by decide +kernel)))))) (dss_cons (ds_ret (dv_and (dv_cmp (ok_eq (hU64 hr)) (dv_var 0) (dv_var 1)) (dv_and (dv_cmp (ok_eq (hU64 hr)) (dv_isi rfl T.n_isinstance (dv_var 0) rfl T.n_bool (by decide +kernel)) (dv_isi rfl T.n_isinstance (dv_var 1) rfl T.n_bool (by decide +kernel))) (dv_one _ (dv_cmp (ok_eq (hU64 hr)) (dv_cmp ok_is (dv_var 0) dv_non) (dv_cmp ok_is (dv_var 1) dv_non))))))
    dss_nil) dss_nil)
    (dss_cons (ds_ret (dv_and (dv_isi rfl T.n_isinstance (dv_var 0) rfl T.n_int (by decide +kernel)) (dv_and (dv_not (dv_isi rfl T.n_isinstance (dv_var 0) rfl T.n_bool (by decide +kernel))) (dv_one _ (dv_cmp (ok_eq (hU64 hr)) (dv_var 0) (dv_var 1))))))
    dss_nil)))
abbrev s__law_wide : Stmt := topS 25
theorem sc__law_wide : FnScope [("_law_urn" : Str), ("_law_most" : Str), ("_law_deep" : Str), ("_law_found" : Str), ("_law_lap" : Str)] [("_law_urn" : Str), ("_law_most" : Str), ("_law_deep" : Str)] (defScope s__law_wide) := ⟨rfl, rfl, rfl, by decide +kernel, rfl, by decide +kernel, by decide +kernel⟩
def m__law_wide : MS := (sCons (sSv 3 (vLst mNil))
    (sCons (sFor (.one 4) (mRange1 (mCall 2 F__law_take (mCons (mVar 0) (mCons (mBin fAdd (mVar 2) (mC (.int (1)))) mNil)))) (sCons (sIf (mTru (mBin cEq (mCall 2 F__law_take (mCons (mVar 0) (mCons (mC (.int (3))) mNil))) (mC (.int (0))))) (sCons (sApp 3 (mTup (mCons (mC (.str ("flush" : Str))) (mCons (mCall 2 F__law_of (mCons (mVar 0) (mCons (mLst (mCons (mC (.str ("a" : Str))) (mCons (mC (.str ("b" : Str))) (mCons (mC (.str ("c" : Str))) mNil)))) mNil))) mNil))))
    sNil) (sCons (sApp 3 (mTup (mCons (mC (.str ("write" : Str))) (mCons (mCall 2 F__law_of (mCons (mVar 0) (mCons (mLst (mCons (mC (.str ("a" : Str))) (mCons (mC (.str ("b" : Str))) (mCons (mC (.str ("c" : Str))) (mCons (mC (.str ("b" : Str))) mNil))))) mNil))) (mCons (mBin fAdd (mC (.int (1))) (mCall 2 F__law_take (mCons (mVar 0) (mCons (mVar 1) mNil)))) mNil)))))
    sNil))
    sNil))
    (sPub 3
    (sCons (sRet (mBi bTuple (mCons (mVar 3) mNil)))
    sNil))))
def F__law_wide : List D → U → Option (D × U) := runB m__law_wide 5
theorem ok__law_wide {P : Program} {w : World} {K : PySem.W.Frag} {mg : Str → Option Value} {base : Heap} {G : Gx K} (T : Tx mg) {f : Addr} {fd : FuncData} (F : Fun K ("_law_wide" : Str) ("_law_wide" : Str) s__law_wide f fd) (D__law_of : DefOk P w mg base G ("_law_of" : Str) 2 2 F__law_of) (D__law_take : DefOk P w mg base G ("_law_take" : Str) 1 2 F__law_take) : FnOk P w K mg base CX0 3 f fd [("_law_urn" : Str), ("_law_most" : Str), ("_law_deep" : Str)] (spF G F__law_wide 3) :=
  have nd := sc__law_wide.nd
  def_ok F sc__law_wide rfl fun cdv A outer s H E hr => (dss_cons (ds_setv 3 nd (dv_oLst dvs_nil))
    (dss_cons (ds_for (.one 4) PassesOwn.never rfl (di_range1 rfl T.n_range (dv_call (D__law_take.mono (by decide)) hr rfl (dvs_cons (dv_var 0) (dvs_cons (dv_bin ok_add (dv_var 2) dv_int) dvs_nil)))) (pg_name (i := 4) nd rfl (by first | exact Or.inl rfl | exact Or.inr rfl)) (dss_cons (ds_if (dt_cmp (ok_eq (hU64 hr)) bf_eq (dv_call (D__law_take.mono (by decide)) hr rfl (dvs_cons (dv_var 0) (dvs_cons dv_int dvs_nil))) dv_int) (dss_cons (ds_app 3 (dv_tup (dvs_cons dv_str (dvs_cons (dv_call (D__law_of.mono (by decide)) hr rfl (dvs_cons (dv_var 0) (dvs_cons (dv_lst (dvs_cons dv_str (dvs_cons dv_str (dvs_cons dv_str dvs_nil)))) dvs_nil))) dvs_nil))))
    dss_nil) (dss_cons (ds_app 3 (dv_tup (dvs_cons dv_str (dvs_cons (dv_call (D__law_of.mono (by decide)) hr rfl (dvs_cons (dv_var 0) (dvs_cons (dv_lst (dvs_cons dv_str (dvs_cons dv_str (dvs_cons dv_str (dvs_cons dv_str dvs_nil))))) dvs_nil))) (dvs_cons (dv_bin ok_add dv_int (dv_call (D__law_take.mono (by decide)) hr rfl (dvs_cons (dv_var 0) (dvs_cons (dv_var 1) dvs_nil)))) dvs_nil)))))
    dss_nil))
    dss_nil))
    (dss_pub 3
    (dss_cons (ds_ret (dv_ty ok_tuple rfl T.n_tuple (by decide +kernel) (dvs_cons (dv_var 3) dvs_nil)))
    dss_nil))))
abbrev s__law_by_hand_right : Stmt := topS 26
theorem sc__law_by_hand_right : FnScope [("_law_far" : Str), ("_law_early" : Str), ("_law_late" : Str), ("_law_whole_so" : Str), ("_law_got" : Str), ("_law_goal" : Str)] [] (defScope s__law_by_hand_right) := ⟨rfl, rfl, rfl, by decide +kernel, rfl, by decide +kernel, by decide +kernel⟩
def m__law_by_hand_right : MS := (sCons (sSet 0 (mBin fPow (mC (.int (10))) (mC (.int (30)))))
    (sCons (sPar 1 2 (mTup (mCons (mTup (mCons (mC (.str ("write" : Str))) (mCons (mC (.str ("a" : Str))) (mCons (mVar 0) mNil)))) (mCons (mTup (mCons (mC (.str ("write" : Str))) (mCons (mC (.str ("b" : Str))) (mCons (mC (.int (2))) mNil)))) mNil))) (mTup (mCons (mTup (mCons (mC (.str ("write" : Str))) (mCons (mC (.str ("b" : Str))) (mCons (mC (.int (1))) mNil)))) (mCons (mTup (mCons (mC (.str ("write" : Str))) (mCons (mC (.str ("a" : Str))) (mCons (mVar 0) mNil)))) mNil))))
    (sCons (sSet 3 (mBin fAdd (mBin fAdd (mVar 1) (mTup (mCons (mTup (mCons (mC (.str ("flush" : Str))) (mCons (mC (.str ("a" : Str))) mNil))) (mCons (mTup (mCons (mC (.str ("flush" : Str))) (mCons (mC (.str ("b" : Str))) mNil))) mNil)))) (mVar 2)))
    (sCons (sSet 4 (mLst (mCons (mCall 2 F_place_range (mCons (mVar 2) (mCons (mTup (mCons (mC (.str ("b" : Str))) (mCons (mC (.int (1))) mNil))) mNil))) (mCons (mCall 2 F_place_range (mCons (mVar 3) (mCons (mTup (mCons (mC (.str ("b" : Str))) (mCons (mC (.int (3))) mNil))) mNil))) mNil))))
    (sCons (sSet 4 (mBin fAdd (mVar 4) (mLst (mCons (mCall 2 F_place_range (mCons (mVar 1) (mCons (mTup (mCons (mC (.str ("b" : Str))) (mCons (mC (.int (1))) mNil))) mNil))) (mCons (mCall 2 F_place_range (mCons (mVar 3) (mCons (mTup (mCons (mC (.str ("b" : Str))) (mCons (mC (.int (1))) mNil))) mNil))) mNil)))))
    (sCons (sSet 5 (mLst (mCons (mTup (mCons (mC (.int (0))) (mCons (mVar 0) mNil))) (mCons (mTup (mCons (mBin fAdd (mVar 0) (mC (.int (2)))) (mCons (mBin fAdd (mBin fMul (mC (.int (2))) (mVar 0)) (mC (.int (2)))) mNil))) (mCons (mTup (mCons (mC (.int (0))) (mCons (mVar 0) mNil))) (mCons (mTup (mCons (mC (.int (0))) (mCons (mVar 0) mNil))) mNil))))))
    (sCons (sSet 4 (mBin fAdd (mVar 4) (mLst (mCons (mCall 2 F_place_range (mCons (mBin fAdd (mVar 1) (mVar 2)) (mCons (mTup (mCons (mC (.str ("b" : Str))) (mCons (mC (.int (3))) mNil))) mNil))) (mCons (mCall 2 F_most_held (mCons (mBin fAdd (mVar 1) (mVar 2)) (mCons (mC (.str ("a" : Str))) mNil))) mNil)))))
    (sCons (sSet 4 (mBin fAdd (mVar 4) (mLst (mCons (mCall 2 F_most_held (mCons (mVar 3) (mCons (mC (.str ("a" : Str))) mNil))) (mCons (mCall 1 F_lines_of (mCons (mVar 3) mNil)) mNil)))))
    (sCons (sRet (mCall 2 (FR__law_same 6) (mCons (mVar 4) (mCons (mBin fAdd (mVar 5) (mLst (mCons (mTup (mCons (mC (.int (2))) (mCons (mBin fAdd (mBin fMul (mC (.int (2))) (mVar 0)) (mC (.int (2)))) mNil))) (mCons (mBin fMul (mC (.int (2))) (mVar 0)) (mCons (mVar 0) (mCons (mTup (mCons (mTup (mCons (mC (.str ("a" : Str))) (mCons (mBin fMul (mC (.int (2))) (mVar 0)) mNil))) (mCons (mTup (mCons (mC (.str ("b" : Str))) (mCons (mC (.int (3))) mNil))) mNil))) mNil)))))) mNil))))
    sNil)))))))))
def F__law_by_hand_right : List D → U → Option (D × U) := runB m__law_by_hand_right 6
theorem ok__law_by_hand_right {P : Program} {w : World} {K : PySem.W.Frag} {mg : Str → Option Value} {base : Heap} {G : Gx K} (T : Tx mg) {f : Addr} {fd : FuncData} (F : Fun K ("_law_by_hand_right" : Str) ("_law_by_hand_right" : Str) s__law_by_hand_right f fd) (D__law_same : DefOk P w mg base G ("_law_same" : Str) 6 2 (FR__law_same 6)) (D_lines_of : DefOk P w mg base G ("lines_of" : Str) 3 1 F_lines_of) (D_most_held : DefOk P w mg base G ("most_held" : Str) 2 2 F_most_held) (D_place_range : DefOk P w mg base G ("place_range" : Str) 5 2 F_place_range) : FnOk P w K mg base CX0 7 f fd [] (spF G F__law_by_hand_right 0) :=
  have nd := sc__law_by_hand_right.nd
  def_ok F sc__law_by_hand_right rfl fun cdv A outer s H E hr => (dss_cons (ds_set 0 nd (dv_bin ok_pow dv_int dv_int))
    (dss_cons (ds_par 1 2 (dv_tup (dvs_cons (dv_tup (dvs_cons dv_str (dvs_cons dv_str (dvs_cons (dv_var 0) dvs_nil)))) (dvs_cons (dv_tup (dvs_cons dv_str (dvs_cons dv_str (dvs_cons dv_int dvs_nil)))) dvs_nil))) (dv_tup (dvs_cons (dv_tup (dvs_cons dv_str (dvs_cons dv_str (dvs_cons dv_int dvs_nil)))) (dvs_cons (dv_tup (dvs_cons dv_str (dvs_cons dv_str (dvs_cons (dv_var 0) dvs_nil)))) dvs_nil))) (fun h => ps_par (i := 1) (j := 2) rfl nd rfl rfl (by decide) rfl rfl h (by rfl)))
    (dss_cons (ds_set 3 nd (dv_bin ok_add (dv_bin ok_add (dv_var 1) (dv_tup (dvs_cons (dv_tup (dvs_cons dv_str (dvs_cons dv_str dvs_nil))) (dvs_cons (dv_tup (dvs_cons dv_str (dvs_cons dv_str dvs_nil))) dvs_nil)))) (dv_var 2)))
    (dss_cons (ds_set 4 nd (dv_lst (dvs_cons (dv_call (D_place_range.mono (by decide)) hr rfl (dvs_cons (dv_var 2) (dvs_cons (dv_tup (dvs_cons dv_str (dvs_cons dv_int dvs_nil))) dvs_nil))) (dvs_cons (dv_call (D_place_range.mono (by decide)) hr rfl (dvs_cons (dv_var 3) (dvs_cons (dv_tup (dvs_cons dv_str (dvs_cons dv_int dvs_nil))) dvs_nil))) dvs_nil))))
    (dss_cons (ds_set 4 nd (dv_bin ok_add (dv_var 4) (dv_lst (dvs_cons (dv_call (D_place_range.mono (by decide)) hr rfl (dvs_cons (dv_var 1) (dvs_cons (dv_tup (dvs_cons dv_str (dvs_cons dv_int dvs_nil))) dvs_nil))) (dvs_cons (dv_call (D_place_range.mono (by decide)) hr rfl (dvs_cons (dv_var 3) (dvs_cons (dv_tup (dvs_cons dv_str (dvs_cons dv_int dvs_nil))) dvs_nil))) dvs_nil)))))
    (dss_cons (ds_set 5 nd (dv_lst (dvs_cons (dv_tup (dvs_cons dv_int (dvs_cons (dv_var 0) dvs_nil))) (dvs_cons (dv_tup (dvs_cons (dv_bin ok_add (dv_var 0) dv_int) (dvs_cons (dv_bin ok_add (dv_bin ok_mul dv_int (dv_var 0)) dv_int) dvs_nil))) (dvs_cons (dv_tup (dvs_cons dv_int (dvs_cons (dv_var 0) dvs_nil))) (dvs_cons (dv_tup (dvs_cons dv_int (dvs_cons (dv_var 0) dvs_nil))) dvs_nil))))))
    (dss_cons (ds_set 4 nd (dv_bin ok_add (dv_var 4) (dv_lst (dvs_cons (dv_call (D_place_range.mono (by decide)) hr rfl (dvs_cons (dv_bin ok_add (dv_var 1) (dv_var 2)) (dvs_cons (dv_tup (dvs_cons dv_str (dvs_cons dv_int dvs_nil))) dvs_nil))) (dvs_cons (dv_call (D_most_held.mono (by decide)) hr rfl (dvs_cons (dv_bin ok_add (dv_var 1) (dv_var 2)) (dvs_cons dv_str dvs_nil))) dvs_nil)))))
    (dss_cons (ds_set 4 nd (dv_bin ok_add (dv_var 4) (dv_lst (dvs_cons (dv_call (D_most_held.mono (by decide)) hr rfl (dvs_cons (dv_var 3) (dvs_cons dv_str dvs_nil))) (dvs_cons (dv_call (D_lines_of.mono (by decide)) hr rfl (dvs_cons (dv_var 3) dvs_nil)) dvs_nil)))))
    (dss_cons (ds_ret (dv_call (D__law_same.mono (by decide)) hr rfl (dvs_cons (dv_var 4) (dvs_cons (dv_bin ok_add (dv_var 5) (dv_lst (dvs_cons (dv_tup (dvs_cons dv_int (dvs_cons (dv_bin ok_add (dv_bin ok_mul dv_int (dv_var 0)) dv_int) dvs_nil))) (dvs_cons (dv_bin ok_mul dv_int (dv_var 0)) (dvs_cons (dv_var 0) (dvs_cons (dv_tup (dvs_cons (dv_tup (dvs_cons dv_str (dvs_cons (dv_bin ok_mul dv_int (dv_var 0)) dvs_nil))) (dvs_cons (dv_tup (dvs_cons dv_str (dvs_cons dv_int dvs_nil))) dvs_nil))) dvs_nil)))))) dvs_nil))))
    dss_nil)))))))))
abbrev s__law_counts : Stmt := topS 27
theorem sc__law_counts : FnScope [("_law_row_so" : Str)] [("_law_row_so" : Str)] (defScope s__law_counts) := ⟨rfl, rfl, rfl, by decide +kernel, rfl, by decide +kernel, by decide +kernel⟩
def m__law_counts : MS := (sCons (sRet (mDictP (mCall 1 F_lines_of (mCons (mVar 0) mNil))))
    sNil)
def F__law_counts : List D → U → Option (D × U) := runB m__law_counts 1
theorem ok__law_counts {P : Program} {w : World} {K : PySem.W.Frag} {mg : Str → Option Value} {base : Heap} {G : Gx K} (T : Tx mg) {f : Addr} {fd : FuncData} (F : Fun K ("_law_counts" : Str) ("_law_counts" : Str) s__law_counts f fd) (D_lines_of : DefOk P w mg base G ("lines_of" : Str) 3 1 F_lines_of) : FnOk P w K mg base CX0 4 f fd [("_law_row_so" : Str)] (spF G F__law_counts 1) :=
  have nd := sc__law_counts.nd
  def_ok F sc__law_counts rfl fun cdv A outer s H E hr => (dss_cons (ds_ret (dv_dictP rfl rfl T.n_dict (dv_call (D_lines_of.mono (by decide)) hr rfl (dvs_cons (dv_var 0) dvs_nil))))
    dss_nil)
abbrev s__law_right : Stmt := topS 28
theorem sc__law_right : FnScope [("_law_urn" : Str), ("_law_turn" : Str), ("_law_own" : Str), ("_law_early" : Str), ("_law_late" : Str), ("_law_calm" : Str), ("_law_loose" : Str), ("_law_first" : Str), ("_law_last" : Str), ("_law_whole_so" : Str), ("_law_added" : Str), ("_law_spot" : Str), ("_law_due" : Str), ("_law_got" : Str), ("_law_number_so" : Str), ("_law_after_so" : Str), ("_law_low" : Str), ("_law_high" : Str), ("_law_held_so" : Str), ("_law_far" : Str)] [("_law_urn" : Str)] (defScope s__law_right) := ⟨rfl, rfl, rfl, by decide +kernel, rfl, by decide +kernel, by decide +kernel⟩
def m__law_right : MS := (sCons (sIf (mNotB (mTru (mCall 0 F__law_by_hand_right mNil))) (sCons (sRet (mC (.bl false)))
    sNil) sNil)
    (sCons (sFor (.one 1) (mRange1 (mC (.int (8)))) (sCons (sTgtS [3, 4] (mLc (.one 2) [2] (mRange1 (mC (.int (2)))) mYes (mCall 3 F__law_wide (mCons (mVar 0) (mCons (mCall 2 F__law_of (mCons (mVar 0) (mCons (mLst (mCons (mC (.int (3))) (mCons (mBin fPow (mC (.int (10))) (mC (.int (30)))) mNil))) mNil))) (mCons (mC (.int (7))) mNil))))))
    (sCons (sTgt (.many [5, 6]) (mTup (mCons (mBin fAdd (mBin fAdd (mVar 3) (mTup (mCons (mTup (mCons (mC (.str ("flush" : Str))) (mCons (mC (.str ("a" : Str))) mNil))) (mCons (mTup (mCons (mC (.str ("flush" : Str))) (mCons (mC (.str ("b" : Str))) mNil))) (mCons (mTup (mCons (mC (.str ("flush" : Str))) (mCons (mC (.str ("c" : Str))) mNil))) mNil))))) (mVar 4)) (mCons (mBin fAdd (mVar 3) (mVar 4)) mNil))))
    (sCons (sTgt (.many [7, 8]) (mTup (mCons (mCall 1 F__law_counts (mCons (mVar 3) mNil)) (mCons (mCall 1 F__law_counts (mCons (mVar 4) mNil)) mNil))))
    (sCons (sSet 9 (mBi bSumL (mCons (mLc (.one 2) [2] (mItemsK (mVar 7)) mYes (mBin dixD (mVar 7) (mVar 2))) mNil)))
    (sCons (sSet 10 (mLc (.one 2) [2] (mItems (mC (.str ("abc" : Str)))) mYes (mTup (mCons (mVar 2) (mCons (mBin fAdd (mIte (mTru (mBin (dinD false) (mVar 2) (mVar 7))) (mBin dixD (mVar 7) (mVar 2)) (mC (.int (0)))) (mIte (mTru (mBin (dinD false) (mVar 2) (mVar 8))) (mBin dixD (mVar 8) (mVar 2)) (mC (.int (0))))) mNil)))))
    (sCons (sIf (mNotB (mTru (mCall 2 (FR__law_same 6) (mCons (mLst (mCons (mCall 1 F_lines_of (mCons (mVar 5) mNil)) (mCons (mCall 1 F_lines_of (mCons (mVar 6) mNil)) mNil))) (mCons (mBin fMul (mLst (mCons (mBi bTuple (mCons (mLc (.one 2) [2] (mItems (mVar 10)) (mTru (mBin cGt (mBin ixD (mVar 2) (mC (.int (1)))) (mC (.int (0))))) (mVar 2)) mNil)) mNil)) (mC (.int (2)))) mNil))))) (sCons (sRet (mC (.bl false)))
    sNil) sNil)
    (sCons (sFor (.one 2) (mItemsK (mVar 7)) (sCons (sSet 11 (mTup (mCons (mVar 2) (mCons (mBin fAdd (mC (.int (1))) (mCall 2 F__law_take (mCons (mVar 0) (mCons (mBin dixD (mVar 7) (mVar 2)) mNil)))) mNil))))
    (sCons (sSet 12 (mLc (.one 19) [19] (mItems (mC (.str ("abc" : Str)))) mYes (mCall 3 F_ahead_of (mCons (mVar 3) (mCons (mVar 11) (mCons (mVar 19) mNil))))))
    (sCons (sSet 13 (mLst (mCons (mLc (.one 19) [19] (mItems (mC (.str ("abc" : Str)))) mYes (mCall 3 F_ahead_of (mCons (mVar 5) (mCons (mVar 11) (mCons (mVar 19) mNil))))) (mCons (mLc (.one 19) [19] (mItems (mC (.str ("abc" : Str)))) mYes (mCall 3 F_ahead_of (mCons (mVar 6) (mCons (mVar 11) (mCons (mVar 19) mNil))))) mNil))))
    (sCons (sIf (mNotB (mTru (mCall 2 (FR__law_same 6) (mCons (mBin fAdd (mVar 13) (mLst (mCons (mCall 2 F_place_range (mCons (mVar 5) (mCons (mVar 11) mNil))) mNil))) (mCons (mLst (mCons (mVar 12) (mCons (mVar 12) (mCons (mCall 2 F_place_range (mCons (mVar 3) (mCons (mVar 11) mNil))) mNil)))) mNil))))) (sCons (sRet (mC (.bl false)))
    sNil) sNil)
    sNil)))))
    (sCons (sFor (.one 2) (mItemsK (mVar 8)) (sCons (sSet 14 (mBin fAdd (mC (.int (1))) (mCall 2 F__law_take (mCons (mVar 0) (mCons (mBin dixD (mVar 8) (mVar 2)) mNil)))))
    (sCons (sSet 15 (mTup (mCons (mVar 2) (mCons (mBin fAdd (mVar 14) (mIte (mTru (mBin (dinD false) (mVar 2) (mVar 7))) (mBin dixD (mVar 7) (mVar 2)) (mC (.int (0))))) mNil))))
    (sCons (sTgt (.many [16, 17]) (mCall 2 F_place_range (mCons (mVar 4) (mCons (mTup (mCons (mVar 2) (mCons (mVar 14) mNil))) mNil))))
    (sCons (sIf (mNotB (mTru (mCall 2 (FR__law_same 6) (mCons (mCall 2 F_place_range (mCons (mVar 5) (mCons (mVar 15) mNil))) (mCons (mTup (mCons (mBin fAdd (mVar 16) (mVar 9)) (mCons (mBin fAdd (mVar 17) (mVar 9)) mNil))) mNil))))) (sCons (sRet (mC (.bl false)))
    sNil) sNil)
    (sCons (sIf (mTru (mBin cNe (mLc (.one 19) [19] (mItemsK (mVar 7)) (mTru (mBin cNe (mCall 3 F_stand (mCons (mVar 5) (mCons (mTup (mCons (mVar 19) (mCons (mBin dixD (mVar 7) (mVar 19)) mNil))) (mCons (mVar 15) mNil)))) (mC (.str ("ahead" : Str))))) (mVar 19)) (mLst mNil))) (sCons (sRet (mC (.bl false)))
    sNil) sNil)
    (sCons (sSet 18 (mLst (mCons (mCall 2 F_most_held (mCons (mVar 3) (mCons (mVar 2) mNil))) (mCons (mCall 2 F_most_held (mCons (mVar 4) (mCons (mVar 2) mNil))) mNil))))
    (sCons (sIf (mOrB (mNotB (mTru (mBin cEq (mBi bMaxL (mCons (mVar 18) mNil)) (mCall 2 F_most_held (mCons (mVar 5) (mCons (mVar 2) mNil)))))) (mTru (mBin cLt (mCall 2 F_most_held (mCons (mVar 6) (mCons (mVar 2) mNil))) (mBi bMaxL (mCons (mVar 18) mNil))))) (sCons (sRet (mC (.bl false)))
    sNil) sNil)
    sNil))))))))
    sNil)))))))))
    (sCons (sRet (mC (.bl true)))
    sNil)))
def F__law_right : List D → U → Option (D × U) := runB m__law_right 20
theorem ok__law_right {P : Program} {w : World} {K : PySem.W.Frag} {mg : Str → Option Value} {base : Heap} {G : Gx K} (T : Tx mg) {f : Addr} {fd : FuncData} (F : Fun K ("_law_right" : Str) ("_law_right" : Str) s__law_right f fd) (D__law_by_hand_right : DefOk P w mg base G ("_law_by_hand_right" : Str) 7 0 F__law_by_hand_right) (D__law_counts : DefOk P w mg base G ("_law_counts" : Str) 4 1 F__law_counts) (D__law_of : DefOk P w mg base G ("_law_of" : Str) 2 2 F__law_of) (D__law_same : DefOk P w mg base G ("_law_same" : Str) 6 2 (FR__law_same 6)) (D__law_take : DefOk P w mg base G ("_law_take" : Str) 1 2 F__law_take) (D__law_wide : DefOk P w mg base G ("_law_wide" : Str) 3 3 F__law_wide) (D_ahead_of : DefOk P w mg base G ("ahead_of" : Str) 4 3 F_ahead_of) (D_lines_of : DefOk P w mg base G ("lines_of" : Str) 3 1 F_lines_of) (D_most_held : DefOk P w mg base G ("most_held" : Str) 2 2 F_most_held) (D_place_range : DefOk P w mg base G ("place_range" : Str) 5 2 F_place_range) (D_stand : DefOk P w mg base G ("stand" : Str) 7 3 F_stand) : FnOk P w K mg base CX0 8 f fd [("_law_urn" : Str)] (spF G F__law_right 1) :=
  have nd := sc__law_right.nd
  def_ok F sc__law_right rfl fun cdv A outer s H E hr => (dss_cons (ds_if (dt_not (dt_val (dv_call0 (D__law_by_hand_right.mono (by decide)) hr rfl))) (dss_cons (ds_ret dv_bl)
    dss_nil) dss_nil)
    (dss_cons (ds_for (.one 1) PassesOwn.never rfl (di_range1 rfl T.n_range dv_int) (pg_name (i := 1) nd rfl (by first | exact Or.inl rfl | exact Or.inr rfl)) (dss_cons (ds_tgtS [3, 4] (dv_lc (.one 2) [2] rfl nd (di_range1 rfl T.n_range dv_int) (blkOk_by (own := [(("_law_own" : Str), 2)]) (N := [("_law_urn" : Str), ("_law_turn" : Str), ("_law_own" : Str), ("_law_early" : Str), ("_law_late" : Str), ("_law_calm" : Str), ("_law_loose" : Str), ("_law_first" : Str), ("_law_last" : Str), ("_law_whole_so" : Str), ("_law_added" : Str), ("_law_spot" : Str), ("_law_due" : Str), ("_law_got" : Str), ("_law_number_so" : Str), ("_law_after_so" : Str), ("_law_low" : Str), ("_law_high" : Str), ("_law_held_so" : Str), ("_law_far" : Str)]) (sc := defScope s__law_right) (by decide +kernel)) rfl (by decide) (fun _ _ _ _ _ => (pg_name (i := 2) nd rfl (by first | exact Or.inl rfl | exact Or.inr rfl))) (fun _ _ _ _ _ => dts_no) (fun _ _ _ _ _ => (dv_call (D__law_wide.mono (by decide)) hr rfl (dvs_cons (dv_var 0) (dvs_cons (dv_call (D__law_of.mono (by decide)) hr rfl (dvs_cons (dv_var 0) (dvs_cons (dv_lst (dvs_cons dv_int (dvs_cons (dv_bin ok_pow dv_int dv_int) dvs_nil))) dvs_nil))) (dvs_cons dv_int dvs_nil)))))) (pg_sq rfl (pgs_cons (pg_name (i := 3) nd rfl (by first | exact Or.inl rfl | exact Or.inr rfl)) (pgs_cons (pg_name (i := 4) nd rfl (by first | exact Or.inl rfl | exact Or.inr rfl)) pgs_nil))))
    (dss_cons (ds_tgt (.many [5, 6]) (dv_tup (dvs_cons (dv_bin ok_add (dv_bin ok_add (dv_var 3) (dv_tup (dvs_cons (dv_tup (dvs_cons dv_str (dvs_cons dv_str dvs_nil))) (dvs_cons (dv_tup (dvs_cons dv_str (dvs_cons dv_str dvs_nil))) (dvs_cons (dv_tup (dvs_cons dv_str (dvs_cons dv_str dvs_nil))) dvs_nil))))) (dv_var 4)) (dvs_cons (dv_bin ok_add (dv_var 3) (dv_var 4)) dvs_nil))) (pg_tup rfl (pgs_cons (pg_name (i := 5) nd rfl (by first | exact Or.inl rfl | exact Or.inr rfl)) (pgs_cons (pg_name (i := 6) nd rfl (by first | exact Or.inl rfl | exact Or.inr rfl)) pgs_nil))))
    (dss_cons (ds_tgt (.many [7, 8]) (dv_tup (dvs_cons (dv_call (D__law_counts.mono (by decide)) hr rfl (dvs_cons (dv_var 3) dvs_nil)) (dvs_cons (dv_call (D__law_counts.mono (by decide)) hr rfl (dvs_cons (dv_var 4) dvs_nil)) dvs_nil))) (pg_tup rfl (pgs_cons (pg_name (i := 7) nd rfl (by first | exact Or.inl rfl | exact Or.inr rfl)) (pgs_cons (pg_name (i := 8) nd rfl (by first | exact Or.inl rfl | exact Or.inr rfl)) pgs_nil))))
    (dss_cons (ds_set 9 nd (dv_bi (ok_sumL (by rfl)) rfl T.n_sum (by decide +kernel) (dvs_cons (dv_lc (.one 2) [2] rfl nd (di_itemsK (dv_var 7)) (blkOk_by (own := [(("_law_own" : Str), 2)]) (N := [("_law_urn" : Str), ("_law_turn" : Str), ("_law_own" : Str), ("_law_early" : Str), ("_law_late" : Str), ("_law_calm" : Str), ("_law_loose" : Str), ("_law_first" : Str), ("_law_last" : Str), ("_law_whole_so" : Str), ("_law_added" : Str), ("_law_spot" : Str), ("_law_due" : Str), ("_law_got" : Str), ("_law_number_so" : Str), ("_law_after_so" : Str), ("_law_low" : Str), ("_law_high" : Str), ("_law_held_so" : Str), ("_law_far" : Str)]) (sc := defScope s__law_right) (by decide +kernel)) rfl (by decide) (fun _ _ _ _ _ => (pg_name (i := 2) nd rfl (by first | exact Or.inl rfl | exact Or.inr rfl))) (fun _ _ _ _ _ => dts_no) (fun _ _ _ _ _ => (dv_dix (hU1 hr) (dv_var 7) (dv_var 2)))) dvs_nil)))
    (dss_cons (ds_setLc 10 (.one 2) [2] rfl nd (sw_true rfl rfl rfl (by decide +kernel)) (di_items dv_str) (blkOk_by (own := [(("_law_own" : Str), 2)]) (N := [("_law_urn" : Str), ("_law_turn" : Str), ("_law_own" : Str), ("_law_early" : Str), ("_law_late" : Str), ("_law_calm" : Str), ("_law_loose" : Str), ("_law_first" : Str), ("_law_last" : Str), ("_law_whole_so" : Str), ("_law_added" : Str), ("_law_spot" : Str), ("_law_due" : Str), ("_law_got" : Str), ("_law_number_so" : Str), ("_law_after_so" : Str), ("_law_low" : Str), ("_law_high" : Str), ("_law_held_so" : Str), ("_law_far" : Str)]) (sc := defScope s__law_right) (by decide +kernel)) rfl (by decide) (fun _ _ _ _ _ => (pg_name (i := 2) nd rfl (by first | exact Or.inl rfl | exact Or.inr rfl))) (fun _ _ _ _ _ => dts_no) (fun _ _ _ _ _ => (dv_tup (dvs_cons (dv_var 2) (dvs_cons (dv_bin ok_add (dv_ite (dt_din (hU1 hr) (dv_var 2) (dv_var 7)) (dv_dix (hU1 hr) (dv_var 7) (dv_var 2)) dv_int) (dv_ite (dt_din (hU1 hr) (dv_var 2) (dv_var 8)) (dv_dix (hU1 hr) (dv_var 8) (dv_var 2)) dv_int)) dvs_nil)))))
    (dss_cons (ds_if (dt_not (dt_val (dv_call (D__law_same.mono (by decide)) hr rfl (dvs_cons (dv_lst (dvs_cons (dv_call (D_lines_of.mono (by decide)) hr rfl (dvs_cons (dv_var 5) dvs_nil)) (dvs_cons (dv_call (D_lines_of.mono (by decide)) hr rfl (dvs_cons (dv_var 6) dvs_nil)) dvs_nil))) (dvs_cons (dv_bin ok_mul (dv_lst (dvs_cons (dv_ty ok_tuple rfl T.n_tuple (by decide +kernel) (dvs_cons (dv_lc (.one 2) [2] rfl nd (di_items (dv_var 10)) (blkOk_by (own := [(("_law_own" : Str), 2)]) (N := [("_law_urn" : Str), ("_law_turn" : Str), ("_law_own" : Str), ("_law_early" : Str), ("_law_late" : Str), ("_law_calm" : Str), ("_law_loose" : Str), ("_law_first" : Str), ("_law_last" : Str), ("_law_whole_so" : Str), ("_law_added" : Str), ("_law_spot" : Str), ("_law_due" : Str), ("_law_got" : Str), ("_law_number_so" : Str), ("_law_after_so" : Str), ("_law_low" : Str), ("_law_high" : Str), ("_law_held_so" : Str), ("_law_far" : Str)]) (sc := defScope s__law_right) (by decide +kernel)) rfl (by decide) (fun _ _ _ _ _ => (pg_name (i := 2) nd rfl (by first | exact Or.inl rfl | exact Or.inr rfl))) (fun _ _ _ _ _ => dts_one (dt_cmp ok_gt bf_gt (dv_ix (dv_var 2) dv_int) dv_int)) (fun _ _ _ _ _ => (dv_var 2))) dvs_nil)) dvs_nil)) dv_int) dvs_nil))))) (dss_cons (ds_ret dv_bl)
    dss_nil) dss_nil)
    (dss_cons (ds_for (.one 2) PassesOwn.never rfl (di_itemsK (dv_var 7)) (pg_name (i := 2) nd rfl (by first | exact Or.inl rfl | exact Or.inr rfl)) (dss_cons (ds_set 11 nd (dv_tup (dvs_cons (dv_var 2) (dvs_cons (dv_bin ok_add dv_int (dv_call (D__law_take.mono (by decide)) hr rfl (dvs_cons (dv_var 0) (dvs_cons (dv_dix (hU1 hr) (dv_var 7) (dv_var 2)) dvs_nil)))) dvs_nil))))
    (dss_cons (ds_setLc 12 (.one 19) [19] rfl nd (sw_true rfl rfl rfl (by decide +kernel)) (di_items dv_str) (blkOk_by (own := [(("_law_far" : Str), 19)]) (N := [("_law_urn" : Str), ("_law_turn" : Str), ("_law_own" : Str), ("_law_early" : Str), ("_law_late" : Str), ("_law_calm" : Str), ("_law_loose" : Str), ("_law_first" : Str), ("_law_last" : Str), ("_law_whole_so" : Str), ("_law_added" : Str), ("_law_spot" : Str), ("_law_due" : Str), ("_law_got" : Str), ("_law_number_so" : Str), ("_law_after_so" : Str), ("_law_low" : Str), ("_law_high" : Str), ("_law_held_so" : Str), ("_law_far" : Str)]) (sc := defScope s__law_right) (by decide +kernel)) rfl (by decide) (fun _ _ _ _ _ => (pg_name (i := 19) nd rfl (by first | exact Or.inl rfl | exact Or.inr rfl))) (fun _ _ _ _ _ => dts_no) (fun _ _ _ _ _ => (dv_call (D_ahead_of.mono (by decide)) hr rfl (dvs_cons (dv_var 3) (dvs_cons (dv_var 11) (dvs_cons (dv_var 19) dvs_nil))))))
    (dss_cons (ds_set 13 nd (dv_lst (dvs_cons (dv_lc (.one 19) [19] rfl nd (di_items dv_str) (blkOk_by (own := [(("_law_far" : Str), 19)]) (N := [("_law_urn" : Str), ("_law_turn" : Str), ("_law_own" : Str), ("_law_early" : Str), ("_law_late" : Str), ("_law_calm" : Str), ("_law_loose" : Str), ("_law_first" : Str), ("_law_last" : Str), ("_law_whole_so" : Str), ("_law_added" : Str), ("_law_spot" : Str), ("_law_due" : Str), ("_law_got" : Str), ("_law_number_so" : Str), ("_law_after_so" : Str), ("_law_low" : Str), ("_law_high" : Str), ("_law_held_so" : Str), ("_law_far" : Str)]) (sc := defScope s__law_right) (by decide +kernel)) rfl (by decide) (fun _ _ _ _ _ => (pg_name (i := 19) nd rfl (by first | exact Or.inl rfl | exact Or.inr rfl))) (fun _ _ _ _ _ => dts_no) (fun _ _ _ _ _ => (dv_call (D_ahead_of.mono (by decide)) hr rfl (dvs_cons (dv_var 5) (dvs_cons (dv_var 11) (dvs_cons (dv_var 19) dvs_nil)))))) (dvs_cons (dv_lc (.one 19) [19] rfl nd (di_items dv_str) (blkOk_by (own := [(("_law_far" : Str), 19)]) (N := [("_law_urn" : Str), ("_law_turn" : Str), ("_law_own" : Str), ("_law_early" : Str), ("_law_late" : Str), ("_law_calm" : Str), ("_law_loose" : Str), ("_law_first" : Str), ("_law_last" : Str), ("_law_whole_so" : Str), ("_law_added" : Str), ("_law_spot" : Str), ("_law_due" : Str), ("_law_got" : Str), ("_law_number_so" : Str), ("_law_after_so" : Str), ("_law_low" : Str), ("_law_high" : Str), ("_law_held_so" : Str), ("_law_far" : Str)]) (sc := defScope s__law_right) (by decide +kernel)) rfl (by decide) (fun _ _ _ _ _ => (pg_name (i := 19) nd rfl (by first | exact Or.inl rfl | exact Or.inr rfl))) (fun _ _ _ _ _ => dts_no) (fun _ _ _ _ _ => (dv_call (D_ahead_of.mono (by decide)) hr rfl (dvs_cons (dv_var 6) (dvs_cons (dv_var 11) (dvs_cons (dv_var 19) dvs_nil)))))) dvs_nil))))
    (dss_cons (ds_if (dt_not (dt_val (dv_call (D__law_same.mono (by decide)) hr rfl (dvs_cons (dv_bin ok_add (dv_var 13) (dv_lst (dvs_cons (dv_call (D_place_range.mono (by decide)) hr rfl (dvs_cons (dv_var 5) (dvs_cons (dv_var 11) dvs_nil))) dvs_nil))) (dvs_cons (dv_lst (dvs_cons (dv_var 12) (dvs_cons (dv_var 12) (dvs_cons (dv_call (D_place_range.mono (by decide)) hr rfl (dvs_cons (dv_var 3) (dvs_cons (dv_var 11) dvs_nil))) dvs_nil)))) dvs_nil))))) (dss_cons (ds_ret dv_bl)
    dss_nil) dss_nil)
    dss_nil)))))
    (dss_cons (ds_for (.one 2) PassesOwn.never rfl (di_itemsK (dv_var 8)) (pg_name (i := 2) nd rfl (by first | exact Or.inl rfl | exact Or.inr rfl)) (dss_cons (ds_set 14 nd (dv_bin ok_add dv_int (dv_call (D__law_take.mono (by decide)) hr rfl (dvs_cons (dv_var 0) (dvs_cons (dv_dix (hU1 hr) (dv_var 8) (dv_var 2)) dvs_nil)))))
    (dss_cons (ds_set 15 nd (dv_tup (dvs_cons (dv_var 2) (dvs_cons (dv_bin ok_add (dv_var 14) (dv_ite (dt_din (hU1 hr) (dv_var 2) (dv_var 7)) (dv_dix (hU1 hr) (dv_var 7) (dv_var 2)) dv_int)) dvs_nil))))
    (dss_cons (ds_tgt (.many [16, 17]) (dv_call (D_place_range.mono (by decide)) hr rfl (dvs_cons (dv_var 4) (dvs_cons (dv_tup (dvs_cons (dv_var 2) (dvs_cons (dv_var 14) dvs_nil))) dvs_nil))) (pg_tup rfl (pgs_cons (pg_name (i := 16) nd rfl (by first | exact Or.inl rfl | exact Or.inr rfl)) (pgs_cons (pg_name (i := 17) nd rfl (by first | exact Or.inl rfl | exact Or.inr rfl)) pgs_nil))))
    (dss_cons (ds_if (dt_not (dt_val (dv_call (D__law_same.mono (by decide)) hr rfl (dvs_cons (dv_call (D_place_range.mono (by decide)) hr rfl (dvs_cons (dv_var 5) (dvs_cons (dv_var 15) dvs_nil))) (dvs_cons (dv_tup (dvs_cons (dv_bin ok_add (dv_var 16) (dv_var 9)) (dvs_cons (dv_bin ok_add (dv_var 17) (dv_var 9)) dvs_nil))) dvs_nil))))) (dss_cons (ds_ret dv_bl)
    dss_nil) dss_nil)
    (dss_cons (ds_if (dt_cmp (ok_ne (hU64 hr)) bf_ne (dv_lc (.one 19) [19] rfl nd (di_itemsK (dv_var 7)) (blkOk_by (own := [(("_law_far" : Str), 19)]) (N := [("_law_urn" : Str), ("_law_turn" : Str), ("_law_own" : Str), ("_law_early" : Str), ("_law_late" : Str), ("_law_calm" : Str), ("_law_loose" : Str), ("_law_first" : Str), ("_law_last" : Str), ("_law_whole_so" : Str), ("_law_added" : Str), ("_law_spot" : Str), ("_law_due" : Str), ("_law_got" : Str), ("_law_number_so" : Str), ("_law_after_so" : Str), ("_law_low" : Str), ("_law_high" : Str), ("_law_held_so" : Str), ("_law_far" : Str)]) (sc := defScope s__law_right) (by decide +kernel)) rfl (by decide) (fun _ _ _ _ _ => (pg_name (i := 19) nd rfl (by first | exact Or.inl rfl | exact Or.inr rfl))) (fun _ _ _ _ _ => dts_one (dt_cmp (ok_ne (hU64 hr)) bf_ne (dv_call (D_stand.mono (by decide)) hr rfl (dvs_cons (dv_var 5) (dvs_cons (dv_tup (dvs_cons (dv_var 19) (dvs_cons (dv_dix (hU1 hr) (dv_var 7) (dv_var 19)) dvs_nil))) (dvs_cons (dv_var 15) dvs_nil)))) dv_str)) (fun _ _ _ _ _ => (dv_var 19))) (dv_lst dvs_nil)) (dss_cons (ds_ret dv_bl)
    dss_nil) dss_nil)
    (dss_cons (ds_set 18 nd (dv_lst (dvs_cons (dv_call (D_most_held.mono (by decide)) hr rfl (dvs_cons (dv_var 3) (dvs_cons (dv_var 2) dvs_nil))) (dvs_cons (dv_call (D_most_held.mono (by decide)) hr rfl (dvs_cons (dv_var 4) (dvs_cons (dv_var 2) dvs_nil))) dvs_nil))))
    (dss_cons (ds_if (PW.pt (dw_or (dt_not (dt_cmp (ok_eq (hU64 hr)) bf_eq (dv_bi (ok_maxL (by rfl)) rfl T.n_max (by decide +kernel) (dvs_cons (dv_var 18) dvs_nil)) (dv_call (D_most_held.mono (by decide)) hr rfl (dvs_cons (dv_var 5) (dvs_cons (dv_var 2) dvs_nil))))) (dw_or1 (dt_cmp ok_lt bf_lt (dv_call (D_most_held.mono (by decide)) hr rfl (dvs_cons (dv_var 6) (dvs_cons (dv_var 2) dvs_nil))) (dv_bi (ok_maxL (by rfl)) rfl T.n_max (by decide +kernel) (dvs_cons (dv_var 18) dvs_nil)))))) (dss_cons (ds_ret dv_bl)
    dss_nil) dss_nil)
    dss_nil))))))))
    dss_nil)))))))))
    (dss_cons (ds_ret dv_bl)
    dss_nil)))
end Lw98
namespace Lw98
open PySem Dv
theorem fDivW_p {i j : Int} (h : 0 < j ∧ j.natAbs.log2 < 9000) : fDivW (.int i) (.int j) = some (.int (i / j)) := by simp only [fDivW]; rw [if_pos h]
theorem take_ok {n low : Int} {u : U} (h : OkU n u) (hn : n ≤ 2 ^ 40) (h0 : 0 < low) (h1 : low.natAbs.log2 < 9000) :
    ∃ r u', F__law_take [.urn, .int low] u = some (.int r, u') ∧ 0 ≤ r ∧ r < low ∧ OkU (n + 1) u' := by
  obtain ⟨ha, ⟨hb1, hb2⟩, hc1, hc2⟩ := h
  obtain ⟨a, b, c⟩ := u
  dsimp only at ha hb1 hb2 hc1 hc2
  by_cases q : 0 < a
  · refine ⟨a % low, ⟨a / low, b, c⟩, ?_, Int.emod_nonneg _ (by omega), Int.emod_lt_of_pos _ h0, ⟨Int.ediv_nonneg ha (by omega), ⟨hb1, hb2⟩, hc1, by show c ≤ n + 1; omega⟩⟩
    simp [F__law_take, runB, m__law_take, sCons, sIf, mTru, mBin, mUrn0, isUrn, bnd, lft, mC, cGt, truD, q, sSet, sRet, mBi, mCons, mNil, bInt, mVar, fMod_p h0, fDivW_p ⟨h0, h1⟩, sUrn0, sNil]
  · obtain ⟨k, hk⟩ : ∃ k, k = c + 1 := ⟨_, rfl⟩
    obtain ⟨once, ho⟩ : ∃ z, z = (b + 48271 * k) * (39373 + k) % 2147483647 := ⟨_, rfl⟩
    obtain ⟨far, hf⟩ : ∃ z, z = once % 40009 + 7 := ⟨_, rfl⟩
    obtain ⟨twice, ht⟩ : ∃ z, z = (once + k + b / 1000003) * far % 2147483629 := ⟨_, rfl⟩
    have o1 : 0 ≤ once ∧ once < 2147483647 := by rw [ho]; exact ⟨Int.emod_nonneg _ (by decide), Int.emod_lt_of_pos _ (by decide)⟩
    have f1 : 0 ≤ far ∧ far < 50000 := by omega
    have t1 : 0 ≤ twice ∧ twice < 2147483629 := by rw [ht]; exact ⟨Int.emod_nonneg _ (by decide), Int.emod_lt_of_pos _ (by decide)⟩
    have e0 := fMul_r (i := 48271) (j := k) (by omega)
    have e1 := fMul_r (i := b + 48271 * k) (j := 39373 + k) (by omega)
    have e2 := fMul_r (i := once + k + b / 1000003) (j := far) (by omega)
    have e3 := fMul_r (i := twice) (j := 48271) (by decide)
    have m1 := fMod_p (i := (b + 48271 * k) * (39373 + k)) (j := 2147483647) (by decide)
    have m2 := fMod_p (i := once) (j := 40009) (by decide)
    have m3 := fMod_p (i := (once + k + b / 1000003) * far) (j := 2147483629) (by decide)
    have m4 := fMod_p (i := twice * 48271 + once) (j := 2147483587) (by decide)
    have d1 := fDivW_p (i := b) (j := 1000003) (by decide +kernel)
    have d2 := fDivW_p (i := (twice * 48271 + once) % 2147483587) (j := 64) (by decide +kernel)
    rw [← ho] at m1
    rw [← ht] at m3
    refine ⟨(twice * 48271 + once) % 2147483587 / 64 % low, ⟨a, b, k⟩, ?_, Int.emod_nonneg _ (by omega), Int.emod_lt_of_pos _ h0, ⟨ha, ⟨hb1, hb2⟩, by show 0 ≤ k; omega, by show k ≤ n + 1; omega⟩⟩
    simp only [F__law_take, runB, m__law_take, sCons, sIf, mTru, mBin, mUrn0, mUrn1, mUrn2, isUrn, bnd, lft, mC, cGt, truD, q, sSet, sRet, mBi, mCons, mNil, bInt, mVar, fMod_p h0, fDivW_p ⟨h0, h1⟩, sUrn0, sUrn2, sNil, fAdd, List.map, List.length, List.replicate, List.append, List.cons_append, List.nil_append, List.getElem?_cons_zero, List.getElem?_cons_succ, List.set, decide_false, if_true, Bool.false_eq_true, if_false, ← hk, ← hf, e0, e1, e2, e3, m1, m2, m3, m4, d1, d2, Nat.reduceSub, List.replicate_succ, List.replicate_zero]
end Lw98
namespace Lw98
open PySem Dv L2
abbrev Gd := Str × Option Nat
def gD (d : Gd) : D := match d.2 with
  | none => .tup [.str ("flush" : Str), .str d.1]
  | some n => .tup [.str ("write" : Str), .str d.1, .int (n : Nat)]
def gT (ds : List Gd) : D := .tup (ds.map gD)
def wn (s : Str) (d : Gd) : Nat := match d.2 with
  | none => 0
  | some n => if d.1 = s then n else 0
def hm (ds : List Gd) (s : Str) : Nat := (ds.map (wn s)).sum
theorem hm_app (a b : List Gd) (s : Str) : hm (a ++ b) s = hm a s + hm b s := by unfold hm; rw [List.map_append, List.sum_append]
theorem hm_take (ds : List Gd) (p : Nat) (s : Str) : hm (ds.take p) s ≤ hm ds s := by
  have := hm_app (ds.take p) (ds.drop p) s
  rw [List.take_append_drop] at this
  omega
theorem is_write_ok {d : Gd} {s : Str} {u : U} : F_is_write [gD d, .str s] u = some (.bl (match d.2 with | none => false | some _ => decide (d.1 = s)), u) := by
  obtain ⟨x, y⟩ := d
  cases y with
  | none => exact runB_rt (sc_rt (sRet_eq (mAnd_f (x := .bl false) (mBin_eq (mBin_eq rfl rfl rfl) rfl (by
      show some (D.bl (decide (("flush" : Str) = ("write" : Str)))) = _
      rw [decide_eq_false (by decide +kernel)])) rfl)))
  | some n => exact runB_rt (sc_rt (sRet_eq (mAnd_t (x := .bl true) (mBin_eq (mBin_eq rfl rfl rfl) rfl (by
      show some (D.bl (decide (("write" : Str) = ("write" : Str)))) = _
      rw [decide_eq_true rfl])) rfl (mBin_eq (mBin_eq rfl rfl rfl) rfl rfl))))
def wB (s : Str) (d : Gd) : Bool := match d.2 with
  | none => false
  | some _ => decide (d.1 = s)
def wv (d : Gd) : Int := match d.2 with
  | none => 0
  | some n => (n : Nat)
theorem sum_hm (s : Str) : ∀ ds : List Gd, (((ds.filter (wB s)).map wv).sum : Int) = (hm ds s : Nat)
  | [] => rfl
  | d :: ds => by
    have ih := sum_hm s ds
    obtain ⟨x, y⟩ := d
    cases y with
    | none =>
      rw [List.filter_cons_of_neg (by simp [wB]), ih]
      unfold hm
      rw [List.map_cons, List.sum_cons]
      show _ = ((0 + _ : Nat) : Int)
      rw [Nat.zero_add]
    | some n =>
      unfold hm at ih ⊢
      rw [List.map_cons, List.sum_cons]
      by_cases h : x = s
      · rw [List.filter_cons_of_pos (by show decide (x = s) = true; exact decide_eq_true h), List.map_cons, List.sum_cons, ih]
        show ((n : Nat) : Int) + _ = (((if x = s then n else 0) + _ : Nat) : Int)
        rw [if_pos h]; omega
      · rw [List.filter_cons_of_neg (by show ¬ decide (x = s) = true; rw [decide_eq_false h]; decide), ih]
        show _ = (((if x = s then n else 0) + _ : Nat) : Int)
        rw [if_neg h]; omega
theorem how_ok {ds : List Gd} {s : Str} {u : U} (few : ds.length ≤ 900) : F_how_many_in [gT ds, .str s] u = some (.int (hm ds s : Nat), u) := by
  have hc : compL (turnL (.one 2) [2] [Sl.pub (gT ds), .pub (.str s), .no] (mTru (mCall 2 F_is_write (mCons (mVar 2) (mCons (mVar 1) mNil)))) (mBin ixD (mVar 2) (mC (.int (2))))) (ds.map gD) u = some ((ds.filter (wB s)).map (fun d => .int (wv d)), u) := compL_fm (P := wB s) fun d hd => by
    have e := is_write_ok (d := d) (s := s) (u := u)
    have hb : bindT (.one 2) (gD d) (wipeE [Sl.pub (gT ds), .pub (.str s), .no] [2]) = some [Sl.pub (gT ds), .pub (.str s), .pub (gD d)] := rfl
    obtain ⟨x, y⟩ := d
    cases y with
    | none =>
      rw [if_neg (by simp [wB])]
      exact turnL_n hb (mTru_eq (mCall_eq (mCons_eq rfl (c1 rfl)) rfl e) rfl)
    | some n =>
      have e : F_is_write [gD (x, some n), .str s] u = some (.bl (decide (x = s)), u) := e
      cases q : decide (x = s) with
      | false =>
        rw [q] at e
        rw [if_neg (show ¬ wB s (x, some n) = true from fun z => by have z : decide (x = s) = true := z; rw [q] at z; cases z)]
        exact turnL_n hb (mTru_eq (mCall_eq (mCons_eq rfl (c1 rfl)) rfl e) rfl)
      | true =>
        rw [q] at e
        rw [if_pos (show wB s (x, some n) = true from q)]
        exact turnL_c hb (mTru_eq (mCall_eq (mCons_eq rfl (c1 rfl)) rfl e) rfl) (mBin_eq rfl rfl rfl)
  have hs : bSumL [.lst ((ds.filter (wB s)).map fun d => .int (wv d))] = some (.int (hm ds s : Nat)) := by
    show (intsD _).map _ = _
    rw [show ((ds.filter (wB s)).map fun d => D.int (wv d)) = ((ds.filter (wB s)).map wv).map D.int by rw [List.map_map]; rfl, intsD_map]
    show some (D.int _) = _
    rw [sum_hm]
  have lf : (ds.filter (wB s)).length ≤ 900 := Nat.le_trans (List.length_filter_le _ _) few
  exact runB_rt (sc_rt (sRet_eq (mBi_eq (c1 (mLc_eq (mItems_eq rfl rfl) hc (by rw [List.length_map]; exact isiz (by omega)))) hs)))
def fB (s : Str) (p : Gd × Nat) : Bool := decide (p.1 = (s, none))
def fp (ds : List Gd) (s : Str) : List Nat := (ds.zipIdx.filter (fB s)).map (·.2)
theorem enum_zip : ∀ (ds : List Gd) (k : Nat), enumD k (ds.map gD) = (ds.zipIdx k).map fun p => .pr [.int (p.2 : Nat), gD p.1]
  | [], _ => rfl
  | d :: ds, k => by
    rw [List.map_cons, List.zipIdx_cons, List.map_cons]
    unfold enumD
    rw [enum_zip ds (k + 1)]
theorem fls_ok {ds : List Gd} {s : Str} {u : U} (few : ds.length ≤ 900) : F_flushes_in [gT ds, .str s] u = some (.lst ((fp ds s).map fun p => .int (p : Nat)), u) := by
  have hc : compL (turnL (.many [2, 3]) [2, 3] [Sl.pub (gT ds), .pub (.str s), .no, .no] (mAndB (mTru (mBin cEq (mBin ixD (mVar 3) (mC (.int (0)))) (mC (.str ("flush" : Str))))) (mTru (mBin cEq (mBin ixD (mVar 3) (mC (.int (1)))) (mVar 1)))) (mVar 2)) (ds.zipIdx.map fun p => .pr [.int (p.2 : Nat), gD p.1]) u = some ((ds.zipIdx.filter (fB s)).map (fun p => .int (p.2 : Nat)), u) := compL_fm (P := fB s) (g := fun p : Gd × Nat => .pr [.int (p.2 : Nat), gD p.1]) (h := fun p => .int (p.2 : Nat)) fun p hp => by
    obtain ⟨⟨x, y⟩, k⟩ := p
    have hb : bindT (.many [2, 3]) (.pr [.int (k : Nat), gD (x, y)]) (wipeE [Sl.pub (gT ds), .pub (.str s), .no, .no] [2, 3]) = some [Sl.pub (gT ds), .pub (.str s), .pub (.int (k : Nat)), .pub (gD (x, y))] := rfl
    cases y with
    | some n =>
      rw [if_neg (by show ¬ decide (((x, some n) : Gd) = (s, none)) = true; rw [decide_eq_false (fun z => by cases z)]; decide)]
      exact turnL_n hb (mAndB_f (mTru_eq (x := .bl false) (mBin_eq (mBin_eq rfl rfl rfl) rfl (by
        show some (D.bl (decide (("write" : Str) = ("flush" : Str)))) = _
        rw [decide_eq_false (by decide +kernel)])) rfl))
    | none =>
      have e1 : mTru (mBin cEq (mBin ixD (mVar 3) (mC (.int (0)))) (mC (.str ("flush" : Str)))) [Sl.pub (gT ds), .pub (.str s), .pub (.int (k : Nat)), .pub (gD (x, none))] u = some (true, u) := mTru_eq (x := .bl true) (mBin_eq (mBin_eq rfl rfl rfl) rfl (by
        show some (D.bl (decide (("flush" : Str) = ("flush" : Str)))) = _
        rw [decide_eq_true rfl])) rfl
      have e2 : mTru (mBin cEq (mBin ixD (mVar 3) (mC (.int (1)))) (mVar 1)) [Sl.pub (gT ds), .pub (.str s), .pub (.int (k : Nat)), .pub (gD (x, none))] u = some (decide (x = s), u) := mTru_eq (x := .bl (decide (x = s))) (mBin_eq (mBin_eq rfl rfl rfl) rfl rfl) rfl
      have ef : fB s ((x, none), k) = decide (x = s) := by
        unfold fB
        exact decide_eq_decide.mpr ⟨fun z => congrArg Prod.fst z, fun z => by rw [z]⟩
      cases q : decide (x = s) with
      | true =>
        rw [q] at e2 ef
        rw [if_pos ef]
        exact turnL_c hb (mAndB_t e1 e2) rfl
      | false =>
        rw [q] at e2 ef
        rw [if_neg (by rw [ef]; decide)]
        exact turnL_n hb (mAndB_t e1 e2)
  have lf : (ds.zipIdx.filter (fB s)).length ≤ 900 := Nat.le_trans (List.length_filter_le _ _) (by rw [List.length_zipIdx]; exact few)
  have := runB_rt (m := m_flushes_in) (L := 4) (ds := [gT ds, .str s]) (u := u) (sc_rt (sRet_eq (mLc_eq (mEnumA_t rfl) (by rw [enum_zip]; exact hc) (by rw [List.length_map]; exact isiz (by omega)))))
  unfold F_flushes_in
  rw [this]
  unfold fp
  rw [List.map_map]; rfl
def dofs (ds : List Gd) (s : Str) (num : Nat) : List Nat := (List.range ds.length).filter fun p => decide (hm (ds.take p) s < num)
theorem gT_take {ds : List Gd} {p : Nat} (h : p ≤ ds.length) : slD (gT ds) none (some (p : Int)) = some (gT (ds.take p)) := by
  show some (D.tup (cutD (ds.map gD) none (some (p : Int)))) = _
  rw [cutD_to (by rw [List.length_map]; exact h), ← List.map_take]; rfl
theorem gT_drop {ds : List Gd} {p : Nat} (h : p ≤ ds.length) : slD (gT ds) (some (p : Int)) none = some (gT (ds.drop p)) := by
  show some (D.tup (cutD (ds.map gD) (some (p : Int)) none)) = _
  rw [cutD_from (by rw [List.length_map]; exact h), ← List.map_drop]; rfl
def spotD (s : Str) (num : Nat) : D := .tup [.str s, .int (num : Nat)]
theorem range_nat (n : Nat) : rangeD 0 n = (List.range n).map fun p => D.int ((p : Nat) : Int) := by
  unfold rangeD
  exact List.map_congr_left fun p _ => by rw [Int.zero_add]
theorem deed_ok {ds : List Gd} {s : Str} {num w : Nat} {u : U} (few : ds.length ≤ 900) (h1 : 1 ≤ num) (h2 : num ≤ hm ds s) (hw : (dofs ds s num).getLast? = some w) : F_deed_of [gT ds, spotD s num] u = some (.int (w : Nat), u) := by
  have hh := how_ok (ds := ds) (s := s) (u := u) few
  have e1 : cLe (.int 1) (.int (num : Nat)) = some (.bl true) := by show some (D.bl (decide _)) = _; rw [decide_eq_true (by omega)]
  have e2 : cLe (.int (num : Nat)) (.int (hm ds s : Nat)) = some (.bl true) := by show some (D.bl (decide _)) = _; rw [decide_eq_true (by omega)]
  have hc : compL (turnL (.one 4) [4] [Sl.pub (gT ds), .pub (spotD s num), .pub (.str s), .pub (.int (num : Nat)), .no] (mTru (mBin cLt (mCall 2 F_how_many_in (mCons (mSl (mVar 0) moNo (moAt (mVar 4))) (mCons (mVar 2) mNil))) (mVar 3))) (mVar 4)) ((List.range ds.length).map fun p => .int ((p : Nat) : Int)) u = some ((dofs ds s num).map (fun p => .int (p : Nat)), u) := compL_fm (P := fun p => decide (hm (ds.take p) s < num)) fun p hp => by
    have hp := List.mem_range.mp hp
    have hb : bindT (.one 4) (.int (p : Nat)) (wipeE [Sl.pub (gT ds), .pub (spotD s num), .pub (.str s), .pub (.int (num : Nat)), .no] [4]) = some [Sl.pub (gT ds), .pub (spotD s num), .pub (.str s), .pub (.int (num : Nat)), .pub (.int (p : Nat))] := rfl
    have e := how_ok (ds := ds.take p) (s := s) (u := u) (by rw [List.length_take]; omega)
    have e3 : mTru (mBin cLt (mCall 2 F_how_many_in (mCons (mSl (mVar 0) moNo (moAt (mVar 4))) (mCons (mVar 2) mNil))) (mVar 3)) [Sl.pub (gT ds), .pub (spotD s num), .pub (.str s), .pub (.int (num : Nat)), .pub (.int (p : Nat))] u = some (decide (hm (ds.take p) s < num), u) := by
      refine mTru_eq (x := .bl (decide (((hm (ds.take p) s : Nat) : Int) < (num : Nat)))) (mBin_eq (mCall_eq (mCons_eq (mSl_eq rfl rfl (moAt_eq rfl) (gT_take (by omega))) (c1 rfl)) rfl e) rfl rfl) ?_
      show some (decide (((hm (ds.take p) s : Nat) : Int) < (num : Nat))) = _
      congr 1
      exact decide_eq_decide.mpr (by omega)
    cases q : decide (hm (ds.take p) s < num) with
    | true =>
      rw [q] at e3
      rw [if_pos rfl]
      exact turnL_c hb e3 rfl
    | false =>
      rw [q] at e3
      rw [if_neg (by decide)]
      exact turnL_n hb e3
  have lf : (dofs ds s num).length ≤ 900 := Nat.le_trans (List.length_filter_le _ _) (by rw [List.length_range]; exact few)
  have mr : mRange1 (mBi bLen (mCons (mVar 0) mNil)) [Sl.pub (gT ds), .pub (spotD s num), .pub (.str s), .pub (.int (num : Nat)), .no] u = some ((List.range ds.length).map fun p => .int ((p : Nat) : Int), u) := by
    have h := mRange1_eq (a := mBi bLen (mCons (mVar 0) mNil)) (env := [Sl.pub (gT ds), .pub (spotD s num), .pub (.str s), .pub (.int (num : Nat)), .no]) (u := u) (u1 := u) (j := (ds.length : Int)) (mBi_eq (c1 rfl) (show bLen [gT ds] = some (.int (ds.length : Nat)) by show bLen [.tup (ds.map gD)] = _; rw [len_t (by rw [List.length_map]; omega), List.length_map])) ⟨by omega, by omega⟩
    rw [h, Int.toNat_natCast, range_nat]
  exact runB_rt (sc_nx (env' := [Sl.pub (gT ds), .pub (spotD s num), .pub (.str s), .pub (.int (num : Nat)), .no]) (sTgt_eq rfl rfl) (sc_nx (sIf_f (mNotB_eq (k := true) (mTru_eq (mChain_t rfl rfl e1 (mCall_eq (mCons_eq rfl (c1 rfl)) rfl hh) e2) rfl)) rfl) (sc_rt (sRet_eq (mBin_eq (mLc_eq mr hc (by rw [List.length_map]; exact isiz (by omega))) (mNeg_eq rfl) (last_int hw))))))
end Lw98
namespace Lw98
open PySem Dv L2
abbrev abc3 : List Str := ["a", "b", "c"]
theorem abc_rise : Rising abc3 := by
  unfold Rising
  decide +kernel
theorem abc_tx : ∀ s ∈ abc3, TxO s := by
  show ∀ s ∈ abc3, PyData.strOk s = true
  decide +kernel
def Str3 (ds : List Gd) : Prop := ∀ d ∈ ds, d.1 ∈ abc3
theorem hm_out {s : Str} : ∀ {ds : List Gd}, (∀ d ∈ ds, d.1 ≠ s) → hm ds s = 0
  | [], _ => rfl
  | d :: ds, h => by
    have ih := hm_out (s := s) (ds := ds) fun e he => h e (List.mem_cons_of_mem _ he)
    unfold hm at ih ⊢
    rw [List.map_cons, List.sum_cons, ih]
    obtain ⟨x, y⟩ := d
    cases y with
    | none => rfl
    | some n =>
      show (if x = s then n else 0) + 0 = 0
      rw [if_neg (h _ List.mem_cons_self)]
abbrev hI (ds : List Gd) (s : Str) : Int := (hm ds s : Nat)
def putAll (ds : List Gd) (es : List Gd) (al : Al) : Al := es.foldl (fun al d => putA d.1 (hI ds d.1) al) al
theorem put_get (ds : List Gd) (x : Str) : ∀ (es : List Gd) (al : Al), getA x (putAll ds es al) = if x ∈ es.map (·.1) then some (hI ds x) else getA x al
  | [], al => by simp [putAll]
  | d :: es, al => by
    have ih := put_get ds x es (putA d.1 (hI ds d.1) al)
    show getA x (putAll ds es (putA d.1 (hI ds d.1) al)) = _
    rw [ih, get_put, List.map_cons]
    by_cases h : x = d.1
    · rw [if_pos h, if_pos (List.mem_cons.mpr (.inl h)), h]
      split <;> rfl
    · rw [if_neg h]
      by_cases h2 : x ∈ es.map (·.1)
      · rw [if_pos h2, if_pos (List.mem_cons_of_mem _ h2)]
      · rw [if_neg h2, if_neg (fun z => (List.mem_cons.mp z).elim h h2)]
theorem put_nd (ds : List Gd) : ∀ (es : List Gd) (al : Al), NdA al → NdA (putAll ds es al)
  | [], al, h => h
  | d :: es, al, h => put_nd ds es _ (h.put _ _)
theorem put_few (ds : List Gd) : ∀ (es : List Gd) (al : Al), (putAll ds es al).length ≤ al.length + es.length
  | [], al => Nat.le_refl _
  | d :: es, al => by
    have h1 := put_few ds es (putA d.1 (hI ds d.1) al)
    have h2 := put_len d.1 (hI ds d.1) al
    rw [List.length_cons]
    show (putAll ds es (putA d.1 (hI ds d.1) al)).length ≤ _
    omega
theorem fold_al {ds : List Gd} {u : U} (few : ds.length ≤ 500) : ∀ (es : List Gd) (al : Al), al.length + es.length ≤ 900 →
    foldD (turnD (.one 1) [1] [Sl.pub (gT ds), .no] mYes (mBin ixD (mVar 1) (mC (.int (1)))) (mCall 2 F_how_many_in (mCons (mVar 0) (mCons (mBin ixD (mVar 1) (mC (.int (1)))) mNil)))) (es.map gD) (alK al) (alD al) u = some ((alK (putAll ds es al), alD (putAll ds es al)), u)
  | [], al, _ => rfl
  | d :: es, al, hl => by
    have hh := how_ok (ds := ds) (s := d.1) (u := u) (by omega)
    have ht : turnD (.one 1) [1] [Sl.pub (gT ds), .no] mYes (mBin ixD (mVar 1) (mC (.int (1)))) (mCall 2 F_how_many_in (mCons (mVar 0) (mCons (mBin ixD (mVar 1) (mC (.int (1)))) mNil))) (gD d) u = some (some (.inr d.1, .int (hI ds d.1)), u) := by
      have ix : ixD (gD d) (.int 1) = some (.str d.1) := by
        obtain ⟨x, y⟩ := d
        cases y <;> rfl
      have k1 : mBin ixD (mVar 1) (mC (.int (1))) [Sl.pub (gT ds), .pub (gD d)] u = some (.str d.1, u) := mBin_eq rfl rfl ix
      have k2 : mCall 2 F_how_many_in (mCons (mVar 0) (mCons (mBin ixD (mVar 1) (mC (.int (1)))) mNil)) [Sl.pub (gT ds), .pub (gD d)] u = some (.int (hI ds d.1), u) := mCall_eq (mCons_eq rfl (c1 k1)) rfl hh
      unfold turnD
      show bnd (mYes [Sl.pub (gT ds), .pub (gD d)] u) _ = _
      show bnd (mBin ixD (mVar 1) (mC (.int (1))) [Sl.pub (gT ds), .pub (gD d)] u) _ = _
      rw [k1]
      show bnd (mCall 2 F_how_many_in (mCons (mVar 0) (mCons (mBin ixD (mVar 1) (mC (.int (1)))) mNil)) [Sl.pub (gT ds), .pub (gD d)] u) _ = _
      rw [k2]; rfl
    have hp := put_len d.1 (hI ds d.1) al
    rw [List.length_cons] at hl
    have ih := fold_al (u := u) few es (putA d.1 (hI ds d.1) al) (by omega)
    rw [List.map_cons]
    unfold foldD
    rw [ht]
    dsimp only [bnd]
    rw [if_pos (by unfold alK; rw [List.length_map, line]; omega), put_al]
    exact ih
def lns (ds : List Gd) : Al := told abc3 (hI ds)
theorem lns_len (ds : List Gd) : (lns ds).length ≤ 3 := by
  unfold lns told
  exact Nat.le_trans (List.length_filter_le _ _) (by rw [List.length_map]; decide)
theorem counted_ok {al : Al} {ds : List Gd} {u : U} (hn : NdA al) (few : al.length ≤ 900) (hf : ∀ x, (getA x al).getD 0 = hI ds x) (h3 : Str3 ds) : F_counted [.dct (alK al) (alD al)] u = some (.tup ((lns ds).map lineD), u) := by
  have hc : compL (turnL (.many [1, 2]) [1, 2] [Sl.pub (.dct (alK al) (alD al)), .no, .no] (mTru (mBin cGt (mVar 2) (mC (.int (0))))) (mTup (mCons (mVar 1) (mCons (mVar 2) mNil)))) (al.map fun p => .pr [.str p.1, .int p.2]) u = some ((al.filter fun p => decide (0 < p.2)).map lineD, u) := compL_fm (P := fun p : Str × Int => decide (0 < p.2)) (g := fun p : Str × Int => .pr [.str p.1, .int p.2]) fun p hp => by
    have hb : bindT (.many [1, 2]) (.pr [.str p.1, .int p.2]) (wipeE [Sl.pub (.dct (alK al) (alD al)), .no, .no] [1, 2]) = some [Sl.pub (.dct (alK al) (alD al)), .pub (.str p.1), .pub (.int p.2)] := rfl
    have e : mTru (mBin cGt (mVar 2) (mC (.int (0)))) [Sl.pub (.dct (alK al) (alD al)), .pub (.str p.1), .pub (.int p.2)] u = some (decide (0 < p.2), u) := mTru_eq (x := .bl (decide (0 < p.2))) (mBin_eq rfl rfl rfl) rfl
    cases q : decide (0 < p.2) with
    | true =>
      rw [q] at e
      rw [if_pos rfl]
      exact turnL_c hb e (mTup_eq (mCons_eq rfl (c1 rfl)) (isiz (by simp)))
    | false =>
      rw [q] at e
      rw [if_neg (by decide)]
      exact turnL_n hb e
  have ts := tally_sort (al := al) (xs := abc3) (f := hI ds) hn abc_rise hf fun x hx => by
    have : hm ds x = 0 := hm_out fun d hd e => hx (by rw [← e]; exact h3 d hd)
    show ((hm ds x : Nat) : Int) = 0
    rw [this]; rfl
  have hs : bSortB [.lst ((al.filter fun p => decide (0 < p.2)).map lineD)] = some (.lst ((lns ds).map lineD)) := by
    have h := sortB_r (ks := (al.filter fun p => decide (0 < p.2)).map pairK) (sh := [false, true]) (fun k hk => by
      obtain ⟨p, _, rfl⟩ := List.mem_map.mp hk
      exact pair_shape p) (by decide)
    rw [ts, List.map_map, List.map_map] at h
    exact h
  have lf : (al.filter fun p => decide (0 < p.2)).length ≤ 900 := Nat.le_trans (List.length_filter_le _ _) few
  exact runB_rt (sc_rt (sRet_eq (mBi_eq (c1 (mBi_eq (c1 (mLc_eq (mDItems_eq rfl) hc (by rw [List.length_map]; exact isiz (by omega)))) hs)) rfl)))
theorem lines_ok {ds : List Gd} {u : U} (few : ds.length ≤ 500) (h3 : Str3 ds) : F_lines_of [gT ds] u = some (.tup ((lns ds).map lineD), u) := by
  have hf := fold_al (u := u) few ds [] (by simp; omega)
  have hc := counted_ok (al := putAll ds ds []) (ds := ds) (u := u) (put_nd ds ds [] List.nodup_nil) (by have := put_few ds ds []; simp at this; omega) (fun x => by
    rw [put_get]
    by_cases h : x ∈ ds.map (·.1)
    · rw [if_pos h]; rfl
    · rw [if_neg h]
      have : hm ds x = 0 := hm_out fun d hd e => h (List.mem_map.mpr ⟨d, hd, e⟩)
      show (0 : Int) = ((hm ds x : Nat) : Int)
      rw [this]; rfl) h3
  refine runB_rt (sc_rt (sRet_eq (mCall_eq (c1 (mShow_own (o := .dct (alK (putAll ds ds [])) (alD (putAll ds ds []))) (u1 := u) ?_)) rfl hc)))
  unfold vDC
  rw [show mItems (mVar 0) (List.map Sl.pub [gT ds] ++ List.replicate (2 - [gT ds].length) Sl.no) u = some (ds.map gD, u) from mItems_eq rfl rfl]
  show bnd (foldD _ _ (alK []) (alD []) u) _ = _
  have hf' : foldD (turnD (.one 1) [1] (List.map Sl.pub [gT ds] ++ List.replicate (2 - [gT ds].length) Sl.no) mYes (mBin ixD (mVar 1) (mC (.int (1)))) (mCall 2 F_how_many_in (mCons (mVar 0) (mCons (mBin ixD (mVar 1) (mC (.int (1)))) mNil)))) (ds.map gD) (alK []) (alD []) u = _ := hf
  rw [hf']; rfl
theorem fp_lt {ds : List Gd} {s : Str} {p : Nat} (h : p ∈ fp ds s) : p < ds.length := by
  obtain ⟨q, hq, rfl⟩ := List.mem_map.mp h
  have h2 := (List.mem_filter.mp hq).1
  have := List.snd_lt_of_mem_zipIdx h2
  omega
def ah (ds : List Gd) (s : Str) (num w : Nat) (t : Str) : Nat := if t = s then num - 1 else match ((fp ds t).filter fun p => decide (p < w)).getLast? with
  | none => 0
  | some p => hm (ds.take p) t
def be (ds : List Gd) (s : Str) (num w : Nat) (t : Str) : Nat := if t = s then hm ds s - num else match ((fp ds s).filter fun p => decide (w < p)).head? with
  | none => 0
  | some p => hm (ds.drop p) t
theorem fp_len (ds : List Gd) (s : Str) : (fp ds s).length ≤ ds.length := by
  unfold fp
  rw [List.length_map]
  exact Nat.le_trans (List.length_filter_le _ _) (by rw [List.length_zipIdx]; exact Nat.le_refl _)
theorem ahead_ok {ds : List Gd} {s t : Str} {num w : Nat} {u : U} (few : ds.length ≤ 500) (h1 : 1 ≤ num) (h2 : num ≤ hm ds s) (hw : (dofs ds s num).getLast? = some w) : F_ahead_of [gT ds, spotD s num, .str t] u = some (.int (ah ds s num w t : Nat), u) := by
  have hd := deed_ok (u := u) (by omega) h1 h2 hw
  have st : sSet 3 (mCall 2 F_deed_of (mCons (mVar 0) (mCons (mVar 1) mNil))) [Sl.pub (gT ds), .pub (spotD s num), .pub (.str t), .no, .no, .no] u = some (.nx [Sl.pub (gT ds), .pub (spotD s num), .pub (.str t), .pub (.int (w : Nat)), .no, .no], u) := sSet_eq (mCall_eq (mCons_eq rfl (c1 rfl)) rfl hd)
  have e0 : mTru (mBin cEq (mVar 2) (mBin ixD (mVar 1) (mC (.int (0))))) [Sl.pub (gT ds), .pub (spotD s num), .pub (.str t), .pub (.int (w : Nat)), .no, .no] u = some (decide (t = s), u) := mTru_eq (x := .bl (decide (t = s))) (mBin_eq rfl (mBin_eq rfl rfl rfl) rfl) rfl
  by_cases q : t = s
  · rw [decide_eq_true q] at e0
    have : (ah ds s num w t : Nat) = num - 1 := if_pos q
    rw [this, show ((num - 1 : Nat) : Int) = (num : Int) - 1 by omega]
    exact runB_rt (sc_nx st (sc_rt (sIf_t e0 (sc_rt (sRet_eq (mBin_eq (mBin_eq rfl rfl rfl) rfl rfl))))))
  · rw [decide_eq_false q] at e0
    have hf := fls_ok (ds := ds) (s := t) (u := u) (by omega)
    have hc : compL (turnL (.one 5) [5] [Sl.pub (gT ds), .pub (spotD s num), .pub (.str t), .pub (.int (w : Nat)), .no, .no] (mTru (mBin cLt (mVar 5) (mVar 3))) (mVar 5)) ((fp ds t).map fun p => .int (p : Nat)) u = some (((fp ds t).filter fun p => decide (p < w)).map (fun p => .int (p : Nat)), u) := compL_fm (P := fun p => decide (p < w)) fun p hp => by
      have hb : bindT (.one 5) (.int (p : Nat)) (wipeE [Sl.pub (gT ds), .pub (spotD s num), .pub (.str t), .pub (.int (w : Nat)), .no, .no] [5]) = some [Sl.pub (gT ds), .pub (spotD s num), .pub (.str t), .pub (.int (w : Nat)), .no, .pub (.int (p : Nat))] := rfl
      have e : mTru (mBin cLt (mVar 5) (mVar 3)) [Sl.pub (gT ds), .pub (spotD s num), .pub (.str t), .pub (.int (w : Nat)), .no, .pub (.int (p : Nat))] u = some (decide (p < w), u) := by
        refine mTru_eq (x := .bl (decide ((p : Int) < (w : Int)))) (mBin_eq rfl rfl rfl) ?_
        show some (decide ((p : Int) < (w : Int))) = _
        congr 1
        exact decide_eq_decide.mpr (by omega)
      cases q : decide (p < w) with
      | true => rw [q] at e; rw [if_pos rfl]; exact turnL_c hb e rfl
      | false => rw [q] at e; rw [if_neg (by decide)]; exact turnL_n hb e
    have lf : ((fp ds t).filter fun p => decide (p < w)).length ≤ 500 := Nat.le_trans (List.length_filter_le _ _) (Nat.le_trans (fp_len _ _) few)
    obtain ⟨L, hL⟩ : ∃ L, L = (fp ds t).filter fun p => decide (p < w) := ⟨_, rfl⟩
    have ea : ah ds s num w t = match L.getLast? with | none => 0 | some p => hm (ds.take p) t := by
      unfold ah; rw [if_neg q, hL]
    rw [← hL] at hc lf
    have st2 : sSet 4 (mLc (.one 5) [5] (mItems (mCall 2 F_flushes_in (mCons (mVar 0) (mCons (mVar 2) mNil)))) (mTru (mBin cLt (mVar 5) (mVar 3))) (mVar 5)) [Sl.pub (gT ds), .pub (spotD s num), .pub (.str t), .pub (.int (w : Nat)), .no, .no] u = some (.nx [Sl.pub (gT ds), .pub (spotD s num), .pub (.str t), .pub (.int (w : Nat)), .pub (.lst (L.map fun p => .int (p : Nat))), .no], u) := sSet_eq (mLc_eq (mItems_eq (mCall_eq (mCons_eq rfl (c1 rfl)) rfl hf) rfl) hc (by rw [List.length_map]; exact isiz (by omega)))
    refine runB_rt (sc_nx st (sc_nx (sIf_f e0 rfl) (sc_nx st2 (sc_rt (sRet_eq ?_)))))
    cases e : L.getLast? with
    | none =>
      have : L = [] := List.getLast?_eq_none_iff.mp e
      subst this
      rw [ea]
      exact mIte_f (mTru_eq rfl rfl) rfl
    | some p =>
      have hm' : p ∈ L := List.mem_of_getLast? e
      have hp : p < ds.length := fp_lt (by rw [hL] at hm'; exact (List.mem_filter.mp hm').1)
      have hh := how_ok (ds := ds.take p) (s := t) (u := u) (by rw [List.length_take]; omega)
      rw [ea, e]
      refine mIte_t (mTru_eq rfl ?_) (mCall_eq (mCons_eq (mSl_eq rfl rfl (moAt_eq (mBin_eq rfl (mNeg_eq rfl) (last_int e))) (gT_take (by omega))) (c1 rfl)) rfl hh)
      cases L with
      | nil => cases e
      | cons a r => rfl
theorem behind_ok {ds : List Gd} {s t : Str} {num w : Nat} {u : U} (few : ds.length ≤ 500) (h1 : 1 ≤ num) (h2 : num ≤ hm ds s) (hw : (dofs ds s num).getLast? = some w) : F_behind_of [gT ds, spotD s num, .str t] u = some (.int (be ds s num w t : Nat), u) := by
  have hd := deed_ok (u := u) (by omega) h1 h2 hw
  have st : sSet 3 (mCall 2 F_deed_of (mCons (mVar 0) (mCons (mVar 1) mNil))) [Sl.pub (gT ds), .pub (spotD s num), .pub (.str t), .no, .no, .no] u = some (.nx [Sl.pub (gT ds), .pub (spotD s num), .pub (.str t), .pub (.int (w : Nat)), .no, .no], u) := sSet_eq (mCall_eq (mCons_eq rfl (c1 rfl)) rfl hd)
  have e0 : mTru (mBin cEq (mVar 2) (mBin ixD (mVar 1) (mC (.int (0))))) [Sl.pub (gT ds), .pub (spotD s num), .pub (.str t), .pub (.int (w : Nat)), .no, .no] u = some (decide (t = s), u) := mTru_eq (x := .bl (decide (t = s))) (mBin_eq rfl (mBin_eq rfl rfl rfl) rfl) rfl
  by_cases q : t = s
  · rw [decide_eq_true q] at e0
    have hh := how_ok (ds := ds) (s := t) (u := u) (by omega)
    have : (be ds s num w t : Nat) = hm ds s - num := if_pos q
    rw [this, show ((hm ds s - num : Nat) : Int) = ((hm ds t : Nat) : Int) - (num : Nat) by rw [q]; omega]
    exact runB_rt (sc_nx st (sc_rt (sIf_t e0 (sc_rt (sRet_eq (mBin_eq (mCall_eq (mCons_eq rfl (c1 rfl)) rfl hh) (mBin_eq rfl rfl rfl) rfl))))))
  · rw [decide_eq_false q] at e0
    have hf := fls_ok (ds := ds) (s := s) (u := u) (by omega)
    have hc : compL (turnL (.one 5) [5] [Sl.pub (gT ds), .pub (spotD s num), .pub (.str t), .pub (.int (w : Nat)), .no, .no] (mTru (mBin cGt (mVar 5) (mVar 3))) (mVar 5)) ((fp ds s).map fun p => .int (p : Nat)) u = some (((fp ds s).filter fun p => decide (w < p)).map (fun p => .int (p : Nat)), u) := compL_fm (P := fun p => decide (w < p)) fun p hp => by
      have hb : bindT (.one 5) (.int (p : Nat)) (wipeE [Sl.pub (gT ds), .pub (spotD s num), .pub (.str t), .pub (.int (w : Nat)), .no, .no] [5]) = some [Sl.pub (gT ds), .pub (spotD s num), .pub (.str t), .pub (.int (w : Nat)), .no, .pub (.int (p : Nat))] := rfl
      have e : mTru (mBin cGt (mVar 5) (mVar 3)) [Sl.pub (gT ds), .pub (spotD s num), .pub (.str t), .pub (.int (w : Nat)), .no, .pub (.int (p : Nat))] u = some (decide (w < p), u) := by
        refine mTru_eq (x := .bl (decide ((w : Int) < (p : Int)))) (mBin_eq rfl rfl rfl) ?_
        show some (decide ((w : Int) < (p : Int))) = _
        congr 1
        exact decide_eq_decide.mpr (by omega)
      cases q : decide (w < p) with
      | true => rw [q] at e; rw [if_pos rfl]; exact turnL_c hb e rfl
      | false => rw [q] at e; rw [if_neg (by decide)]; exact turnL_n hb e
    have lf : ((fp ds s).filter fun p => decide (w < p)).length ≤ 500 := Nat.le_trans (List.length_filter_le _ _) (Nat.le_trans (fp_len _ _) few)
    obtain ⟨L, hL⟩ : ∃ L, L = (fp ds s).filter fun p => decide (w < p) := ⟨_, rfl⟩
    have ea : be ds s num w t = match L.head? with | none => 0 | some p => hm (ds.drop p) t := by
      unfold be; rw [if_neg q, hL]
    rw [← hL] at hc lf
    have st2 : sSet 4 (mLc (.one 5) [5] (mItems (mCall 2 F_flushes_in (mCons (mVar 0) (mCons (mBin ixD (mVar 1) (mC (.int (0)))) mNil)))) (mTru (mBin cGt (mVar 5) (mVar 3))) (mVar 5)) [Sl.pub (gT ds), .pub (spotD s num), .pub (.str t), .pub (.int (w : Nat)), .no, .no] u = some (.nx [Sl.pub (gT ds), .pub (spotD s num), .pub (.str t), .pub (.int (w : Nat)), .pub (.lst (L.map fun p => .int (p : Nat))), .no], u) := sSet_eq (mLc_eq (mItems_eq (mCall_eq (mCons_eq rfl (c1 (mBin_eq rfl rfl rfl))) rfl hf) rfl) hc (by rw [List.length_map]; exact isiz (by omega)))
    refine runB_rt (sc_nx st (sc_nx (sIf_f e0 rfl) (sc_nx st2 (sc_rt (sRet_eq ?_)))))
    cases L with
    | nil =>
      rw [ea]
      exact mIte_f (mTru_eq rfl rfl) rfl
    | cons p r =>
      have hm' : p ∈ fp ds s := by
        have : p ∈ p :: r := List.mem_cons_self
        rw [hL] at this
        exact (List.mem_filter.mp this).1
      have hp : p < ds.length := fp_lt hm'
      have hh := how_ok (ds := ds.drop p) (s := t) (u := u) (by rw [List.length_drop]; omega)
      rw [ea]
      exact mIte_t (mTru_eq rfl rfl) (mCall_eq (mCons_eq (mSl_eq rfl (moAt_eq (mBin_eq rfl rfl ix0L)) rfl (gT_drop (by omega))) (c1 rfl)) rfl hh)
end Lw98
namespace Lw98
open PySem Dv L2
theorem sDrop_eq {m : M} {env : List Sl} {u u1 : U} {d : D} (h : m env u = some (d, u1)) : sDrop m env u = some (.nx env, u1) := by
  unfold sDrop; rw [h]; rfl
theorem dofs_some {ds : List Gd} {s : Str} {num : Nat} (h1 : 1 ≤ num) (h2 : num ≤ hm ds s) : ∃ w, (dofs ds s num).getLast? = some w ∧ w < ds.length := by
  have hl : 0 < ds.length := by
    cases ds with
    | nil => unfold hm at h2; simp at h2; omega
    | cons d r => simp
  have hm0 : 0 ∈ dofs ds s num := List.mem_filter.mpr ⟨List.mem_range.mpr hl, decide_eq_true (by rw [List.take_zero]; show 0 < num; omega)⟩
  cases e : (dofs ds s num).getLast? with
  | none => rw [List.getLast?_eq_none_iff.mp e] at hm0; cases hm0
  | some w => exact ⟨w, rfl, List.mem_range.mp (List.mem_filter.mp (List.mem_of_getLast? e)).1⟩
theorem sum_told (ds : List Gd) (g : Str → Nat) : ∀ xs : List Str, (∀ t ∈ xs, hm ds t = 0 → g t = 0) → (((told xs (hI ds)).map fun l => ((g l.1 : Nat) : Int)).sum : Int) = (((xs.map g).sum : Nat) : Int)
  | [], _ => rfl
  | x :: xs, h => by
    have ih := sum_told ds g xs fun t ht => h t (List.mem_cons_of_mem _ ht)
    rw [List.map_cons, List.sum_cons]
    unfold told at ih ⊢
    rw [List.map_cons]
    by_cases q : 0 < hm ds x
    · rw [List.filter_cons_of_pos (by show decide (0 < hI ds x) = true; exact decide_eq_true (by show (0 : Int) < ((hm ds x : Nat) : Int); omega)), List.map_cons, List.sum_cons, ih]
      show ((g x : Nat) : Int) + _ = _
      omega
    · rw [List.filter_cons_of_neg (by show ¬ decide (0 < hI ds x) = true; rw [decide_eq_false (by show ¬ (0 : Int) < ((hm ds x : Nat) : Int); omega)]; decide), ih, h x List.mem_cons_self (by omega)]
      omega
theorem sum_lns {ds : List Gd} {g : Str → Nat} (h : ∀ t ∈ abc3, hm ds t = 0 → g t = 0) : bSumL [.lst ((lns ds).map fun l => .int (g l.1 : Nat))] = some (.int (((abc3.map g).sum : Nat) : Int)) := by
  show (intsD _).map _ = _
  rw [show ((lns ds).map fun l => D.int (g l.1 : Nat)) = ((lns ds).map fun l => ((g l.1 : Nat) : Int)).map D.int by rw [List.map_map]; rfl, intsD_map]
  show some (D.int _) = _
  unfold lns
  rw [sum_told ds g abc3 h]
theorem lns_val {ds : List Gd} {l : Str × Int} (h : l ∈ lns ds) : l.2 = (hm ds l.1 : Nat) ∧ l.1 ∈ abc3 := by
  unfold lns told at h
  obtain ⟨x, hx, e⟩ := List.mem_map.mp (List.mem_filter.mp h).1
  rw [← e]
  exact ⟨rfl, hx⟩
def SA (ds : List Gd) (s : Str) (num w : Nat) : Nat := (abc3.map (ah ds s num w)).sum
def SB (ds : List Gd) (s : Str) (num w : Nat) : Nat := (abc3.map (be ds s num w)).sum
def SH (ds : List Gd) : Nat := (abc3.map (hm ds)).sum
def rangeV (ds : List Gd) (s : Str) (num w : Nat) : D := .tup [.int (SA ds s num w : Nat), .int ((SH ds : Nat) - 1 - (SB ds s num w : Nat))]
theorem hm_drop (ds : List Gd) (p : Nat) (s : Str) : hm (ds.drop p) s ≤ hm ds s := by
  have := hm_app (ds.take p) (ds.drop p) s
  rw [List.take_append_drop] at this
  omega
theorem ah_zero {ds : List Gd} {s t : Str} {num w : Nat} (h1 : 1 ≤ num) (h2 : num ≤ hm ds s) (h : hm ds t = 0) : ah ds s num w t = 0 := by
  unfold ah
  rw [if_neg (fun e => by rw [e] at h; omega)]
  split
  · rfl
  · rename_i p _
    have := hm_take ds p t; omega
theorem be_zero {ds : List Gd} {s t : Str} {num w : Nat} (h1 : 1 ≤ num) (h2 : num ≤ hm ds s) (h : hm ds t = 0) : be ds s num w t = 0 := by
  unfold be
  rw [if_neg (fun e => by rw [e] at h; omega)]
  split
  · rfl
  · rename_i p _
    have := hm_drop ds p t; omega
theorem range_ok {ds : List Gd} {s : Str} {num w : Nat} {u : U} (few : ds.length ≤ 500) (h3 : Str3 ds) (h1 : 1 ≤ num) (h2 : num ≤ hm ds s) (hw : (dofs ds s num).getLast? = some w) : F_place_range [gT ds, spotD s num] u = some (rangeV ds s num w, u) := by
  have hd := deed_ok (u := u) (by omega) h1 h2 hw
  have hl := lines_ok (u := u) few h3
  have l3 := lns_len ds
  obtain ⟨LD, hLD⟩ : ∃ L, L = D.tup ((lns ds).map lineD) := ⟨_, rfl⟩
  have iLD : itemsD LD = some ((lns ds).map lineD) := by rw [hLD]; rfl
  rw [← hLD] at hl
  have c1' : compL (turnL (.many [5, 6]) [5, 6] [Sl.pub (gT ds), .pub (spotD s num), .pub LD, .no, .no, .no, .no, .no] mYes (mCall 3 F_ahead_of (mCons (mVar 0) (mCons (mVar 1) (mCons (mVar 5) mNil))))) ((lns ds).map lineD) u = some ((lns ds).map (fun l => .int (ah ds s num w l.1 : Nat)), u) := compL_mp fun l hl =>
    turnL_eq (env' := [Sl.pub (gT ds), .pub (spotD s num), .pub LD, .no, .no, .pub (.str l.1), .pub (.int l.2), .no]) rfl (mCall_eq (mCons_eq rfl (mCons_eq rfl (c1 rfl))) rfl (ahead_ok few h1 h2 hw))
  obtain ⟨SAD, hSA⟩ : ∃ S, S = D.int (SA ds s num w : Nat) := ⟨_, rfl⟩
  have c2' : compL (turnL (.many [5, 6]) [5, 6] [Sl.pub (gT ds), .pub (spotD s num), .pub LD, .pub SAD, .no, .no, .no, .no] mYes (mCall 3 F_behind_of (mCons (mVar 0) (mCons (mVar 1) (mCons (mVar 5) mNil))))) ((lns ds).map lineD) u = some ((lns ds).map (fun l => .int (be ds s num w l.1 : Nat)), u) := compL_mp fun l hl =>
    turnL_eq (env' := [Sl.pub (gT ds), .pub (spotD s num), .pub LD, .pub SAD, .no, .pub (.str l.1), .pub (.int l.2), .no]) rfl (mCall_eq (mCons_eq rfl (mCons_eq rfl (c1 rfl))) rfl (behind_ok few h1 h2 hw))
  obtain ⟨SBD, hSB⟩ : ∃ S, S = D.int (SB ds s num w : Nat) := ⟨_, rfl⟩
  have c3' : compL (turnL (.many [6, 7]) [6, 7] [Sl.pub (gT ds), .pub (spotD s num), .pub LD, .pub SAD, .pub SBD, .no, .no, .no] mYes (mVar 7)) ((lns ds).map lineD) u = some ((lns ds).map (fun l => .int (hm ds l.1 : Nat)), u) := compL_mp fun l hl =>
    turnL_eq (env' := [Sl.pub (gT ds), .pub (spotD s num), .pub LD, .pub SAD, .pub SBD, .no, .pub (.str l.1), .pub (.int l.2)]) rfl (by rw [← (lns_val hl).1]; rfl)
  have s1 := sum_lns (ds := ds) (g := ah ds s num w) fun t _ h => ah_zero h1 h2 h
  have s2 := sum_lns (ds := ds) (g := be ds s num w) fun t _ h => be_zero h1 h2 h
  have s3 := sum_lns (ds := ds) (g := hm ds) fun t _ h => h
  have n1 : ∀ f : Str × Int → D, ((lns ds).map f).length ≤ sizeLine := fun f => by rw [List.length_map]; exact isiz (by omega)
  refine runB_rt (sc_nx (env' := [Sl.pub (gT ds), .pub (spotD s num), .no, .no, .no, .no, .no, .no]) (u1 := u) (sDrop_eq (mCall_eq (mCons_eq rfl (c1 rfl)) rfl hd)) ?_)
  refine sc_nx (env' := [Sl.pub (gT ds), .pub (spotD s num), .pub LD, .no, .no, .no, .no, .no]) (u1 := u) (sSet_eq (mCall_eq (c1 rfl) rfl hl)) ?_
  refine sc_nx (env' := [Sl.pub (gT ds), .pub (spotD s num), .pub LD, .pub SAD, .no, .no, .no, .no]) (u1 := u) (by
    rw [hSA]
    exact sSet_eq (mBi_eq (c1 (mLc_eq (mItems_eq rfl iLD) c1' (n1 _))) s1)) ?_
  refine sc_nx (env' := [Sl.pub (gT ds), .pub (spotD s num), .pub LD, .pub SAD, .pub SBD, .no, .no, .no]) (u1 := u) (by
    rw [hSB]
    exact sSet_eq (mBi_eq (c1 (mLc_eq (mItems_eq rfl iLD) c2' (n1 _))) s2)) ?_
  refine sc_rt (sRet_eq ?_)
  unfold rangeV
  rw [← hSA]
  have fs : fSub (.int (((SH ds : Nat) : Int) - 1)) SBD = some (.int (((SH ds : Nat) : Int) - 1 - (SB ds s num w : Nat))) := by rw [hSB]; rfl
  exact mTup_eq (mCons_eq rfl (c1 (mBin_eq (mBin_eq (mBi_eq (c1 (mLc_eq (mItems_eq rfl iLD) c3' (n1 _))) s3) rfl rfl) rfl fs))) (isiz (by simp))
def tl (s : Str) : Nat → List Gd → List Nat
  | _, [] => []
  | c, d :: ds => match d.2 with
    | some n => if d.1 = s then (c + n) :: tl s (c + n) ds else tl s c ds
    | none => if d.1 = s then 0 :: tl s 0 ds else tl s c ds
def mx (s : Str) (c : Nat) (ds : List Gd) : Nat := (tl s c ds).foldl max c
abbrev mhB : MS := (sCons (sIf (mTru (mCall 2 F_is_write (mCons (mVar 3) (mCons (mVar 1) mNil)))) (sCons (sApp 2 (mBin fAdd (mPeek 2 (mBin ixD (mVar 2) (mNeg (mC (.int (1)))))) (mBin ixD (mVar 3) (mC (.int (2))))))
    sNil) (sCons (sIf (mTru (mBin cEq (mBin ixD (mVar 3) (mC (.int (1)))) (mVar 1))) (sCons (sApp 2 (mC (.int (0))))
    sNil) sNil)
    sNil))
    sNil)
abbrev iD (L : List Nat) : List D := L.map fun j => .int (j : Nat)
theorem mh_step {G : D} {s : Str} {L : List Nat} {c : Nat} {d : Gd} {u : U} (hl : L.getLast? = some c) (few : L.length ≤ 900) :
    mhB [Sl.pub G, .pub (.str s), .own (.lst (iD L)), .pub (gD d)] u = some (.nx [Sl.pub G, .pub (.str s), .own (.lst (iD (L ++ (match d.2 with | some n => if d.1 = s then [c + n] else [] | none => if d.1 = s then [0] else [])))), .pub (gD d)], u) := by
  obtain ⟨x, y⟩ := d
  have ll : (iD L).length < sizeLine := by show (L.map _).length < _; rw [List.length_map, line]; omega
  cases y with
  | none =>
    have e := is_write_ok (d := (x, none)) (s := s) (u := u)
    have e2 : mTru (mBin cEq (mBin ixD (mVar 3) (mC (.int (1)))) (mVar 1)) [Sl.pub G, .pub (.str s), .own (.lst (iD L)), .pub (gD (x, none))] u = some (decide (x = s), u) := mTru_eq (x := .bl (decide (x = s))) (mBin_eq (mBin_eq rfl rfl rfl) rfl rfl) rfl
    by_cases q : x = s
    · rw [decide_eq_true q] at e2
      have ap := sApp_eq (i := 2) (m := mC (.int 0)) (env := [Sl.pub G, .pub (.str s), .own (.lst (iD L)), .pub (gD (x, none))]) (u := u) (ds := iD L) rfl rfl ll
      dsimp only
      rw [if_pos q, show iD (L ++ [0]) = iD L ++ [.int 0] by show List.map _ _ = _; rw [List.map_append]; rfl]
      exact sc_nx (sIf_f (mTru_eq (mCall_eq (mCons_eq rfl (c1 rfl)) rfl e) rfl) (sc_nx (sIf_t e2 (sc_nx ap rfl)) rfl)) rfl
    · rw [decide_eq_false q] at e2
      dsimp only
      rw [if_neg q, List.append_nil]
      exact sc_nx (sIf_f (mTru_eq (mCall_eq (mCons_eq rfl (c1 rfl)) rfl e) rfl) (sc_nx (sIf_f e2 rfl) rfl)) rfl
  | some n =>
    have e : F_is_write [gD (x, some n), .str s] u = some (.bl (decide (x = s)), u) := is_write_ok (d := (x, some n)) (s := s) (u := u)
    by_cases q : x = s
    · rw [decide_eq_true q] at e
      have pk : mPeek 2 (mBin ixD (mVar 2) (mNeg (mC (.int (1))))) [Sl.pub G, .pub (.str s), .own (.lst (iD L)), .pub (gD (x, some n))] u = some (.int (c : Nat), u) := mPeek_eq (o := .lst (iD L)) rfl (mBin_eq rfl (mNeg_eq rfl) (last_int hl)) rfl
      have ap := sApp_eq (i := 2) (m := mBin fAdd (mPeek 2 (mBin ixD (mVar 2) (mNeg (mC (.int (1)))))) (mBin ixD (mVar 3) (mC (.int (2))))) (env := [Sl.pub G, .pub (.str s), .own (.lst (iD L)), .pub (gD (x, some n))]) (u := u) (ds := iD L) (d := .int ((c + n : Nat) : Int)) rfl (mBin_eq pk (mBin_eq rfl rfl rfl) (show fAdd (.int (c : Nat)) (.int (n : Nat)) = some (.int ((c + n : Nat) : Int)) from by show some (D.int ((c : Int) + n)) = _; congr 2)) ll
      dsimp only
      rw [if_pos q, show iD (L ++ [c + n]) = iD L ++ [.int ((c + n : Nat) : Int)] by show List.map _ _ = _; rw [List.map_append]; rfl]
      exact sc_nx (sIf_t (mTru_eq (mCall_eq (mCons_eq rfl (c1 rfl)) rfl e) rfl) (sc_nx ap rfl)) rfl
    · rw [decide_eq_false q] at e
      have e2 : mTru (mBin cEq (mBin ixD (mVar 3) (mC (.int (1)))) (mVar 1)) [Sl.pub G, .pub (.str s), .own (.lst (iD L)), .pub (gD (x, some n))] u = some (false, u) := mTru_eq (x := .bl (decide (x = s))) (mBin_eq (mBin_eq rfl rfl rfl) rfl rfl) (by rw [decide_eq_false q]; rfl)
      dsimp only
      rw [if_neg q, List.append_nil]
      exact sc_nx (sIf_f (mTru_eq (mCall_eq (mCons_eq rfl (c1 rfl)) rfl e) rfl) (sc_nx (sIf_f e2 rfl) rfl)) rfl
theorem mh_go {G : D} {s : Str} {u : U} : ∀ (ds : List Gd) (L : List Nat) (c : Nat) (t : Sl), L.getLast? = some c → L.length + ds.length ≤ 900 →
    ∃ t', forL (.one 3) mhB (ds.map gD) [Sl.pub G, .pub (.str s), .own (.lst (iD L)), t] u = some (.nx [Sl.pub G, .pub (.str s), .own (.lst (iD (L ++ tl s c ds))), t'], u)
  | [], L, c, t, _, _ => ⟨t, by show some _ = _; unfold tl; rw [List.append_nil]⟩
  | d :: ds, L, c, t, hl, few => by
    rw [List.length_cons] at few
    have st := mh_step (G := G) (s := s) (d := d) (u := u) hl (by omega)
    rw [List.map_cons]
    unfold forL
    show ∃ t', bnd (mhB [Sl.pub G, .pub (.str s), .own (.lst (iD L)), .pub (gD d)] u) _ = _
    rw [st]
    obtain ⟨x, y⟩ := d
    have key : ∀ (r : List Nat) (c' : Nat), (L ++ r).getLast? = some c' → r.length ≤ 1 → tl s c ((x, y) :: ds) = r ++ tl s c' ds → ∃ t', forL (.one 3) mhB (ds.map gD) [Sl.pub G, .pub (.str s), .own (.lst (iD (L ++ r))), .pub (gD (x, y))] u = some (.nx [Sl.pub G, .pub (.str s), .own (.lst (iD (L ++ tl s c ((x, y) :: ds)))), t'], u) := fun r c' h1 h2 h3 => by
      obtain ⟨t', e⟩ := mh_go (G := G) (s := s) (u := u) ds (L ++ r) c' (.pub (gD (x, y))) h1 (by rw [List.length_append]; omega)
      exact ⟨t', by rw [e, h3, List.append_assoc]⟩
    cases y with
    | none =>
      by_cases q : x = s
      · exact (by
          have := key [0] 0 (by simp) (by simp) (by
            show (if x = s then 0 :: tl s 0 ds else tl s c ds) = _
            rw [if_pos q]; rfl)
          dsimp only
          rw [if_pos q]
          exact this)
      · exact (by
          have := key [] c (by rw [List.append_nil]; exact hl) (by simp) (by
            show (if x = s then 0 :: tl s 0 ds else tl s c ds) = _
            rw [if_neg q]; rfl)
          dsimp only
          rw [if_neg q]
          exact this)
    | some n =>
      by_cases q : x = s
      · exact (by
          have := key [c + n] (c + n) (by simp) (by simp) (by
            show (if x = s then (c + n) :: tl s (c + n) ds else tl s c ds) = _
            rw [if_pos q]; rfl)
          dsimp only
          rw [if_pos q]
          exact this)
      · exact (by
          have := key [] c (by rw [List.append_nil]; exact hl) (by simp) (by
            show (if x = s then (c + n) :: tl s (c + n) ds else tl s c ds) = _
            rw [if_neg q]; rfl)
          dsimp only
          rw [if_neg q]
          exact this)
theorem fold_max : ∀ (r : List Nat) (a : Nat), ((r.map fun j : Nat => (j : Int)).foldl max (a : Int) : Int) = ((r.foldl max a : Nat) : Int)
  | [], a => rfl
  | b :: r, a => by
    rw [List.map_cons, List.foldl_cons, List.foldl_cons, ← fold_max r (max a b)]
    congr 1
    omega
theorem max_ok (r : List Nat) (a : Nat) : bMaxL [.lst (iD (a :: r))] = some (.int (r.foldl max a : Nat)) := by
  show (match intsD (iD (a :: r)) with | some (i :: r) => some (D.int (r.foldl max i)) | _ => none) = _
  rw [show iD (a :: r) = ((a :: r).map fun j : Nat => (j : Int)).map D.int by rw [List.map_map]; rfl, intsD_map, List.map_cons]
  show some (D.int _) = _
  rw [fold_max]
theorem held_ok {ds : List Gd} {s : Str} {u : U} (few : ds.length ≤ 500) : F_most_held [gT ds, .str s] u = some (.int (mx s 0 ds : Nat), u) := by
  obtain ⟨t', e⟩ := mh_go (G := gT ds) (s := s) (u := u) ds [0] 0 .no rfl (by simp; omega)
  exact runB_rt (sc_nx (env' := [Sl.pub (gT ds), .pub (.str s), .own (.lst (iD [0])), .no]) (sSv_eq (vLst_eq (ds := iD [0]) (c1 rfl) (isiz (by simp)))) (sc_nx (sFor_eq (mItems_eq rfl rfl) e) (sPub_eq rfl (sc_rt (sRet_eq (mBi_eq (c1 rfl) (max_ok _ _)))))))
theorem tupled_str {n : Nat} {x : Str} {u : U} : FR_tupled (n + 1) [.str x] u = some (.str x, u) :=
  runB_rt (sc_nx (sIf_f (mTru_eq (mIsi_eq rfl (isi2_str x)) rfl) rfl) (sc_rt (sRet_eq rfl)))
theorem tupled_int {n : Nat} {x : Int} {u : U} : FR_tupled (n + 1) [.int x] u = some (.int x, u) :=
  runB_rt (sc_nx (sIf_f (mTru_eq (mIsi_eq rfl (isi2_int x)) rfl) rfl) (sc_rt (sRet_eq rfl)))
theorem tupled_spot {s : Str} {num : Nat} {u : U} : FR_tupled 6 [spotD s num] u = some (spotD s num, u) := by
  have hc : compL (turnL (.one 1) [1] [Sl.pub (spotD s num), .no] mYes (mCall 1 (FR_tupled 5) (mCons (mVar 1) mNil))) [.str s, .int (num : Nat)] u = some ([D.str s, .int (num : Nat)].map id, u) := compL_pure fun d hd => by
    simp only [List.mem_cons, List.not_mem_nil, or_false] at hd
    rcases hd with rfl | rfl
    · exact turnL_eq rfl (mCall_eq (c1 rfl) rfl tupled_str)
    · exact turnL_eq rfl (mCall_eq (c1 rfl) rfl tupled_int)
  exact runB_rt (sc_rt (sIf_t (mTru_eq (mIsi_eq rfl (isi2_tup _)) rfl) (sc_rt (sRet_eq (mBi_eq (c1 (mLc_eq (mItems_eq rfl rfl) hc (isiz (by simp)))) rfl)))))
theorem stand_ok {ds : List Gd} {s1 s2 : Str} {n1 n2 w1 w2 : Nat} {u : U} (few : ds.length ≤ 500) (t1 : TxO s1) (t2 : TxO s2) (a1 : 1 ≤ n1) (a2 : n1 ≤ hm ds s1) (hw1 : (dofs ds s1 n1).getLast? = some w1) (b1 : 1 ≤ n2) (b2 : n2 ≤ hm ds s2) (hw2 : (dofs ds s2 n2).getLast? = some w2) (ne : ¬ (s1 = s2 ∧ n1 = n2)) (hh : n1 ≤ ah ds s2 n2 w2 s1) :
    F_stand [gT ds, spotD s1 n1, spotD s2 n2] u = some (.str ("ahead" : Str), u) := by
  have d1 := deed_ok (u := u) (by omega) a1 a2 hw1
  have d2 := deed_ok (u := u) (by omega) b1 b2 hw2
  have e : cEq (spotD s1 n1) (spotD s2 n2) = some (.bl false) := by
    have := lineCod.ceq (a := (s1, (n1 : Int))) (b := (s2, (n2 : Int))) (by decide) t1 t2
    rw [decide_eq_false (fun z => ne ⟨congrArg Prod.fst z, by have := congrArg Prod.snd z; dsimp only at this; omega⟩)] at this
    exact this
  have ha := ahead_ok (t := s1) (u := u) few b1 b2 hw2
  have g : cGe (.int (ah ds s2 n2 w2 s1 : Nat)) (.int (n1 : Nat)) = some (.bl true) := by show some (D.bl (decide _)) = _; rw [decide_eq_true (by omega)]
  exact runB_rt (sc_nx (sDrop_eq (mCall_eq (mCons_eq rfl (c1 rfl)) rfl d1)) (sc_nx (sDrop_eq (mCall_eq (mCons_eq rfl (c1 rfl)) rfl d2)) (sc_nx (sIf_f (mTru_eq (mBin_eq (mCall_eq (c1 rfl) rfl tupled_spot) (mCall_eq (c1 rfl) rfl tupled_spot) e) rfl) rfl) (sc_rt (sIf_t (mTru_eq (mBin_eq (mCall_eq (mCons_eq rfl (mCons_eq rfl (c1 (mBin_eq rfl rfl rfl)))) rfl ha) (mBin_eq rfl rfl rfl) g) rfl) (sc_rt (sRet_eq rfl)))))))
theorem lns_nd (ds : List Gd) : NdA (lns ds) := by
  have h := abc_rise.nodup
  have h2 : (lns ds).Sublist (abc3.map fun x => (x, hI ds x)) := List.filter_sublist
  have h3 := h2.map (·.1)
  unfold NdA
  refine h3.nodup ?_
  rw [List.map_map]
  exact h
theorem pairs_al : ∀ al : Al, pairsD (al.map lineD) = some (al.map fun p => ((Sum.inr p.1 : Key), D.int p.2))
  | [] => rfl
  | p :: al => by
    rw [List.map_cons]
    unfold pairsD
    show (pairsD (al.map lineD)).map _ = _
    rw [pairs_al al]; rfl
theorem put_end {x : Str} {v : Int} : ∀ {al : Al}, x ∉ al.map (·.1) → putA x v al = al ++ [(x, v)]
  | [], _ => by rw [putA]; rfl
  | p :: al, h => by
    rw [putA_cons, if_neg (fun e => h (List.mem_map.mpr ⟨p, List.mem_cons_self, e⟩)), put_end (fun z => h (List.mem_cons_of_mem _ z))]
    rfl
theorem merge_al : ∀ (al pre : Al), NdA (pre ++ al) → mergeD (alK pre) (alD pre) (al.map fun p => ((Sum.inr p.1 : Key), D.int p.2)) = (alK (pre ++ al), alD (pre ++ al))
  | [], pre, _ => by rw [List.append_nil]; rfl
  | p :: al, pre, hn => by
    rw [List.map_cons]
    unfold mergeD
    rw [put_al]
    have hx : p.1 ∉ pre.map (·.1) := by
      unfold NdA at hn
      rw [List.map_append, List.map_cons] at hn
      have h3 := (List.nodup_cons.mp ((List.perm_middle.nodup_iff).mp hn)).1
      exact fun z => h3 (List.mem_append.mpr (.inl z))
    rw [put_end hx]
    have ih := merge_al al (pre ++ [(p.1, p.2)]) (by rw [List.append_assoc]; exact hn)
    rw [List.append_assoc] at ih
    exact ih
theorem counts_ok {ds : List Gd} {u : U} (few : ds.length ≤ 500) (h3 : Str3 ds) : F__law_counts [gT ds] u = some (.dct (alK (lns ds)) (alD (lns ds)), u) := by
  have hl := lines_ok (u := u) few h3
  refine runB_rt (sc_rt (sRet_eq ?_))
  have this' : mergeD [] [] ((lns ds).map fun p => ((Sum.inr p.1 : Key), D.int p.2)) = (alK (lns ds), alD (lns ds)) := merge_al (lns ds) [] (lns_nd ds)
  have := mDictP_eq (m := mCall 1 F_lines_of (mCons (mVar 0) mNil)) (env := [Sl.pub (gT ds)]) (u := u) (mCall_eq (c1 rfl) rfl hl) (pairs_al (lns ds))
  rw [this'] at this
  exact this
end Lw98
namespace Lw98
open PySem Dv L2
theorem zip_off : ∀ (X : List Gd) (n k : Nat), X.zipIdx (n + k) = (X.zipIdx n).map fun p => (p.1, p.2 + k)
  | [], _, _ => rfl
  | d :: X, n, k => by
    rw [List.zipIdx_cons, List.zipIdx_cons, List.map_cons, ← zip_off X (n + 1) k, show n + k + 1 = n + 1 + k by omega]
theorem fp_app (A X : List Gd) (s : Str) : fp (A ++ X) s = fp A s ++ (fp X s).map (· + A.length) := by
  unfold fp
  rw [List.zipIdx_append, zip_off X 0 A.length, List.filter_append, List.map_append, List.filter_map, List.map_map, List.map_map]
  rfl
theorem filter_all {P : Nat → Bool} {l : List Nat} (h : ∀ x ∈ l, P x = true) : l.filter P = l := List.filter_eq_self.mpr h
theorem filter_none {P : Nat → Bool} {l : List Nat} (h : ∀ x ∈ l, P x = false) : l.filter P = [] := List.filter_eq_nil_iff.mpr fun x hx => by rw [h x hx]; decide
theorem dofs_left {A X : List Gd} {s : Str} {num : Nat} (h : num ≤ hm A s) : dofs (A ++ X) s num = dofs A s num := by
  unfold dofs
  rw [List.length_append, List.range_add, List.filter_append]
  rw [filter_none (l := (List.range X.length).map _) fun p hp => by
    obtain ⟨q, _, rfl⟩ := List.mem_map.mp hp
    refine decide_eq_false ?_
    have : hm ((A ++ X).take (A.length + q)) s = hm A s + hm (X.take q) s := by
      rw [List.take_length_add_append, hm_app]
    omega, List.append_nil]
  refine List.filter_congr fun p hp => ?_
  have hp := List.mem_range.mp hp
  rw [List.take_append_of_le_length (by omega)]
theorem dofs_right {A B : List Gd} {s : Str} {num w : Nat} (hw : (dofs B s num).getLast? = some w) : (dofs (A ++ B) s (hm A s + num)).getLast? = some (A.length + w) := by
  have e : dofs (A ++ B) s (hm A s + num) = ((List.range A.length).filter fun p => decide (hm ((A ++ B).take p) s < hm A s + num)) ++ (dofs B s num).map (A.length + ·) := by
    unfold dofs
    rw [List.length_append, List.range_add, List.filter_append, List.filter_map]
    congr 2
    refine List.filter_congr fun q _ => ?_
    show decide (hm ((A ++ B).take (A.length + q)) s < hm A s + num) = _
    rw [List.take_length_add_append, hm_app]
    exact decide_eq_decide.mpr (by omega)
  rw [e, List.getLast?_append, List.getLast?_map, hw]; rfl
theorem ah_left {A X : List Gd} {s t : Str} {num w : Nat} (hw : w < A.length) : ah (A ++ X) s num w t = ah A s num w t := by
  unfold ah
  by_cases q : t = s
  · rw [if_pos q, if_pos q]
  · rw [if_neg q, if_neg q]
    have e : ((fp (A ++ X) t).filter fun p => decide (p < w)) = (fp A t).filter fun p => decide (p < w) := by
      rw [fp_app, List.filter_append, filter_none (l := (fp X t).map _) fun p hp => by
        obtain ⟨r, _, rfl⟩ := List.mem_map.mp hp
        exact decide_eq_false (by omega), List.append_nil]
    rw [e]
    cases h : ((fp A t).filter fun p => decide (p < w)).getLast? with
    | none => rfl
    | some p =>
      have hp : p < w := of_decide_eq_true (List.mem_filter.mp (List.mem_of_getLast? h)).2
      show hm ((A ++ X).take p) t = hm (A.take p) t
      rw [List.take_append_of_le_length (by omega)]
def F3 : List Gd := [("a", none), ("b", none), ("c", none)]
theorem hm_flat {l : List Gd} {t : Str} (h : ∀ d ∈ l, d.2 = none) : hm l t = 0 := by
  induction l with
  | nil => rfl
  | cons d l ih =>
    have ih := ih fun e he => h e (List.mem_cons_of_mem _ he)
    unfold hm at ih ⊢
    rw [List.map_cons, List.sum_cons, ih]
    have := h d List.mem_cons_self
    obtain ⟨x, y⟩ := d
    dsimp only at this
    subst this
    rfl
theorem F3_flat : ∀ d ∈ F3, d.2 = none := by decide
theorem F3_take (i : Nat) (t : Str) : hm (F3.take i) t = 0 := hm_flat fun d hd => F3_flat d (List.mem_of_mem_take hd)
theorem F3_drop (i : Nat) (t : Str) : hm (F3.drop i) t = 0 := hm_flat fun d hd => F3_flat d (List.mem_of_mem_drop hd)
theorem F3_hm (t : Str) : hm F3 t = 0 := hm_flat F3_flat
theorem F3_fp : ∀ t ∈ abc3, ∃ i, fp F3 t = [i] ∧ i < 3 := by
  have h : ∀ t ∈ abc3, (fp F3 t).length = 1 ∧ ∀ i ∈ fp F3 t, i < 3 := by decide +kernel
  intro t ht
  obtain ⟨h1, h2⟩ := h t ht
  obtain ⟨i, hi⟩ := List.length_eq_one_iff.mp h1
  exact ⟨i, hi, h2 i (by rw [hi]; exact List.mem_singleton.mpr rfl)⟩
theorem F3_len : F3.length = 3 := rfl
theorem ah_right {A B : List Gd} {s t : Str} {num w : Nat} (h1 : 1 ≤ num) (ht : t ∈ abc3) : ah (A ++ F3 ++ B) s (hm A s + num) ((A ++ F3).length + w) t = hm A t + ah B s num w t := by
  unfold ah
  by_cases q : t = s
  · rw [if_pos q, if_pos q, q]; omega
  · rw [if_neg q, if_neg q]
    have e : ((fp (A ++ F3 ++ B) t).filter fun p => decide (p < (A ++ F3).length + w)) = fp (A ++ F3) t ++ ((fp B t).filter fun p => decide (p < w)).map (· + (A ++ F3).length) := by
      rw [fp_app (A ++ F3) B, List.filter_append, filter_all (l := fp (A ++ F3) t) fun p hp => decide_eq_true (by have := fp_lt hp; omega), List.filter_map]
      congr 2
      refine List.filter_congr fun p _ => ?_
      show decide (p + (A ++ F3).length < (A ++ F3).length + w) = decide (p < w)
      exact decide_eq_decide.mpr (by omega)
    rw [e]
    cases h : ((fp B t).filter fun p => decide (p < w)).getLast? with
    | none =>
      obtain ⟨i, hi, i3⟩ := F3_fp t ht
      rw [List.getLast?_eq_none_iff.mp h, List.map_nil, List.append_nil, fp_app, hi]
      rw [List.getLast?_append]
      show hm ((A ++ F3 ++ B).take (i + A.length)) t = hm A t + 0
      rw [List.append_assoc, Nat.add_comm i, List.take_length_add_append, hm_app, List.take_append_of_le_length (by rw [F3_len]; omega), F3_take]
    | some p =>
      rw [List.getLast?_append, List.getLast?_map, h]
      show hm ((A ++ F3 ++ B).take (p + (A ++ F3).length)) t = hm A t + hm (B.take p) t
      rw [Nat.add_comm p, List.take_length_add_append, hm_app, hm_app, F3_hm]; omega
theorem drop_app_le {A X : List Gd} {p : Nat} (h : p ≤ A.length) : (A ++ X).drop p = A.drop p ++ X := by
  rw [List.drop_append_of_le_length h]
theorem be_left {A B : List Gd} {s t : Str} {num w : Nat} (hs : s ∈ abc3) (hw : w < A.length) (h2 : num ≤ hm A s) : be (A ++ F3 ++ B) s num w t = be A s num w t + hm B t := by
  unfold be
  by_cases q : t = s
  · rw [if_pos q, if_pos q, hm_app, hm_app, F3_hm, q]; omega
  · rw [if_neg q, if_neg q, List.append_assoc]
    have e : ((fp (A ++ (F3 ++ B)) s).filter fun p => decide (w < p)) = ((fp A s).filter fun p => decide (w < p)) ++ (fp (F3 ++ B) s).map (· + A.length) := by
      rw [fp_app, List.filter_append, filter_all (l := (fp (F3 ++ B) s).map _) fun p hp => by
        obtain ⟨r, _, rfl⟩ := List.mem_map.mp hp
        exact decide_eq_true (by omega)]
    rw [e]
    cases h : (fp A s).filter fun p => decide (w < p) with
    | nil =>
      obtain ⟨i, hi, i3⟩ := F3_fp s hs
      rw [fp_app F3 B, hi]
      show hm ((A ++ (F3 ++ B)).drop (i + A.length)) t = 0 + hm B t
      rw [Nat.add_comm i, List.drop_length_add_append, drop_app_le (by rw [F3_len]; omega), hm_app, F3_drop]
    | cons p r =>
      have hp : p < A.length := fp_lt (s := s) (by
        have : p ∈ (fp A s).filter fun p => decide (w < p) := by rw [h]; exact List.mem_cons_self
        exact (List.mem_filter.mp this).1)
      show hm ((A ++ (F3 ++ B)).drop p) t = hm (A.drop p) t + hm B t
      rw [drop_app_le (by omega), hm_app, hm_app, F3_hm]; omega
theorem be_right {A B : List Gd} {s t : Str} {num w : Nat} : be (A ++ F3 ++ B) s (hm A s + num) ((A ++ F3).length + w) t = be B s num w t := by
  unfold be
  by_cases q : t = s
  · rw [if_pos q, if_pos q, hm_app, hm_app, F3_hm]; omega
  · rw [if_neg q, if_neg q]
    have e : ((fp (A ++ F3 ++ B) s).filter fun p => decide ((A ++ F3).length + w < p)) = ((fp B s).filter fun p => decide (w < p)).map (· + (A ++ F3).length) := by
      rw [fp_app (A ++ F3) B, List.filter_append, filter_none (l := fp (A ++ F3) s) fun p hp => decide_eq_false (by have := fp_lt hp; omega), List.nil_append, List.filter_map]
      congr 1
      refine List.filter_congr fun p _ => ?_
      show decide ((A ++ F3).length + w < p + (A ++ F3).length) = decide (w < p)
      exact decide_eq_decide.mpr (by omega)
    rw [e, List.head?_map]
    cases h : ((fp B s).filter fun p => decide (w < p)).head? with
    | none => rfl
    | some p =>
      show hm ((A ++ F3 ++ B).drop (p + (A ++ F3).length)) t = hm (B.drop p) t
      rw [Nat.add_comm p, List.drop_length_add_append]
theorem sum3 (f : Str → Nat) : (abc3.map f).sum = f "a" + (f "b" + f "c") := by
  show f "a" + (f "b" + (f "c" + 0)) = _
  omega
theorem SH_calm (A B : List Gd) : SH (A ++ F3 ++ B) = SH A + SH B := by
  unfold SH
  rw [sum3, sum3, sum3]
  simp only [hm_app, F3_hm]
  omega
theorem range_left {A B : List Gd} {s : Str} {num w : Nat} (hs : s ∈ abc3) (hw : w < A.length) (h2 : num ≤ hm A s) : rangeV (A ++ F3 ++ B) s num w = rangeV A s num w := by
  have e1 : SA (A ++ F3 ++ B) s num w = SA A s num w := by
    unfold SA
    rw [sum3, sum3, List.append_assoc, ah_left hw, ah_left hw, ah_left hw]
  have e2 : SB (A ++ F3 ++ B) s num w = SB A s num w + SH B := by
    unfold SB SH
    rw [sum3, sum3, sum3, be_left hs hw h2, be_left hs hw h2, be_left hs hw h2]
    omega
  unfold rangeV
  rw [e1, e2, SH_calm]
  congr 4
  omega
theorem range_right {A B : List Gd} {s : Str} {num w : Nat} (h1 : 1 ≤ num) : rangeV (A ++ F3 ++ B) s (hm A s + num) ((A ++ F3).length + w) = .tup [.int ((SA B s num w : Nat) + (SH A : Nat)), .int ((SH B : Nat) - 1 - (SB B s num w : Nat) + (SH A : Nat))] := by
  have e1 : SA (A ++ F3 ++ B) s (hm A s + num) ((A ++ F3).length + w) = SA B s num w + SH A := by
    unfold SA SH
    rw [sum3, sum3, sum3, ah_right h1 (by decide +kernel), ah_right h1 (by decide +kernel), ah_right h1 (by decide +kernel)]
    omega
  have e2 : SB (A ++ F3 ++ B) s (hm A s + num) ((A ++ F3).length + w) = SB B s num w := by
    unfold SB
    rw [sum3, sum3, be_right, be_right, be_right]
  unfold rangeV
  rw [e1, e2, SH_calm]
  congr 3
  congr 2
  omega
def cur (s : Str) : Nat → List Gd → Nat
  | c, [] => c
  | c, d :: ds => match d.2 with
    | some n => if d.1 = s then cur s (c + n) ds else cur s c ds
    | none => if d.1 = s then cur s 0 ds else cur s c ds
theorem tl_app (s : Str) : ∀ (A X : List Gd) (c : Nat), tl s c (A ++ X) = tl s c A ++ tl s (cur s c A) X
  | [], _, _ => rfl
  | (x, none) :: A, X, c => by
    show (if x = s then 0 :: tl s 0 (A ++ X) else tl s c (A ++ X)) = (if x = s then 0 :: tl s 0 A else tl s c A) ++ tl s (if x = s then cur s 0 A else cur s c A) X
    split
    · rw [tl_app s A X 0]; rfl
    · rw [tl_app s A X c]
  | (x, some n) :: A, X, c => by
    show (if x = s then (c + n) :: tl s (c + n) (A ++ X) else tl s c (A ++ X)) = (if x = s then (c + n) :: tl s (c + n) A else tl s c A) ++ tl s (if x = s then cur s (c + n) A else cur s c A) X
    split
    · rw [tl_app s A X (c + n)]; rfl
    · rw [tl_app s A X c]
def Mx (l : List Nat) : Nat := l.foldl max 0
theorem fold_mx : ∀ (l : List Nat) (a : Nat), l.foldl max a = max a (Mx l)
  | [], a => by unfold Mx; simp
  | b :: l, a => by
    unfold Mx
    rw [List.foldl_cons, List.foldl_cons, fold_mx l (max a b), fold_mx l (max 0 b)]
    omega
theorem Mx_app (a b : List Nat) : Mx (a ++ b) = max (Mx a) (Mx b) := by
  unfold Mx
  rw [List.foldl_append, fold_mx b]; rfl
theorem Mx_cons (a : Nat) (b : List Nat) : Mx (a :: b) = max a (Mx b) := by
  unfold Mx
  rw [List.foldl_cons, fold_mx b, Nat.zero_max]; rfl
theorem mx_M (s : Str) (ds : List Gd) : mx s 0 ds = Mx (tl s 0 ds) := rfl
theorem tl_F3 : ∀ s ∈ abc3, ∀ c, tl s c F3 = [0] ∧ cur s c F3 = 0 := by
  intro s hs c
  have hs' : s = "a" ∨ s = "b" ∨ s = "c" := by simpa using hs
  have ab : ("a" : Str) ≠ "b" := by decide +kernel
  have ac : ("a" : Str) ≠ "c" := by decide +kernel
  have bc : ("b" : Str) ≠ "c" := by decide +kernel
  rcases hs' with rfl | rfl | rfl
  · simp [tl, cur, F3, ab.symm, ac.symm]
  · simp [tl, cur, F3, ab, bc.symm]
  · simp [tl, cur, F3, ac, bc]
theorem mx_calm {A B : List Gd} {s : Str} (hs : s ∈ abc3) : mx s 0 (A ++ F3 ++ B) = max (mx s 0 A) (mx s 0 B) := by
  rw [mx_M, mx_M, mx_M, List.append_assoc, tl_app, tl_app, (tl_F3 s hs _).1, (tl_F3 s hs _).2, Mx_app, Mx_app, Mx_cons]
  unfold Mx
  simp
theorem tl_mono (s : Str) : ∀ (ds : List Gd) (c c' : Nat), c ≤ c' → Mx (tl s c ds) ≤ Mx (tl s c' ds)
  | [], _, _, _ => Nat.le_refl _
  | (x, none) :: ds, c, c', h => by
    show Mx (if x = s then 0 :: tl s 0 ds else tl s c ds) ≤ Mx (if x = s then 0 :: tl s 0 ds else tl s c' ds)
    split
    · exact Nat.le_refl _
    · exact tl_mono s ds c c' h
  | (x, some n) :: ds, c, c', h => by
    show Mx (if x = s then (c + n) :: tl s (c + n) ds else tl s c ds) ≤ Mx (if x = s then (c' + n) :: tl s (c' + n) ds else tl s c' ds)
    split
    · have := tl_mono s ds (c + n) (c' + n) (by omega)
      rw [Mx_cons, Mx_cons]; omega
    · exact tl_mono s ds c c' h
theorem mx_loose (A B : List Gd) (s : Str) : max (mx s 0 A) (mx s 0 B) ≤ mx s 0 (A ++ B) := by
  rw [mx_M, mx_M, mx_M, tl_app, Mx_app]
  have := tl_mono s B 0 (cur s 0 A) (by omega)
  omega
end Lw98
namespace Dv
open PySem PySem.Spec PyProof.Rows L2
def m_sameA (F_same_ : List D → U → Option (D × U)) : MS := (sCons (sIf (mTru (mIsi ["list", "tuple"] (mVar 1))) (sCons (sIf (mOrB (mTru (mBin cNe (mIsi ["list"] (mVar 0)) (mIsi ["list"] (mVar 1)))) (mTru (mBin cNe (mIsi ["tuple"] (mVar 0)) (mIsi ["tuple"] (mVar 1))))) (sCons (sRet (mC (.bl false)))
    sNil) sNil)
    (sCons (sRet (mAnd (mBin cEq (mBi bLen (mCons (mVar 0) mNil)) (mBi bLen (mCons (mVar 1) mNil))) (mBi bAll (mCons (mLc (.many [2, 3]) [2, 3] (mZip (mVar 0) (mVar 1)) mYes (mCall 2 F_same_ (mCons (mVar 2) (mCons (mVar 3) mNil)))) mNil))))
    sNil)) sNil)
    (sCons (sIf (mOrB (mTru (mBin cIs (mVar 1) (mC .non))) (mTru (mIsi ["bool", "str"] (mVar 1)))) (sCons (sRet (mAnd (mBin cEq (mVar 0) (mVar 1)) (mAnd (mBin cEq (mIsi ["bool"] (mVar 0)) (mIsi ["bool"] (mVar 1))) (mBin cEq (mBin cIs (mVar 0) (mC .non)) (mBin cIs (mVar 1) (mC .non))))))
    sNil) sNil)
    (sCons (sRet (mAnd (mIsi ["int"] (mVar 0)) (mAnd (mNot (mIsi ["bool"] (mVar 0))) (mBin cEq (mVar 0) (mVar 1)))))
    sNil)))
def FR_sameA : Nat → List D → U → Option (D × U)
  | 0 => fun _ _ => none
  | n + 1 => runB (m_sameA (FR_sameA n)) 4
theorem sameA_self {u : U} : ∀ (n : Nat) (d : D), plainN n d = true → FR_sameA (n + 1) [d, d] u = some (.bl true, u) := by
  intro n
  induction n with
  | zero =>
    intro d h
    cases d with
    | non => exact runB_rt (sc_nx (sIf_f (mTru_eq (mIsi_eq rfl isi2_non) rfl) rfl) (sc_rt (sIf_t (mOrB_t (mTru_eq (mBin_eq rfl rfl rfl) rfl)) (sc_rt (sRet_eq (mAnd_t (mBin_eq rfl rfl rfl) rfl (mAnd_t (mBin_eq (mIsi_eq rfl isi_b_non) (mIsi_eq rfl isi_b_non) rfl) rfl (mBin_eq (mBin_eq rfl rfl rfl) (mBin_eq rfl rfl rfl) rfl))))))))
    | bl b => exact runB_rt (sc_nx (sIf_f (mTru_eq (mIsi_eq rfl (isi2_bl b)) rfl) rfl) (sc_rt (sIf_t (mOrB_f (mTru_eq (mBin_eq rfl rfl rfl) rfl) (mTru_eq (mIsi_eq rfl (isi_bs_bl b)) rfl)) (sc_rt (sRet_eq (mAnd_t (mBin_eq rfl rfl (ceq_bl b)) rfl (mAnd_t (mBin_eq (mIsi_eq rfl (isi_b_bl b)) (mIsi_eq rfl (isi_b_bl b)) rfl) rfl (mBin_eq (mBin_eq rfl rfl rfl) (mBin_eq rfl rfl rfl) rfl))))))))
    | str x => exact runB_rt (sc_nx (sIf_f (mTru_eq (mIsi_eq rfl (isi2_str x)) rfl) rfl) (sc_rt (sIf_t (mOrB_f (mTru_eq (mBin_eq rfl rfl rfl) rfl) (mTru_eq (mIsi_eq rfl (isi_bs_str x)) rfl)) (sc_rt (sRet_eq (mAnd_t (mBin_eq rfl rfl (ceq_str x)) rfl (mAnd_t (mBin_eq (mIsi_eq rfl (isi_b_str x)) (mIsi_eq rfl (isi_b_str x)) rfl) rfl (mBin_eq (mBin_eq rfl rfl rfl) (mBin_eq rfl rfl rfl) rfl))))))))
    | int i => exact runB_rt (sc_nx (sIf_f (mTru_eq (mIsi_eq rfl (isi2_int i)) rfl) rfl) (sc_nx (sIf_f (mOrB_f (mTru_eq (mBin_eq rfl rfl rfl) rfl) (mTru_eq (mIsi_eq rfl (isi_bs_int i)) rfl)) rfl) (sc_rt (sRet_eq (mAnd_t (mIsi_eq rfl (isi_ii i)) rfl (mAnd_t (mNot_eq (k := false) (mIsi_eq rfl (isi_ib i)) rfl) rfl (mBin_eq rfl rfl (ceq_int i))))))))
    | _ => simp [plainN] at h
  | succ n ih =>
    intro d h
    cases d with
    | non => exact runB_rt (sc_nx (sIf_f (mTru_eq (mIsi_eq rfl isi2_non) rfl) rfl) (sc_rt (sIf_t (mOrB_t (mTru_eq (mBin_eq rfl rfl rfl) rfl)) (sc_rt (sRet_eq (mAnd_t (mBin_eq rfl rfl rfl) rfl (mAnd_t (mBin_eq (mIsi_eq rfl isi_b_non) (mIsi_eq rfl isi_b_non) rfl) rfl (mBin_eq (mBin_eq rfl rfl rfl) (mBin_eq rfl rfl rfl) rfl))))))))
    | bl b => exact runB_rt (sc_nx (sIf_f (mTru_eq (mIsi_eq rfl (isi2_bl b)) rfl) rfl) (sc_rt (sIf_t (mOrB_f (mTru_eq (mBin_eq rfl rfl rfl) rfl) (mTru_eq (mIsi_eq rfl (isi_bs_bl b)) rfl)) (sc_rt (sRet_eq (mAnd_t (mBin_eq rfl rfl (ceq_bl b)) rfl (mAnd_t (mBin_eq (mIsi_eq rfl (isi_b_bl b)) (mIsi_eq rfl (isi_b_bl b)) rfl) rfl (mBin_eq (mBin_eq rfl rfl rfl) (mBin_eq rfl rfl rfl) rfl))))))))
    | str x => exact runB_rt (sc_nx (sIf_f (mTru_eq (mIsi_eq rfl (isi2_str x)) rfl) rfl) (sc_rt (sIf_t (mOrB_f (mTru_eq (mBin_eq rfl rfl rfl) rfl) (mTru_eq (mIsi_eq rfl (isi_bs_str x)) rfl)) (sc_rt (sRet_eq (mAnd_t (mBin_eq rfl rfl (ceq_str x)) rfl (mAnd_t (mBin_eq (mIsi_eq rfl (isi_b_str x)) (mIsi_eq rfl (isi_b_str x)) rfl) rfl (mBin_eq (mBin_eq rfl rfl rfl) (mBin_eq rfl rfl rfl) rfl))))))))
    | int i => exact runB_rt (sc_nx (sIf_f (mTru_eq (mIsi_eq rfl (isi2_int i)) rfl) rfl) (sc_nx (sIf_f (mOrB_f (mTru_eq (mBin_eq rfl rfl rfl) rfl) (mTru_eq (mIsi_eq rfl (isi_bs_int i)) rfl)) rfl) (sc_rt (sRet_eq (mAnd_t (mIsi_eq rfl (isi_ii i)) rfl (mAnd_t (mNot_eq (k := false) (mIsi_eq rfl (isi_ib i)) rfl) rfl (mBin_eq rfl rfl (ceq_int i))))))))
    | lst xs =>
      unfold plainN at h
      rw [Bool.and_eq_true] at h
      have few := of_decide_eq_true h.1
      have hx := same_go (f := FR_sameA (n + 1)) (xs := xs) (a := .lst xs) (b := .lst xs) (u := u) fun x hx => ih x (List.all_eq_true.mp h.2 x hx)
      exact runB_rt (sc_rt (sIf_t (mTru_eq (mIsi_eq rfl (isi2_lst xs)) rfl) (sc_nx (sIf_f (mOrB_f (mTru_eq (mBin_eq (mIsi_eq rfl (isi_l_l xs)) (mIsi_eq rfl (isi_l_l xs)) rfl) rfl) (mTru_eq (mBin_eq (mIsi_eq rfl (isi_lt xs)) (mIsi_eq rfl (isi_lt xs)) rfl) rfl)) rfl)
        (sc_rt (sRet_eq (mAnd_t (mBin_eq (mBi_eq (c1 rfl) (len_l few)) (mBi_eq (c1 rfl) (len_l few)) (ceq_int _)) rfl (mBi_eq (c1 (mLc_eq (mZip_l rfl rfl) hx (by rw [List.length_map, zip_len]; exact isiz few))) (bAll_ts _))))))))
    | tup xs =>
      unfold plainN at h
      rw [Bool.and_eq_true] at h
      have few := of_decide_eq_true h.1
      have hx := same_go (f := FR_sameA (n + 1)) (xs := xs) (a := .tup xs) (b := .tup xs) (u := u) fun x hx => ih x (List.all_eq_true.mp h.2 x hx)
      exact runB_rt (sc_rt (sIf_t (mTru_eq (mIsi_eq rfl (isi2_tup xs)) rfl) (sc_nx (sIf_f (mOrB_f (mTru_eq (mBin_eq (mIsi_eq rfl (isi_t_l xs)) (mIsi_eq rfl (isi_t_l xs)) rfl) rfl) (mTru_eq (mBin_eq (mIsi_eq rfl (isi_tt xs)) (mIsi_eq rfl (isi_tt xs)) rfl) rfl)) rfl)
        (sc_rt (sRet_eq (mAnd_t (mBin_eq (mBi_eq (c1 rfl) (len_t few)) (mBi_eq (c1 rfl) (len_t few)) (ceq_int _)) rfl (mBi_eq (c1 (mLc_eq (mZip_t rfl rfl) hx (by rw [List.length_map, zip_len]; exact isiz few))) (bAll_ts _))))))))
    | _ => simp [plainN] at h
end Dv
namespace Lw98
open PySem Dv L2
theorem log2_b {i : Int} {b : Nat} (h : i.natAbs < 2 ^ b) (h0 : 0 < b) : i.natAbs.log2 < b := PySem.Flt.log2_lt_of h0 h
theorem low_b {i : Int} (h0 : 0 < i) (h : i < 2 ^ 200) : i.natAbs.log2 < 9000 := Nat.lt_of_lt_of_le (log2_b (b := 200) (by omega) (by decide)) (by decide)
theorem of_ok {n : Int} {u : U} {ds : List D} (h : OkU n u) (hn : n ≤ 2 ^ 40) (h0 : 0 < ds.length) (h1 : ds.length < 1000) :
    ∃ d u', F__law_of [.urn, .lst ds] u = some (d, u') ∧ d ∈ ds ∧ OkU (n + 1) u' := by
  obtain ⟨r, u', e, r0, r1, hu⟩ := take_ok (low := ds.length) h hn (by omega) (low_b (by omega) (by omega))
  have hr : r.toNat < ds.length := by omega
  have e2 : ixD (.lst ds) (.int r) = some ds[r.toNat] := by
    have := atI_nat (List.getElem?_eq_getElem hr)
    rw [Int.toNat_of_nonneg r0] at this
    exact this
  refine ⟨_, u', ?_, List.getElem_mem hr, hu⟩
  simp only [F__law_of, m__law_of, runB, sCons, sSet, sTgt, sPar, sRet, sIf, sNil, sDrop, mVar, mC, mCons, mNil, mLst, mTup, mBin, mCall, mBi, mAnd, mOr, mNot, mIte, mTru, mNotB, mAndB, mOrB, mChain, mNeg, mSl, moNo, moAt, mIsi, bnd, lft, bindT, setE, List.map_cons, List.map_nil, List.length_cons, List.length_nil, List.cons_append, List.nil_append, List.getElem?_cons_zero, List.getElem?_cons_succ, List.set_cons_zero, List.set_cons_succ, if_true, if_false, Bool.false_eq_true, List.replicate_succ, List.replicate_zero, Nat.reduceSub, Nat.reduceAdd, reduceIte, Option.map_some, Option.map_none, Nat.zero_add, bLen, e, e2]
theorem same_ok {u : U} (n : Nat) (d : D) (h : plainN n d = true) : FR__law_same (n + 1) [d, d] u = some (.bl true, u) := by
  have e : ∀ n, FR__law_same n = FR_sameA n := fun n => by
    induction n with
    | zero => rfl
    | succ n ih => unfold FR__law_same FR_sameA; rw [ih]; rfl
  rw [e]; exact sameA_self n d h
theorem hm_snoc (ds : List Gd) (d : Gd) (s : Str) : hm (ds ++ [d]) s = hm ds s + wn s d := by
  rw [hm_app]
  unfold hm
  simp
theorem wide_ok {n : Int} {u : U} {most : Nat} (h : OkU n u) (hn : n ≤ 2 ^ 38) (m0 : 0 < most) (m1 : most < 2 ^ 150) :
    ∃ (ds : List Gd) (u' : U), F__law_wide [.urn, .int (most : Nat), .int 7] u = some (gT ds, u') ∧ Str3 ds ∧ ds.length ≤ 7 ∧ (∀ s, hm ds s ≤ 7 * most) ∧ OkU (n + 30) u' := by
  obtain ⟨r, u1, e1, r0, r1, o1⟩ := take_ok (low := 8) h (by omega) (by decide) (by decide +kernel)
  obtain ⟨c, rfl⟩ : ∃ c : Nat, r = c := ⟨r.toNat, by omega⟩
  obtain ⟨env', u2, e2, o2, ds, x, rfl, h3, hl, hh⟩ := forL_inv (t := .one 4) (f := (sCons (sIf (mTru (mBin cEq (mCall 2 F__law_take (mCons (mVar 0) (mCons (mC (.int (3))) mNil))) (mC (.int (0))))) (sCons (sApp 3 (mTup (mCons (mC (.str ("flush" : Str))) (mCons (mCall 2 F__law_of (mCons (mVar 0) (mCons (mLst (mCons (mC (.str ("a" : Str))) (mCons (mC (.str ("b" : Str))) (mCons (mC (.str ("c" : Str))) mNil)))) mNil))) mNil)))) sNil) (sCons (sApp 3 (mTup (mCons (mC (.str ("write" : Str))) (mCons (mCall 2 F__law_of (mCons (mVar 0) (mCons (mLst (mCons (mC (.str ("a" : Str))) (mCons (mC (.str ("b" : Str))) (mCons (mC (.str ("c" : Str))) (mCons (mC (.str ("b" : Str))) mNil))))) mNil))) (mCons (mBin fAdd (mC (.int (1))) (mCall 2 F__law_take (mCons (mVar 0) (mCons (mVar 1) mNil)))) mNil))))) sNil)) sNil)) (N := 10) (ds := rangeD 0 c) (i := 0) (env := [Sl.pub .urn, .pub (.int (most : Nat)), .pub (.int 7), .own (.lst []), .no]) (u := u1)
    (I := fun i env u => OkU (n + 1 + 3 * i) u ∧ ∃ (ds : List Gd) (x : Sl), env = [Sl.pub .urn, .pub (.int (most : Nat)), .pub (.int 7), .own (.lst (ds.map gD)), x] ∧ Str3 ds ∧ (ds.length : Int) = i ∧ ∀ s, (hm ds s : Int) ≤ i * most) (fun d hd i env u hi hI => by
      obtain ⟨ou, ds, x, rfl, h3, hl, hh⟩ := hI
      obtain ⟨j, _, rfl⟩ := mem_rangeD hd
      obtain ⟨q, u3, e3, q0, q1, o3⟩ := take_ok (low := 3) ou (by omega) (by decide) (by decide +kernel)
      have lmap : (ds.map gD).length < sizeLine := by rw [List.length_map, line]; omega
      by_cases z : q = 0
      · subst z
        obtain ⟨dt, u4, e4, m4, o4⟩ := of_ok (ds := [.str ("a" : Str), .str ("b" : Str), .str ("c" : Str)]) o3 (by omega) (by decide) (by decide)
        obtain ⟨s, rfl, hs⟩ : ∃ s : Str, dt = .str s ∧ s ∈ abc3 := by
          simp only [List.mem_cons, List.not_mem_nil, or_false] at m4
          rcases m4 with rfl | rfl | rfl <;> exact ⟨_, rfl, by decide +kernel⟩
        have st : sApp 3 (mTup (mCons (mC (.str ("flush" : Str))) (mCons (mCall 2 F__law_of (mCons (mVar 0) (mCons (mLst (mCons (mC (.str ("a" : Str))) (mCons (mC (.str ("b" : Str))) (mCons (mC (.str ("c" : Str))) mNil)))) mNil))) mNil))) [Sl.pub .urn, .pub (.int (most : Nat)), .pub (.int 7), .own (.lst (ds.map gD)), .pub (.int (0 + j))] u3 = some (.nx [Sl.pub .urn, .pub (.int (most : Nat)), .pub (.int 7), .own (.lst ((ds ++ [(s, none)]).map gD)), .pub (.int (0 + j))], u4) := by
          rw [List.map_append]
          exact sApp_eq (i := 3) (d := gD (s, none)) rfl (mTup_eq (mCons_eq rfl (c1 (mCall_eq (mCons_eq rfl (c1 (mLst_eq (ds := [.str ("a" : Str), .str ("b" : Str), .str ("c" : Str)]) rfl (isiz (by decide))))) rfl e4))) (isiz (by simp))) lmap
        refine ⟨[Sl.pub .urn, .pub (.int (most : Nat)), .pub (.int 7), .own (.lst (ds.map gD)), .pub (.int (0 + j))], [Sl.pub .urn, .pub (.int (most : Nat)), .pub (.int 7), .own (.lst ((ds ++ [(s, none)]).map gD)), .pub (.int (0 + j))], u4, rfl, sc_nx (sIf_t (mTru_eq (mBin_eq (mCall_eq (mCons_eq rfl (c1 rfl)) rfl e3) rfl rfl) rfl) (sc_nx st rfl)) rfl, o4.mono (by omega), ds ++ [(s, none)], _, rfl, fun d hd => ?_, by rw [List.length_append]; simp; omega, fun t => ?_⟩
        · rcases List.mem_append.mp hd with hd | hd
          · exact h3 d hd
          · rw [List.mem_singleton.mp hd]; exact hs
        · rw [hm_snoc]
          have h1 := hh t
          have h2 : wn t (s, none) = 0 := rfl
          have h4 : i * (most : Int) ≤ (i + 1) * most := by rw [Int.add_mul]; omega
          omega
      · obtain ⟨dt, u4, e4, m4, o4⟩ := of_ok (ds := [.str ("a" : Str), .str ("b" : Str), .str ("c" : Str), .str ("b" : Str)]) o3 (by omega) (by decide) (by decide)
        obtain ⟨s, rfl, hs⟩ : ∃ s : Str, dt = .str s ∧ s ∈ abc3 := by
          simp only [List.mem_cons, List.not_mem_nil, or_false] at m4
          rcases m4 with rfl | rfl | rfl | rfl <;> exact ⟨_, rfl, by decide +kernel⟩
        obtain ⟨k, u5, e5, k0, k1, o5⟩ := take_ok (low := (most : Int)) o4 (by omega) (by omega) (low_b (by omega) (by
          have : (2 : Int) ^ 150 < 2 ^ 200 := by decide
          omega))
        obtain ⟨m, hm'⟩ : ∃ m : Nat, (1 : Int) + k = m := ⟨(1 + k).toNat, by omega⟩
        have st : sApp 3 (mTup (mCons (mC (.str ("write" : Str))) (mCons (mCall 2 F__law_of (mCons (mVar 0) (mCons (mLst (mCons (mC (.str ("a" : Str))) (mCons (mC (.str ("b" : Str))) (mCons (mC (.str ("c" : Str))) (mCons (mC (.str ("b" : Str))) mNil))))) mNil))) (mCons (mBin fAdd (mC (.int (1))) (mCall 2 F__law_take (mCons (mVar 0) (mCons (mVar 1) mNil)))) mNil)))) [Sl.pub .urn, .pub (.int (most : Nat)), .pub (.int 7), .own (.lst (ds.map gD)), .pub (.int (0 + j))] u3 = some (.nx [Sl.pub .urn, .pub (.int (most : Nat)), .pub (.int 7), .own (.lst ((ds ++ [(s, some m)]).map gD)), .pub (.int (0 + j))], u5) := by
          rw [List.map_append]
          exact sApp_eq (i := 3) (d := gD (s, some m)) rfl (mTup_eq (mCons_eq rfl (mCons_eq (mCall_eq (mCons_eq rfl (c1 (mLst_eq (ds := [.str ("a" : Str), .str ("b" : Str), .str ("c" : Str), .str ("b" : Str)]) rfl (isiz (by decide))))) rfl e4) (c1 (mBin_eq rfl (mCall_eq (mCons_eq rfl (c1 rfl)) rfl e5) (show fAdd (.int 1) (.int k) = some (.int (m : Nat)) by show some (D.int (1 + k)) = _; rw [hm']))))) (isiz (by simp))) lmap
        refine ⟨[Sl.pub .urn, .pub (.int (most : Nat)), .pub (.int 7), .own (.lst (ds.map gD)), .pub (.int (0 + j))], [Sl.pub .urn, .pub (.int (most : Nat)), .pub (.int 7), .own (.lst ((ds ++ [(s, some m)]).map gD)), .pub (.int (0 + j))], u5, rfl, sc_nx (sIf_f (mTru_eq (x := .bl false) (mBin_eq (mCall_eq (mCons_eq rfl (c1 rfl)) rfl e3) rfl (by show some (D.bl (decide (q = 0))) = _; rw [decide_eq_false z])) rfl) (sc_nx st rfl)) rfl, o5.mono (by omega), ds ++ [(s, some m)], _, rfl, fun d hd => ?_, by rw [List.length_append]; simp; omega, fun t => ?_⟩
        · rcases List.mem_append.mp hd with hd | hd
          · exact h3 d hd
          · rw [List.mem_singleton.mp hd]; exact hs
        · rw [hm_snoc]
          have h1 := hh t
          have h2 : wn t (s, some m) ≤ m := by
            show (if s = t then m else 0) ≤ m
            split <;> omega
          have h4 : (i + 1) * (most : Int) = i * most + most := by rw [Int.add_mul]; omega
          omega) ⟨by simpa using o1, [], _, rfl, (fun d hd => by cases hd), rfl, fun s => (by show ((0 : Nat) : Int) ≤ _; omega)⟩ (by rw [rangeD_len]; omega)
  rw [rangeD_len] at o2 hl hh
  refine ⟨ds, u2, runB_rt (sc_nx (sSv_eq (vLst_eq (ds := []) mNil_eq (isiz (by simp)))) (sc_nx (sFor_eq (mRange1_eq (j := (c : Int)) (mCall_eq (mCons_eq rfl (c1 (mBin_eq rfl rfl rfl))) rfl e1) ⟨by omega, by omega⟩) (by rw [Int.toNat_natCast]; exact e2)) (sPub_eq rfl (sc_rt (sRet_eq (mBi_eq (c1 rfl) rfl)))))), h3, by omega, fun s => ?_, o2.mono (by omega)⟩
  have h1 := hh s
  have h2 : (0 + (c : Int)) * most ≤ 7 * most := Int.mul_le_mul_of_nonneg_right (by omega) (by omega)
  omega
def f30 : Nat := 10 ^ 30
def eaL : List Gd := [("a", some f30), ("b", some 2)]
def laL : List Gd := [("b", some 1), ("a", some f30)]
def whL : List Gd := eaL ++ ([("a", none), ("b", none)] : List Gd) ++ laL
theorem range_is {ds : List Gd} {s : Str} {num w : Nat} {lo hi : Int} {u : U} (few : ds.length ≤ 500) (h3 : Str3 ds) (h1 : 1 ≤ num) (h2 : num ≤ hm ds s) (hw : (dofs ds s num).getLast? = some w) (e1 : (SA ds s num w : Int) = lo) (e2 : (SH ds : Int) - 1 - (SB ds s num w : Nat) = hi) : F_place_range [gT ds, spotD s num] u = some (.tup [.int lo, .int hi], u) := by
  rw [range_ok few h3 h1 h2 hw]
  unfold rangeV
  rw [e1, e2]
theorem hand_any (u : U) : F__law_by_hand_right [] u = some (.bl true, u) := by
  have p30 : fPow (.int 10) (.int 30) = some (.int (f30 : Nat)) := by
    have e : ((10 : Int) ^ (30 : Int).toNat) = (f30 : Nat) := by decide +kernel
    simp only [fPow]
    rw [if_pos (by decide), e]
  have s1 : Str3 laL := by unfold Str3; decide +kernel
  have s2 : Str3 whL := by unfold Str3; decide +kernel
  have s3 : Str3 eaL := by unfold Str3; decide +kernel
  have s4 : Str3 (eaL ++ laL) := by unfold Str3; decide +kernel
  have k1 := range_is (ds := laL) (s := ("b" : Str)) (num := 1) (w := 0) (lo := 0) (hi := (f30 : Nat)) (u := u) (by decide) s1 (by decide) (by decide +kernel) (by decide +kernel) (by decide +kernel) (by decide +kernel)
  have k2 := range_is (ds := whL) (s := ("b" : Str)) (num := 3) (w := 4) (lo := (f30 : Nat) + 2) (hi := 2 * (f30 : Nat) + 2) (u := u) (by decide) s2 (by decide) (by decide +kernel) (by decide +kernel) (by decide +kernel) (by decide +kernel)
  have k3 := range_is (ds := eaL) (s := ("b" : Str)) (num := 1) (w := 1) (lo := 0) (hi := (f30 : Nat)) (u := u) (by decide) s3 (by decide) (by decide +kernel) (by decide +kernel) (by decide +kernel) (by decide +kernel)
  have k4 := range_is (ds := whL) (s := ("b" : Str)) (num := 1) (w := 1) (lo := 0) (hi := (f30 : Nat)) (u := u) (by decide) s2 (by decide) (by decide +kernel) (by decide +kernel) (by decide +kernel) (by decide +kernel)
  have k5 := range_is (ds := eaL ++ laL) (s := ("b" : Str)) (num := 3) (w := 2) (lo := 2) (hi := 2 * (f30 : Nat) + 2) (u := u) (by decide) s4 (by decide) (by decide +kernel) (by decide +kernel) (by decide +kernel) (by decide +kernel)
  have k6 := held_ok (ds := eaL ++ laL) (s := ("a" : Str)) (u := u) (by decide)
  rw [show mx ("a" : Str) 0 (eaL ++ laL) = 2 * f30 by decide +kernel] at k6
  have k7 := held_ok (ds := whL) (s := ("a" : Str)) (u := u) (by decide)
  rw [show mx ("a" : Str) 0 whL = f30 by decide +kernel] at k7
  have k8 := lines_ok (ds := whL) (u := u) (by decide) s2
  rw [show lns whL = [(("a" : Str), (2 : Int) * (f30 : Nat)), (("b" : Str), 3)] by decide +kernel] at k8
  have k8 : F_lines_of [gT whL] u = some (.tup [.tup [.str ("a" : Str), .int (2 * (f30 : Nat))], .tup [.str ("b" : Str), .int 3]], u) := k8
  obtain ⟨E, hE⟩ : ∃ E : D, E = gT eaL := ⟨_, rfl⟩
  obtain ⟨L, hL⟩ : ∃ E : D, E = gT laL := ⟨_, rfl⟩
  obtain ⟨W, hW⟩ : ∃ E : D, E = gT whL := ⟨_, rfl⟩
  obtain ⟨EL, hEL⟩ : ∃ E : D, E = gT (eaL ++ laL) := ⟨_, rfl⟩
  obtain ⟨F, hF⟩ : ∃ F : Int, F = (f30 : Nat) := ⟨_, rfl⟩
  have a1 : fAdd E (.tup [.tup [.str ("flush" : Str), .str ("a" : Str)], .tup [.str ("flush" : Str), .str ("b" : Str)]]) = some (.tup (eaL.map gD ++ [.tup [.str ("flush" : Str), .str ("a" : Str)], .tup [.str ("flush" : Str), .str ("b" : Str)]])) := by
    rw [hE]; exact fAdd_t (by decide)
  have a2 : fAdd (.tup (eaL.map gD ++ [.tup [.str ("flush" : Str), .str ("a" : Str)], .tup [.str ("flush" : Str), .str ("b" : Str)]])) L = some W := by
    rw [hL, hW]
    exact fAdd_t (by decide)
  have a3 : fAdd E L = some EL := by
    rw [hE, hL, hEL]
    show fAdd (.tup (eaL.map gD)) (.tup (laL.map gD)) = some (.tup ((eaL ++ laL).map gD))
    rw [fAdd_t (by decide), List.map_append]
  have m2 : fMul (.int 2) (.int F) = some (.int (2 * F)) := by
    simp only [fMul]
    rw [if_pos (.inl (by decide))]
  rw [← hL] at k1
  rw [← hW] at k2 k4 k7 k8
  rw [← hE] at k3
  rw [← hEL] at k5 k6
  rw [← hF] at p30 k1 k2 k3 k4 k5 k7 k8
  rw [show ((2 * f30 : Nat) : Int) = 2 * F by rw [hF]; omega] at k6
  obtain ⟨G1, hG1⟩ : ∃ G : List D, G = [.tup [.int 0, .int F], .tup [.int (F + 2), .int (2 * F + 2)]] := ⟨_, rfl⟩
  obtain ⟨G2, hG2⟩ : ∃ G : List D, G = G1 ++ [.tup [.int 0, .int F], .tup [.int 0, .int F]] := ⟨_, rfl⟩
  obtain ⟨G3, hG3⟩ : ∃ G : List D, G = G2 ++ [.tup [.int 2, .int (2 * F + 2)], .int (2 * F)] := ⟨_, rfl⟩
  obtain ⟨G4, hG4⟩ : ∃ G : List D, G = G3 ++ [.int F, .tup [.tup [.str ("a" : Str), .int (2 * F)], .tup [.str ("b" : Str), .int 3]]] := ⟨_, rfl⟩
  have l1 : G1.length = 2 := by rw [hG1]; rfl
  have l2 : G2.length = 4 := by rw [hG2, List.length_append, l1]; rfl
  have l3 : G3.length = 6 := by rw [hG3, List.length_append, l2]; rfl
  have sm := same_ok (u := u) 5 (.lst G4) (plain_l (n := 4) (fun d hd => by
    rw [hG4, hG3, hG2, hG1] at hd
    simp only [List.mem_append, List.mem_cons, List.not_mem_nil, or_false] at hd
    rcases hd with (((rfl | rfl) | rfl | rfl) | rfl | rfl) | rfl | rfl <;> rfl) (by rw [hG4, List.length_append, l3]; simp))
  have sp : ∀ (s : Str) (i : Int) (env : List Sl), mTup (mCons (mC (.str s)) (mCons (mC (.int i)) mNil)) env u = some (.tup [.str s, .int i], u) := fun s i env => mTup_eq (mCons_eq rfl (c1 rfl)) (isiz (by simp))
  refine runB_rt (sc_nx (env' := [Sl.pub (.int F), .no, .no, .no, .no, .no]) (sSet_eq (mBin_eq rfl rfl p30)) ?_)
  refine sc_nx (env' := [Sl.pub (.int F), .pub E, .pub L, .no, .no, .no]) (u1 := u) (by
    rw [hE, hL, hF]
    exact sPar_eq (mTup_eq (mCons_eq (mTup_eq (mCons_eq rfl (mCons_eq rfl (c1 rfl))) (isiz (by first | (simp; done) | decide))) (c1 (mTup_eq (mCons_eq rfl (mCons_eq rfl (c1 rfl))) (isiz (by first | (simp; done) | decide))))) (isiz (by first | (simp; done) | decide))) (mTup_eq (mCons_eq (mTup_eq (mCons_eq rfl (mCons_eq rfl (c1 rfl))) (isiz (by first | (simp; done) | decide))) (c1 (mTup_eq (mCons_eq rfl (mCons_eq rfl (c1 rfl))) (isiz (by first | (simp; done) | decide))))) (isiz (by first | (simp; done) | decide)))) ?_
  refine sc_nx (env' := [Sl.pub (.int F), .pub E, .pub L, .pub W, .no, .no]) (u1 := u) (sSet_eq (mBin_eq (mBin_eq rfl (mTup_eq (mCons_eq (mTup_eq (mCons_eq rfl (c1 rfl)) (isiz (by simp))) (c1 (mTup_eq (mCons_eq rfl (c1 rfl)) (isiz (by simp))))) (isiz (by simp))) a1) rfl a2)) ?_
  refine sc_nx (env' := [Sl.pub (.int F), .pub E, .pub L, .pub W, .pub (.lst G1), .no]) (u1 := u) (by
    rw [hG1]
    exact sSet_eq (mLst_eq (mCons_eq (mCall_eq (mCons_eq rfl (c1 (sp _ _ _))) rfl k1) (c1 (mCall_eq (mCons_eq rfl (c1 (sp _ _ _))) rfl k2))) (isiz (by simp)))) ?_
  refine sc_nx (env' := [Sl.pub (.int F), .pub E, .pub L, .pub W, .pub (.lst G2), .no]) (u1 := u) (by
    rw [hG2]
    exact sSet_eq (mBin_eq rfl (mLst_eq (mCons_eq (mCall_eq (mCons_eq rfl (c1 (sp _ _ _))) rfl k3) (c1 (mCall_eq (mCons_eq rfl (c1 (sp _ _ _))) rfl k4))) (isiz (by simp))) (fAdd_l (by rw [l1]; simp)))) ?_
  refine sc_nx (env' := [Sl.pub (.int F), .pub E, .pub L, .pub W, .pub (.lst G2), .pub (.lst G2)]) (u1 := u) (by
    have := sSet_eq (i := 5) (env := [Sl.pub (.int F), .pub E, .pub L, .pub W, .pub (.lst G2), .no]) (u := u) (mLst_eq (mCons_eq (m := mTup (mCons (mC (.int (0))) (mCons (mVar 0) mNil))) (mTup_eq (mCons_eq rfl (c1 rfl)) (isiz (by simp))) (mCons_eq (m := mTup (mCons (mBin fAdd (mVar 0) (mC (.int (2)))) (mCons (mBin fAdd (mBin fMul (mC (.int (2))) (mVar 0)) (mC (.int (2)))) mNil))) (mTup_eq (mCons_eq (mBin_eq rfl rfl rfl) (c1 (mBin_eq (mBin_eq rfl rfl m2) rfl rfl))) (isiz (by simp))) (mCons_eq (m := mTup (mCons (mC (.int (0))) (mCons (mVar 0) mNil))) (mTup_eq (mCons_eq rfl (c1 rfl)) (isiz (by simp))) (c1 (a := mTup (mCons (mC (.int (0))) (mCons (mVar 0) mNil))) (mTup_eq (mCons_eq rfl (c1 rfl)) (isiz (by simp))))))) (isiz (by simp)))
    rw [this, hG2, hG1]; rfl) ?_
  refine sc_nx (env' := [Sl.pub (.int F), .pub E, .pub L, .pub W, .pub (.lst G3), .pub (.lst G2)]) (u1 := u) (by
    rw [hG3]
    exact sSet_eq (mBin_eq rfl (mLst_eq (mCons_eq (mCall_eq (mCons_eq (mBin_eq rfl rfl a3) (c1 (sp _ _ _))) rfl k5) (c1 (mCall_eq (mCons_eq (mBin_eq rfl rfl a3) (c1 rfl)) rfl k6))) (isiz (by simp))) (fAdd_l (by rw [l2]; simp)))) ?_
  refine sc_nx (env' := [Sl.pub (.int F), .pub E, .pub L, .pub W, .pub (.lst G4), .pub (.lst G2)]) (u1 := u) (by
    rw [hG4]
    exact sSet_eq (mBin_eq rfl (mLst_eq (mCons_eq (mCall_eq (mCons_eq rfl (c1 rfl)) rfl k7) (c1 (mCall_eq (c1 rfl) rfl k8))) (isiz (by simp))) (fAdd_l (by rw [l3]; simp)))) ?_
  have g4 : fAdd (.lst G2) (.lst [.tup [.int 2, .int (2 * F + 2)], .int (2 * F), .int F, .tup [.tup [.str ("a" : Str), .int (2 * F)], .tup [.str ("b" : Str), .int 3]]]) = some (.lst G4) := by
    rw [fAdd_l (by rw [l2]; simp), hG4, hG3, List.append_assoc]; rfl
  have tail4 : mLst (mCons (mTup (mCons (mC (.int (2))) (mCons (mBin fAdd (mBin fMul (mC (.int (2))) (mVar 0)) (mC (.int (2)))) mNil))) (mCons (mBin fMul (mC (.int (2))) (mVar 0)) (mCons (mVar 0) (mCons (mTup (mCons (mTup (mCons (mC (.str ("a" : Str))) (mCons (mBin fMul (mC (.int (2))) (mVar 0)) mNil))) (mCons (mTup (mCons (mC (.str ("b" : Str))) (mCons (mC (.int (3))) mNil))) mNil))) mNil)))) [Sl.pub (.int F), .pub E, .pub L, .pub W, .pub (.lst G4), .pub (.lst G2)] u = some (.lst [.tup [.int 2, .int (2 * F + 2)], .int (2 * F), .int F, .tup [.tup [.str ("a" : Str), .int (2 * F)], .tup [.str ("b" : Str), .int 3]]], u) := by
    have v2 : mBin fMul (mC (.int (2))) (mVar 0) [Sl.pub (.int F), .pub E, .pub L, .pub W, .pub (.lst G4), .pub (.lst G2)] u = some (.int (2 * F), u) := mBin_eq rfl rfl m2
    refine mLst_eq (mCons_eq (mTup_eq (mCons_eq rfl (c1 (mBin_eq v2 rfl rfl))) (isiz (by simp))) (mCons_eq v2 (mCons_eq rfl (c1 (mTup_eq (mCons_eq (mTup_eq (mCons_eq rfl (c1 v2)) (isiz (by simp))) (c1 (mTup_eq (mCons_eq rfl (c1 rfl)) (isiz (by simp))))) (isiz (by simp))))))) (isiz (by simp))
  exact sc_rt (sRet_eq (mCall_eq (mCons_eq rfl (c1 (mBin_eq rfl tail4 g4))) rfl sm))
end Lw98
namespace Lw98
open PySem Dv L2
def dcL (ds : List Gd) : D := .dct (alK (lns ds)) (alD (lns ds))
theorem get_told (f : Str → Int) (x : Str) : ∀ xs : List Str, getA x (told xs f) = if x ∈ xs ∧ 0 < f x then some (f x) else none
  | [] => by simp [told, getA]
  | y :: xs => by
    have ih := get_told f x xs
    unfold told at ih ⊢
    rw [List.map_cons]
    by_cases q : 0 < f y
    · rw [List.filter_cons_of_pos (by show decide (0 < f y) = true; exact decide_eq_true q), getA_cons, ih]
      by_cases e : y = x
      · rw [if_pos e, if_pos ⟨List.mem_cons.mpr (.inl e.symm), by rw [← e]; exact q⟩, e]
      · rw [if_neg e]
        by_cases h : x ∈ xs ∧ 0 < f x
        · rw [if_pos h, if_pos ⟨List.mem_cons_of_mem _ h.1, h.2⟩]
        · rw [if_neg h, if_neg (fun z => h ⟨(List.mem_cons.mp z.1).resolve_left (fun w => e w.symm), z.2⟩)]
    · rw [List.filter_cons_of_neg (by show ¬ decide (0 < f y) = true; rw [decide_eq_false q]; decide), ih]
      by_cases h : x ∈ xs ∧ 0 < f x
      · rw [if_pos h, if_pos ⟨List.mem_cons_of_mem _ h.1, h.2⟩]
      · rw [if_neg h, if_neg (fun z => by
          rcases List.mem_cons.mp z.1 with e | e
          · rw [e] at z; exact q z.2
          · exact h ⟨e, z.2⟩)]
theorem get_lns {ds : List Gd} {s : Str} (hs : s ∈ abc3) : getA s (lns ds) = if 0 < hm ds s then some (hI ds s) else none := by
  unfold lns
  rw [get_told]
  by_cases q : 0 < hm ds s
  · rw [if_pos q, if_pos ⟨hs, by show (0 : Int) < ((hm ds s : Nat) : Int); omega⟩]
  · rw [if_neg q, if_neg (fun z => q (by have := z.2; have : (0 : Int) < ((hm ds s : Nat) : Int) := this; omega))]
theorem dix_l {ds : List Gd} {s : Str} (hs : s ∈ abc3) (h : 0 < hm ds s) : dixD (dcL ds) (.str s) = some (.int (hm ds s : Nat)) := by
  show valD (alK (lns ds)) (alD (lns ds)) (.inr s) = _
  rw [val_al, get_lns hs, if_pos h]; rfl
theorem din_l {ds : List Gd} {s : Str} (hs : s ∈ abc3) : dinD false (.str s) (dcL ds) = some (.bl (decide (0 < hm ds s))) := by
  show some (D.bl (xor false (valD (alK (lns ds)) (alD (lns ds)) (.inr s)).isSome)) = _
  rw [val_al, get_lns hs]
  by_cases h : 0 < hm ds s
  · rw [if_pos h, decide_eq_true h]; rfl
  · rw [if_neg h, decide_eq_false h]; rfl
theorem opt_ok {ds : List Gd} {s : Str} {i j : Nat} {env : List Sl} {u : U} (hs : s ∈ abc3) (hi : mVar i env u = some (.str s, u)) (hj : mVar j env u = some (dcL ds, u)) : mIte (mTru (mBin (dinD false) (mVar i) (mVar j))) (mBin dixD (mVar j) (mVar i)) (mC (.int (0))) env u = some (.int (hm ds s : Nat), u) := by
  have e := din_l (ds := ds) hs
  by_cases h : 0 < hm ds s
  · rw [decide_eq_true h] at e
    exact mIte_t (mTru_eq (mBin_eq hi hj e) rfl) (mBin_eq hj hi (dix_l hs h))
  · rw [decide_eq_false h] at e
    have h0 : hm ds s = 0 := by omega
    rw [h0]
    exact mIte_f (mTru_eq (mBin_eq hi hj e) rfl) rfl
theorem abc_items : itemsD (.str ("abc" : Str)) = some (abc3.map .str) := by
  have e : ("abc" : Str).cps.toList.map (fun c => (⟨#[c]⟩ : Str)) = abc3 := by decide +kernel
  show some (("abc" : Str).cps.toList.map fun c => D.str ⟨#[c]⟩) = _
  rw [← e, List.map_map]; rfl
theorem lns_mem {ds : List Gd} {p : Str × Int} (h : p ∈ lns ds) : p.1 ∈ abc3 ∧ 0 < hm ds p.1 := by
  obtain ⟨h1, h2⟩ := lns_val h
  refine ⟨h2, ?_⟩
  unfold lns told at h
  have := of_decide_eq_true (List.mem_filter.mp h).2
  rw [h1] at this
  omega
def addD (A B : List Gd) : D := .lst ((abc3.map fun s => (s, ((hm A s : Nat) : Int) + (hm B s : Nat))).map lineD)
def EV (A B : List Gd) (t s2 s11 s12 s13 s14 s15 s16 s17 s18 s19 : Sl) : List Sl := [.pub .urn, t, s2, .pub (gT A), .pub (gT B), .pub (gT (A ++ F3 ++ B)), .pub (gT (A ++ B)), .pub (dcL A), .pub (dcL B), .pub (.int (SH A : Nat)), .pub (addD A B), s11, s12, s13, s14, s15, s16, s17, s18, s19]
abbrev b7 : MS := (sCons (sSet 11 (mTup (mCons (mVar 2) (mCons (mBin fAdd (mC (.int (1))) (mCall 2 F__law_take (mCons (mVar 0) (mCons (mBin dixD (mVar 7) (mVar 2)) mNil)))) mNil)))) (sCons (sSet 12 (mLc (.one 19) [19] (mItems (mC (.str ("abc" : Str)))) mYes (mCall 3 F_ahead_of (mCons (mVar 3) (mCons (mVar 11) (mCons (mVar 19) mNil)))))) (sCons (sSet 13 (mLst (mCons (mLc (.one 19) [19] (mItems (mC (.str ("abc" : Str)))) mYes (mCall 3 F_ahead_of (mCons (mVar 5) (mCons (mVar 11) (mCons (mVar 19) mNil))))) (mCons (mLc (.one 19) [19] (mItems (mC (.str ("abc" : Str)))) mYes (mCall 3 F_ahead_of (mCons (mVar 6) (mCons (mVar 11) (mCons (mVar 19) mNil))))) mNil)))) (sCons (sIf (mNotB (mTru (mCall 2 (FR__law_same 6) (mCons (mBin fAdd (mVar 13) (mLst (mCons (mCall 2 F_place_range (mCons (mVar 5) (mCons (mVar 11) mNil))) mNil))) (mCons (mLst (mCons (mVar 12) (mCons (mVar 12) (mCons (mCall 2 F_place_range (mCons (mVar 3) (mCons (mVar 11) mNil))) mNil)))) mNil))))) (sCons (sRet (mC (.bl false))) sNil) sNil) sNil))))
abbrev b8 : MS := (sCons (sSet 14 (mBin fAdd (mC (.int (1))) (mCall 2 F__law_take (mCons (mVar 0) (mCons (mBin dixD (mVar 8) (mVar 2)) mNil))))) (sCons (sSet 15 (mTup (mCons (mVar 2) (mCons (mBin fAdd (mVar 14) (mIte (mTru (mBin (dinD false) (mVar 2) (mVar 7))) (mBin dixD (mVar 7) (mVar 2)) (mC (.int (0))))) mNil)))) (sCons (sTgt (.many [16, 17]) (mCall 2 F_place_range (mCons (mVar 4) (mCons (mTup (mCons (mVar 2) (mCons (mVar 14) mNil))) mNil)))) (sCons (sIf (mNotB (mTru (mCall 2 (FR__law_same 6) (mCons (mCall 2 F_place_range (mCons (mVar 5) (mCons (mVar 15) mNil))) (mCons (mTup (mCons (mBin fAdd (mVar 16) (mVar 9)) (mCons (mBin fAdd (mVar 17) (mVar 9)) mNil))) mNil))))) (sCons (sRet (mC (.bl false))) sNil) sNil) (sCons (sIf (mTru (mBin cNe (mLc (.one 19) [19] (mItemsK (mVar 7)) (mTru (mBin cNe (mCall 3 F_stand (mCons (mVar 5) (mCons (mTup (mCons (mVar 19) (mCons (mBin dixD (mVar 7) (mVar 19)) mNil))) (mCons (mVar 15) mNil)))) (mC (.str ("ahead" : Str))))) (mVar 19)) (mLst mNil))) (sCons (sRet (mC (.bl false))) sNil) sNil) (sCons (sSet 18 (mLst (mCons (mCall 2 F_most_held (mCons (mVar 3) (mCons (mVar 2) mNil))) (mCons (mCall 2 F_most_held (mCons (mVar 4) (mCons (mVar 2) mNil))) mNil)))) (sCons (sIf (mOrB (mNotB (mTru (mBin cEq (mBi bMaxL (mCons (mVar 18) mNil)) (mCall 2 F_most_held (mCons (mVar 5) (mCons (mVar 2) mNil)))))) (mTru (mBin cLt (mCall 2 F_most_held (mCons (mVar 6) (mCons (mVar 2) mNil))) (mBi bMaxL (mCons (mVar 18) mNil))))) (sCons (sRet (mC (.bl false))) sNil) sNil) sNil)))))))
abbrev b1 : MS := (sCons (sTgtS [3, 4] (mLc (.one 2) [2] (mRange1 (mC (.int (2)))) mYes (mCall 3 F__law_wide (mCons (mVar 0) (mCons (mCall 2 F__law_of (mCons (mVar 0) (mCons (mLst (mCons (mC (.int (3))) (mCons (mBin fPow (mC (.int (10))) (mC (.int (30)))) mNil))) mNil))) (mCons (mC (.int (7))) mNil)))))) (sCons (sTgt (.many [5, 6]) (mTup (mCons (mBin fAdd (mBin fAdd (mVar 3) (mTup (mCons (mTup (mCons (mC (.str ("flush" : Str))) (mCons (mC (.str ("a" : Str))) mNil))) (mCons (mTup (mCons (mC (.str ("flush" : Str))) (mCons (mC (.str ("b" : Str))) mNil))) (mCons (mTup (mCons (mC (.str ("flush" : Str))) (mCons (mC (.str ("c" : Str))) mNil))) mNil))))) (mVar 4)) (mCons (mBin fAdd (mVar 3) (mVar 4)) mNil)))) (sCons (sTgt (.many [7, 8]) (mTup (mCons (mCall 1 F__law_counts (mCons (mVar 3) mNil)) (mCons (mCall 1 F__law_counts (mCons (mVar 4) mNil)) mNil)))) (sCons (sSet 9 (mBi bSumL (mCons (mLc (.one 2) [2] (mItemsK (mVar 7)) mYes (mBin dixD (mVar 7) (mVar 2))) mNil))) (sCons (sSet 10 (mLc (.one 2) [2] (mItems (mC (.str ("abc" : Str)))) mYes (mTup (mCons (mVar 2) (mCons (mBin fAdd (mIte (mTru (mBin (dinD false) (mVar 2) (mVar 7))) (mBin dixD (mVar 7) (mVar 2)) (mC (.int (0)))) (mIte (mTru (mBin (dinD false) (mVar 2) (mVar 8))) (mBin dixD (mVar 8) (mVar 2)) (mC (.int (0))))) mNil))))) (sCons (sIf (mNotB (mTru (mCall 2 (FR__law_same 6) (mCons (mLst (mCons (mCall 1 F_lines_of (mCons (mVar 5) mNil)) (mCons (mCall 1 F_lines_of (mCons (mVar 6) mNil)) mNil))) (mCons (mBin fMul (mLst (mCons (mBi bTuple (mCons (mLc (.one 2) [2] (mItems (mVar 10)) (mTru (mBin cGt (mBin ixD (mVar 2) (mC (.int (1)))) (mC (.int (0))))) (mVar 2)) mNil)) mNil)) (mC (.int (2)))) mNil))))) (sCons (sRet (mC (.bl false))) sNil) sNil) (sCons (sFor (.one 2) (mItemsK (mVar 7)) (sCons (sSet 11 (mTup (mCons (mVar 2) (mCons (mBin fAdd (mC (.int (1))) (mCall 2 F__law_take (mCons (mVar 0) (mCons (mBin dixD (mVar 7) (mVar 2)) mNil)))) mNil)))) (sCons (sSet 12 (mLc (.one 19) [19] (mItems (mC (.str ("abc" : Str)))) mYes (mCall 3 F_ahead_of (mCons (mVar 3) (mCons (mVar 11) (mCons (mVar 19) mNil)))))) (sCons (sSet 13 (mLst (mCons (mLc (.one 19) [19] (mItems (mC (.str ("abc" : Str)))) mYes (mCall 3 F_ahead_of (mCons (mVar 5) (mCons (mVar 11) (mCons (mVar 19) mNil))))) (mCons (mLc (.one 19) [19] (mItems (mC (.str ("abc" : Str)))) mYes (mCall 3 F_ahead_of (mCons (mVar 6) (mCons (mVar 11) (mCons (mVar 19) mNil))))) mNil)))) (sCons (sIf (mNotB (mTru (mCall 2 (FR__law_same 6) (mCons (mBin fAdd (mVar 13) (mLst (mCons (mCall 2 F_place_range (mCons (mVar 5) (mCons (mVar 11) mNil))) mNil))) (mCons (mLst (mCons (mVar 12) (mCons (mVar 12) (mCons (mCall 2 F_place_range (mCons (mVar 3) (mCons (mVar 11) mNil))) mNil)))) mNil))))) (sCons (sRet (mC (.bl false))) sNil) sNil) sNil))))) (sCons (sFor (.one 2) (mItemsK (mVar 8)) (sCons (sSet 14 (mBin fAdd (mC (.int (1))) (mCall 2 F__law_take (mCons (mVar 0) (mCons (mBin dixD (mVar 8) (mVar 2)) mNil))))) (sCons (sSet 15 (mTup (mCons (mVar 2) (mCons (mBin fAdd (mVar 14) (mIte (mTru (mBin (dinD false) (mVar 2) (mVar 7))) (mBin dixD (mVar 7) (mVar 2)) (mC (.int (0))))) mNil)))) (sCons (sTgt (.many [16, 17]) (mCall 2 F_place_range (mCons (mVar 4) (mCons (mTup (mCons (mVar 2) (mCons (mVar 14) mNil))) mNil)))) (sCons (sIf (mNotB (mTru (mCall 2 (FR__law_same 6) (mCons (mCall 2 F_place_range (mCons (mVar 5) (mCons (mVar 15) mNil))) (mCons (mTup (mCons (mBin fAdd (mVar 16) (mVar 9)) (mCons (mBin fAdd (mVar 17) (mVar 9)) mNil))) mNil))))) (sCons (sRet (mC (.bl false))) sNil) sNil) (sCons (sIf (mTru (mBin cNe (mLc (.one 19) [19] (mItemsK (mVar 7)) (mTru (mBin cNe (mCall 3 F_stand (mCons (mVar 5) (mCons (mTup (mCons (mVar 19) (mCons (mBin dixD (mVar 7) (mVar 19)) mNil))) (mCons (mVar 15) mNil)))) (mC (.str ("ahead" : Str))))) (mVar 19)) (mLst mNil))) (sCons (sRet (mC (.bl false))) sNil) sNil) (sCons (sSet 18 (mLst (mCons (mCall 2 F_most_held (mCons (mVar 3) (mCons (mVar 2) mNil))) (mCons (mCall 2 F_most_held (mCons (mVar 4) (mCons (mVar 2) mNil))) mNil)))) (sCons (sIf (mOrB (mNotB (mTru (mBin cEq (mBi bMaxL (mCons (mVar 18) mNil)) (mCall 2 F_most_held (mCons (mVar 5) (mCons (mVar 2) mNil)))))) (mTru (mBin cLt (mCall 2 F_most_held (mCons (mVar 6) (mCons (mVar 2) mNil))) (mBi bMaxL (mCons (mVar 18) mNil))))) (sCons (sRet (mC (.bl false))) sNil) sNil) sNil)))))))) sNil))))))))
theorem low_hm {ds : List Gd} {s : Str} (h : hm ds s ≤ 7 * 10 ^ 30) (h0 : 0 < hm ds s) : ((hm ds s : Nat) : Int).natAbs.log2 < 9000 := low_b (by omega) (by
  have e : (7 * 10 ^ 30 : Nat) < 2 ^ 200 := by decide
  have : hm ds s < 2 ^ 200 := by omega
  omega)
structure Two (A B : List Gd) : Prop where
  a3 : Str3 A
  b3 : Str3 B
  al : A.length ≤ 7
  bl : B.length ≤ 7
  ah : ∀ s, hm A s ≤ 7 * 10 ^ 30
  bh : ∀ s, hm B s ≤ 7 * 10 ^ 30
theorem F3_str : Str3 F3 := by unfold Str3; decide +kernel
theorem Str3.app {A B : List Gd} (h : Str3 A) (g : Str3 B) : Str3 (A ++ B) := fun d hd => (List.mem_append.mp hd).elim (h d) (g d)
theorem calm_len {A B : List Gd} (h : Two A B) : (A ++ F3 ++ B).length ≤ 500 := by rw [List.length_append, List.length_append, F3_len]; have := h.al; have := h.bl; omega
theorem loose_len {A B : List Gd} (h : Two A B) : (A ++ B).length ≤ 500 := by rw [List.length_append]; have := h.al; have := h.bl; omega
abbrev ahL (ds : List Gd) (s : Str) (num w : Nat) : List D := abc3.map fun t => .int (ah ds s num w t : Nat)
theorem ahL_plain (ds : List Gd) (s : Str) (num w : Nat) : plainN 4 (.lst (ahL ds s num w)) = true := plain_l (n := 3) (fun d hd => by
  obtain ⟨t, _, rfl⟩ := List.mem_map.mp hd
  rfl) (by rw [List.length_map]; decide)
theorem ah_comp {ds : List Gd} {s : Str} {num w g : Nat} {A B : List Gd} {t s2 s12 s13 s14 s15 s16 s17 s18 s19 : Sl} {u : U} (few : ds.length ≤ 500) (h1 : 1 ≤ num) (h2 : num ≤ hm ds s) (hw : (dofs ds s num).getLast? = some w) (hg : ∀ x, mVar g (EV A B t s2 (.pub (spotD s num)) s12 s13 s14 s15 s16 s17 s18 x) u = some (gT ds, u)) :
    mLc (.one 19) [19] (mItems (mC (.str ("abc" : Str)))) mYes (mCall 3 F_ahead_of (mCons (mVar g) (mCons (mVar 11) (mCons (mVar 19) mNil)))) (EV A B t s2 (.pub (spotD s num)) s12 s13 s14 s15 s16 s17 s18 s19) u = some (.lst (ahL ds s num w), u) :=
  mLc_eq (mItems_eq rfl abc_items) (compL_mp fun x hx => turnL_eq (env' := EV A B t s2 (.pub (spotD s num)) s12 s13 s14 s15 s16 s17 s18 (.pub (.str x))) rfl (mCall_eq (mCons_eq (hg _) (mCons_eq rfl (c1 rfl))) rfl (ahead_ok few h1 h2 hw))) (isiz (by rw [List.length_map]; decide))
theorem b7_ok {A B : List Gd} {s : Str} {n : Int} {t s11 s12 s13 s14 s15 s16 s17 s18 s19 : Sl} {u : U} (h : Two A B) (hs : s ∈ abc3) (hp : 0 < hm A s) (o : OkU n u) (hn : n ≤ 2 ^ 38) :
    ∃ (c11 c12 c13 : Sl) (u' : U), b7 (EV A B t (.pub (.str s)) s11 s12 s13 s14 s15 s16 s17 s18 s19) u = some (.nx (EV A B t (.pub (.str s)) c11 c12 c13 s14 s15 s16 s17 s18 s19), u') ∧ OkU (n + 1) u' := by
  obtain ⟨r, u1, e1, r0, r1, o1⟩ := take_ok (low := (hm A s : Nat)) o (by omega) (by omega) (low_hm (h.ah s) hp)
  obtain ⟨num, hnum⟩ : ∃ m : Nat, (1 : Int) + r = m := ⟨(1 + r).toNat, by omega⟩
  have n1 : 1 ≤ num := by omega
  have n2 : num ≤ hm A s := by omega
  obtain ⟨w, hw, wl⟩ := dofs_some n1 n2
  have al : A.length ≤ 500 := by have := h.al; omega
  have hwc : (dofs (A ++ F3 ++ B) s num).getLast? = some w := by rw [List.append_assoc, dofs_left n2]; exact hw
  have hwl : (dofs (A ++ B) s num).getLast? = some w := by rw [dofs_left n2]; exact hw
  have c2 : num ≤ hm (A ++ F3 ++ B) s := by rw [hm_app, hm_app]; omega
  have l2 : num ≤ hm (A ++ B) s := by rw [hm_app]; omega
  have eC : ahL (A ++ F3 ++ B) s num w = ahL A s num w := List.map_congr_left fun x _ => by rw [List.append_assoc, ah_left wl]
  have eL : ahL (A ++ B) s num w = ahL A s num w := List.map_congr_left fun x _ => by rw [ah_left wl]
  have kA := fun {u : U} {s12 s13 s19 : Sl} => ah_comp (A := A) (B := B) (t := t) (s2 := .pub (.str s)) (s12 := s12) (s13 := s13) (s14 := s14) (s15 := s15) (s16 := s16) (s17 := s17) (s18 := s18) (s19 := s19) (g := 3) (u := u) al n1 n2 hw (fun _ => rfl)
  have kC := fun {u : U} {s12 s13 s19 : Sl} => ah_comp (A := A) (B := B) (t := t) (s2 := .pub (.str s)) (s12 := s12) (s13 := s13) (s14 := s14) (s15 := s15) (s16 := s16) (s17 := s17) (s18 := s18) (s19 := s19) (g := 5) (u := u) (calm_len h) n1 c2 hwc (fun _ => rfl)
  have kL := fun {u : U} {s12 s13 s19 : Sl} => ah_comp (A := A) (B := B) (t := t) (s2 := .pub (.str s)) (s12 := s12) (s13 := s13) (s14 := s14) (s15 := s15) (s16 := s16) (s17 := s17) (s18 := s18) (s19 := s19) (g := 6) (u := u) (loose_len h) n1 l2 hwl (fun _ => rfl)
  rw [eC] at kC
  rw [eL] at kL
  have rA := range_ok (u := u1) al h.a3 n1 n2 hw
  have rC := range_ok (u := u1) (calm_len h) ((h.a3.app F3_str).app h.b3) n1 c2 hwc
  rw [range_left hs wl n2] at rC
  obtain ⟨V, hV⟩ : ∃ V, V = rangeV A s num w := ⟨_, rfl⟩
  have pV : plainN 4 V = true := by rw [hV]; rfl
  rw [← hV] at rA rC
  obtain ⟨L, hL⟩ : ∃ L, L = D.lst (ahL A s num w) := ⟨_, rfl⟩
  have pL : plainN 4 L = true := by rw [hL]; exact ahL_plain ..
  rw [← hL] at kA kC kL
  have sm := same_ok (u := u1) 5 (.lst [L, L, V]) (plain_l (n := 4) (fun d hd => by
    simp only [List.mem_cons, List.not_mem_nil, or_false] at hd
    rcases hd with rfl | rfl | rfl
    · exact pL
    · exact pL
    · exact pV) (by simp))
  have eN : fAdd (.int 1) (.int r) = some (.int (num : Nat)) := by show some (D.int (1 + r)) = _; rw [hnum]
  refine ⟨.pub (spotD s num), .pub L, .pub (.lst [L, L]), u1, ?_, o1⟩
  refine sc_nx (env' := EV A B t (.pub (.str s)) (.pub (spotD s num)) s12 s13 s14 s15 s16 s17 s18 s19) (u1 := u1) (sSet_eq (i := 11) (mTup_eq (mCons_eq rfl (c1 (mBin_eq rfl (mCall_eq (mCons_eq rfl (c1 (mBin_eq rfl rfl (dix_l hs hp)))) rfl e1) eN))) (isiz (by simp)))) ?_
  refine sc_nx (env' := EV A B t (.pub (.str s)) (.pub (spotD s num)) (.pub L) s13 s14 s15 s16 s17 s18 s19) (u1 := u1) (sSet_eq (i := 12) kA) ?_
  refine sc_nx (env' := EV A B t (.pub (.str s)) (.pub (spotD s num)) (.pub L) (.pub (.lst [L, L])) s14 s15 s16 s17 s18 s19) (u1 := u1) (sSet_eq (i := 13) (mLst_eq (mCons_eq kC (c1 kL)) (isiz (by simp)))) ?_
  exact sc_nx (env' := EV A B t (.pub (.str s)) (.pub (spotD s num)) (.pub L) (.pub (.lst [L, L])) s14 s15 s16 s17 s18 s19) (u1 := u1) (sIf_f (mNotB_eq (k := true) (mTru_eq (mCall_eq (mCons_eq (mBin_eq rfl (mLst_eq (c1 (mCall_eq (mCons_eq rfl (c1 rfl)) rfl rC)) (isiz (by simp))) (fAdd_l (by simp))) (c1 (mLst_eq (mCons_eq rfl (mCons_eq rfl (c1 (mCall_eq (mCons_eq rfl (c1 rfl)) rfl rA)))) (isiz (by simp))))) rfl sm) rfl)) rfl) rfl
theorem b8_ok {A B : List Gd} {s : Str} {n : Int} {t s11 s12 s13 s14 s15 s16 s17 s18 s19 : Sl} {u : U} (h : Two A B) (hs : s ∈ abc3) (hp : 0 < hm B s) (o : OkU n u) (hn : n ≤ 2 ^ 38) :
    ∃ (c14 c15 c16 c17 c18 : Sl) (u' : U), b8 (EV A B t (.pub (.str s)) s11 s12 s13 s14 s15 s16 s17 s18 s19) u = some (.nx (EV A B t (.pub (.str s)) s11 s12 s13 c14 c15 c16 c17 c18 s19), u') ∧ OkU (n + 1) u' := by
  obtain ⟨r, u1, e1, r0, r1, o1⟩ := take_ok (low := (hm B s : Nat)) o (by omega) (by omega) (low_hm (h.bh s) hp)
  obtain ⟨num, hnum⟩ : ∃ m : Nat, (1 : Int) + r = m := ⟨(1 + r).toNat, by omega⟩
  have n1 : 1 ≤ num := by omega
  have n2 : num ≤ hm B s := by omega
  obtain ⟨w, hw, wl⟩ := dofs_some n1 n2
  have bl : B.length ≤ 500 := by have := h.bl; omega
  have al : A.length ≤ 500 := by have := h.al; omega
  have hF : hm (A ++ F3) s = hm A s := by rw [hm_app, F3_hm]; omega
  have hwc : (dofs (A ++ F3 ++ B) s (hm A s + num)).getLast? = some ((A ++ F3).length + w) := by
    rw [← hF]; exact dofs_right hw
  have cn : ∀ t, hm (A ++ F3 ++ B) t = hm A t + hm B t := fun t => by rw [hm_app, hm_app, F3_hm]; omega
  have cs := (h.a3.app F3_str).app h.b3
  have rB := range_ok (u := u1) bl h.b3 n1 n2 hw
  have rC := range_ok (u := u1) (calm_len h) cs (by omega) (by rw [cn]; omega) hwc
  rw [range_right n1] at rC
  obtain ⟨lo, hlo⟩ : ∃ i : Int, i = (SA B s num w : Nat) := ⟨_, rfl⟩
  obtain ⟨hi, hhi⟩ : ∃ i : Int, i = (SH B : Nat) - 1 - (SB B s num w : Nat) := ⟨_, rfl⟩
  have rB : F_place_range [gT B, spotD s num] u1 = some (.tup [.int lo, .int hi], u1) := by rw [rB, hlo, hhi]; rfl
  rw [← hlo, ← hhi] at rC
  have sm := same_ok (u := u1) 5 (.tup [.int (lo + (SH A : Nat)), .int (hi + (SH A : Nat))]) rfl
  have eN : fAdd (.int 1) (.int r) = some (.int (num : Nat)) := by show some (D.int (1 + r)) = _; rw [hnum]
  have eM : fAdd (.int (num : Nat)) (.int (hm A s : Nat)) = some (.int ((hm A s + num : Nat) : Int)) := by show some (D.int ((num : Int) + (hm A s : Nat))) = _; congr 2; omega
  obtain ⟨E, hE⟩ : ∃ E, E = EV A B t (.pub (.str s)) s11 s12 s13 (.pub (.int (num : Nat))) (.pub (spotD s (hm A s + num))) (.pub (.int lo)) (.pub (.int hi)) s18 s19 := ⟨_, rfl⟩
  have kS : compL (turnL (.one 19) [19] E (mTru (mBin cNe (mCall 3 F_stand (mCons (mVar 5) (mCons (mTup (mCons (mVar 19) (mCons (mBin dixD (mVar 7) (mVar 19)) mNil))) (mCons (mVar 15) mNil)))) (mC (.str ("ahead" : Str))))) (mVar 19)) ((lns A).map fun p => .str p.1) u1 = some ([], u1) := by
    have : compL (turnL (.one 19) [19] E (mTru (mBin cNe (mCall 3 F_stand (mCons (mVar 5) (mCons (mTup (mCons (mVar 19) (mCons (mBin dixD (mVar 7) (mVar 19)) mNil))) (mCons (mVar 15) mNil)))) (mC (.str ("ahead" : Str))))) (mVar 19)) ((lns A).map fun p => .str p.1) u1 = some (((lns A).filter fun _ => false).map (fun p => .str p.1), u1) := compL_fm (P := fun _ => false) fun p hp => by
      obtain ⟨q1, q2⟩ := lns_mem hp
      obtain ⟨w1, hw1, _⟩ := dofs_some (ds := A ++ F3 ++ B) (s := p.1) (num := hm A p.1) (by omega) (by rw [cn]; omega)
      have st := stand_ok (u := u1) (calm_len h) (abc_tx _ q1) (abc_tx _ hs) (n1 := hm A p.1) (by omega) (by rw [cn]; omega) hw1 (by omega) (by rw [cn]; omega) hwc (by
        rintro ⟨z1, z2⟩
        rw [z1] at z2; omega) (by rw [ah_right n1 q1]; omega)
      have hb : bindT (.one 19) (.str p.1) (wipeE E [19]) = some (EV A B t (.pub (.str s)) s11 s12 s13 (.pub (.int (num : Nat))) (.pub (spotD s (hm A s + num))) (.pub (.int lo)) (.pub (.int hi)) s18 (.pub (.str p.1))) := by rw [hE]; rfl
      rw [if_neg (by decide)]
      refine turnL_n hb (mTru_eq (x := .bl false) (mBin_eq (mCall_eq (mCons_eq rfl (mCons_eq (mTup_eq (mCons_eq rfl (c1 (mBin_eq rfl rfl (dix_l q1 q2)))) (isiz (by simp))) (c1 rfl))) rfl st) rfl ?_) rfl)
      show some (D.bl (!decide (("ahead" : Str) = ("ahead" : Str)))) = _
      rw [decide_eq_true rfl]; rfl
    rw [this, List.filter_eq_nil_iff.mpr fun _ _ => by decide]; rfl
  have hA := held_ok (ds := A) (s := s) (u := u1) al
  have hB := held_ok (ds := B) (s := s) (u := u1) bl
  have hC := held_ok (ds := A ++ F3 ++ B) (s := s) (u := u1) (calm_len h)
  rw [mx_calm hs] at hC
  have hLo := held_ok (ds := A ++ B) (s := s) (u := u1) (loose_len h)
  have ml := mx_loose A B s
  have mxl : bMaxL [.lst [.int (mx s 0 A : Nat), .int (mx s 0 B : Nat)]] = some (.int ((max (mx s 0 A) (mx s 0 B) : Nat) : Int)) := max_ok [mx s 0 B] (mx s 0 A)
  have e5 : cEq (.int ((max (mx s 0 A) (mx s 0 B) : Nat) : Int)) (.int ((max (mx s 0 A) (mx s 0 B) : Nat) : Int)) = some (.bl true) := ceq_int _
  have e6 : cLt (.int (mx s 0 (A ++ B) : Nat)) (.int ((max (mx s 0 A) (mx s 0 B) : Nat) : Int)) = some (.bl false) := by show some (D.bl (decide _)) = _; rw [decide_eq_false (by omega)]
  refine ⟨.pub (.int (num : Nat)), .pub (spotD s (hm A s + num)), .pub (.int lo), .pub (.int hi), .pub (.lst [.int (mx s 0 A : Nat), .int (mx s 0 B : Nat)]), u1, ?_, o1⟩
  refine sc_nx (env' := EV A B t (.pub (.str s)) s11 s12 s13 (.pub (.int (num : Nat))) s15 s16 s17 s18 s19) (u1 := u1) (sSet_eq (i := 14) (mBin_eq rfl (mCall_eq (mCons_eq rfl (c1 (mBin_eq rfl rfl (dix_l hs hp)))) rfl e1) eN)) ?_
  refine sc_nx (env' := EV A B t (.pub (.str s)) s11 s12 s13 (.pub (.int (num : Nat))) (.pub (spotD s (hm A s + num))) s16 s17 s18 s19) (u1 := u1) (sSet_eq (i := 15) (mTup_eq (mCons_eq rfl (c1 (mBin_eq rfl (opt_ok hs rfl rfl) eM))) (isiz (by simp)))) ?_
  refine sc_nx (env' := E) (u1 := u1) (by
    rw [hE]
    exact sTgt_eq (mCall_eq (mCons_eq rfl (c1 (mTup_eq (mCons_eq rfl (c1 rfl)) (isiz (by simp))))) rfl rB) rfl) ?_
  have g5 : mVar 5 E u1 = some (gT (A ++ F3 ++ B), u1) := by rw [hE]; rfl
  have g15 : mVar 15 E u1 = some (spotD s (hm A s + num), u1) := by rw [hE]; rfl
  have g16 : mVar 16 E u1 = some (.int lo, u1) := by rw [hE]; rfl
  have g17 : mVar 17 E u1 = some (.int hi, u1) := by rw [hE]; rfl
  have g9 : mVar 9 E u1 = some (.int (SH A : Nat), u1) := by rw [hE]; rfl
  have g7 : mVar 7 E u1 = some (dcL A, u1) := by rw [hE]; rfl
  refine sc_nx (env' := E) (u1 := u1) (sIf_f (mNotB_eq (k := true) (mTru_eq (mCall_eq (mCons_eq (mCall_eq (mCons_eq g5 (c1 g15)) rfl rC) (c1 (mTup_eq (mCons_eq (mBin_eq g16 g9 rfl) (c1 (mBin_eq g17 g9 rfl))) (isiz (by simp))))) rfl sm) rfl)) rfl) ?_
  refine sc_nx (env' := E) (u1 := u1) (sIf_f (mTru_eq (x := .bl false) (mBin_eq (mLc_eq (mItemsK_eq g7) kS (isiz (by simp))) (mLst_eq (ds := []) rfl (isiz (by simp))) rfl) rfl) rfl) ?_
  refine sc_nx (env' := EV A B t (.pub (.str s)) s11 s12 s13 (.pub (.int (num : Nat))) (.pub (spotD s (hm A s + num))) (.pub (.int lo)) (.pub (.int hi)) (.pub (.lst [.int (mx s 0 A : Nat), .int (mx s 0 B : Nat)])) s19) (u1 := u1) (by
    rw [hE]
    exact sSet_eq (i := 18) (mLst_eq (mCons_eq (mCall_eq (mCons_eq rfl (c1 rfl)) rfl hA) (c1 (mCall_eq (mCons_eq rfl (c1 rfl)) rfl hB))) (isiz (by simp)))) ?_
  exact sc_nx (sIf_f (mOrB_f (mNotB_eq (k := true) (mTru_eq (mBin_eq (mBi_eq (c1 rfl) mxl) (mCall_eq (mCons_eq rfl (c1 rfl)) rfl hC) e5) rfl)) (mTru_eq (mBin_eq (mCall_eq (mCons_eq rfl (c1 rfl)) rfl hLo) (mBi_eq (c1 rfl) mxl) e6) rfl)) rfl) rfl
theorem loop7 {A B : List Gd} {n : Int} {t s2 s11 s12 s13 s14 s15 s16 s17 s18 s19 : Sl} {u : U} (h : Two A B) (o : OkU n u) (hn : n ≤ 2 ^ 37) :
    ∃ (c2 c11 c12 c13 : Sl) (u' : U), forL (.one 2) b7 ((lns A).map fun p => .str p.1) (EV A B t s2 s11 s12 s13 s14 s15 s16 s17 s18 s19) u = some (.nx (EV A B t c2 c11 c12 c13 s14 s15 s16 s17 s18 s19), u') ∧ OkU (n + 3) u' := by
  have l3 := lns_len A
  obtain ⟨env', u', e, ou, c2, c11, c12, c13, rfl⟩ := forL_inv (t := .one 2) (f := b7) (ds := (lns A).map fun p => .str p.1) (i := 0) (N := 10) (env := EV A B t s2 s11 s12 s13 s14 s15 s16 s17 s18 s19) (u := u)
    (I := fun i env u => OkU (n + i) u ∧ ∃ c2 c11 c12 c13, env = EV A B t c2 c11 c12 c13 s14 s15 s16 s17 s18 s19) (fun d hd i env u hi hI => by
      obtain ⟨ou, c2, c11, c12, c13, rfl⟩ := hI
      obtain ⟨p, hp, rfl⟩ := List.mem_map.mp hd
      obtain ⟨q1, q2⟩ := lns_mem hp
      obtain ⟨d11, d12, d13, u', e, o'⟩ := b7_ok (t := t) (s11 := c11) (s12 := c12) (s13 := c13) (s14 := s14) (s15 := s15) (s16 := s16) (s17 := s17) (s18 := s18) (s19 := s19) h q1 q2 ou (by omega)
      exact ⟨_, _, u', rfl, e, o'.mono (by omega), _, _, _, _, rfl⟩) ⟨by simpa using o, _, _, _, _, rfl⟩ (by rw [List.length_map]; omega)
  rw [List.length_map] at ou
  exact ⟨c2, c11, c12, c13, u', e, ou.mono (by omega)⟩
theorem loop8 {A B : List Gd} {n : Int} {t s2 s11 s12 s13 s14 s15 s16 s17 s18 s19 : Sl} {u : U} (h : Two A B) (o : OkU n u) (hn : n ≤ 2 ^ 37) :
    ∃ (c2 c14 c15 c16 c17 c18 : Sl) (u' : U), forL (.one 2) b8 ((lns B).map fun p => .str p.1) (EV A B t s2 s11 s12 s13 s14 s15 s16 s17 s18 s19) u = some (.nx (EV A B t c2 s11 s12 s13 c14 c15 c16 c17 c18 s19), u') ∧ OkU (n + 3) u' := by
  have l3 := lns_len B
  obtain ⟨env', u', e, ou, c2, c14, c15, c16, c17, c18, rfl⟩ := forL_inv (t := .one 2) (f := b8) (ds := (lns B).map fun p => .str p.1) (i := 0) (N := 10) (env := EV A B t s2 s11 s12 s13 s14 s15 s16 s17 s18 s19) (u := u)
    (I := fun i env u => OkU (n + i) u ∧ ∃ c2 c14 c15 c16 c17 c18, env = EV A B t c2 s11 s12 s13 c14 c15 c16 c17 c18 s19) (fun d hd i env u hi hI => by
      obtain ⟨ou, c2, c14, c15, c16, c17, c18, rfl⟩ := hI
      obtain ⟨p, hp, rfl⟩ := List.mem_map.mp hd
      obtain ⟨q1, q2⟩ := lns_mem hp
      obtain ⟨d14, d15, d16, d17, d18, u', e, o'⟩ := b8_ok (t := t) (s11 := s11) (s12 := s12) (s13 := s13) (s14 := c14) (s15 := c15) (s16 := c16) (s17 := c17) (s18 := c18) (s19 := s19) h q1 q2 ou (by omega)
      exact ⟨_, _, u', rfl, e, o'.mono (by omega), _, _, _, _, _, _, rfl⟩) ⟨by simpa using o, _, _, _, _, _, _, rfl⟩ (by rw [List.length_map]; omega)
  rw [List.length_map] at ou
  exact ⟨c2, c14, c15, c16, c17, c18, u', e, ou.mono (by omega)⟩
theorem turn_ok {n : Int} {u : U} {t a2 a3 a4 a5 a6 a7 a8 a9 a10 a11 a12 a13 a14 a15 a16 a17 a18 a19 : Sl} (o : OkU n u) (hn : n ≤ 2 ^ 36) :
    ∃ (A B : List Gd) (c2 c11 c12 c13 c14 c15 c16 c17 c18 c19 : Sl) (u' : U), b1 [.pub .urn, t, a2, a3, a4, a5, a6, a7, a8, a9, a10, a11, a12, a13, a14, a15, a16, a17, a18, a19] u = some (.nx (EV A B t c2 c11 c12 c13 c14 c15 c16 c17 c18 c19), u') ∧ OkU (n + 80) u' := by
  have p30 : fPow (.int 10) (.int 30) = some (.int ((10 ^ 30 : Nat) : Int)) := by
    have e : ((10 : Int) ^ (30 : Int).toNat) = ((10 ^ 30 : Nat) : Int) := by decide +kernel
    simp only [fPow]
    rw [if_pos (by decide), e]
  have one : ∀ (n : Int) (u : U) (E : List Sl), OkU n u → n ≤ 2 ^ 37 → E[0]? = some (.pub .urn) → ∃ (ds : List Gd) (u' : U), mCall 3 F__law_wide (mCons (mVar 0) (mCons (mCall 2 F__law_of (mCons (mVar 0) (mCons (mLst (mCons (mC (.int (3))) (mCons (mBin fPow (mC (.int (10))) (mC (.int (30)))) mNil))) mNil))) (mCons (mC (.int (7))) mNil))) E u = some (gT ds, u') ∧ Str3 ds ∧ ds.length ≤ 7 ∧ (∀ s, hm ds s ≤ 7 * 10 ^ 30) ∧ OkU (n + 31) u' := fun n u E o hn h0 => by
    obtain ⟨dm, u1, e1, m1, o1⟩ := of_ok (ds := [.int 3, .int ((10 ^ 30 : Nat) : Int)]) o (by omega) (by decide) (by decide)
    obtain ⟨most, rfl, mp, ml⟩ : ∃ m : Nat, dm = .int (m : Nat) ∧ 0 < m ∧ m ≤ 10 ^ 30 := by
      simp only [List.mem_cons, List.not_mem_nil, or_false] at m1
      rcases m1 with rfl | rfl
      · exact ⟨3, rfl, by decide, by decide⟩
      · exact ⟨10 ^ 30, rfl, by decide, by decide⟩
    obtain ⟨ds, u2, e2, h3, hl, hh, o2⟩ := wide_ok (most := most) o1 (by omega) mp (Nat.lt_of_le_of_lt ml (by decide))
    refine ⟨ds, u2, mCall_eq (mCons_eq (mVar_eq h0) (mCons_eq (mCall_eq (mCons_eq (mVar_eq h0) (c1 (mLst_eq (mCons_eq rfl (c1 (mBin_eq rfl rfl p30))) (isiz (by simp))))) rfl e1) (c1 rfl))) rfl e2, h3, hl, fun s => Nat.le_trans (hh s) (by omega), o2.mono (by omega)⟩
  obtain ⟨A, u1, e1, A3, lA, Ah, o1⟩ := one n u [.pub .urn, t, .pub (.int 0), a3, a4, a5, a6, a7, a8, a9, a10, a11, a12, a13, a14, a15, a16, a17, a18, a19] o (by omega) rfl
  obtain ⟨B, u2, e2, B3, lB, Bh, o2⟩ := one (n + 31) u1 [.pub .urn, t, .pub (.int 1), a3, a4, a5, a6, a7, a8, a9, a10, a11, a12, a13, a14, a15, a16, a17, a18, a19] o1 (by omega) rfl
  have tw : Two A B := ⟨A3, B3, lA, lB, Ah, Bh⟩
  have ap : ∀ X Y : List Gd, X.length + Y.length ≤ 500 → fAdd (gT X) (gT Y) = some (gT (X ++ Y)) := fun X Y hl => by
    show fAdd (.tup (X.map gD)) (.tup (Y.map gD)) = some (.tup ((X ++ Y).map gD))
    rw [fAdd_t (by rw [List.length_map, List.length_map]; omega), List.map_append]
  have cA := counts_ok (u := u2) (by omega) A3
  have cB := counts_ok (u := u2) (by omega) B3
  have lC := lines_ok (u := u2) (calm_len tw) ((A3.app F3_str).app B3)
  have lL := lines_ok (u := u2) (loose_len tw) (A3.app B3)
  have tot1 : lns (A ++ F3 ++ B) = told abc3 fun s => ((hm A s : Nat) : Int) + (hm B s : Nat) := by
    unfold lns
    congr 1
    funext s
    show ((hm (A ++ F3 ++ B) s : Nat) : Int) = _
    rw [hm_app, hm_app, F3_hm]; omega
  have tot2 : lns (A ++ B) = told abc3 fun s => ((hm A s : Nat) : Int) + (hm B s : Nat) := by
    unfold lns
    congr 1
    funext s
    show ((hm (A ++ B) s : Nat) : Int) = _
    rw [hm_app]; omega
  rw [tot1] at lC
  rw [tot2] at lL
  obtain ⟨TL, hTL⟩ : ∃ L : Al, L = told abc3 fun s => ((hm A s : Nat) : Int) + (hm B s : Nat) := ⟨_, rfl⟩
  rw [← hTL] at lC lL
  have tl3 : TL.length ≤ 3 := by
    rw [hTL]
    unfold told
    exact Nat.le_trans (List.length_filter_le _ _) (by rw [List.length_map]; decide)
  have pT : plainN 4 (.tup (TL.map lineD)) = true := plain_row (f := lineD) (fun _ => rfl) (by omega)
  have sm := same_ok (u := u2) 5 (.lst [.tup (TL.map lineD), .tup (TL.map lineD)]) (plain_l (n := 4) (fun d hd => by
    simp only [List.mem_cons, List.not_mem_nil, or_false] at hd
    rcases hd with rfl | rfl <;> exact pT) (by simp))
  obtain ⟨c2, c11, c12, c13, u3, e3, o3⟩ := loop7 (t := t) (s2 := a2) (s11 := a11) (s12 := a12) (s13 := a13) (s14 := a14) (s15 := a15) (s16 := a16) (s17 := a17) (s18 := a18) (s19 := a19) tw (o2.mono (show n + 31 + 31 ≤ n + 70 by omega)) (by omega)
  obtain ⟨c2', c14, c15, c16, c17, c18, u4, e4, o4⟩ := loop8 (t := t) (s2 := c2) (s11 := c11) (s12 := c12) (s13 := c13) (s14 := a14) (s15 := a15) (s16 := a16) (s17 := a17) (s18 := a18) (s19 := a19) tw o3 (by omega)
  refine ⟨A, B, c2', c11, c12, c13, c14, c15, c16, c17, c18, a19, u4, ?_, o4.mono (by omega)⟩
  have hc : compL (turnL (.one 2) [2] [.pub .urn, t, a2, a3, a4, a5, a6, a7, a8, a9, a10, a11, a12, a13, a14, a15, a16, a17, a18, a19] mYes (mCall 3 F__law_wide (mCons (mVar 0) (mCons (mCall 2 F__law_of (mCons (mVar 0) (mCons (mLst (mCons (mC (.int (3))) (mCons (mBin fPow (mC (.int (10))) (mC (.int (30)))) mNil))) mNil))) (mCons (mC (.int (7))) mNil))))) (rangeD 0 2) u = some ([gT A, gT B], u2) := by
    have t1 := turnL_eq (t := .one 2) (own := [2]) (d := .int 0) (env := [.pub .urn, t, a2, a3, a4, a5, a6, a7, a8, a9, a10, a11, a12, a13, a14, a15, a16, a17, a18, a19]) rfl e1
    have t2 := turnL_eq (t := .one 2) (own := [2]) (d := .int 1) (env := [.pub .urn, t, a2, a3, a4, a5, a6, a7, a8, a9, a10, a11, a12, a13, a14, a15, a16, a17, a18, a19]) rfl e2
    show compL _ [.int 0, .int 1] u = _
    unfold compL
    rw [t1]
    dsimp only [bnd]
    unfold compL
    rw [t2]; rfl
  refine sc_nx (env' := [.pub .urn, t, a2, .pub (gT A), .pub (gT B), a5, a6, a7, a8, a9, a10, a11, a12, a13, a14, a15, a16, a17, a18, a19]) (u1 := u2) (sTgtS_eq (mLc_eq (mRange1_eq rfl (by decide)) hc (isiz (by simp))) rfl) ?_
  have f3 : mTup (mCons (mTup (mCons (mC (.str ("flush" : Str))) (mCons (mC (.str ("a" : Str))) mNil))) (mCons (mTup (mCons (mC (.str ("flush" : Str))) (mCons (mC (.str ("b" : Str))) mNil))) (mCons (mTup (mCons (mC (.str ("flush" : Str))) (mCons (mC (.str ("c" : Str))) mNil))) mNil))) [.pub .urn, t, a2, .pub (gT A), .pub (gT B), a5, a6, a7, a8, a9, a10, a11, a12, a13, a14, a15, a16, a17, a18, a19] u2 = some (gT F3, u2) := mTup_eq (mCons_eq (mTup_eq (mCons_eq rfl (c1 rfl)) (isiz (by simp))) (mCons_eq (mTup_eq (mCons_eq rfl (c1 rfl)) (isiz (by simp))) (c1 (mTup_eq (mCons_eq rfl (c1 rfl)) (isiz (by simp)))))) (isiz (by show 3 ≤ 1000; decide))
  refine sc_nx (env' := [.pub .urn, t, a2, .pub (gT A), .pub (gT B), .pub (gT (A ++ F3 ++ B)), .pub (gT (A ++ B)), a7, a8, a9, a10, a11, a12, a13, a14, a15, a16, a17, a18, a19]) (u1 := u2) (sTgt_eq (mTup_eq (mCons_eq (mBin_eq (mBin_eq rfl f3 (ap A F3 (by rw [F3_len]; omega))) rfl (ap (A ++ F3) B (by rw [List.length_append, F3_len]; omega))) (c1 (mBin_eq rfl rfl (ap A B (by omega))))) (isiz (by simp))) rfl) ?_
  refine sc_nx (env' := [.pub .urn, t, a2, .pub (gT A), .pub (gT B), .pub (gT (A ++ F3 ++ B)), .pub (gT (A ++ B)), .pub (dcL A), .pub (dcL B), a9, a10, a11, a12, a13, a14, a15, a16, a17, a18, a19]) (u1 := u2) (sTgt_eq (mTup_eq (mCons_eq (mCall_eq (c1 rfl) rfl cA) (c1 (mCall_eq (c1 rfl) rfl cB))) (isiz (by simp))) rfl) ?_
  have hw : compL (turnL (.one 2) [2] [.pub .urn, t, a2, .pub (gT A), .pub (gT B), .pub (gT (A ++ F3 ++ B)), .pub (gT (A ++ B)), .pub (dcL A), .pub (dcL B), a9, a10, a11, a12, a13, a14, a15, a16, a17, a18, a19] mYes (mBin dixD (mVar 7) (mVar 2))) ((lns A).map fun p => .str p.1) u2 = some ((lns A).map (fun p => .int (hm A p.1 : Nat)), u2) := compL_mp fun p hp => by
    obtain ⟨q1, q2⟩ := lns_mem hp
    exact turnL_eq (env' := [.pub .urn, t, .pub (.str p.1), .pub (gT A), .pub (gT B), .pub (gT (A ++ F3 ++ B)), .pub (gT (A ++ B)), .pub (dcL A), .pub (dcL B), a9, a10, a11, a12, a13, a14, a15, a16, a17, a18, a19]) rfl (mBin_eq rfl rfl (dix_l q1 q2))
  have la3 := lns_len A
  have sw := sum_lns (ds := A) (g := hm A) fun t _ h => h
  refine sc_nx (env' := [.pub .urn, t, a2, .pub (gT A), .pub (gT B), .pub (gT (A ++ F3 ++ B)), .pub (gT (A ++ B)), .pub (dcL A), .pub (dcL B), .pub (.int (SH A : Nat)), a10, a11, a12, a13, a14, a15, a16, a17, a18, a19]) (u1 := u2) (sSet_eq (i := 9) (mBi_eq (c1 (mLc_eq (mItemsK_eq rfl) hw (by rw [List.length_map]; exact isiz (by omega)))) sw)) ?_
  have hadd : compL (turnL (.one 2) [2] [.pub .urn, t, a2, .pub (gT A), .pub (gT B), .pub (gT (A ++ F3 ++ B)), .pub (gT (A ++ B)), .pub (dcL A), .pub (dcL B), .pub (.int (SH A : Nat)), a10, a11, a12, a13, a14, a15, a16, a17, a18, a19] mYes (mTup (mCons (mVar 2) (mCons (mBin fAdd (mIte (mTru (mBin (dinD false) (mVar 2) (mVar 7))) (mBin dixD (mVar 7) (mVar 2)) (mC (.int (0)))) (mIte (mTru (mBin (dinD false) (mVar 2) (mVar 8))) (mBin dixD (mVar 8) (mVar 2)) (mC (.int (0))))) mNil)))) (abc3.map .str) u2 = some ((abc3.map fun s => lineD (s, ((hm A s : Nat) : Int) + (hm B s : Nat))), u2) := compL_mp fun s hs =>
    turnL_eq (env' := [.pub .urn, t, .pub (.str s), .pub (gT A), .pub (gT B), .pub (gT (A ++ F3 ++ B)), .pub (gT (A ++ B)), .pub (dcL A), .pub (dcL B), .pub (.int (SH A : Nat)), a10, a11, a12, a13, a14, a15, a16, a17, a18, a19]) rfl (mTup_eq (mCons_eq rfl (c1 (mBin_eq (opt_ok hs rfl rfl) (opt_ok hs rfl rfl) rfl))) (isiz (by simp)))
  rw [show (abc3.map fun s => lineD (s, ((hm A s : Nat) : Int) + (hm B s : Nat))) = (abc3.map fun s => (s, ((hm A s : Nat) : Int) + (hm B s : Nat))).map lineD by rw [List.map_map]; rfl] at hadd
  refine sc_nx (env' := EV A B t a2 a11 a12 a13 a14 a15 a16 a17 a18 a19) (u1 := u2) (sSet_eq (i := 10) (mLc_eq (mItems_eq rfl abc_items) hadd (by rw [List.length_map, List.length_map]; exact isiz (by decide)))) ?_
  have hfl : compL (turnL (.one 2) [2] (EV A B t a2 a11 a12 a13 a14 a15 a16 a17 a18 a19) (mTru (mBin cGt (mBin ixD (mVar 2) (mC (.int (1)))) (mC (.int (0))))) (mVar 2)) ((abc3.map fun s => (s, ((hm A s : Nat) : Int) + (hm B s : Nat))).map lineD) u2 = some (TL.map lineD, u2) := by
    rw [hTL]
    exact compL_fm (P := fun p : Str × Int => decide (0 < p.2)) fun p hp => by
      have hb : bindT (.one 2) (lineD p) (wipeE (EV A B t a2 a11 a12 a13 a14 a15 a16 a17 a18 a19) [2]) = some (EV A B t (.pub (lineD p)) a11 a12 a13 a14 a15 a16 a17 a18 a19) := rfl
      have e : mTru (mBin cGt (mBin ixD (mVar 2) (mC (.int (1)))) (mC (.int (0)))) (EV A B t (.pub (lineD p)) a11 a12 a13 a14 a15 a16 a17 a18 a19) u2 = some (decide (0 < p.2), u2) := mTru_eq (x := .bl (decide (0 < p.2))) (mBin_eq (mBin_eq rfl rfl rfl) rfl rfl) rfl
      cases q : decide (0 < p.2) with
      | true => rw [q] at e; rw [if_pos rfl]; exact turnL_c hb e rfl
      | false => rw [q] at e; rw [if_neg (by decide)]; exact turnL_n hb e
  have m2 : fMul (.lst [.tup (TL.map lineD)]) (.int 2) = some (.lst [.tup (TL.map lineD), .tup (TL.map lineD)]) := by
    simp only [fMul]
    rw [if_pos ⟨by decide, by decide, by rw [line]; show 1 * 2 ≤ 16777216; decide⟩]; rfl
  refine sc_nx (env' := EV A B t a2 a11 a12 a13 a14 a15 a16 a17 a18 a19) (u1 := u2) (sIf_f (mNotB_eq (k := true) (mTru_eq (mCall_eq (mCons_eq (mLst_eq (mCons_eq (mCall_eq (c1 rfl) rfl lC) (c1 (mCall_eq (c1 rfl) rfl lL))) (isiz (by simp))) (c1 (mBin_eq (mLst_eq (c1 (mBi_eq (c1 (mLc_eq (mItems_eq (a := mVar 10) (x := addD A B) rfl rfl) hfl (by rw [List.length_map]; exact isiz (by omega)))) rfl)) (isiz (by simp))) rfl m2))) rfl sm) rfl)) rfl) ?_
  refine sc_nx (u1 := u3) (sFor_eq (mItemsK_eq (al := lns A) rfl) e3) ?_
  exact sc_nx (u1 := u4) (sFor_eq (mItemsK_eq (al := lns B) rfl) e4) rfl
theorem right_ok {u : U} (h : OkU 0 u) : ∃ u', F__law_right [.urn] u = some (.bl true, u') := by
  obtain ⟨env', u', e, ou, t, a2, a3, a4, a5, a6, a7, a8, a9, a10, a11, a12, a13, a14, a15, a16, a17, a18, a19, rfl⟩ := forL_inv (t := .one 1) (f := b1) (ds := rangeD 0 8) (i := 0) (N := 20) (env := [.pub .urn, .no, .no, .no, .no, .no, .no, .no, .no, .no, .no, .no, .no, .no, .no, .no, .no, .no, .no, .no]) (u := u)
    (I := fun i env u => OkU (i * 80) u ∧ ∃ t a2 a3 a4 a5 a6 a7 a8 a9 a10 a11 a12 a13 a14 a15 a16 a17 a18 a19, env = [Sl.pub .urn, t, a2, a3, a4, a5, a6, a7, a8, a9, a10, a11, a12, a13, a14, a15, a16, a17, a18, a19]) (fun d hd i env u hi hI => by
      obtain ⟨ou, t, a2, a3, a4, a5, a6, a7, a8, a9, a10, a11, a12, a13, a14, a15, a16, a17, a18, a19, rfl⟩ := hI
      obtain ⟨A, B, c2, c11, c12, c13, c14, c15, c16, c17, c18, c19, u', e, o'⟩ := turn_ok (t := .pub d) (a2 := a2) (a3 := a3) (a4 := a4) (a5 := a5) (a6 := a6) (a7 := a7) (a8 := a8) (a9 := a9) (a10 := a10) (a11 := a11) (a12 := a12) (a13 := a13) (a14 := a14) (a15 := a15) (a16 := a16) (a17 := a17) (a18 := a18) (a19 := a19) ou (by omega)
      exact ⟨_, _, u', rfl, e, o'.mono (by omega), _, _, _, _, _, _, _, _, _, _, _, _, _, _, _, _, _, _, _, rfl⟩) ⟨by simpa using h, _, _, _, _, _, _, _, _, _, _, _, _, _, _, _, _, _, _, _, rfl⟩ (by decide)
  exact ⟨u', runB_rt (sc_nx (sIf_f (mNotB_eq (k := true) (mTru_eq (mCall_eq (ds := []) rfl rfl (hand_any _)) rfl)) rfl) (sc_nx (sFor_eq (mRange1_eq rfl (by decide)) e) (sc_rt (sRet_eq rfl))))⟩
end Lw98
namespace Lw98
open PySem PySem.Spec PyProof.Rows L2 Dv
theorem fPow_s {i j : Int} (h : 0 ≤ j ∧ j ≤ 1000000 ∧ i.natAbs < 2 ^ 64) : fPow (.int i) (.int j) = some (.int (i ^ j.toNat)) := by simp only [fPow]; rw [if_pos h]
theorem box_ok {cs : List Int} {k : Nat} {u : U} (hk : k < cs.length) (h3 : cs.length ≤ 8) : ∃ a b : Int, F__law_box [.lst (cs.map .int), .int k] u = some (.lst [.int a, .int b, .int 0], u) ∧ 0 ≤ a ∧ 0 ≤ b ∧ b < 2 ^ 62 := by
  have hix : ixD (.lst (cs.map .int)) (.int k) = some (.int cs[k]) := by
    show atI (cs.map D.int) (k : Int) = _
    refine atI_nat ?_
    rw [List.getElem?_map, List.getElem?_eq_getElem hk]; rfl
  have hlen : bLen [.lst (cs.map .int)] = some (.int cs.length) := by
    show some (D.int ((cs.map D.int).length : Int)) = _
    rw [List.length_map]
  have hlt : cLt (.int k) (.int cs.length) = some (.bl true) := by
    show some (D.bl (decide _)) = _
    rw [decide_eq_true (by omega)]
  obtain ⟨c, hc⟩ : ∃ c, c = cs[k] := ⟨_, rfl⟩
  rw [← hc] at hix
  obtain ⟨m, hm⟩ : ∃ m, m = if c < 0 then -c else c := ⟨_, rfl⟩
  have hm0 : 0 ≤ m := by rw [hm]; split <;> omega
  have habs : bAbs [.int c] = some (.int m) := by rw [hm]; rfl
  obtain ⟨g, hg⟩ : ∃ g : Bool, g = decide ((10 : Int) ^ 18 ≤ m) := ⟨_, rfl⟩
  have hge : cGe (.int m) (.int ((10 : Int) ^ (18 : Int).toNat)) = some (.bl g) := by rw [hg]; rfl
  have hmul : fMul (.int m) (.int (if g then 1 else 0)) = some (.int (m * (if g then 1 else 0))) := fMul_r (by cases g <;> decide)
  have hmod := fMod_p (i := c) (j := 2305843009213693951) (by decide)
  have hmk := fMul_r (i := 39373) (j := (k : Int)) (by omega)
  have h1 := Int.emod_nonneg c (show (2305843009213693951 : Int) ≠ 0 by decide)
  have h2 := Int.emod_lt_of_pos c (show (0 : Int) < 2305843009213693951 by decide)
  refine ⟨m * (if g then 1 else 0), c % 2305843009213693951 + 39373 * k + 824198, runB_rt (sc_nx (sSet_eq (mIte_t (mTru_eq (mBin_eq rfl (mBi_eq (c1 rfl) hlen) hlt) rfl) (mBin_eq rfl rfl hix))) (sc_rt (sRet_eq (mLst_eq (mCons_eq (mBin_eq (mBi_eq (c1 rfl) habs) (mBi_eq (c1 (mBin_eq (mBi_eq (c1 rfl) habs) (mBin_eq rfl rfl (fPow_s (by decide))) hge)) rfl) hmul) (mCons_eq (mBin_eq (mBin_eq (mBin_eq (mBi_eq (c1 rfl) rfl) rfl hmod) (mBin_eq rfl rfl hmk) rfl) rfl rfl) (c1 rfl))) (isiz (by simp)))))), ?_, by omega, by omega⟩
  cases g <;> simp <;> omega
abbrev s__law_cells : Stmt := topS 22
theorem sc__law_cells : FnScope [("_law_script" : Str), ("_law_top" : Str), ("_law_cells_here" : Str), ("_law_k" : Str), ("_law_cell" : Str), ("_law_at_so" : Str)] [("_law_script" : Str), ("_law_top" : Str)] (defScope s__law_cells) := ⟨rfl, rfl, rfl, by decide +kernel, rfl, by decide +kernel, by decide +kernel⟩
def spCells (K : PySem.W.Frag) : Sp := fun vs H Q _ => ∃ (a : Addr) (ns : List Int) (top : Nat), vs = [.ref a, .int top] ∧ SqL K H a (ns.map V.int) ∧ 1 ≤ top ∧ top ≤ 8 ∧ ns.length ≤ 63 ∧
  ∀ H' p (cs : List Int), Same H H' → H' p = some (.lst (cs.map V.int)) → 1 ≤ cs.length → cs.length ≤ 8 → Q (.ref p) H'
theorem cut_ints (ns : List Int) (lo hi : Option Int) : cutV (ns.map V.int) lo hi = ((ns.drop (HT.sIx ns.length 0 lo)).take (HT.sIx ns.length ns.length hi - HT.sIx ns.length 0 lo)).map V.int := by
  unfold cutV
  rw [List.length_map, List.map_take, List.map_drop]
theorem ok__law_cells {P : Program} {w : World} {K : PySem.W.Frag} {mg : Str → Option Value} {base : Heap} {f : Addr} {fd : FuncData} (F : Fun K ("_law_cells" : Str) ("_law_cells" : Str) s__law_cells f fd) (nl : mg ("list" : Str) = none) (ne : mg ("enumerate" : Str) = none) (ni : mg ("int" : Str) = none) :
    FnOk P w K mg base CX0 1 f fd [("_law_script" : Str), ("_law_top" : Str)] (spCells K) := by
  have nd := sc__law_cells.nd
  refine F.ok sc__law_cells (fun vs H Q E h => ?_) (fun cdv A outer s H vs Q E hr h => ?_)
  · obtain ⟨a, ns, top, rfl, _⟩ := h; rfl
  · obtain ⟨a, ns, top, rfl, hS, ht1, ht8, hl, q⟩ := h
    refine ⟨_, pss_cons (ps_set (i := 2) nd rfl (Or.inl rfl) (pe_orT (pe_callTy call_list_of (by rfl) nl (by decide +kernel) (pa_cons (pe_slice sl_list (pv 0) po_none (po_some (pv 1))) pa_nil)) (pe_one (pe_lst (pa_cons pe_int pa_nil)))))
      (pss_cons (ps_for PassesOwn.never rfl (pi_enum (by rfl) ne (pa_cons (pe_slice sl_list (pv 0) (po_some (pv 1)) (po_some pe_int)) pa_nil)) (pg_tup rfl (pgs_cons (pg_name (i := 3) nd rfl (Or.inl rfl)) (pgs_cons (pg_name (i := 4) nd rfl (Or.inl rfl)) pgs_nil)))
        (pss_cons (ps_set (i := 5) nd rfl (Or.inl rfl) (pe_op op_mod (pe_callTy call_int1 (by rfl) ni (by decide +kernel) (pa_cons (pv 3) pa_nil)) (pv 1)))
        (pss_one (ps_asg (pe_op op_add (pe_ix ix_list (pv 2) (pv 5) (fun _ _ => rfl)) (pe_op op_mul (pv 4) (pe_op op_add (pv 3) pe_int))) (pg_sub (pv 2) (pv 5) set_list)))))
      (pss_one (ps_ret (pv 2)))), ?_⟩
    -- what follows the first statement, for the list at p
    have rest : ∀ (H1 : Hp) (p : Addr) (cs : List Int), Same H H1 → H p = none → H1 p = some (.lst (cs.map V.int)) → 1 ≤ cs.length → cs.length ≤ 8 → (top < ns.length → cs.length = top) →
        tSeq (tFor (iEnum K (tCons (tSl (rSlL K) (tVar 0) (tPart (tVar 1)) (tPart (tC (.int 63)))) tNil)) (gTup K 2 (gCons (gName 3) (gCons (gName 4) gNil)))
          (tSeq (tAsg (tOp (rI (fun _ j => 0 < j) fun i j => .int (i % j)) (tCB (fun xs H Q => (∃ i, xs = [V.int i] ∧ Q (.int i) H) ∨ ∃ k, xs = [V.bl k] ∧ Q (.int (if k then 1 else 0)) H) (tCons (tVar 3) tNil)) (tVar 1)) (gName 5))
            (tAsg (tOp (rI0 fun i j => .int (i + j)) (tOp (rIxL K) (tVar 2) (tVar 5)) (tOp (rI CMul fun i j => .int (i * j)) (tVar 4) (tOp (rI0 fun i j => .int (i + j)) (tVar 3) (tC (.int 2))))) (gSub (tVar 2) (tVar 5) rSetL)))) (tRet (tVar 2))
          { nx := fun _ H' => Q .non H', rt := Q } [some (.ref a), some (.int top), some (.ref p), none, none, none] H1 := by
      intro H1 p cs s1 np ep c1 c8 ct
      refine ⟨_, rfl, _, rfl, (top : Int), rfl, 63, rfl, a, ns.map V.int, rfl, s1.seq hS, fun r nr => ?_⟩
      rw [cut_ints]
      obtain ⟨zs, hzs⟩ : ∃ zs, zs = (ns.drop (HT.sIx ns.length 0 (some (top : Int)))).take (HT.sIx ns.length ns.length (some 63) - HT.sIx ns.length 0 (some (top : Int))) := ⟨_, rfl⟩
      rw [← hzs]
      have hne : 0 < zs.length → top < ns.length := fun h => by
        rw [hzs, List.length_take, List.length_drop, HT.sIx_nat] at h
        omega
      have nrp : r ≠ p := fun e => by subst e; rw [ep] at nr; cases nr
      refine ⟨r, zs.map V.int, rfl, .of upd_same, ?_⟩
      refine ⟨fun i m σ H2 => ∃ (cs2 : List Int) (y3 y4 y5 : Option V), σ = [some (.ref a), some (.int top), some (.ref p), y3, y4, y5] ∧ i + m = zs.length ∧ Same H H2 ∧ H2 p = some (.lst (cs2.map V.int)) ∧ cs2.length = cs.length ∧ H2 r = some (.lst (zs.map V.int)),
        ⟨zs.length, cs, none, none, none, rfl, by omega, fun b o e => same_new nr b o (s1 b o e), by rw [upd_ne nrp.symm]; exact ep, rfl, upd_same⟩, fun i m σ H2 hW => ?_⟩
      obtain ⟨cs2, y3, y4, y5, rfl, em, s2, ep2, el, er⟩ := hW
      by_cases hi : i < zs.length
      · have g1 : (zs.map V.int)[i]? = some (.int zs[i]) := by rw [List.getElem?_map, List.getElem?_eq_getElem hi]; rfl
        refine .inr ⟨⟨_, _, .of er, g1⟩, fun σ' H' => ∃ (cs2 : List Int) (y3 y4 y5 : Option V), σ' = [some (.ref a), some (.int top), some (.ref p), y3, y4, y5] ∧ Same H H' ∧ H' p = some (.lst (cs2.map V.int)) ∧ cs2.length = cs.length ∧ H' r = some (.lst (zs.map V.int)),
          fun σ' H' ⟨z1, z2, z3, z4, e1, e2, e3, e4, e5⟩ => ⟨m - 1, by omega, z1, z2, z3, z4, e1, by omega, e2, e3, e4, e5⟩, fun x H3 hy => ?_⟩
        obtain ⟨T, x1, rfl, nT, rfl, f1⟩ := hy
        have ex1 : x1 = .int zs[i] := Option.some.inj ((f1 _ (.of er)).symm.trans g1)
        subst ex1
        have hlen : cs2.length = top := by rw [el]; exact ct (hne (by omega))
        have hTp : p ≠ T := ne_of_none ep2 nT
        have hTr : r ≠ T := ne_of_none er nT
        refine ⟨T, _, rfl, .of upd_same, rfl, _, _, rfl, _, _, rfl, rfl, ?_⟩
        have hmod0 : 0 ≤ (i : Int) % (top : Int) := Int.emod_nonneg _ (by omega)
        have hmod1 : (i : Int) % (top : Int) < top := Int.emod_lt_of_pos _ (by omega)
        obtain ⟨j, hj⟩ : ∃ j : Nat, (i : Int) % (top : Int) = j := ⟨((i : Int) % (top : Int)).toNat, by omega⟩
        have hjl : j < cs2.length := by omega
        have hitl : zs.length ≤ 63 := by rw [hzs, List.length_take, List.length_drop]; omega
        refine ⟨_, rfl, .inl ⟨(i : Int), rfl, _, rfl, (i : Int), (top : Int), rfl, rfl, by omega, ?_⟩⟩
        have ep3 : upd H2 T (.tup [.int i, .int zs[i]]) p = some (.lst (cs2.map V.int)) := by rw [upd_ne hTp]; exact ep2
        refine ⟨_, rfl, _, rfl, p, cs2.map V.int, (i : Int) % (top : Int), .int cs2[j], rfl, rfl, .of ep3, by rw [hj]; exact atI_nat (by rw [List.getElem?_map, List.getElem?_eq_getElem hjl]; rfl), ?_⟩
        refine ⟨_, rfl, _, rfl, (i : Int), 2, rfl, rfl, zs[i], (i : Int) + 2, rfl, rfl, .inr (by omega), cs2[j], zs[i] * ((i : Int) + 2), rfl, rfl, ?_⟩
        refine ⟨_, rfl, _, rfl, p, cs2.map V.int, (i : Int) % (top : Int), j, rfl, rfl, ep3, ?_, ?_⟩
        · rw [hj]
          unfold ixN
          rw [if_pos (by omega), if_pos (by rw [List.length_map]; omega)]
          rfl
        · refine ⟨cs2.set j (cs2[j] + zs[i] * ((i : Int) + 2)), _, _, _, rfl, fun b o e => ?_, ?_, by rw [List.length_set]; exact el, ?_⟩
          · rw [upd_ne (ne_of_none e np)]
            exact same_new nT b o (s2 b o e)
          · rw [upd_same, List.map_set]
          · rw [upd_ne nrp, upd_ne hTr]; exact er
      · refine .inl ⟨⟨_, .of er, by rw [List.length_map]; omega⟩, ?_⟩
        exact ⟨_, rfl, q H2 p cs2 s2 ep2 (by omega) (by omega)⟩
    -- cells_here = list(script[:top]) or [0]
    refine ⟨_, rfl, _, rfl, (top : Int), rfl, a, ns.map V.int, rfl, hS, fun r nr => ?_⟩
    rw [cut_ints, HT.sIx_none, HT.sIx_nat, List.drop_zero, Nat.sub_zero]
    refine ⟨r, _, rfl, .inl (.of upd_same), fun p np => ?_⟩
    have s1 : Same H (upd H r (.lst ((ns.take (min top ns.length)).map V.int))) := same_new nr
    have np0 : H p = none := s1.free np
    have s2 : Same H (upd (upd H r (.lst ((ns.take (min top ns.length)).map V.int))) p (.lst ((ns.take (min top ns.length)).map V.int))) := fun b o e => same_new np b o (s1 b o e)
    refine ⟨!((ns.take (min top ns.length)).map V.int).isEmpty, .inl ⟨_, .of upd_same, rfl⟩, ?_⟩
    cases hns : ns with
    | nil =>
      have e0 : (!((ns.take (min top ns.length)).map V.int).isEmpty) = false := by rw [hns, List.take_nil]; rfl
      rw [← hns, e0]
      refine iteF ⟨by decide, fun p2 np2 => ?_⟩
      have np20 : H p2 = none := s2.free np2
      exact rest _ p2 [0] (fun b o e => same_new np2 b o (s2 b o e)) np20 upd_same (by decide) (by decide) (fun h => by rw [hns] at h; simp at h)
    | cons n0 nr0 =>
      have hlen : (ns.take (min top ns.length)).length = min top ns.length := by rw [List.length_take]; omega
      have hn0 : 0 < ns.length := by rw [hns]; simp
      have : (!((ns.take (min top ns.length)).map V.int).isEmpty) = true := by
        cases hh : ns.take (min top ns.length) with
        | nil => rw [hh] at hlen; simp at hlen; omega
        | cons _ _ => rfl
      rw [← hns, this]
      exact iteT (rest _ p _ s2 np0 upd_same (by rw [hlen]; omega) (by rw [hlen]; omega) (fun h => by rw [hlen]; omega))
end Lw98
namespace Lw98
open PySem PySem.Spec PyProof.Rows L2 Dv
abbrev s_law : Stmt := topS 29
theorem sc_law : FnScope [("_law_script" : Str), ("_law_cells_here" : Str), ("_law_k" : Str)] [("_law_script" : Str)] (defScope s_law) := ⟨rfl, rfl, rfl, by decide +kernel, rfl, by decide +kernel, by decide +kernel⟩
def spLaw (K : PySem.W.Frag) : Sp := fun vs H Q _ => ∃ (a : Addr) (ns : List Int), vs = [.ref a] ∧ SqL K H a (ns.map V.int) ∧ ns.length ≤ 63 ∧ ∀ H', Q (.bl true) H'
theorem vint_reps {K : PySem.W.Frag} {G : Gx K} {ua : Option Addr} {B : Hp} (cs : List Int) : Reps G ua (cs.map D.int) (cs.map V.int) B := Reps.ints
theorem env_noN {K : PySem.W.Frag} {G : Gx K} {ua : Option Addr} {B H : Hp} {n : Nat} {σ : List (Option V)} (h : σ.length = n) : EnvOk G ua (List.replicate n Sl.no) σ B H := by
  have hno : ∀ (i : Nat) x, (List.replicate n Sl.no)[i]? = some x → x = Sl.no := fun i x e => by
    rw [List.getElem?_replicate] at e
    split at e
    · exact (Option.some.inj e).symm
    · cases e
  exact ⟨by rw [List.length_replicate, h], fun i d e => (by have := hno i _ e; cases this), fun i d e => (by have := hno i _ e; cases this), fun i j a b p e => (by have := hno i _ e; cases this)⟩
theorem ok_law {P : Program} {w : World} {K : PySem.W.Frag} {mg : Str → Option Value} {base : Heap} {G : Gx K} (T : Tx mg) {f : Addr} {fd : FuncData} (F : Fun K ("law" : Str) ("law" : Str) s_law f fd)
    {fc : Addr} {fdc : FuncData} (FC : FnOk P w K mg base CX0 1 fc fdc [("_law_script" : Str), ("_law_top" : Str)] (spCells K)) (mc : mg ("_law_cells" : Str) = some (.ref fc)) (kc : PySem.W.keepIn K (.ref fc) = true) (bc : Binds K fdc [("_law_script" : Str), ("_law_top" : Str)] [])
    (D_right : DefOk P w mg base G ("_law_right" : Str) 8 1 F__law_right) (D_box : DefOk P w mg base G ("_law_box" : Str) 8 2 F__law_box) : FnOk P w K mg base CX0 9 f fd [("_law_script" : Str)] (spLaw K) := by
  have nd := sc_law.nd
  obtain ⟨fr, fdr, psr, hfr, hmr, hkr, hbr⟩ := D_right
  refine F.ok sc_law (fun vs H Q E h => ?_) (fun cdv A outer s H vs Q E hr h => ?_)
  · obtain ⟨a, ns, rfl, _⟩ := h; rfl
  · obtain ⟨a, ns, rfl, hS, hl, q⟩ := h
    refine ⟨_, pss_cons (ps_set (i := 1) nd rfl (Or.inr rfl) (pe_call (FC.mono (k := 8) (by decide)) hr (by rfl) mc kc bc .nil pass0 (pa_cons (pv 0) (pa_cons pe_int pa_nil))))
      (pss_one (ps_ret (pe_callB (cr_all rfl) (by rfl) T.n_all (by decide +kernel) (pa_cons
        (pe_lc (own := [(("_law_k" : Str), 2)]) (g := gName 2) (tt := tYes) rfl nd (pi_range1 rfl T.n_range (pa_cons (pe_callB call_len_seq (by rfl) T.n_len PySem.boot_len (pa_cons (pv 1) pa_nil)) pa_nil))
          (blkOk_by (own := [(("_law_k" : Str), 2)]) (N := [("_law_script" : Str), ("_law_cells_here" : Str), ("_law_k" : Str)]) (sc := defScope s_law) (by decide +kernel))
          (fun _ _ _ _ _ => pg_name (i := 2) nd rfl (Or.inl rfl)) (fun _ _ _ _ _ => pts_nil)
          (fun _ _ _ _ _ => pe_call hfr hr (by rfl) hmr hkr hbr .nil pass0 (pa_cons (show PE _ _ (tEv (K := K) G (mCall 2 F__law_box (mCons (mVar 1) (mCons (mVar 2) mNil)))) from dv_call D_box hr rfl (dvs_cons (dv_var 1) (dvs_cons (dv_var 2) dvs_nil))) pa_nil))) pa_nil)))), ?_⟩
    refine ⟨_, rfl, a, ns, 3, rfl, hS, by decide, by decide, hl, fun H1 p cs s1 hp c1 c8 => ?_⟩
    have hp2 := hp
    obtain ⟨H2, eH2⟩ : ∃ H2, H2 = H1 := ⟨_, rfl⟩
    rw [← eH2] at hp2
    rw [← eH2]
    -- all over the cells
    refine ⟨_, rfl, p, _, rfl, .inl (.of hp2), (cs.length : Int), ?_, by omega, by omega, fun Dp hD => ?_⟩
    · rw [List.length_map]
    rw [Int.toNat_natCast]
    have hDp : Dp ≠ p := fun e => by rw [e, hp2] at hD; cases hD
    refine lc_range (lo := 0) (n := cs.length) (fun i H => H Dp = some (.lst (List.replicate i (V.bl true))) ∧ ∃ cs2 : List Int, cs2.length = cs.length ∧ H p = some (.lst (cs2.map V.int))) ⟨upd_same, cs, rfl, by rw [upd_ne hDp.symm]; exact hp2⟩ (fun i H3 hi hP => ?_) fun H3 hP => ?_
    · obtain ⟨e1, cs2, el, e2⟩ := hP
      refine ⟨rfl, ?_⟩
      unfold tYes
      dsimp only
      rw [if_pos rfl]
      -- the box
      obtain ⟨x, y, hbx, hx, hy1, hy2⟩ := box_ok (cs := cs2) (k := i) (u := ⟨0, 0, 0⟩) (by omega) (by omega)
      obtain ⟨Bp, hBp⟩ : ∃ Bp : Hp, Bp = upd (fun _ => none) p (.lst (cs2.map V.int)) := ⟨_, rfl⟩
      have wB : Wd none ⟨0, 0, 0⟩ Bp H3 := by
        refine ⟨fun b o e => ?_, fun _ z => by cases z⟩
        rw [hBp] at e
        by_cases z : b = p
        · rw [z, upd_same] at e; cases e; rw [z]; exact e2
        · rw [upd_ne z] at e; cases e
      have rC : Rep G none (.lst (cs2.map .int)) (.ref p) Bp := by unfold Rep; exact ⟨p, _, rfl, by rw [hBp]; exact upd_same, vint_reps cs2⟩
      have eE : EnvOk G none [.no, .pub (.lst (cs2.map .int)), .pub (.int (0 + i))] [none, some (V.ref p), some (V.int (0 + i))] Bp H3 :=
        ((env_noN (n := 3) (σ := [none, none, none]) rfl).set rC 1).set (d := .int (0 + i)) (v := V.int (0 + i)) rep_int 2
      have eE' : EnvOk G none [.no, .pub (.lst (cs2.map .int)), .pub (.int (0 + i))] [some (V.ref a), some (V.ref p), some (V.int (0 + i))] Bp H3 :=
        ((env_noN (n := 3) (σ := [some (V.ref a), none, none]) rfl).set rC 1).set (d := .int (0 + i)) (v := V.int (0 + i)) rep_int 2
      refine ⟨none, ⟨0, 0, 0⟩, Bp, _, _, _, eE', wB, mCall_eq (mCons_eq rfl (mCons_eq rfl mNil_eq)) rfl (by rw [Int.zero_add]; exact hbx), fun v H4 ha4 => ?_⟩
      obtain ⟨B4, g4, w4, r4⟩ := ha4
      obtain ⟨z, vs, rfl, hz, rz⟩ := r4.lst
      have evs : vs = [V.int x, V.int y, V.int 0] := rz.ints_of (xs := [x, y, 0])
      rw [evs] at hz
      have hz4 := w4.sub _ _ hz
      obtain ⟨u5, h5⟩ := right_ok (u := ⟨x, y, 0⟩) ⟨hx, ⟨hy1, hy2⟩, Int.le_refl 0, Int.le_refl 0⟩
      have eD4 : H4 Dp = some (.lst (List.replicate i (V.bl true))) := g4.keep _ _ e1 (fun z => by cases z)
      have zD : z ≠ Dp := fun e => by
        rcases g4.new z _ hz with q | q
        · rw [hBp, e, upd_ne hDp] at q; cases q
        · rw [e, e1] at q; cases q
      refine ⟨some z, ⟨x, y, 0⟩, fun _ => none, [.urn], .bl true, u5, .cons (by unfold Rep; exact ⟨z, rfl, rfl⟩) .nil, rfl, ⟨fun _ _ z => (by cases z), fun b e => by cases e; exact ⟨rfl, hz4⟩⟩, h5, fun v5 H5 ha5 => ?_⟩
      obtain ⟨B5, g5, w5, r5⟩ := ha5
      cases r5.bl
      have eD5 : H5 Dp = some (.lst (List.replicate i (V.bl true))) := g5.keep _ _ eD4 (fun e => zD (Option.some.inj e))
      refine ⟨_, eD5, by rw [List.length_replicate, line]; omega, by rw [upd_same, List.replicate_succ'], ?_⟩
      by_cases zp : z = p
      · -- the box is the cells' own list: three numbers all the same
        subst zp
        have e4 := g4.keep _ _ e2 (fun e => by cases e)
        rw [hz4] at e4
        have e5 : cs2.length = 3 := by
          have := congrArg (fun o => match o with | some (HO.lst xs) => xs.length | _ => 0) e4
          simp at this
          omega
        refine ⟨[u5.a, u5.b, u5.c], by rw [← el, e5]; rfl, ?_⟩
        rw [upd_ne hDp.symm]
        exact (w5.urn z rfl).2
      · refine ⟨cs2, el, ?_⟩
        rw [upd_ne hDp.symm]
        exact g5.keep _ _ (g4.keep _ _ e2 (fun e => by cases e)) (fun e => zp (Option.some.inj e))
    · obtain ⟨e1, cs2, el, e2⟩ := hP
      refine ⟨Dp, List.replicate cs.length true, rfl, .of (by rw [List.map_replicate]; exact e1), ?_⟩
      have : (List.replicate cs.length true).all id = true := by
        rw [List.all_eq_true]
        intro b hb
        rw [(List.mem_replicate.mp hb).2]; rfl
      rw [this]
      exact q _
end Lw98
namespace Lw98
open PySem PySem.Spec PyProof.Rows L2 Dv
theorem all_mk {l : PySem.W.OpenLaw} {w : World} {K : PySem.W.Frag} {h : Heap} {mg : Str → Option Value} {fa : Addr} (X : K.In h) (G0 : h.Ns mainGlobals mg) (hfa : mg "law" = some (.ref fa))
    {f_tupled : Addr}
    {od_tupled an_tupled : Option Addr}
    {sl_tupled : Array (Option Value)}
    {oc_tupled kV_tupled dc_tupled pm_tupled cd_tupled ct_tupled : Value}
    (a_tupled : PySem.W.nsIn K mainGlobals ("tupled" : Str) = some (some (.ref f_tupled)))
    (l_tupled : K.lookup f_tupled = some ⟨oc_tupled, od_tupled, .func (PySem.W.fnOf ("tupled" : Str) ("tupled" : Str) (defArgs s_tupled) (defBody s_tupled) (defScope s_tupled) .none kV_tupled dc_tupled pm_tupled an_tupled cd_tupled ct_tupled), sl_tupled⟩)
    (c_tupled : PySem.W.codeIn K cd_tupled ("tupled" : Str) = true)
    (k_tupled : PySem.W.keepIn K (.ref f_tupled) = true)
    {f_counted : Addr}
    {od_counted an_counted : Option Addr}
    {sl_counted : Array (Option Value)}
    {oc_counted kV_counted dc_counted pm_counted cd_counted ct_counted : Value}
    (a_counted : PySem.W.nsIn K mainGlobals ("counted" : Str) = some (some (.ref f_counted)))
    (l_counted : K.lookup f_counted = some ⟨oc_counted, od_counted, .func (PySem.W.fnOf ("counted" : Str) ("counted" : Str) (defArgs s_counted) (defBody s_counted) (defScope s_counted) .none kV_counted dc_counted pm_counted an_counted cd_counted ct_counted), sl_counted⟩)
    (c_counted : PySem.W.codeIn K cd_counted ("counted" : Str) = true)
    (k_counted : PySem.W.keepIn K (.ref f_counted) = true)
    {f_is_write : Addr}
    {od_is_write an_is_write : Option Addr}
    {sl_is_write : Array (Option Value)}
    {oc_is_write kV_is_write dc_is_write pm_is_write cd_is_write ct_is_write : Value}
    (a_is_write : PySem.W.nsIn K mainGlobals ("is_write" : Str) = some (some (.ref f_is_write)))
    (l_is_write : K.lookup f_is_write = some ⟨oc_is_write, od_is_write, .func (PySem.W.fnOf ("is_write" : Str) ("is_write" : Str) (defArgs s_is_write) (defBody s_is_write) (defScope s_is_write) .none kV_is_write dc_is_write pm_is_write an_is_write cd_is_write ct_is_write), sl_is_write⟩)
    (c_is_write : PySem.W.codeIn K cd_is_write ("is_write" : Str) = true)
    (k_is_write : PySem.W.keepIn K (.ref f_is_write) = true)
    {f_how_many_in : Addr}
    {od_how_many_in an_how_many_in : Option Addr}
    {sl_how_many_in : Array (Option Value)}
    {oc_how_many_in kV_how_many_in dc_how_many_in pm_how_many_in cd_how_many_in ct_how_many_in : Value}
    (a_how_many_in : PySem.W.nsIn K mainGlobals ("how_many_in" : Str) = some (some (.ref f_how_many_in)))
    (l_how_many_in : K.lookup f_how_many_in = some ⟨oc_how_many_in, od_how_many_in, .func (PySem.W.fnOf ("how_many_in" : Str) ("how_many_in" : Str) (defArgs s_how_many_in) (defBody s_how_many_in) (defScope s_how_many_in) .none kV_how_many_in dc_how_many_in pm_how_many_in an_how_many_in cd_how_many_in ct_how_many_in), sl_how_many_in⟩)
    (c_how_many_in : PySem.W.codeIn K cd_how_many_in ("how_many_in" : Str) = true)
    (k_how_many_in : PySem.W.keepIn K (.ref f_how_many_in) = true)
    {f_flushes_in : Addr}
    {od_flushes_in an_flushes_in : Option Addr}
    {sl_flushes_in : Array (Option Value)}
    {oc_flushes_in kV_flushes_in dc_flushes_in pm_flushes_in cd_flushes_in ct_flushes_in : Value}
    (a_flushes_in : PySem.W.nsIn K mainGlobals ("flushes_in" : Str) = some (some (.ref f_flushes_in)))
    (l_flushes_in : K.lookup f_flushes_in = some ⟨oc_flushes_in, od_flushes_in, .func (PySem.W.fnOf ("flushes_in" : Str) ("flushes_in" : Str) (defArgs s_flushes_in) (defBody s_flushes_in) (defScope s_flushes_in) .none kV_flushes_in dc_flushes_in pm_flushes_in an_flushes_in cd_flushes_in ct_flushes_in), sl_flushes_in⟩)
    (c_flushes_in : PySem.W.codeIn K cd_flushes_in ("flushes_in" : Str) = true)
    (k_flushes_in : PySem.W.keepIn K (.ref f_flushes_in) = true)
    {f_deed_of : Addr}
    {od_deed_of an_deed_of : Option Addr}
    {sl_deed_of : Array (Option Value)}
    {oc_deed_of kV_deed_of dc_deed_of pm_deed_of cd_deed_of ct_deed_of : Value}
    (a_deed_of : PySem.W.nsIn K mainGlobals ("deed_of" : Str) = some (some (.ref f_deed_of)))
    (l_deed_of : K.lookup f_deed_of = some ⟨oc_deed_of, od_deed_of, .func (PySem.W.fnOf ("deed_of" : Str) ("deed_of" : Str) (defArgs s_deed_of) (defBody s_deed_of) (defScope s_deed_of) .none kV_deed_of dc_deed_of pm_deed_of an_deed_of cd_deed_of ct_deed_of), sl_deed_of⟩)
    (c_deed_of : PySem.W.codeIn K cd_deed_of ("deed_of" : Str) = true)
    (k_deed_of : PySem.W.keepIn K (.ref f_deed_of) = true)
    {f_lines_of : Addr}
    {od_lines_of an_lines_of : Option Addr}
    {sl_lines_of : Array (Option Value)}
    {oc_lines_of kV_lines_of dc_lines_of pm_lines_of cd_lines_of ct_lines_of : Value}
    (a_lines_of : PySem.W.nsIn K mainGlobals ("lines_of" : Str) = some (some (.ref f_lines_of)))
    (l_lines_of : K.lookup f_lines_of = some ⟨oc_lines_of, od_lines_of, .func (PySem.W.fnOf ("lines_of" : Str) ("lines_of" : Str) (defArgs s_lines_of) (defBody s_lines_of) (defScope s_lines_of) .none kV_lines_of dc_lines_of pm_lines_of an_lines_of cd_lines_of ct_lines_of), sl_lines_of⟩)
    (c_lines_of : PySem.W.codeIn K cd_lines_of ("lines_of" : Str) = true)
    (k_lines_of : PySem.W.keepIn K (.ref f_lines_of) = true)
    {f_ahead_of : Addr}
    {od_ahead_of an_ahead_of : Option Addr}
    {sl_ahead_of : Array (Option Value)}
    {oc_ahead_of kV_ahead_of dc_ahead_of pm_ahead_of cd_ahead_of ct_ahead_of : Value}
    (a_ahead_of : PySem.W.nsIn K mainGlobals ("ahead_of" : Str) = some (some (.ref f_ahead_of)))
    (l_ahead_of : K.lookup f_ahead_of = some ⟨oc_ahead_of, od_ahead_of, .func (PySem.W.fnOf ("ahead_of" : Str) ("ahead_of" : Str) (defArgs s_ahead_of) (defBody s_ahead_of) (defScope s_ahead_of) .none kV_ahead_of dc_ahead_of pm_ahead_of an_ahead_of cd_ahead_of ct_ahead_of), sl_ahead_of⟩)
    (c_ahead_of : PySem.W.codeIn K cd_ahead_of ("ahead_of" : Str) = true)
    (k_ahead_of : PySem.W.keepIn K (.ref f_ahead_of) = true)
    {f_behind_of : Addr}
    {od_behind_of an_behind_of : Option Addr}
    {sl_behind_of : Array (Option Value)}
    {oc_behind_of kV_behind_of dc_behind_of pm_behind_of cd_behind_of ct_behind_of : Value}
    (a_behind_of : PySem.W.nsIn K mainGlobals ("behind_of" : Str) = some (some (.ref f_behind_of)))
    (l_behind_of : K.lookup f_behind_of = some ⟨oc_behind_of, od_behind_of, .func (PySem.W.fnOf ("behind_of" : Str) ("behind_of" : Str) (defArgs s_behind_of) (defBody s_behind_of) (defScope s_behind_of) .none kV_behind_of dc_behind_of pm_behind_of an_behind_of cd_behind_of ct_behind_of), sl_behind_of⟩)
    (c_behind_of : PySem.W.codeIn K cd_behind_of ("behind_of" : Str) = true)
    (k_behind_of : PySem.W.keepIn K (.ref f_behind_of) = true)
    {f_place_range : Addr}
    {od_place_range an_place_range : Option Addr}
    {sl_place_range : Array (Option Value)}
    {oc_place_range kV_place_range dc_place_range pm_place_range cd_place_range ct_place_range : Value}
    (a_place_range : PySem.W.nsIn K mainGlobals ("place_range" : Str) = some (some (.ref f_place_range)))
    (l_place_range : K.lookup f_place_range = some ⟨oc_place_range, od_place_range, .func (PySem.W.fnOf ("place_range" : Str) ("place_range" : Str) (defArgs s_place_range) (defBody s_place_range) (defScope s_place_range) .none kV_place_range dc_place_range pm_place_range an_place_range cd_place_range ct_place_range), sl_place_range⟩)
    (c_place_range : PySem.W.codeIn K cd_place_range ("place_range" : Str) = true)
    (k_place_range : PySem.W.keepIn K (.ref f_place_range) = true)
    {f_stand : Addr}
    {od_stand an_stand : Option Addr}
    {sl_stand : Array (Option Value)}
    {oc_stand kV_stand dc_stand pm_stand cd_stand ct_stand : Value}
    (a_stand : PySem.W.nsIn K mainGlobals ("stand" : Str) = some (some (.ref f_stand)))
    (l_stand : K.lookup f_stand = some ⟨oc_stand, od_stand, .func (PySem.W.fnOf ("stand" : Str) ("stand" : Str) (defArgs s_stand) (defBody s_stand) (defScope s_stand) .none kV_stand dc_stand pm_stand an_stand cd_stand ct_stand), sl_stand⟩)
    (c_stand : PySem.W.codeIn K cd_stand ("stand" : Str) = true)
    (k_stand : PySem.W.keepIn K (.ref f_stand) = true)
    {f_most_held : Addr}
    {od_most_held an_most_held : Option Addr}
    {sl_most_held : Array (Option Value)}
    {oc_most_held kV_most_held dc_most_held pm_most_held cd_most_held ct_most_held : Value}
    (a_most_held : PySem.W.nsIn K mainGlobals ("most_held" : Str) = some (some (.ref f_most_held)))
    (l_most_held : K.lookup f_most_held = some ⟨oc_most_held, od_most_held, .func (PySem.W.fnOf ("most_held" : Str) ("most_held" : Str) (defArgs s_most_held) (defBody s_most_held) (defScope s_most_held) .none kV_most_held dc_most_held pm_most_held an_most_held cd_most_held ct_most_held), sl_most_held⟩)
    (c_most_held : PySem.W.codeIn K cd_most_held ("most_held" : Str) = true)
    (k_most_held : PySem.W.keepIn K (.ref f_most_held) = true)
    {f__law_box : Addr}
    {od__law_box an__law_box : Option Addr}
    {sl__law_box : Array (Option Value)}
    {oc__law_box kV__law_box dc__law_box pm__law_box cd__law_box ct__law_box : Value}
    (a__law_box : PySem.W.nsIn K mainGlobals ("_law_box" : Str) = some (some (.ref f__law_box)))
    (l__law_box : K.lookup f__law_box = some ⟨oc__law_box, od__law_box, .func (PySem.W.fnOf ("_law_box" : Str) ("_law_box" : Str) (defArgs s__law_box) (defBody s__law_box) (defScope s__law_box) .none kV__law_box dc__law_box pm__law_box an__law_box cd__law_box ct__law_box), sl__law_box⟩)
    (c__law_box : PySem.W.codeIn K cd__law_box ("_law_box" : Str) = true)
    (k__law_box : PySem.W.keepIn K (.ref f__law_box) = true)
    {f__law_take : Addr}
    {od__law_take an__law_take : Option Addr}
    {sl__law_take : Array (Option Value)}
    {oc__law_take kV__law_take dc__law_take pm__law_take cd__law_take ct__law_take : Value}
    (a__law_take : PySem.W.nsIn K mainGlobals ("_law_take" : Str) = some (some (.ref f__law_take)))
    (l__law_take : K.lookup f__law_take = some ⟨oc__law_take, od__law_take, .func (PySem.W.fnOf ("_law_take" : Str) ("_law_take" : Str) (defArgs s__law_take) (defBody s__law_take) (defScope s__law_take) .none kV__law_take dc__law_take pm__law_take an__law_take cd__law_take ct__law_take), sl__law_take⟩)
    (c__law_take : PySem.W.codeIn K cd__law_take ("_law_take" : Str) = true)
    (k__law_take : PySem.W.keepIn K (.ref f__law_take) = true)
    {f__law_of : Addr}
    {od__law_of an__law_of : Option Addr}
    {sl__law_of : Array (Option Value)}
    {oc__law_of kV__law_of dc__law_of pm__law_of cd__law_of ct__law_of : Value}
    (a__law_of : PySem.W.nsIn K mainGlobals ("_law_of" : Str) = some (some (.ref f__law_of)))
    (l__law_of : K.lookup f__law_of = some ⟨oc__law_of, od__law_of, .func (PySem.W.fnOf ("_law_of" : Str) ("_law_of" : Str) (defArgs s__law_of) (defBody s__law_of) (defScope s__law_of) .none kV__law_of dc__law_of pm__law_of an__law_of cd__law_of ct__law_of), sl__law_of⟩)
    (c__law_of : PySem.W.codeIn K cd__law_of ("_law_of" : Str) = true)
    (k__law_of : PySem.W.keepIn K (.ref f__law_of) = true)
    {f__law_same : Addr}
    {od__law_same an__law_same : Option Addr}
    {sl__law_same : Array (Option Value)}
    {oc__law_same kV__law_same dc__law_same pm__law_same cd__law_same ct__law_same : Value}
    (a__law_same : PySem.W.nsIn K mainGlobals ("_law_same" : Str) = some (some (.ref f__law_same)))
    (l__law_same : K.lookup f__law_same = some ⟨oc__law_same, od__law_same, .func (PySem.W.fnOf ("_law_same" : Str) ("_law_same" : Str) (defArgs s__law_same) (defBody s__law_same) (defScope s__law_same) .none kV__law_same dc__law_same pm__law_same an__law_same cd__law_same ct__law_same), sl__law_same⟩)
    (c__law_same : PySem.W.codeIn K cd__law_same ("_law_same" : Str) = true)
    (k__law_same : PySem.W.keepIn K (.ref f__law_same) = true)
    {f__law_wide : Addr}
    {od__law_wide an__law_wide : Option Addr}
    {sl__law_wide : Array (Option Value)}
    {oc__law_wide kV__law_wide dc__law_wide pm__law_wide cd__law_wide ct__law_wide : Value}
    (a__law_wide : PySem.W.nsIn K mainGlobals ("_law_wide" : Str) = some (some (.ref f__law_wide)))
    (l__law_wide : K.lookup f__law_wide = some ⟨oc__law_wide, od__law_wide, .func (PySem.W.fnOf ("_law_wide" : Str) ("_law_wide" : Str) (defArgs s__law_wide) (defBody s__law_wide) (defScope s__law_wide) .none kV__law_wide dc__law_wide pm__law_wide an__law_wide cd__law_wide ct__law_wide), sl__law_wide⟩)
    (c__law_wide : PySem.W.codeIn K cd__law_wide ("_law_wide" : Str) = true)
    (k__law_wide : PySem.W.keepIn K (.ref f__law_wide) = true)
    {f__law_by_hand_right : Addr}
    {od__law_by_hand_right an__law_by_hand_right : Option Addr}
    {sl__law_by_hand_right : Array (Option Value)}
    {oc__law_by_hand_right kV__law_by_hand_right dc__law_by_hand_right pm__law_by_hand_right cd__law_by_hand_right ct__law_by_hand_right : Value}
    (a__law_by_hand_right : PySem.W.nsIn K mainGlobals ("_law_by_hand_right" : Str) = some (some (.ref f__law_by_hand_right)))
    (l__law_by_hand_right : K.lookup f__law_by_hand_right = some ⟨oc__law_by_hand_right, od__law_by_hand_right, .func (PySem.W.fnOf ("_law_by_hand_right" : Str) ("_law_by_hand_right" : Str) (defArgs s__law_by_hand_right) (defBody s__law_by_hand_right) (defScope s__law_by_hand_right) .none kV__law_by_hand_right dc__law_by_hand_right pm__law_by_hand_right an__law_by_hand_right cd__law_by_hand_right ct__law_by_hand_right), sl__law_by_hand_right⟩)
    (c__law_by_hand_right : PySem.W.codeIn K cd__law_by_hand_right ("_law_by_hand_right" : Str) = true)
    (k__law_by_hand_right : PySem.W.keepIn K (.ref f__law_by_hand_right) = true)
    {f__law_counts : Addr}
    {od__law_counts an__law_counts : Option Addr}
    {sl__law_counts : Array (Option Value)}
    {oc__law_counts kV__law_counts dc__law_counts pm__law_counts cd__law_counts ct__law_counts : Value}
    (a__law_counts : PySem.W.nsIn K mainGlobals ("_law_counts" : Str) = some (some (.ref f__law_counts)))
    (l__law_counts : K.lookup f__law_counts = some ⟨oc__law_counts, od__law_counts, .func (PySem.W.fnOf ("_law_counts" : Str) ("_law_counts" : Str) (defArgs s__law_counts) (defBody s__law_counts) (defScope s__law_counts) .none kV__law_counts dc__law_counts pm__law_counts an__law_counts cd__law_counts ct__law_counts), sl__law_counts⟩)
    (c__law_counts : PySem.W.codeIn K cd__law_counts ("_law_counts" : Str) = true)
    (k__law_counts : PySem.W.keepIn K (.ref f__law_counts) = true)
    {f__law_right : Addr}
    {od__law_right an__law_right : Option Addr}
    {sl__law_right : Array (Option Value)}
    {oc__law_right kV__law_right dc__law_right pm__law_right cd__law_right ct__law_right : Value}
    (a__law_right : PySem.W.nsIn K mainGlobals ("_law_right" : Str) = some (some (.ref f__law_right)))
    (l__law_right : K.lookup f__law_right = some ⟨oc__law_right, od__law_right, .func (PySem.W.fnOf ("_law_right" : Str) ("_law_right" : Str) (defArgs s__law_right) (defBody s__law_right) (defScope s__law_right) .none kV__law_right dc__law_right pm__law_right an__law_right cd__law_right ct__law_right), sl__law_right⟩)
    (c__law_right : PySem.W.codeIn K cd__law_right ("_law_right" : Str) = true)
    (k__law_right : PySem.W.keepIn K (.ref f__law_right) = true)
    {f__law_cells : Addr}
    {od__law_cells an__law_cells : Option Addr}
    {sl__law_cells : Array (Option Value)}
    {oc__law_cells kV__law_cells dc__law_cells pm__law_cells cd__law_cells ct__law_cells : Value}
    (a__law_cells : PySem.W.nsIn K mainGlobals ("_law_cells" : Str) = some (some (.ref f__law_cells)))
    (l__law_cells : K.lookup f__law_cells = some ⟨oc__law_cells, od__law_cells, .func (PySem.W.fnOf ("_law_cells" : Str) ("_law_cells" : Str) (defArgs s__law_cells) (defBody s__law_cells) (defScope s__law_cells) .none kV__law_cells dc__law_cells pm__law_cells an__law_cells cd__law_cells ct__law_cells), sl__law_cells⟩)
    (c__law_cells : PySem.W.codeIn K cd__law_cells ("_law_cells" : Str) = true)
    (k__law_cells : PySem.W.keepIn K (.ref f__law_cells) = true)
    {od_law an_law : Option Addr}
    {sl_law : Array (Option Value)}
    {oc_law kV_law dc_law pm_law cd_law ct_law : Value}
    {f_law : Addr}
    (a_law : PySem.W.nsIn K mainGlobals ("law" : Str) = some (some (.ref f_law)))
    (l_law : K.lookup f_law = some ⟨oc_law, od_law, .func (PySem.W.fnOf "law" "law" (defArgs s_law) (defBody s_law) (defScope s_law) .none kV_law dc_law pm_law an_law cd_law ct_law), sl_law⟩)
    (c_law : PySem.W.codeIn K cd_law "law" = true)
    (k_law : PySem.W.keepIn K (.ref f_law) = true)
    (hn : PySem.W.specialIn K (.builtin "object.__class__") "__get__" = some (some (.builtin "getset_descriptor.__get__")))
    (htk : PySem.W.takesIn K (.builtin "object.__class__") = some true)
    {t_FLUSH : Tok}
    (g_FLUSH : PySem.W.nsIn K mainGlobals ("FLUSH" : Str) = some (some (.str ("flush" : Str) t_FLUSH)))
    {t_WRITE : Tok}
    (g_WRITE : PySem.W.nsIn K mainGlobals ("WRITE" : Str) = some (some (.str ("write" : Str) t_WRITE)))
    (z_abs : PySem.W.nsIn K mainGlobals ("abs" : Str) = some none)
    (z_all : PySem.W.nsIn K mainGlobals ("all" : Str) = some none)
    (z_bool : PySem.W.nsIn K mainGlobals ("bool" : Str) = some none)
    (z_dict : PySem.W.nsIn K mainGlobals ("dict" : Str) = some none)
    (z_enumerate : PySem.W.nsIn K mainGlobals ("enumerate" : Str) = some none)
    (z_int : PySem.W.nsIn K mainGlobals ("int" : Str) = some none)
    (z_isinstance : PySem.W.nsIn K mainGlobals ("isinstance" : Str) = some none)
    (z_len : PySem.W.nsIn K mainGlobals ("len" : Str) = some none)
    (z_list : PySem.W.nsIn K mainGlobals ("list" : Str) = some none)
    (z_max : PySem.W.nsIn K mainGlobals ("max" : Str) = some none)
    (z_range : PySem.W.nsIn K mainGlobals ("range" : Str) = some none)
    (z_sorted : PySem.W.nsIn K mainGlobals ("sorted" : Str) = some none)
    (z_str : PySem.W.nsIn K mainGlobals ("str" : Str) = some none)
    (z_sum : PySem.W.nsIn K mainGlobals ("sum" : Str) = some none)
    (z_tuple : PySem.W.nsIn K mainGlobals ("tuple" : Str) = some none)
    (z_zip : PySem.W.nsIn K mainGlobals ("zip" : Str) = some none)
    : ∃ fd : FuncData, (∀ (s : Shared) (v : Value), BindsTo s fd ⟨[v], []⟩ [("_law_script", v)]) ∧ ∀ base : Heap, K.In base → base.Ns mainGlobals mg → FnOk l.prog w K mg base CX0 9 fa fd ["_law_script"] (spLaw K) := by
  have e := hfa.symm.trans (PySem.W.mg_of X G0 a_law)
  cases e
  have T : Tx mg := ⟨PySem.W.mg_none_of X G0 z_abs, PySem.W.mg_none_of X G0 z_all, PySem.W.mg_none_of X G0 z_bool, PySem.W.mg_none_of X G0 z_dict, PySem.W.mg_none_of X G0 z_enumerate, PySem.W.mg_none_of X G0 z_int, PySem.W.mg_none_of X G0 z_isinstance, PySem.W.mg_none_of X G0 z_len, PySem.W.mg_none_of X G0 z_list, PySem.W.mg_none_of X G0 z_max, PySem.W.mg_none_of X G0 z_range, PySem.W.mg_none_of X G0 z_sorted, PySem.W.mg_none_of X G0 z_str, PySem.W.mg_none_of X G0 z_sum, PySem.W.mg_none_of X G0 z_tuple, PySem.W.mg_none_of X G0 z_zip, ⟨_, PySem.W.mg_of X G0 g_FLUSH⟩, ⟨_, PySem.W.mg_of X G0 g_WRITE⟩⟩
  have F_tupled_ := fun_mk (st := s_tupled) l_tupled c_tupled k_tupled
  have b_tupled := F_tupled_.binds (ps := [("worth" : Str)]) fun _ _ _ _ _ _ us hl => match us, hl with | [_], _ => rfl
  have F_counted_ := fun_mk (st := s_counted) l_counted c_counted k_counted
  have b_counted := F_counted_.binds (ps := [("many" : Str)]) fun _ _ _ _ _ _ us hl => match us, hl with | [_], _ => rfl
  have F_is_write_ := fun_mk (st := s_is_write) l_is_write c_is_write k_is_write
  have b_is_write := F_is_write_.binds (ps := [("deed" : Str), ("stream" : Str)]) fun _ _ _ _ _ _ us hl => match us, hl with | [_, _], _ => rfl
  have F_how_many_in_ := fun_mk (st := s_how_many_in) l_how_many_in c_how_many_in k_how_many_in
  have b_how_many_in := F_how_many_in_.binds (ps := [("deeds" : Str), ("stream" : Str)]) fun _ _ _ _ _ _ us hl => match us, hl with | [_, _], _ => rfl
  have F_flushes_in_ := fun_mk (st := s_flushes_in) l_flushes_in c_flushes_in k_flushes_in
  have b_flushes_in := F_flushes_in_.binds (ps := [("great" : Str), ("stream" : Str)]) fun _ _ _ _ _ _ us hl => match us, hl with | [_, _], _ => rfl
  have F_deed_of_ := fun_mk (st := s_deed_of) l_deed_of c_deed_of k_deed_of
  have b_deed_of := F_deed_of_.binds (ps := [("great" : Str), ("line" : Str)]) fun _ _ _ _ _ _ us hl => match us, hl with | [_, _], _ => rfl
  have F_lines_of_ := fun_mk (st := s_lines_of) l_lines_of c_lines_of k_lines_of
  have b_lines_of := F_lines_of_.binds (ps := [("great" : Str)]) fun _ _ _ _ _ _ us hl => match us, hl with | [_], _ => rfl
  have F_ahead_of_ := fun_mk (st := s_ahead_of) l_ahead_of c_ahead_of k_ahead_of
  have b_ahead_of := F_ahead_of_.binds (ps := [("great" : Str), ("line" : Str), ("stream" : Str)]) fun _ _ _ _ _ _ us hl => match us, hl with | [_, _, _], _ => rfl
  have F_behind_of_ := fun_mk (st := s_behind_of) l_behind_of c_behind_of k_behind_of
  have b_behind_of := F_behind_of_.binds (ps := [("great" : Str), ("line" : Str), ("stream" : Str)]) fun _ _ _ _ _ _ us hl => match us, hl with | [_, _, _], _ => rfl
  have F_place_range_ := fun_mk (st := s_place_range) l_place_range c_place_range k_place_range
  have b_place_range := F_place_range_.binds (ps := [("great" : Str), ("line" : Str)]) fun _ _ _ _ _ _ us hl => match us, hl with | [_, _], _ => rfl
  have F_stand_ := fun_mk (st := s_stand) l_stand c_stand k_stand
  have b_stand := F_stand_.binds (ps := [("great" : Str), ("one" : Str), ("other" : Str)]) fun _ _ _ _ _ _ us hl => match us, hl with | [_, _, _], _ => rfl
  have F_most_held_ := fun_mk (st := s_most_held) l_most_held c_most_held k_most_held
  have b_most_held := F_most_held_.binds (ps := [("great" : Str), ("stream" : Str)]) fun _ _ _ _ _ _ us hl => match us, hl with | [_, _], _ => rfl
  have F__law_box_ := fun_mk (st := s__law_box) l__law_box c__law_box k__law_box
  have b__law_box := F__law_box_.binds (ps := [("_law_script" : Str), ("_law_k" : Str)]) fun _ _ _ _ _ _ us hl => match us, hl with | [_, _], _ => rfl
  have F__law_take_ := fun_mk (st := s__law_take) l__law_take c__law_take k__law_take
  have b__law_take := F__law_take_.binds (ps := [("_law_urn" : Str), ("_law_low_so" : Str)]) fun _ _ _ _ _ _ us hl => match us, hl with | [_, _], _ => rfl
  have F__law_of_ := fun_mk (st := s__law_of) l__law_of c__law_of k__law_of
  have b__law_of := F__law_of_.binds (ps := [("_law_urn" : Str), ("_law_some_so" : Str)]) fun _ _ _ _ _ _ us hl => match us, hl with | [_, _], _ => rfl
  have F__law_same_ := fun_mk (st := s__law_same) l__law_same c__law_same k__law_same
  have b__law_same := F__law_same_.binds (ps := [("_law_got" : Str), ("_law_goal" : Str)]) fun _ _ _ _ _ _ us hl => match us, hl with | [_, _], _ => rfl
  have F__law_wide_ := fun_mk (st := s__law_wide) l__law_wide c__law_wide k__law_wide
  have b__law_wide := F__law_wide_.binds (ps := [("_law_urn" : Str), ("_law_most" : Str), ("_law_deep" : Str)]) fun _ _ _ _ _ _ us hl => match us, hl with | [_, _, _], _ => rfl
  have F__law_by_hand_right_ := fun_mk (st := s__law_by_hand_right) l__law_by_hand_right c__law_by_hand_right k__law_by_hand_right
  have b__law_by_hand_right := F__law_by_hand_right_.binds (ps := []) fun _ _ _ _ _ _ us hl => match us, hl with | [], _ => rfl
  have F__law_counts_ := fun_mk (st := s__law_counts) l__law_counts c__law_counts k__law_counts
  have b__law_counts := F__law_counts_.binds (ps := [("_law_row_so" : Str)]) fun _ _ _ _ _ _ us hl => match us, hl with | [_], _ => rfl
  have F__law_right_ := fun_mk (st := s__law_right) l__law_right c__law_right k__law_right
  have b__law_right := F__law_right_.binds (ps := [("_law_urn" : Str)]) fun _ _ _ _ _ _ us hl => match us, hl with | [_], _ => rfl
  have F__law_cells_ := fun_mk (st := s__law_cells) l__law_cells c__law_cells k__law_cells
  have b__law_cells := F__law_cells_.binds (ps := [("_law_script" : Str), ("_law_top" : Str)]) fun _ _ _ _ _ _ us hl => match us, hl with | [_, _], _ => rfl
  have F_law_ := fun_mk (st := s_law) l_law c_law k_law
  let G : Gx K := ⟨fun _ => none, fun c C2 h2 => (by cases h2), fun c => none, fun c C2 h2 => (by
    · cases h2), fun y => none, some (l.prog, w)⟩
  have hG : G.pw = some (l.prog, w) := rfl
  have mgo : ∀ {x : Str} {f : Addr}, PySem.W.nsIn K mainGlobals x = some (some (.ref f)) → mg x = some (.ref f) := fun h => PySem.W.mg_of X G0 h
  refine ⟨PySem.W.fnOf "law" "law" (defArgs s_law) (defBody s_law) (defScope s_law) .none kV_law dc_law pm_law an_law cd_law ct_law, fun s v => .of_eq rfl, fun base _ _ => ?_⟩
  have D_tupled : DefOk l.prog w mg base G "tupled" 6 1 (FR_tupled 6) := ⟨_, _, _, okR_tupled T F_tupled_ (mgo a_tupled) b_tupled 6, mgo a_tupled, k_tupled, b_tupled⟩
  have D_counted : DefOk l.prog w mg base G "counted" 1 1 F_counted := ⟨_, _, _, ok_counted T F_counted_, mgo a_counted, k_counted, b_counted⟩
  have D_is_write : DefOk l.prog w mg base G "is_write" 1 2 F_is_write := ⟨_, _, _, ok_is_write T F_is_write_, mgo a_is_write, k_is_write, b_is_write⟩
  have D_how_many_in : DefOk l.prog w mg base G "how_many_in" 2 2 F_how_many_in := ⟨_, _, _, ok_how_many_in T F_how_many_in_ D_is_write, mgo a_how_many_in, k_how_many_in, b_how_many_in⟩
  have D_flushes_in : DefOk l.prog w mg base G "flushes_in" 1 2 F_flushes_in := ⟨_, _, _, ok_flushes_in T F_flushes_in_, mgo a_flushes_in, k_flushes_in, b_flushes_in⟩
  have D_deed_of : DefOk l.prog w mg base G "deed_of" 3 2 F_deed_of := ⟨_, _, _, ok_deed_of T F_deed_of_ D_how_many_in, mgo a_deed_of, k_deed_of, b_deed_of⟩
  have D_lines_of : DefOk l.prog w mg base G "lines_of" 3 1 F_lines_of := ⟨_, _, _, ok_lines_of T F_lines_of_ D_counted D_how_many_in, mgo a_lines_of, k_lines_of, b_lines_of⟩
  have D_ahead_of : DefOk l.prog w mg base G "ahead_of" 4 3 F_ahead_of := ⟨_, _, _, ok_ahead_of T F_ahead_of_ D_deed_of D_flushes_in D_how_many_in, mgo a_ahead_of, k_ahead_of, b_ahead_of⟩
  have D_behind_of : DefOk l.prog w mg base G "behind_of" 4 3 F_behind_of := ⟨_, _, _, ok_behind_of T F_behind_of_ D_deed_of D_flushes_in D_how_many_in, mgo a_behind_of, k_behind_of, b_behind_of⟩
  have D_place_range : DefOk l.prog w mg base G "place_range" 5 2 F_place_range := ⟨_, _, _, ok_place_range T F_place_range_ D_ahead_of D_behind_of D_deed_of D_lines_of, mgo a_place_range, k_place_range, b_place_range⟩
  have D_stand : DefOk l.prog w mg base G "stand" 7 3 F_stand := ⟨_, _, _, ok_stand T F_stand_ D_ahead_of D_deed_of D_tupled, mgo a_stand, k_stand, b_stand⟩
  have D_most_held : DefOk l.prog w mg base G "most_held" 2 2 F_most_held := ⟨_, _, _, ok_most_held T F_most_held_ D_is_write, mgo a_most_held, k_most_held, b_most_held⟩
  have D__law_box : DefOk l.prog w mg base G "_law_box" 1 2 F__law_box := ⟨_, _, _, ok__law_box T F__law_box_, mgo a__law_box, k__law_box, b__law_box⟩
  have D__law_take : DefOk l.prog w mg base G "_law_take" 1 2 F__law_take := ⟨_, _, _, ok__law_take T F__law_take_, mgo a__law_take, k__law_take, b__law_take⟩
  have D__law_of : DefOk l.prog w mg base G "_law_of" 2 2 F__law_of := ⟨_, _, _, ok__law_of T F__law_of_ D__law_take, mgo a__law_of, k__law_of, b__law_of⟩
  have D__law_same : DefOk l.prog w mg base G "_law_same" 6 2 (FR__law_same 6) := ⟨_, _, _, okR__law_same T F__law_same_ (mgo a__law_same) b__law_same 6, mgo a__law_same, k__law_same, b__law_same⟩
  have D__law_wide : DefOk l.prog w mg base G "_law_wide" 3 3 F__law_wide := ⟨_, _, _, ok__law_wide T F__law_wide_ D__law_of D__law_take, mgo a__law_wide, k__law_wide, b__law_wide⟩
  have D__law_by_hand_right : DefOk l.prog w mg base G "_law_by_hand_right" 7 0 F__law_by_hand_right := ⟨_, _, _, ok__law_by_hand_right T F__law_by_hand_right_ D__law_same D_lines_of D_most_held D_place_range, mgo a__law_by_hand_right, k__law_by_hand_right, b__law_by_hand_right⟩
  have D__law_counts : DefOk l.prog w mg base G "_law_counts" 4 1 F__law_counts := ⟨_, _, _, ok__law_counts T F__law_counts_ D_lines_of, mgo a__law_counts, k__law_counts, b__law_counts⟩
  have D__law_right : DefOk l.prog w mg base G "_law_right" 8 1 F__law_right := ⟨_, _, _, ok__law_right T F__law_right_ D__law_by_hand_right D__law_counts D__law_of D__law_same D__law_take D__law_wide D_ahead_of D_lines_of D_most_held D_place_range D_stand, mgo a__law_right, k__law_right, b__law_right⟩
  exact ok_law T F_law_ (ok__law_cells F__law_cells_ T.n_list T.n_enumerate T.n_int) (mgo a__law_cells) k__law_cells b__law_cells (D__law_right.mono (by decide)) (D__law_box.mono (by decide))
end Lw98
open PySem PySem.W PyProof.Rows
set_option maxHeartbeats 0 in
theorem PySem.Challenge.cw_lateshown_k98_whole_great_programs_one_b_holds : PySem.Challenge.rw_lateshown_k98_whole_great_programs_one_b.Holds := by
  w_on; o_law; k_head; (case hw => w_witness2)
  k_fill
  refine L2.walk_of (l := PySem.Challenge.rw_lateshown_k98_whole_great_programs_one_b) (n := 63) (k := 9) (x := "_law_script") (CX := fun _ => L2.CX0) (sp := fun w => Lw98.spLaw _) rfl (by decide) rfl ⟨rfl, by decide, by decide⟩ (fun w h Y => PySem.W.kIn_of Y) ?F (fun _ _ a ns hl _ hS => ⟨a, ns, rfl, hS, hl, fun _ => rfl⟩) (fun _ _ _ _ _ h => h)
  case F =>
    intro w mg fa h KX G hmg
    refine' Lw98.all_mk KX G hmg ?a_tupled ?l_tupled ?c_tupled ?k_tupled ?a_counted ?l_counted ?c_counted ?k_counted ?a_is_write ?l_is_write ?c_is_write ?k_is_write ?a_how_many_in ?l_how_many_in ?c_how_many_in ?k_how_many_in ?a_flushes_in ?l_flushes_in ?c_flushes_in ?k_flushes_in ?a_deed_of ?l_deed_of ?c_deed_of ?k_deed_of ?a_lines_of ?l_lines_of ?c_lines_of ?k_lines_of ?a_ahead_of ?l_ahead_of ?c_ahead_of ?k_ahead_of ?a_behind_of ?l_behind_of ?c_behind_of ?k_behind_of ?a_place_range ?l_place_range ?c_place_range ?k_place_range ?a_stand ?l_stand ?c_stand ?k_stand ?a_most_held ?l_most_held ?c_most_held ?k_most_held ?a__law_box ?l__law_box ?c__law_box ?k__law_box ?a__law_take ?l__law_take ?c__law_take ?k__law_take ?a__law_of ?l__law_of ?c__law_of ?k__law_of ?a__law_same ?l__law_same ?c__law_same ?k__law_same ?a__law_wide ?l__law_wide ?c__law_wide ?k__law_wide ?a__law_by_hand_right ?l__law_by_hand_right ?c__law_by_hand_right ?k__law_by_hand_right ?a__law_counts ?l__law_counts ?c__law_counts ?k__law_counts ?a__law_right ?l__law_right ?c__law_right ?k__law_right ?a__law_cells ?l__law_cells ?c__law_cells ?k__law_cells ?a_law ?l_law ?c_law ?k_law ?hn ?htk ?g_FLUSH ?g_WRITE ?z_abs ?z_all ?z_bool ?z_dict ?z_enumerate ?z_int ?z_isinstance ?z_len ?z_list ?z_max ?z_range ?z_sorted ?z_str ?z_sum ?z_tuple ?z_zip
    (case a_tupled => k_is)
    (case l_tupled => k_is)
    (case c_tupled => k_is)
    (case k_tupled => k_is)
    (case a_counted => k_is)
    (case l_counted => k_is)
    (case c_counted => k_is)
    (case k_counted => k_is)
    (case a_is_write => k_is)
    (case l_is_write => k_is)
    (case c_is_write => k_is)
    (case k_is_write => k_is)
    (case a_how_many_in => k_is)
    (case l_how_many_in => k_is)
    (case c_how_many_in => k_is)
    (case k_how_many_in => k_is)
    (case a_flushes_in => k_is)
    (case l_flushes_in => k_is)
    (case c_flushes_in => k_is)
    (case k_flushes_in => k_is)
    (case a_deed_of => k_is)
    (case l_deed_of => k_is)
    (case c_deed_of => k_is)
    (case k_deed_of => k_is)
    (case a_lines_of => k_is)
    (case l_lines_of => k_is)
    (case c_lines_of => k_is)
    (case k_lines_of => k_is)
    (case a_ahead_of => k_is)
    (case l_ahead_of => k_is)
    (case c_ahead_of => k_is)
    (case k_ahead_of => k_is)
    (case a_behind_of => k_is)
    (case l_behind_of => k_is)
    (case c_behind_of => k_is)
    (case k_behind_of => k_is)
    (case a_place_range => k_is)
    (case l_place_range => k_is)
    (case c_place_range => k_is)
    (case k_place_range => k_is)
    (case a_stand => k_is)
    (case l_stand => k_is)
    (case c_stand => k_is)
    (case k_stand => k_is)
    (case a_most_held => k_is)
    (case l_most_held => k_is)
    (case c_most_held => k_is)
    (case k_most_held => k_is)
    (case a__law_box => k_is)
    (case l__law_box => k_is)
    (case c__law_box => k_is)
    (case k__law_box => k_is)
    (case a__law_take => k_is)
    (case l__law_take => k_is)
    (case c__law_take => k_is)
    (case k__law_take => k_is)
    (case a__law_of => k_is)
    (case l__law_of => k_is)
    (case c__law_of => k_is)
    (case k__law_of => k_is)
    (case a__law_same => k_is)
    (case l__law_same => k_is)
    (case c__law_same => k_is)
    (case k__law_same => k_is)
    (case a__law_wide => k_is)
    (case l__law_wide => k_is)
    (case c__law_wide => k_is)
    (case k__law_wide => k_is)
    (case a__law_by_hand_right => k_is)
    (case l__law_by_hand_right => k_is)
    (case c__law_by_hand_right => k_is)
    (case k__law_by_hand_right => k_is)
    (case a__law_counts => k_is)
    (case l__law_counts => k_is)
    (case c__law_counts => k_is)
    (case k__law_counts => k_is)
    (case a__law_right => k_is)
    (case l__law_right => k_is)
    (case c__law_right => k_is)
    (case k__law_right => k_is)
    (case a__law_cells => k_is)
    (case l__law_cells => k_is)
    (case c__law_cells => k_is)
    (case k__law_cells => k_is)
    (case a_law => k_is)
    (case l_law => k_is)
    (case c_law => k_is)
    (case k_law => k_is)
    (case hn => k_is)
    (case htk => k_is)
    (case g_FLUSH => k_is)
    (case g_WRITE => k_is)
    (case z_abs => k_is)
    (case z_all => k_is)
    (case z_bool => k_is)
    (case z_dict => k_is)
    (case z_enumerate => k_is)
    (case z_int => k_is)
    (case z_isinstance => k_is)
    (case z_len => k_is)
    (case z_list => k_is)
    (case z_max => k_is)
    (case z_range => k_is)
    (case z_sorted => k_is)
    (case z_str => k_is)
    (case z_sum => k_is)
    (case z_tuple => k_is)
    (case z_zip => k_is)
