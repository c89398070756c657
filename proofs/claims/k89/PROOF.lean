import PyProof.Rows.All
import Wide.All
import OpenK.AllK
import Wide.FinOn
import HandS.ForMost
import HandS.Flow
import HandS.IsInst
import HandS.Deep
import HandS.TupAny
import HandS.TupMul
import HandS.Zip
import HandS.Wide
import HandS.ForExc
import HandS.ExcInit
import HandS.ExcIs
import HandS.ExcField
import KE.KExcInit
import HandS.Dict
import KE.KeyNested
import HandS.Defaults
import HandS.Property
import OpenK.KMeth
import OpenK.KOps
import PyProof.InstNe
import HandS.OwnEq
import HandS.Iter
import KE.SortData
import HandS.SetFor
import HandS.Strs
import HandS.SortInts
import HandS.Sort
import KE.GoesMore
import HandS.Words
import HandS.WordsExc
import HandS.Style
import HandS.MakeKwOnly
import HandS.StrMore
import PyProof.StrOps2
import HandS.TryOnly
import HandS.DictComp
import HandS.Text
import HandS.DictTup
import HandS.ExcOwn
import HandS.WordsDict
import HandS.Call
import HandS.FStr
import HandS.Star
import KE.IntTextLaws
import PyProof.StrLawsAffix
import PyProof.Rows.StrCut
import HandS.Flt
import PySem.Challenge.RW_lateshown_k89_lines_as_texts
set_option Elab.async false
set_option linter.all false
set_option maxRecDepth 100000
set_option maxHeartbeats 8000000
namespace Dv
open PySem PySem.Spec PyProof.Rows L2
section
variable {X : Cx} {pins : List (Addr × Obj)} {σ : L2.St} {H : Hp} {s : Shared} {Q : VK}
/-- what a new tuple is asked for -/
def Tp (H : Hp) (xs : List V) (Q : VK) : Prop := ∀ (p : Addr) (o : Obj), H p = none → o.dict = none → Q (.ref p) (upd H p (.frz o (.tup xs)))
theorem tup_laid {its : List Value} {xs : List V} (I : Inv X pins σ H s) (r : Vals xs its) (z : xs.length ≤ sizeLine) (q : Tp H xs Q) : EP X pins σ Q (.ref s.heap.objs.size) { s with heap := s.heap.push { cls := .type "tuple", data := .seq its.toArray } } := by
  have hf : H s.heap.objs.size = none := I.hok.fresh (Nat.le_refl _)
  have new : ObjOk X.prog X.w (upd H s.heap.objs.size (.frz { cls := .type "tuple", data := .seq its.toArray } (.tup xs))) (s.heap.push { cls := .type "tuple", data := .seq its.toArray }) s.heap.objs.size (.frz { cls := .type "tuple", data := .seq its.toArray } (.tup xs)) :=
    ⟨Heap.get?_push_size _ rfl, z, its, r, IsTup.new _ _⟩
  exact ⟨.ref s.heap.objs.size, _, I.laid (t' := s.toks) (fun b u e => Heap.get?_push_of_some _ e) (Nat.le_refl _) new, rfl, q _ _ hf rfl⟩
end
section
variable {X : Cx} {es : List Expr} {t : TA} {pos : Pos}
def tTupF (t : TA) : TE := fun σ H Q => t σ H fun xs H1 => xs.length ≤ sizeLine ∧ Tp H1 xs Q
theorem pe_tupF {x1} (h : PA X es t) : PE X (.Tuple es x1 pos) (tTupF t) :=
  ⟨fun pins s σ H Q I hq => wpAny_Tuple_spliced (thn (h.run pos pins s σ H _ I hq) fun us s1 ⟨xs, H1, I1, r, z, q⟩ => ⟨by rw [← r.length]; exact z, tup_laid I1 r z q⟩)⟩
/-- t + u -/
def rCatF (K : PySem.W.Frag) : R2 := fun x y H Q => ∃ a b xs ys, x = .ref a ∧ y = .ref b ∧ SqT K H a xs ∧ SqT K H b ys ∧ xs.length + ys.length ≤ sizeLine ∧
  (xs = [] → Q (.ref b) H) ∧ (xs ≠ [] → ys = [] → Q (.ref a) H) ∧ (xs ≠ [] → ys ≠ [] → Tp H (xs ++ ys) Q)
theorem op_catF : OpR X (binaryOp .Add) (rCatF X.K) := by
  intro pins s σ H x y v u Q I rx ry h
  obtain ⟨a, b, xs, ys, rfl, rfl, ha, hb, hz, q0, q1, q2⟩ := h
  by_cases hx : xs = []
  · exact op_catA pins s σ H _ _ v u Q I rx ry ⟨a, b, xs, ys, rfl, rfl, ha, hb, hz, q0, q1, fun z => (z hx).elim⟩
  · cases rx
    cases ry
    obtain ⟨its, r1, p1, _⟩ := I.tuple ha
    obtain ⟨its2, r2, p2, _⟩ := I.tuple hb
    exact HT.cat_tup p1 p2 (fun z => hx (r1.nil_iff.mp z)) (fun z => ⟨.ref a, H, I, rfl, q1 hx (r2.nil_iff.mp z)⟩)
      (fun z => tup_laid I (r1.append r2) (by rw [List.length_append]; exact hz) (q2 hx fun w => z (r2.nil_iff.mpr w))) (by rw [← r1.length, ← r2.length]; exact hz)
/-- t[lo:hi] -/
def rSlF (K : PySem.W.Frag) : V → Option Int → Option Int → Hp → VK → Prop := fun x lo hi H Q => ∃ a xs, x = .ref a ∧ SqT K H a xs ∧
  (HT.sIx xs.length 0 lo = 0 ∧ HT.sIx xs.length xs.length hi = xs.length → Q (.ref a) H) ∧ (¬ (HT.sIx xs.length 0 lo = 0 ∧ HT.sIx xs.length xs.length hi = xs.length) → Tp H (cutV xs lo hi) Q)
theorem sl_tupF : SlR X (rSlF X.K) := by
  intro pins s σ H x v vl vu lo hi sl Q I rx hs pl pu h
  obtain ⟨a, xs, rfl, hx, q1, q2⟩ := h
  by_cases hw : HT.sIx xs.length 0 lo = 0 ∧ HT.sIx xs.length xs.length hi = xs.length
  · exact sl_tupA pins s σ H _ v vl vu lo hi sl Q I rx hs pl pu ⟨a, xs, rfl, hx, q1, fun z => (z hw).elim⟩
  · cases rx
    obtain ⟨its, r, ht, hz⟩ := I.tuple hx
    have e : its.toArray.size = xs.length := by rw [List.size_toArray]; exact r.length.symm
    refine ⟨"tuple", _, PyProof.Rows.slot_tuple_getitem.lookup, ht.typeIs, HT.getItem_tuple_cut ht hs pl pu (by rw [e]; exact hw) ?_ (by rw [e]; exact hz)⟩
    rw [e]
    exact tup_laid I ((r.drop (HT.sIx xs.length 0 lo)).take (HT.sIx xs.length xs.length hi - HT.sIx xs.length 0 lo)) (Nat.le_trans (cutV_length xs lo hi) hz) (q2 hw)
end
end Dv
namespace Dv
open PySem PySem.Spec PyProof.Rows L2
structure OxC (K : PySem.W.Frag) (C : Addr) (B newId initId : String) (bmB : List Value) : Prop where
  fb : ExcBaseFacts B newId initId bmB
  sf : StoreFacts B bmB "object.__setattr__" "object"
  row : ∃ nm q N bs sn sub ab col dd k0 k1 k2 k3 k5, K.lookup C = some (excClassObj nm q C N bs bmB true sn sub ab col dd k0 k1 k2 k3 k5 newId)
  put : PySem.W.findIn K (.ref C) "__setattr__" = some (some (.builtin "object.__setattr__"))
  isE : PySem.W.subIn K (.ref C) (.type "BaseException") = some true
  isT : PySem.W.typeIn K (.ref C) = some (.type "type")
  kp : PySem.W.keepIn K (.ref C) = true
end Dv
namespace Dv
open PySem PySem.Spec PyProof.Rows L2
/-- a caught error at a, its class, its dict -/
def Hx (a C : Addr) (d : Option Addr) : HO := .ext fun h => ∃ (oe : Obj) (vs : Array Value), h.get? a = some oe ∧ Zc (.ref C) d oe ∧ oe.data = .fields vs
theorem hx_at {P : Program} {w : World} {H : Hp} {h : Heap} {a C : Addr} {d : Option Addr} (hok : HOk P w H h) (ha : H a = some (Hx a C d)) : ∃ (oe : Obj) (vs : Array Value), h.get? a = some oe ∧ Zc (.ref C) d oe ∧ oe.data = .fields vs := by
  have x : ObjOk P w H h a (.ext fun h => ∃ (oe : Obj) (vs : Array Value), h.get? a = some oe ∧ Zc (.ref C) d oe ∧ oe.data = .fields vs) := hok a _ ha
  exact x.1
section
variable {X : Cx} {pins : List (Addr × Obj)} {σ : L2.St} {H : Hp} {s : Shared} {a : Addr}
theorem shown {o : HO} (I : Inv X pins σ H s) (new : ObjOk X.prog X.w (upd H a o) s.heap a o) (na : H a = none) (n0 : X.s_0.heap.get? a = none) (nL : a ≠ X.env.locals) (nC : ∀ x c, X.env.cells.lookup x = some c → c ≠ a) (np : ∀ p ∈ X.pn ++ pins, p.1 ≠ a) : Inv X pins σ (upd H a o) s := by
  have nt : ∀ {b : Addr} {u : HO}, H b = some u → b ≠ a := fun z => ne_of_none z na
  refine ⟨I.ok, I.os, I.bare, ⟨I.base.keep, I.base.slot, fun b ob z n hx => ?_, I.base.there, fun b xs z => ?_, fun b ob u z => ?_, fun b ps z => ?_⟩, I.loc, I.cell, by rw [upd_ne (fun z => nL z.symm)]; exact I.free, fun x c z => by rw [upd_ne (nC x c z)]; exact I.freeC x c z, fun p hp => ?_, fun b u z => ?_, I.len⟩
  · rw [upd_ne (fun e => by rw [e, n0] at z; cases z)]; exact I.base.free b ob z n hx
  · have := I.base.tups b xs z; rw [upd_ne (nt this)]; exact this
  · have := I.base.frzs b ob u z; rw [upd_ne (nt this)]; exact this
  · obtain ⟨m, this⟩ := I.base.tbls b ps z
    exact ⟨m, by rw [upd_ne (nt this)]; exact this⟩
  · obtain ⟨p1, p2, p3⟩ := I.pin p hp
    exact ⟨p1, by rw [upd_ne (np p hp)]; exact p2, p3⟩
  · by_cases hb : b = a
    · subst hb; rw [upd_same] at z; cases z; exact new
    · rw [upd_ne hb] at z
      exact (I.hok b u z).stay (fun _ _ _ q => q) (fun c q => by rw [upd_ne (nt q)]; exact q) fun c xs q => by rw [upd_ne (nt q)]; exact q
theorem toSuite (I : Inv X pins σ H s) (a : Addr) : Inv (X.suite a (X.pn ++ pins)) [] σ H s :=
  ⟨I.ok.suite _ _, I.os, I.bare, I.base, I.loc, I.cell, I.free, I.freeC, fun p hp => I.pin p (by rw [List.append_nil] at hp; exact hp), I.hok, I.len⟩
theorem ofSuite {pn2 : List (Addr × Obj)} (I : Inv (X.suite a (X.pn ++ pins)) pn2 σ H s) (ok : X.Ok) : Inv X pins σ H s :=
  ⟨ok, I.os, I.bare, I.base, I.loc, I.cell, I.free, I.freeC, fun p hp => I.pin p (List.mem_append_left _ hp), I.hok, I.len⟩
end
/-- the wish of a try's body: an error of the class that the clause names is held, and the suite is gone through with it in slot i -/
def wHold (K : PySem.W.Frag) (c : Value) (i : Nat) (ts : TS) (D : Ends) : WX := fun cls d σ H => ∃ C, cls = .ref C ∧ PySem.W.exmOne K cls c = some true ∧
  ∀ a, H a = none → ts { nx := fun σ' H' => D.nx (σ'.set i none) H', rt := D.rt, bk := fun σ' H' => D.bk (σ'.set i none) H', ct := fun σ' H' => D.ct (σ'.set i none) H' } (σ.set i (some (.ref a))) (upd H a (Hx a C d))
section
variable {X : Cx} {x n : Str} {c : Value} {i : Nat} {body suite : List Stmt} {b₀ : Stmt} {np pos pos' : Pos} {tb : WX → TS} {ts : TS}
theorem ps_try_hold (hs : X.stack = X.env :: X.outer) (hf : X.env.frame = some X.env.locals) (hex : X.ex = []) (hN : X.N.Nodup) (hi : X.N[i]? = some n) (hln : X.env.kindOf n = some .local) (hc : Names X x c)
    (hb : ∀ (W : WX) (pn : List (Addr × Obj)) (xe : Value → Shared → Prop), Takes (X.tr pn xe) W → PassesOwn (model X.prog X.w) X.A X.env xe → PSs (X.tr pn xe) body (tb W))
    (hsu : ∀ (a : Addr) (pn : List (Addr × Obj)), PSs (X.suite a pn) (b₀ :: suite) ts) :
    PS X (.Try body [.ExceptHandler (some (.Name x np)) (some n) (b₀ :: suite) pos'] [] [] pos) (fun D σ H => tb (wHold X.K c i ts D) D σ H) := by
  refine ⟨fun pins s σ H D I h => wpAny_Try_except ?_⟩
  have ok := I.ok
  have hfr : X.A.frames = some (X.env :: X.outer) := by rw [ok.frames, hs]
  have clause : ∀ u s', XE (X.tr (X.pn ++ pins) fun e s₁ => wpAny (model X.prog X.w) X.A (noteFrame e X.env) (fun _ s₂ => wpAny (model X.prog X.w) X.A (setFlight e none) (fun _ s₃ =>
      wpAny (model X.prog X.w) X.A (handleBy e X.env [.ExceptHandler (some (.Name x np)) (some n) (b₀ :: suite) pos']) (SP X pins D) X.xe s₃) X.xe s₂) X.xe s₁) (wHold X.K c i ts D) u s' →
      wpAny (model X.prog X.w) X.A (noteFrame u X.env) (fun _ s₂ => wpAny (model X.prog X.w) X.A (setFlight u none) (fun _ s₃ =>
      wpAny (model X.prog X.w) X.A (handleBy u X.env [.ExceptHandler (some (.Name x np)) (some n) (b₀ :: suite) pos']) (SP X pins D) X.xe s₃) X.xe s₂) X.xe s' := by
    intro u s' air
    obtain ⟨a, B, sI, pins', σ', H', cls, d, rfl, J', nb, up, sky, na, os, ag, C, rfl, hit, go⟩ := air
    have J : Inv X pins σ' H' sI := J'.ofTry ok
    have sky2 : Sky B (X.env :: X.outer) a (Zc (.ref C) d) X.env.locals s'.heap := by rw [← hs]; exact sky
    refine Sky.land Zc.steady hfr hf sky2 fun h3 fl3 up3 => ?_
    have J3 : Inv X pins σ' H' { s' with heap := h3 } := J.landed nb fl3.1 (up.trans up3) os ag
    obtain ⟨oe3, vs3, he3, hz3, hd3⟩ := fl3.there
    have out : a ∉ frs (X.env :: X.outer) := fun hm => by
      obtain ⟨_, o', e', hnf⟩ := fl3.2.2.1.mem hm
      rw [he3] at e'
      cases e'
      exact hnf _ hd3
    have nL : a ≠ X.env.locals := fun z => out (List.mem_filterMap.mpr ⟨X.env, List.mem_cons_self, by rw [hf, z]⟩)
    have gone : sI.heap.get? a = none := by
      cases e : sI.heap.get? a with
      | none => rfl
      | some o =>
        have := nb a o e (by show a ∉ frs X.stack; rw [hs]; exact out)
        rw [fl3.2.1] at this
        cases this
    have n0 : X.s_0.heap.get? a = none := by
      cases e : X.s_0.heap.get? a with
      | none => rfl
      | some o =>
        obtain ⟨o', q⟩ := J.base.there a o e (by rw [hex]; simp)
        rw [gone] at q
        cases q
    have np' : ∀ p ∈ X.pn ++ pins, p.1 ≠ a := fun p hp z => by
      have := (J.pin p hp).1
      rw [z, gone] at this
      cases this
    have show_ : ∀ (h : Heap) (oe : Obj) (vs : Array Value), Inv X pins σ' H' { s' with heap := h } → h.get? a = some oe → Zc (.ref C) d oe → oe.data = .fields vs → Inv X pins σ' (upd H' a (Hx a C d)) { s' with heap := h } := fun h oe vs J2 he hz hd =>
      shown J2 ⟨⟨oe, vs, he, hz, hd⟩, ⟨oe, he⟩, fun _ _ ⟨o, v, q, r⟩ k => ⟨o, v, k o q, r⟩⟩ na n0 nL (fun y b e z => by
        obtain ⟨v, o, h1, h2⟩ := J2.cell y b e
        subst z
        rw [he] at h1
        cases h1
        rw [hd] at h2
        cases h2) np'
    have S3 := toSuite (show_ h3 oe3 vs3 J3 he3 hz3 hd3) a
    have LT : PySem.W.Looks (model X.prog X.w) h3 (typeOf (.ref a)) (.ref C) := fun A Q E s k q => wpAny_typeOf_ref (k _ _ he3) (by rw [hz3.1]; exact q)
    have LM := PySem.W.exm_one (M := model X.prog X.w) J3.kIn LT hit
    have asks : ∀ {Q : Value → Shared → Prop} {E : Value → Shared → Prop}, Q c { s' with heap := h3 } → wpAny (model X.prog X.w) (X.A.mark (some (.ref a))) (eval (.Name x np) X.env) Q E { s' with heap := h3 } := fun q => by
      obtain ⟨hg, hdb, hm | ⟨hm, hv, hnn⟩⟩ := hc
      · exact ld_glob (X := X.suite a (X.pn ++ pins)) S3 hg hm q hdb
      · exact ld_blt (X := X.suite a (X.pn ++ pins)) S3 hg hm hv q hnn hdb
    refine wpAny_handleBy_cons (codeAny_handlers_test (asks (LM.here ?_))) (by intro q; cases q)
    refine codeAny_handlers_suite_as (HandSPX.lands_againZ fl3 fun h4 fl4 up4 => ?_)
    obtain ⟨oe4, vs4, he4, hz4, hd4⟩ := fl4.there
    have S4 := toSuite (show_ h4 oe4 vs4 (J.landed nb fl4.1 ((up.trans up3).trans up4) os ag) he4 hz4 hd4) a
    refine store_ok (X := X.suite a (X.pn ++ pins)) (v := .ref a) S4 hN hi (.inl hln) rfl (fun s5 S5 => ?_) (.inr hln)
    have fin : ∀ {σ6 : L2.St} {H6 : Hp} {s6 : Shared} {Q : Shared → Prop}, Inv (X.suite a (X.pn ++ pins)) [] σ6 H6 s6 → (∀ s7, Inv X pins (σ6.set i none) H6 s7 → Q s7) →
        wpAny (model X.prog X.w) X.A (do bindName X.env n .none; unbindBehindTheSuite X.env n pos') (fun _ s7 => Q s7) X.xe s6 := fun S6 hq => gone_ok (ofSuite S6 ok) hN hi hln hq
    refine wpAny_mono ((hsu a (X.pn ++ pins)).run [] s5 _ _ _ S5 (go a na)) (fun fl s6 hsp => ?_) fun _ _ z => False.elim z
    cases fl with
    | next => obtain ⟨_, _, S6, q6⟩ := hsp; exact fin S6 fun s7 J7 => ⟨_, _, J7, q6⟩
    | brk => obtain ⟨_, _, S6, q6⟩ := hsp; exact fin S6 fun s7 J7 => ⟨_, _, J7, q6⟩
    | cont => obtain ⟨_, _, S6, q6⟩ := hsp; exact fin S6 fun s7 J7 => ⟨_, _, J7, q6⟩
    | ret u => obtain ⟨_, _, _, S6, r6, q6⟩ := hsp; exact fin S6 fun s7 J7 => ⟨_, _, _, J7, r6, q6⟩
  refine wpAny_mono ((hb _ (X.pn ++ pins) _ clause PassesOwn.looking).run [] s σ H D (I.toTry _) h) (fun fl s1 hsp => ?_) fun _ _ z => z
  cases fl with
  | next => obtain ⟨σ', H', J', q⟩ := hsp; exact wpAny_execs_nil ⟨σ', H', J'.ofTry ok, q⟩
  | brk => obtain ⟨σ', H', J', q⟩ := hsp; exact ⟨σ', H', J'.ofTry ok, q⟩
  | cont => obtain ⟨σ', H', J', q⟩ := hsp; exact ⟨σ', H', J'.ofTry ok, q⟩
  | ret u => obtain ⟨v, σ', H', J', r, q⟩ := hsp; exact ⟨v, σ', H', J'.ofTry ok, r, q⟩
end
section
open PySem.W PySem.Calls
variable {prog : Program} {w : World} {A : Around} {E : Value → Shared → Prop} {K : Frag} {x D : Addr} {ox : Obj} {od : Option Obj}
theorem hx_data {name : Str} {v g : Value} (hc : (clsIn K D).isSome = true) (ha : findIn K (.ref D) name = some (some v)) (hg : specialIn K v "__get__" = some (some g)) (ht : takesIn K v = some true) : findObj K D od name = some (.bind g v) := by
  obtain ⟨cd, hc⟩ := Option.isSome_iff_exists.mp hc
  unfold findObj
  rw [hc, Option.bind_some, ha, Option.bind_some]
  simp only [hg, ht, Option.bind_some]
theorem hx_class (T : L2.ExcC K D) {Q : Option Value → Shared → Prop} {s : Shared} (kin : K.In s.heap) (I : InstAt s.heap x ox D od) (h : Q (some (.ref D)) { s with toks := s.toks + 1 }) : wpAny (model prog w) A (getAttr? (.ref x) "__class__") Q E s := by
  have has : (clsIn K D).isSome = true := by
    obtain ⟨cd, hc, _⟩ := any_some T.hd
    rw [hc] <;> rfl
  obtain ⟨hp, g, d, t, os⟩ := s
  have ty := I.type (M := model prog w)
  have fnd := looks_find (M := model prog w) kin I (hx_data (od := od) has T.ha T.hn T.ht)
  have isE : Looks (model prog w) hp (isInstance (.ref x) (.type "BaseException")) true := ty.andThen (looks_subIn kin T.hs)
  have other : (Value.builtin "BaseException.__getattribute__" == Value.builtin "object.__getattribute__") = false := by decide +kernel
  unfold getAttr? getAttrBy? getAttrBy
  refine wpAny_bind (wpAny_mkText (wpAny_bind (wpAny_attempt (wpAny_holding (wpAny_bind (ty.at (wpAny_bind ((looks_findIn (M := model prog w) kin T.hg).at ?_))))))))
  show wpAny _ _ (if (onTheHeap (Value.ref D) && Value.builtin "BaseException.__getattribute__" == Value.builtin "object.__getattribute__") = true then _ else _) _ _ _
  rw [other, Bool.and_false, if_neg Bool.false_ne_true]
  unfold getAttrByItsOwn hookBefore
  refine wpAny_bind ?_
  rw [if_pos (show onTheHeap (Value.ref D) = true from rfl)]
  refine (looks_findIn (M := model prog w) kin T.hk).at (wpAny_bind (wpAny_attempt (wpAny_holding ?_)))
  unfold callGetattribute
  rw [Bool.false_and, if_neg Bool.false_ne_true]
  unfold boundAndCalled
  rw [F.excAttr_ValueError.ga.bind (.ref x)]
  refine wpAny_bind (wpAny_pure ?_)
  show wpAny _ _ (call (.builtin "BaseException.__getattribute__") [.ref x, .str "__class__" t]) _ _ _
  refine wpAny_call (codeAny_call_builtin F.excAttr_ValueError.ga.plain F.entry_bexc_ga (@check_slot (model prog w) _ _ ⟨hp, g, d, t + 1, os⟩ "BaseException.__getattribute__" "BaseException" "__getattribute__" (.ref x) [.str "__class__" t] [] _ (by decide +kernel) (by decide +kernel) isE (F.args_bexc_ga _ _) ?_))
  unfold Builtin.«object.__getattribute__»
  refine wpAny_bind (wpAny_of_eq (a := ((Value.ref x : Value), [Value.str "__class__" t])) (by first | rfl | (simp only [slotArgs]; rfl)) (wpAny_bind (wpAny_pure (wpAny_bind (ty.at (wpAny_bind (fnd.at ?_)))))))
  show wpAny _ _ (holding [Value.builtin "object.__class__"] (call (.builtin "getset_descriptor.__get__") [.builtin "object.__class__", .ref x, .ref D]) >>= ret) _ _ _
  refine wpAny_bind (wpAny_holding (wpAny_call (class_get (s := ⟨hp, g, d, t + 1, os⟩) (ox := ox) (od := od) kin I T.hm (wpAny_pure ?_))))
  show wpAny _ _ (handedOut (.ref D)) _ _ _
  rw [handedOut_of (v := .ref D) rfl]
  first
    | exact wpAny_pure (wpAny_pure h)
    | exact wpAny_pure h
    | exact wpAny_pure (wpAny_bind (wpAny_pure (wpAny_pure h)))
theorem hx_kit (T : L2.ExcC K D) : KitX K (.ref x) (.ref D) (fun h => InstAt h x ox D od) := by
  obtain ⟨cd, hc, _⟩ := any_some T.hd
  unfold clsIn at hc
  split at hc
  · rename_i c1 d1 cd1 sl1 ho
    refine ⟨fun _ _ _ I => I.type, fun _ _ kin _ => ?_, fun h tp dd its n sl kin htp => ?_, fun kin I k => hx_class T kin I k⟩
    · intro A' Q' E' s' k q
      unfold isType loadHead
      exact wpAny_bind (wpAny_loadPart (k _ _ (kin _ _ ho)) (wpAny_pure q))
    · refine Bool.eq_false_iff.mpr fun q => ?_
      have e := Value.ref.inj (beq_iff_eq.mp q)
      subst e
      have z := (kin _ _ ho).symm.trans htp
      cases z
  · cases hc
end
/-- isinstance(e, T) of a held error -/
theorem call_hx {X : Cx} : CallR X (.builtin "isinstance") (fun xs H Q => ∃ (a C : Addr) (d : Option Addr) (c : V) (cv : Value) (b : Bool), xs = [.ref a, c] ∧ H a = some (Hx a C d) ∧ (∀ dd, d = some dd → ∃ fs, H dd = some (.xd fs)) ∧ ExcC X.K C ∧ (∀ u, RelV c u → u = cv) ∧ PySem.W.kitOne X.K (.ref C) cv = some b ∧ Q (.bl b) H) := by
  intro pins s σ H xs us Q I r h
  obtain ⟨a, C, d, c, cv, b, rfl, ha, hd, T, hcv, e, q⟩ := h
  obtain ⟨oe, vs, ho, hz, hdt⟩ := hx_at I.hok ha
  cases r with
  | cons rx rr =>
    cases rr with
    | cons rt rr =>
      cases rr
      cases rx
      cases hcv _ rt
      have no : PySem.W.notCls oe = true := by unfold PySem.W.notCls; rw [hdt] <;> rfl
      obtain ⟨od, J⟩ : ∃ od, PySem.W.InstAt s.heap a oe C od := by
        cases d with
        | none => exact ⟨none, ho, hz.1, no, by rw [hz.2]; trivial⟩
        | some dd =>
          obtain ⟨fs, hf⟩ := hd dd rfl
          obtain ⟨mA, ⟨o, _, _, h1, _⟩, _⟩ : ∃ mA, s.heap.Ns1 dd mA ∧ ∀ f, RelO (fs.lookup f) (mA f) := I.hok dd _ hf
          exact ⟨some o, ho, hz.1, no, by rw [hz.2]; exact h1⟩
      exact PySem.W.kia_one (hx_kit T) I.kIn J e (fun z => nomatch z) fun tk => ⟨.bl b, H, I.kept (t' := tk) fun _ _ z => z, rfl, q⟩
end Dv
namespace Dv
open PySem PySem.Spec PyProof.Rows L2
/-- plain data; urn is the one mutable thing (three numbers), known by its place -/
inductive D where
  | non | bl (b : Bool) | int (i : Int) | str (x : Str) | lst (xs : List D) | tup (xs : List D) | pr (xs : List D) | ins (c : Str) (ns : List Str) (xs : List D) | exc (c : Str) (ns : List Str) (xs : List D) | fn (x : Str) | dct (ks : List Key) (xs : List D) | dtt (ks : List (List Key)) (xs : List D) | dtn (ks : List NestedKey) (xs : List D) | urn
structure U where
  a : Int
  b : Int
  c : Int
/-- what is fixed through a law -/
structure InsOk (K : PySem.W.Frag) (C : Addr) : Prop where
  cl : Cls K C
  ha : PySem.W.findIn K (.ref C) "__class__" = some (some (.builtin "object.__class__"))
  hn : PySem.W.specialIn K (.builtin "object.__class__") "__get__" = some (some (.builtin "getset_descriptor.__get__"))
  htk : PySem.W.takesIn K (.builtin "object.__class__") = some true
  hm : PySem.W.mroIn K C (.type "object") = some true
  kStr : PySem.W.kitOne K (.ref C) (.type "str") = some false
  kInt : PySem.W.kitOne K (.ref C) (.type "int") = some false
  kBool : PySem.W.kitOne K (.ref C) (.type "bool") = some false
  kList : PySem.W.kitOne K (.ref C) (.type "list") = some false
  kTup : PySem.W.kitOne K (.ref C) (.type "tuple") = some false
/-- an own error class that is caught and held -/
structure ErOk (K : PySem.W.Frag) (C : Addr) : Prop where
  isi : ExcC K C
  fld : XfC K C
  hit : PySem.W.exmOne K (.ref C) (.ref C) = some true
structure Gx (K : PySem.W.Frag) where
  cls : Str → Option Addr
  ok : ∀ c C, cls c = some C → InsOk K C
  exc : Str → Option Addr := fun _ => none
  eok : ∀ c C, exc c = some C → ErOk K C := by intro _ _ h; cases h
  fns : Str → Option Addr := fun _ => none
  pw : Option (Program × World) := none
/-- an error's dict: none without fields -/
def ErD (H : Hp) (ns : List Str) (vs : List V) (d : Option Addr) : Prop := ns.length = vs.length ∧ ((ns = [] ∧ d = none) ∨ ∃ dd, d = some dd ∧ H dd = some (.xd (ns.zip vs)))
theorem ErD.mono {H H' : Hp} {ns : List Str} {vs : List V} {d : Option Addr} (h : ErD H ns vs d) (s : Same H H') : ErD H' ns vs d := by
  obtain ⟨h1, h2 | ⟨dd, h2, h3⟩⟩ := h
  · exact ⟨h1, .inl h2⟩
  · exact ⟨h1, .inr ⟨dd, h2, s _ _ h3⟩⟩
/-- a tuple whose object is told: it has no dict -/
def TupB (H : Hp) (a : Addr) (vs : List V) : Prop := ∃ o : Obj, o.dict = none ∧ H a = some (.frz o (.tup vs))
theorem TupB.mono {H H' : Hp} {a : Addr} {vs : List V} (h : TupB H a vs) (s : Same H H') : TupB H' a vs := ⟨h.choose, h.choose_spec.1, s _ _ h.choose_spec.2⟩
theorem TupB.sq {K : PySem.W.Frag} {H : Hp} {a : Addr} {vs : List V} (h : TupB H a vs) : SqT K H a vs := .inl (.inr ⟨h.choose, h.choose_spec.2⟩)
/-- a dict that is shown to all: it stands still from then on -/
def DctB (H : Hp) (a : Addr) (kvs : List (Key × V)) : Prop := ∃ o, H a = some (.frz o (.dK kvs))
theorem DctB.mono {H H' : Hp} {a : Addr} {kvs : List (Key × V)} (h : DctB H a kvs) (s : Same H H') : DctB H' a kvs := by
  obtain ⟨o, h⟩ := h
  exact ⟨o, s _ _ h⟩
/-- the tuples that are told, as tuples -/
def tupH (B : Hp) : Hp := fun b => match B b with
  | some (.frz o (.tup vs)) => if o.dict.isNone = true then some (.tup vs) else none
  | _ => none
theorem tupH_of {B : Hp} {b : Addr} {vs : List V} (h : TupB B b vs) : tupH B b = some (.tup vs) := by
  obtain ⟨o, ho, h⟩ := h
  unfold tupH
  rw [h]
  show (if o.dict.isNone = true then some (HO.tup vs) else none) = _
  rw [ho]; rfl
theorem tupH_to {B : Hp} {b : Addr} {vs : List V} (h : tupH B b = some (.tup vs)) : TupB B b vs := by
  unfold tupH at h
  split at h
  · rename_i o ws hb
    split at h
    · rename_i hd
      cases h
      exact ⟨o, Option.isNone_iff_eq_none.mp hd, hb⟩
    · cases h
  · cases h
theorem tupH_mono {H H' : Hp} (s : Same H H') : ∀ b ys, tupH H b = some (.tup ys) → tupH H' b = some (.tup ys) := fun b ys h => tupH_of ((tupH_to h).mono s)
/-- a dict whose keys are tuples of ints and texts, by its object -/
def DTo (P : Program) (w : World) (a : Addr × Obj) (xs : List (List Key × Addr × Value)) : HO := .ext fun h => xs.length ≤ sizeLine ∧ (a.1 == sysModules) = false ∧ ∃ es ep, h.get? a.1 = some a.2 ∧ a.2.ExactDict ∧ a.2.data = .dict es ep ∧ es.toList = xs.map (entryOfKey (tupleKind (mixKind P w))) ∧ (xs.map (·.1)).Nodup
def DtB {K : PySem.W.Frag} (G : Gx K) (ks : List (List Key)) (vs : List V) (o : HO) (B : Hp) : Prop := ∃ P w a xs, G.pw = some (P, w) ∧ o = DTo P w a xs ∧ KT (tupH B) (ks.zip vs) xs ∧ ks.length = vs.length
theorem DtB.mono {K : PySem.W.Frag} {G : Gx K} {ks : List (List Key)} {vs : List V} {o : HO} {H H' : Hp} (h : DtB G ks vs o H) (s : Same H H') : DtB G ks vs o H' := by
  obtain ⟨P, w, a, xs, h1, h2, h3, h4⟩ := h
  exact ⟨P, w, a, xs, h1, h2, h3.keeps (tupH_mono s), h4⟩
mutual
/-- v is the key k, in the shown heap -/
def NKey (B : Hp) : NestedKey → V → Prop
  | .none, v => v = .non
  | .num i, v => v = .int i
  | .text x, v => v = .str x
  | .tup ks, v => ∃ a vs, v = .ref a ∧ TupB B a vs ∧ NKeys B ks vs
def NKeys (B : Hp) : List NestedKey → List V → Prop
  | [], vs => vs = []
  | k :: ks, vs => ∃ v r, vs = v :: r ∧ NKey B k v ∧ NKeys B ks r
end
mutual
theorem NKey.mono {B B' : Hp} (s : Same B B') : ∀ (k : NestedKey) (v : V), NKey B k v → NKey B' k v
  | .none, v, h => by unfold NKey at h ⊢; exact h
  | .num _, v, h => by unfold NKey at h ⊢; exact h
  | .text _, v, h => by unfold NKey at h ⊢; exact h
  | .tup ks, v, h => by
    unfold NKey at h ⊢
    obtain ⟨a, vs, e, q, r⟩ := h
    exact ⟨a, vs, e, q.mono s, NKeys.mono s ks vs r⟩
theorem NKeys.mono {B B' : Hp} (s : Same B B') : ∀ (ks : List NestedKey) (vs : List V), NKeys B ks vs → NKeys B' ks vs
  | [], vs, h => by unfold NKeys at h ⊢; exact h
  | k :: ks, vs, h => by
    unfold NKeys at h ⊢
    obtain ⟨v, r, e, q, t⟩ := h
    exact ⟨v, r, e, NKey.mono s k v q, NKeys.mono s ks r t⟩
end
/-- a dict whose keys are tuples, nested, by its object -/
def DNo (P : Program) (w : World) (a : Addr × Obj) (xs : List (NestedKey × Addr × Value)) : HO := .ext fun h => xs.length ≤ sizeLine ∧ (a.1 == sysModules) = false ∧ ∃ es ep, h.get? a.1 = some a.2 ∧ a.2.ExactDict ∧ a.2.data = .dict es ep ∧ es.toList = xs.map (entryOfKey (nestedKind P w)) ∧ (xs.map (·.1)).Nodup
/-- keys and values, by the shown heap -/
abbrev KN (B : Hp) : List (NestedKey × V) → List (NestedKey × Addr × Value) → Prop := Paired fun p q => p.1 = q.1 ∧ (NKey B p.1 (.ref q.2.1) ∧ p.1.depth ≤ 8) ∧ RelV p.2 q.2.2
theorem KN.mono {B B' : Hp} (s : Same B B') {ps : List (NestedKey × V)} {xs : List (NestedKey × Addr × Value)} (h : KN B ps xs) : KN B' ps xs := by
  induction h with
  | nil => exact .nil
  | cons h t ih => exact .cons ⟨h.1, ⟨NKey.mono s _ _ h.2.1.1, h.2.1.2⟩, h.2.2⟩ ih
def DnB {K : PySem.W.Frag} (G : Gx K) (ks : List NestedKey) (vs : List V) (o : HO) (B : Hp) : Prop := ∃ P w a xs, G.pw = some (P, w) ∧ o = DNo P w a xs ∧ KN B (ks.zip vs) xs ∧ ks.length = vs.length
theorem DnB.mono {K : PySem.W.Frag} {G : Gx K} {ks : List NestedKey} {vs : List V} {o : HO} {H H' : Hp} (h : DnB G ks vs o H) (s : Same H H') : DnB G ks vs o H' := by
  obtain ⟨P, w, a, xs, h1, h2, h3, h4⟩ := h
  exact ⟨P, w, a, xs, h1, h2, h3.mono s, h4⟩
mutual
def Rep {K : PySem.W.Frag} (G : Gx K) (ua : Option Addr) : D → V → Hp → Prop
  | .non, v, _ => v = .non
  | .bl b, v, _ => v = .bl b
  | .int i, v, _ => v = .int i
  | .str x, v, _ => v = .str x
  | .lst ds, v, H => ∃ a vs, v = .ref a ∧ H a = some (HO.lst vs) ∧ Reps G ua ds vs H
  | .tup ds, v, H => ∃ a vs, v = .ref a ∧ TupB H a vs ∧ Reps G ua ds vs H
  | .pr ds, v, H => ∃ a vs, v = .ref a ∧ H a = some (HO.tup vs) ∧ Reps G ua ds vs H
  | .ins c ns ds, v, H => ∃ a C dx vs, v = .ref a ∧ G.cls c = some C ∧ H a = some (HO.ins C dx (ns.zip vs)) ∧ ns.length = vs.length ∧ Reps G ua ds vs H
  | .exc c ns ds, v, H => ∃ a C d vs, v = .ref a ∧ G.exc c = some C ∧ H a = some (Hx a C d) ∧ ErD H ns vs d ∧ Reps G ua ds vs H
  | .fn x, v, _ => ∃ f, G.fns x = some f ∧ v = .ref f
  | .dct ks ds, v, H => ∃ a vs, v = .ref a ∧ DctB H a (ks.zip vs) ∧ ks.length = vs.length ∧ Reps G ua ds vs H
  | .dtt ks ds, v, H => ∃ a vs o, v = .ref a ∧ H a = some o ∧ DtB G ks vs o H ∧ Reps G ua ds vs H
  | .dtn ks ds, v, H => ∃ a vs o, v = .ref a ∧ H a = some o ∧ DnB G ks vs o H ∧ Reps G ua ds vs H
  | .urn, v, _ => ∃ a, ua = some a ∧ v = .ref a
def Reps {K : PySem.W.Frag} (G : Gx K) (ua : Option Addr) : List D → List V → Hp → Prop
  | [], vs, _ => vs = []
  | d :: ds, vs, H => ∃ v r, vs = v :: r ∧ Rep G ua d v H ∧ Reps G ua ds r H
end
section
variable {K : PySem.W.Frag} {G : Gx K} {ua : Option Addr}
mutual
theorem Rep.mono : ∀ (d : D) (v : V) {H H' : Hp}, Same H H' → Rep G ua d v H → Rep G ua d v H'
  | .non, v, H, H', s, h => by unfold Rep at h ⊢; exact h
  | .bl _, v, H, H', s, h => by unfold Rep at h ⊢; exact h
  | .int _, v, H, H', s, h => by unfold Rep at h ⊢; exact h
  | .str _, v, H, H', s, h => by unfold Rep at h ⊢; exact h
  | .lst ds, v, H, H', s, h => by
    unfold Rep at h ⊢
    obtain ⟨a, vs, e, q, r⟩ := h
    exact ⟨a, vs, e, s _ _ q, Reps.mono ds vs s r⟩
  | .tup ds, v, H, H', s, h => by
    unfold Rep at h ⊢
    obtain ⟨a, vs, e, q, r⟩ := h
    exact ⟨a, vs, e, q.mono s, Reps.mono ds vs s r⟩
  | .pr ds, v, H, H', s, h => by
    unfold Rep at h ⊢
    obtain ⟨a, vs, e, q, r⟩ := h
    exact ⟨a, vs, e, s _ _ q, Reps.mono ds vs s r⟩
  | .ins c ns ds, v, H, H', s, h => by
    unfold Rep at h ⊢
    obtain ⟨a, C, dx, vs, e, c1, q, l, r⟩ := h
    exact ⟨a, C, dx, vs, e, c1, s _ _ q, l, Reps.mono ds vs s r⟩
  | .exc c ns ds, v, H, H', s, h => by
    unfold Rep at h ⊢
    obtain ⟨a, C, d, vs, e, c1, q, l, r⟩ := h
    exact ⟨a, C, d, vs, e, c1, s _ _ q, l.mono s, Reps.mono ds vs s r⟩
  | .fn _, v, H, H', s, h => by unfold Rep at h ⊢; exact h
  | .dct ks ds, v, H, H', s, h => by
    unfold Rep at h ⊢
    obtain ⟨a, vs, e, q, l, r⟩ := h
    exact ⟨a, vs, e, q.mono s, l, Reps.mono ds vs s r⟩
  | .dtt ks ds, v, H, H', s, h => by
    unfold Rep at h ⊢
    obtain ⟨a, vs, o, e, q, l, r⟩ := h
    exact ⟨a, vs, o, e, s _ _ q, l.mono s, Reps.mono ds vs s r⟩
  | .dtn ks ds, v, H, H', s, h => by
    unfold Rep at h ⊢
    obtain ⟨a, vs, o, e, q, l, r⟩ := h
    exact ⟨a, vs, o, e, s _ _ q, l.mono s, Reps.mono ds vs s r⟩
  | .urn, v, H, H', s, h => by unfold Rep at h ⊢; exact h
theorem Reps.mono : ∀ (ds : List D) (vs : List V) {H H' : Hp}, Same H H' → Reps G ua ds vs H → Reps G ua ds vs H'
  | [], vs, H, H', s, h => by unfold Reps at h ⊢; exact h
  | d :: ds, vs, H, H', s, h => by
    unfold Reps at h ⊢
    obtain ⟨v, r, e, q, t⟩ := h
    exact ⟨v, r, e, Rep.mono d v s q, Reps.mono ds r s t⟩
end
variable {H H' : Hp} {ds es : List D} {vs ws : List V} {d : D} {v : V}
theorem Reps.nil : Reps G ua [] [] H := by unfold Reps; rfl
theorem Reps.cons (h : Rep G ua d v H) (t : Reps G ua ds vs H) : Reps G ua (d :: ds) (v :: vs) H := by unfold Reps; exact ⟨v, vs, rfl, h, t⟩
theorem Reps.of_nil (h : Reps G ua [] vs H) : vs = [] := by unfold Reps at h; exact h
theorem Reps.of_cons (h : Reps G ua (d :: ds) vs H) : ∃ v r, vs = v :: r ∧ Rep G ua d v H ∧ Reps G ua ds r H := by unfold Reps at h; exact h
theorem Reps.len : ∀ {ds : List D} {vs : List V}, Reps G ua ds vs H → ds.length = vs.length
  | [], vs, h => by rw [h.of_nil]; rfl
  | d :: ds, vs, h => by
    obtain ⟨v, r, rfl, _, t⟩ := h.of_cons
    rw [List.length_cons, List.length_cons, Reps.len t]
theorem Reps.append : ∀ {ds : List D} {vs : List V}, Reps G ua ds vs H → Reps G ua es ws H → Reps G ua (ds ++ es) (vs ++ ws) H
  | [], vs, h, g => by rw [h.of_nil]; exact g
  | d :: ds, vs, h, g => by
    obtain ⟨v, r, rfl, q, t⟩ := h.of_cons
    exact .cons q (Reps.append t g)
theorem Reps.get : ∀ {ds : List D} {vs : List V} {i : Nat} {d : D}, Reps G ua ds vs H → ds[i]? = some d → ∃ v, vs[i]? = some v ∧ Rep G ua d v H
  | [], vs, i, d, h, e => by simp at e
  | d :: ds, vs, 0, d', h, e => by
    obtain ⟨v, r, rfl, q, t⟩ := h.of_cons
    simp at e; subst e
    exact ⟨v, rfl, q⟩
  | d :: ds, vs, i + 1, d', h, e => by
    obtain ⟨v, r, rfl, q, t⟩ := h.of_cons
    exact Reps.get (i := i) t (by simpa using e)
theorem Reps.take : ∀ {ds : List D} {vs : List V} (n : Nat), Reps G ua ds vs H → Reps G ua (ds.take n) (vs.take n) H
  | _, _, 0, h => .nil
  | [], vs, n + 1, h => by rw [h.of_nil]; exact .nil
  | d :: ds, vs, n + 1, h => by
    obtain ⟨v, r, rfl, q, t⟩ := h.of_cons
    exact .cons q (Reps.take n t)
theorem Reps.drop : ∀ {ds : List D} {vs : List V} (n : Nat), Reps G ua ds vs H → Reps G ua (ds.drop n) (vs.drop n) H
  | _, _, 0, h => h
  | [], vs, n + 1, h => by rw [h.of_nil]; exact .nil
  | d :: ds, vs, n + 1, h => by
    obtain ⟨v, r, rfl, q, t⟩ := h.of_cons
    exact Reps.drop n t
theorem Reps.set : ∀ {ds : List D} {vs : List V} (n : Nat), Reps G ua ds vs H → Rep G ua d v H → Reps G ua (ds.set n d) (vs.set n v) H
  | [], vs, n, h, q => by rw [h.of_nil]; exact .nil
  | _ :: ds, vs, 0, h, q => by
    obtain ⟨_, r, rfl, _, t⟩ := h.of_cons
    exact .cons q t
  | _ :: ds, vs, n + 1, h, q => by
    obtain ⟨_, r, rfl, q', t⟩ := h.of_cons
    exact .cons q' (Reps.set n t q)
theorem Reps.replicate (n : Nat) (h : Reps G ua ds vs H) : Reps G ua (List.replicate n ds).flatten (List.replicate n vs).flatten H := by
  induction n with
  | zero => exact .nil
  | succ n ih => rw [List.replicate_succ, List.replicate_succ, List.flatten_cons, List.flatten_cons]; exact h.append ih
theorem Reps.ints : ∀ {ns : List Int}, Reps G ua (ns.map .int) (ns.map .int) H
  | [] => .nil
  | n :: ns => .cons (by unfold Rep; rfl) Reps.ints
theorem Reps.ints_of : ∀ {xs : List Int} {vs : List V}, Reps G ua (xs.map .int) vs H → vs = xs.map .int
  | [], vs, h => h.of_nil
  | x :: xs, vs, h => by
    obtain ⟨v, r, rfl, q, t⟩ := h.of_cons
    unfold Rep at q
    rw [q, Reps.ints_of t]; rfl
theorem Reps.bls_of : ∀ {xs : List Bool} {vs : List V}, Reps G ua (xs.map .bl) vs H → vs = xs.map .bl
  | [], vs, h => h.of_nil
  | x :: xs, vs, h => by
    obtain ⟨v, r, rfl, q, t⟩ := h.of_cons
    unfold Rep at q
    rw [q, Reps.bls_of t]; rfl
end
/-- B: the part of the heap that plain data may name; the urn stands beside it -/
structure Wd (ua : Option Addr) (u : U) (B H : Hp) : Prop where
  sub : Same B H
  urn : ∀ a, ua = some a → B a = none ∧ H a = some (.lst [.int u.a, .int u.b, .int u.c])
structure Grow (ua : Option Addr) (B H B' H' : Hp) : Prop where
  keep : ∀ a o, H a = some o → ua ≠ some a → H' a = some o
  live : ∀ a, H' a = none → H a = none
  pub : Same B B'
  new : ∀ a o, B' a = some o → B a = some o ∨ H a = none
theorem Grow.refl {ua : Option Addr} {B H : Hp} : Grow ua B H B H := ⟨fun _ _ h _ => h, fun _ h => h, fun _ _ h => h, fun _ _ h => .inl h⟩
theorem Grow.trans {ua : Option Addr} {B H B1 H1 B2 H2 : Hp} (x : Grow ua B H B1 H1) (y : Grow ua B1 H1 B2 H2) : Grow ua B H B2 H2 :=
  ⟨fun a o h n => y.keep a o (x.keep a o h n) n, fun a h => x.live a (y.live a h), fun a o h => y.pub a o (x.pub a o h), fun a o h => by
    rcases y.new a o h with h | h
    · exact x.new a o h
    · exact .inr (x.live a h)⟩
theorem same_new {H : Hp} {p : Addr} {o : HO} (h : H p = none) : Same H (upd H p o) := fun b x e => by
  rw [upd_ne (ne_of_none e h)]
  exact e
section
variable {ua : Option Addr} {u : U} {B H : Hp} {p : Addr} {o : HO}
theorem Wd.none_of (w : Wd ua u B H) (h : H p = none) : B p = none := by
  cases e : B p with
  | none => rfl
  | some o => rw [w.sub p o e] at h; cases h
theorem Wd.ne_urn (w : Wd ua u B H) (h : H p = none) : ua ≠ some p := fun e => by
  rw [(w.urn p e).2] at h; cases h
/-- a new object that anyone may see -/
theorem Grow.new1 (w : Wd ua u B H) (h : H p = none) : Grow ua B H (upd B p o) (upd H p o) := by
  have hp := w.none_of h
  refine ⟨fun a x e _ => same_new h a x e, fun a e => ?_, same_new hp, fun a x e => ?_⟩
  · by_cases q : a = p
    · subst q; exact h
    · rw [upd_ne q] at e; exact e
  · by_cases q : a = p
    · subst q; exact .inr h
    · rw [upd_ne q] at e; exact .inl e
theorem Wd.new1 (w : Wd ua u B H) (h : H p = none) : Wd ua u (upd B p o) (upd H p o) := by
  refine ⟨fun a x e => ?_, fun a e => ?_⟩
  · by_cases q : a = p
    · subst q; rw [upd_same] at e ⊢; exact e
    · rw [upd_ne q] at e ⊢; exact w.sub a x e
  · have := w.urn a e
    have q : a ≠ p := fun z => by subst z; rw [this.2] at h; cases h
    rw [upd_ne q, upd_ne q]; exact this
/-- a new object of one's own -/
theorem Grow.own1 (w : Wd ua u B H) (h : H p = none) : Grow ua B H B (upd H p o) := by
  refine ⟨fun a x e _ => same_new h a x e, fun a e => ?_, fun _ _ e => e, fun a x e => .inl e⟩
  by_cases q : a = p
  · subst q; exact h
  · rw [upd_ne q] at e; exact e
theorem Wd.own1 (w : Wd ua u B H) (h : H p = none) : Wd ua u B (upd H p o) := by
  refine ⟨fun a x e => same_new h a x (w.sub a x e), fun a e => ?_⟩
  have := w.urn a e
  have q : a ≠ p := fun z => by subst z; rw [this.2] at h; cases h
  rw [upd_ne q]; exact this
/-- one's own object is changed -/
theorem Wd.put (w : Wd ua u B H) (h : B p = none) (n : ua ≠ some p) : Wd ua u B (upd H p o) := by
  refine ⟨fun a x e => ?_, fun a e => ?_⟩
  · rw [upd_ne (ne_of_none e h)]; exact w.sub a x e
  · have := w.urn a e
    rw [upd_ne (fun z => n (by rw [← z]; exact e))]; exact this
end
/-- one's own things, that still change -/
inductive Oo where
  | lst (ds : List D) | dct (ks : List Key) (ds : List D) | dtt (ks : List (List Key)) (ds : List D) | dtn (ks : List NestedKey) (ds : List D)
def RepO {K : PySem.W.Frag} (G : Gx K) (ua : Option Addr) : Oo → HO → Hp → Prop
  | .lst ds, o, B => ∃ vs, o = .lst vs ∧ Reps G ua ds vs B
  | .dct ks ds, o, B => ∃ vs, o = .dK (ks.zip vs) ∧ ks.length = vs.length ∧ Reps G ua ds vs B ∧ ks.Nodup
  | .dtt ks ds, o, B => ∃ vs, DtB G ks vs o B ∧ Reps G ua ds vs B
  | .dtn ks ds, o, B => ∃ vs, DnB G ks vs o B ∧ Reps G ua ds vs B
theorem RepO.mono {K : PySem.W.Frag} {G : Gx K} {ua : Option Addr} {x : Oo} {o : HO} {B B' : Hp} (h : RepO G ua x o B) (s : Same B B') : RepO G ua x o B' := by
  cases x with
  | lst ds => obtain ⟨vs, e, r⟩ := h; exact ⟨vs, e, r.mono _ _ s⟩
  | dct ks ds => obtain ⟨vs, e, l, r, n⟩ := h; exact ⟨vs, e, l, r.mono _ _ s, n⟩
  | dtt ks ds => obtain ⟨vs, e, r⟩ := h; exact ⟨vs, e.mono s, r.mono _ _ s⟩
  | dtn ks ds => obtain ⟨vs, e, r⟩ := h; exact ⟨vs, e.mono s, r.mono _ _ s⟩
inductive Sl where
  | no | pub (d : D) | own (o : Oo)
structure EnvOk {K : PySem.W.Frag} (G : Gx K) (ua : Option Addr) (env : List Sl) (σ : List (Option V)) (B H : Hp) : Prop where
  len : env.length = σ.length
  pub : ∀ (i : Nat) d, env[i]? = some (Sl.pub d) → ∃ v, σ[i]? = some (some v) ∧ Rep G ua d v B
  own : ∀ (i : Nat) ds, env[i]? = some (Sl.own ds) → ∃ p ho, σ[i]? = some (some (V.ref p)) ∧ H p = some ho ∧ B p = none ∧ RepO G ua ds ho B ∧ ua ≠ some p
  inj : ∀ (i j : Nat) ds es p, env[i]? = some (Sl.own ds) → env[j]? = some (Sl.own es) → σ[i]? = some (some (V.ref p)) → σ[j]? = some (some (V.ref p)) → i = j
section
variable {K : PySem.W.Frag} {G : Gx K} {ua : Option Addr} {u : U} {env : List Sl} {σ : List (Option V)} {B H B' H' : Hp} {d : D} {v : V} {i : Nat}
theorem EnvOk.grow (e : EnvOk G ua env σ B H) (g : Grow ua B H B' H') : EnvOk G ua env σ B' H' := by
  refine ⟨e.len, fun i d h => ?_, fun i ds h => ?_, e.inj⟩
  · obtain ⟨v, h1, h2⟩ := e.pub i d h
    exact ⟨v, h1, h2.mono _ _ g.pub⟩
  · obtain ⟨p, vs, h1, h2, h3, h4, h5⟩ := e.own i ds h
    refine ⟨p, vs, h1, g.keep _ _ h2 h5, ?_, h4.mono g.pub, h5⟩
    cases q : B' p with
    | none => rfl
    | some o =>
      rcases g.new p o q with z | z
      · rw [z] at h3; cases h3
      · rw [z] at h2; cases h2
theorem get_set {α : Type} {l : List α} {i j : Nat} {a x : α} (h : (l.set i a)[j]? = some x) : (j = i ∧ x = a) ∨ (j ≠ i ∧ l[j]? = some x) := by
  by_cases q : i = j
  · subst q
    left
    by_cases hl : i < l.length
    · rw [List.getElem?_set_self hl] at h
      exact ⟨rfl, (Option.some.inj h).symm⟩
    · rw [List.getElem?_eq_none (by rw [List.length_set]; omega)] at h; cases h
  · rw [List.getElem?_set_ne q] at h
    exact .inr ⟨fun z => q z.symm, h⟩
theorem set_get {α : Type} {l : List α} {i : Nat} {a : α} (hl : i < l.length) : (l.set i a)[i]? = some a := by rw [List.getElem?_set_self hl]
theorem lt_of_get {α : Type} {l : List α} {i : Nat} {x : α} (h : l[i]? = some x) : i < l.length := (List.getElem?_eq_some_iff.mp h).1
theorem EnvOk.set (e : EnvOk G ua env σ B H) (r : Rep G ua d v B) (i : Nat) : EnvOk G ua (env.set i (Sl.pub d)) (σ.set i (some v)) B H := by
  refine ⟨by rw [List.length_set, List.length_set]; exact e.len, fun j d' h => ?_, fun j ds h => ?_, fun j k ds es p h1 h2 h3 h4 => ?_⟩
  · have hl := lt_of_get h
    rw [List.length_set, e.len] at hl
    rcases get_set h with ⟨rfl, q⟩ | ⟨q, h⟩
    · cases q; exact ⟨v, set_get hl, r⟩
    · rw [List.getElem?_set_ne (fun z => q z.symm)]; exact e.pub j d' h
  · rcases get_set h with ⟨rfl, q⟩ | ⟨q, h⟩
    · cases q
    · rw [List.getElem?_set_ne (fun z => q z.symm)]; exact e.own j ds h
  · rcases get_set h1 with ⟨rfl, q⟩ | ⟨q1, h1⟩
    · cases q
    · rcases get_set h2 with ⟨rfl, q⟩ | ⟨q2, h2⟩
      · cases q
      · rw [List.getElem?_set_ne (fun z => q1 z.symm)] at h3
        rw [List.getElem?_set_ne (fun z => q2 z.symm)] at h4
        exact e.inj j k ds es p h1 h2 h3 h4
/-- forgotten slots -/
def wipeE (env : List Sl) : List Nat → List Sl
  | [] => env
  | v :: vs => (wipeE env vs).set v Sl.no
theorem EnvOk.wipe1 (e : EnvOk G ua env σ B H) (i : Nat) (o : Option V) : EnvOk G ua (env.set i Sl.no) (σ.set i o) B H := by
  refine ⟨by rw [List.length_set, List.length_set]; exact e.len, fun j d' h => ?_, fun j ds h => ?_, fun j k ds es p h1 h2 h3 h4 => ?_⟩
  · rcases get_set h with ⟨rfl, q⟩ | ⟨q, h⟩
    · cases q
    · rw [List.getElem?_set_ne (fun z => q z.symm)]; exact e.pub j d' h
  · rcases get_set h with ⟨rfl, q⟩ | ⟨q, h⟩
    · cases q
    · rw [List.getElem?_set_ne (fun z => q z.symm)]; exact e.own j ds h
  · rcases get_set h1 with ⟨rfl, q⟩ | ⟨q1, h1⟩
    · cases q
    · rcases get_set h2 with ⟨rfl, q⟩ | ⟨q2, h2⟩
      · cases q
      · rw [List.getElem?_set_ne (fun z => q1 z.symm)] at h3
        rw [List.getElem?_set_ne (fun z => q2 z.symm)] at h4
        exact e.inj j k ds es p h1 h2 h3 h4
theorem EnvOk.wipe (e : EnvOk G ua env σ B H) : ∀ vs : List Nat, EnvOk G ua (wipeE env vs) (wipe σ vs) B H
  | [] => e
  | v :: vs => by unfold wipeE L2.wipe; exact (e.wipe vs).wipe1 v none
end
end Dv
namespace Dv
open PySem PySem.Spec PyProof.Rows L2
def Aft {K : PySem.W.Frag} (G : Gx K) (ua : Option Addr) (B H : Hp) (u' : U) (d : D) : V → Hp → Prop := fun v H' => ∃ B', Grow ua B H B' H' ∧ Wd ua u' B' H' ∧ Rep G ua d v B'
theorem Aft.up {K : PySem.W.Frag} {G : Gx K} {ua : Option Addr} {B H B1 H1 H' : Hp} {u' : U} {d : D} {v : V} (g : Grow ua B H B1 H1) (a : Aft G ua B1 H1 u' d v H') : Aft G ua B H u' d v H' := by
  obtain ⟨B', g', w, r⟩ := a
  exact ⟨B', g.trans g', w, r⟩
theorem Aft.here {K : PySem.W.Frag} {G : Gx K} {ua : Option Addr} {B H : Hp} {u : U} {d : D} {v : V} (w : Wd ua u B H) (r : Rep G ua d v B) : Aft G ua B H u d v H := ⟨B, .refl, w, r⟩
theorem Aft.lst {K : PySem.W.Frag} {G : Gx K} {ua : Option Addr} {B H : Hp} {u : U} {ds : List D} {vs : List V} {p : Addr} (w : Wd ua u B H) (h : H p = none) (r : Reps G ua ds vs B) : Aft G ua B H u (.lst ds) (.ref p) (upd H p (.lst vs)) :=
  ⟨upd B p (.lst vs), .new1 w h, w.new1 h, by unfold Rep; exact ⟨p, vs, rfl, upd_same, r.mono _ _ (same_new (w.none_of h))⟩⟩
theorem Aft.tup {K : PySem.W.Frag} {G : Gx K} {ua : Option Addr} {B H : Hp} {u : U} {ds : List D} {vs : List V} {p : Addr} {o : Obj} (w : Wd ua u B H) (h : H p = none) (ho : o.dict = none) (r : Reps G ua ds vs B) : Aft G ua B H u (.tup ds) (.ref p) (upd H p (.frz o (.tup vs))) :=
  ⟨upd B p (.frz o (.tup vs)), .new1 w h, w.new1 h, by unfold Rep; exact ⟨p, vs, rfl, ⟨o, ho, upd_same⟩, r.mono _ _ (same_new (w.none_of h))⟩⟩
theorem Aft.pr {K : PySem.W.Frag} {G : Gx K} {ua : Option Addr} {B H : Hp} {u : U} {ds : List D} {vs : List V} {p : Addr} (w : Wd ua u B H) (h : H p = none) (r : Reps G ua ds vs B) : Aft G ua B H u (.pr ds) (.ref p) (upd H p (.tup vs)) :=
  ⟨upd B p (.tup vs), .new1 w h, w.new1 h, by unfold Rep; exact ⟨p, vs, rfl, upd_same, r.mono _ _ (same_new (w.none_of h))⟩⟩
section
variable {K : PySem.W.Frag} {G : Gx K} {ua : Option Addr} {B H : Hp} {v : V}
theorem Rep.int {i : Int} (r : Rep G ua (.int i) v B) : v = .int i := by unfold Rep at r; exact r
theorem Rep.bl {i : Bool} (r : Rep G ua (.bl i) v B) : v = .bl i := by unfold Rep at r; exact r
theorem Rep.str {i : Str} (r : Rep G ua (.str i) v B) : v = .str i := by unfold Rep at r; exact r
theorem Rep.non (r : Rep G ua .non v B) : v = .non := by unfold Rep at r; exact r
theorem Rep.lst {ds : List D} (r : Rep G ua (.lst ds) v B) : ∃ a vs, v = .ref a ∧ B a = some (.lst vs) ∧ Reps G ua ds vs B := by unfold Rep at r; exact r
theorem Rep.tup {ds : List D} (r : Rep G ua (.tup ds) v B) : ∃ a vs, v = .ref a ∧ TupB B a vs ∧ Reps G ua ds vs B := by unfold Rep at r; exact r
theorem Rep.pr {ds : List D} (r : Rep G ua (.pr ds) v B) : ∃ a vs, v = .ref a ∧ B a = some (.tup vs) ∧ Reps G ua ds vs B := by unfold Rep at r; exact r
theorem rep_int {i : Int} : Rep G ua (.int i) (.int i) B := by unfold Rep; rfl
theorem rep_bl {i : Bool} : Rep G ua (.bl i) (.bl i) B := by unfold Rep; rfl
theorem rep_str {i : Str} : Rep G ua (.str i) (.str i) B := by unfold Rep; rfl
theorem rep_non : Rep G ua .non .non B := by unfold Rep; rfl
end
mutual
def toPy : D → Option PyData
  | .non => some .none
  | .bl b => some (.bool b)
  | .int i => some (.int i)
  | .str x => some (.str x)
  | .lst ds => (toPys ds).map .list
  | .tup ds => (toPys ds).map .tuple
  | .ins _ _ _ => none
  | .exc _ _ _ => none
  | .fn _ => none
  | .dct _ _ => none
  | .dtt _ _ => none
  | .dtn _ _ => none
  | .pr ds => (toPys ds).map .tuple
  | .urn => none
def toPys : List D → Option (List PyData)
  | [] => some []
  | d :: ds => (toPy d).bind fun p => (toPys ds).map fun ps => p :: ps
end
section
variable {K : PySem.W.Frag} {G : Gx K} {ua : Option Addr} {B H : Hp}
mutual
theorem rep_dp (s : Same B H) : ∀ (d : D) (v : V) (p : PyData), toPy d = some p → Rep G ua d v B → Dp K H v p
  | .non, v, p, e, r => by
    unfold toPy at e; cases e; cases r.non; exact .non
  | .bl b, v, p, e, r => by
    unfold toPy at e; cases e; cases r.bl; exact .bl b
  | .int i, v, p, e, r => by
    unfold toPy at e; cases e; cases r.int; exact .int i
  | .str x, v, p, e, r => by
    unfold toPy at e; cases e; cases r.str; exact .str x
  | .lst ds, v, p, e, r => by
    unfold toPy at e
    obtain ⟨a, vs, rfl, h, rs⟩ := r.lst
    cases q : toPys ds with
    | none => rw [q] at e; cases e
    | some ps => rw [q] at e; cases e; exact .lst (.of (s _ _ h)) (reps_dp s ds vs ps q rs)
  | .tup ds, v, p, e, r => by
    unfold toPy at e
    obtain ⟨a, vs, rfl, h, rs⟩ := r.tup
    cases q : toPys ds with
    | none => rw [q] at e; cases e
    | some ps => rw [q] at e; cases e; exact .tup (h.mono s).sq (reps_dp s ds vs ps q rs)
  | .pr ds, v, p, e, r => by
    unfold toPy at e
    obtain ⟨a, vs, rfl, h, rs⟩ := r.pr
    cases q : toPys ds with
    | none => rw [q] at e; cases e
    | some ps => rw [q] at e; cases e; exact .tup (.of (s _ _ h)) (reps_dp s ds vs ps q rs)
  | .ins _ _ _, v, p, e, r => by unfold toPy at e; cases e
  | .exc _ _ _, v, p, e, r => by unfold toPy at e; cases e
  | .fn _, v, p, e, r => by unfold toPy at e; cases e
  | .dct _ _, v, p, e, r => by unfold toPy at e; cases e
  | .dtt _ _, v, p, e, r => by unfold toPy at e; cases e
  | .dtn _ _, v, p, e, r => by unfold toPy at e; cases e
  | .urn, v, p, e, r => by unfold toPy at e; cases e
theorem reps_dp (s : Same B H) : ∀ (ds : List D) (vs : List V) (ps : List PyData), toPys ds = some ps → Reps G ua ds vs B → DpAll K H vs ps
  | [], vs, ps, e, r => by
    unfold toPys at e; cases e; rw [r.of_nil]; exact .nil
  | d :: ds, vs, ps, e, r => by
    unfold toPys at e
    obtain ⟨v, t, rfl, r1, r2⟩ := r.of_cons
    cases q : toPy d with
    | none => rw [q] at e; cases e
    | some p =>
      cases q2 : toPys ds with
      | none => rw [q, q2] at e; cases e
      | some ps' => rw [q, q2] at e; cases e; exact .cons (rep_dp s d v p q r1) (reps_dp s ds t ps' q2 r2)
end
end
def fAdd : D → D → Option D
  | .int i, .int j => some (.int (i + j))
  | .str a, .str b => if a.length + b.length ≤ sizeLine then some (.str (a ++ b)) else none
  | .lst a, .lst b => if a.length + b.length ≤ sizeLine then some (.lst (a ++ b)) else none
  | .tup a, .tup b => if a.length + b.length ≤ sizeLine then some (.tup (a ++ b)) else none
  | _, _ => none
def fMul : D → D → Option D
  | .int i, .int j => if (-(2 ^ 64) < i ∧ i < 2 ^ 64) ∨ (-(2 ^ 64) < j ∧ j < 2 ^ 64) then some (.int (i * j)) else none
  | .lst a, .int k => if -(2 ^ 63) ≤ k ∧ k < 2 ^ 63 ∧ a.length * k.toNat ≤ sizeLine then some (.lst (List.replicate k.toNat a).flatten) else none
  | _, _ => none
def fMod : D → D → Option D
  | .int i, .int j => if 0 < j then some (.int (i % j)) else none
  | _, _ => none
def fPow : D → D → Option D
  | .int i, .int j => if 0 ≤ j ∧ j ≤ 1000000 ∧ i.natAbs < 2 ^ 64 then some (.int (i ^ j.toNat)) else none
  | _, _ => none
def BinOk {X : Cx} (G : Gx X.K) (F : Value → Value → Sem Value) (f : D → D → Option D) : Prop :=
  ∀ (ua : Option Addr) (u : U) (B H : Hp) (da db d : D) (va vb : V), f da db = some d → Rep G ua da va B → Rep G ua db vb B → Wd ua u B H → ∃ r : R2, OpR X F r ∧ r va vb H (Aft G ua B H u d)
section
variable {X : Cx} {G : Gx X.K}
theorem ok_add : BinOk G (binaryOp .Add) fAdd := by
  intro ua u B H da db d va vb e ra rb w
  unfold fAdd at e
  split at e
  · cases e; cases ra.int; cases rb.int
    exact ⟨_, op_add, _, _, rfl, rfl, .here w rep_int⟩
  · split at e
    · cases e; cases ra.str; cases rb.str
      exact ⟨_, op_add_str, _, _, rfl, rfl, ‹_›, .here w rep_str⟩
    · cases e
  · split at e
    · cases e
      obtain ⟨a, xs, rfl, h1, r1⟩ := ra.lst
      obtain ⟨b, ys, rfl, h2, r2⟩ := rb.lst
      refine ⟨_, op_cat, a, b, xs, ys, rfl, rfl, w.sub _ _ h1, w.sub _ _ h2, by rw [← r1.len, ← r2.len]; assumption, fun p hp => .lst w hp (r1.append r2)⟩
    · cases e
  · split at e
    · cases e
      have ra' := ra
      have rb' := rb
      obtain ⟨a, xs, rfl, h1, r1⟩ := ra.tup
      obtain ⟨b, ys, rfl, h2, r2⟩ := rb.tup
      refine ⟨_, op_catF, a, b, xs, ys, rfl, rfl, (h1.mono w.sub).sq, (h2.mono w.sub).sq, by rw [← r1.len, ← r2.len]; assumption, fun hx => ?_, fun _ hy => ?_, fun _ _ p o hp ho => .tup w hp ho (r1.append r2)⟩
      · subst hx
        have e1 := r1.len
        rw [List.length_nil] at e1
        rw [List.eq_nil_of_length_eq_zero e1]
        exact .here w rb'
      · subst hy
        have e1 := r2.len
        rw [List.length_nil] at e1
        rw [List.eq_nil_of_length_eq_zero e1, List.append_nil]
        exact .here w ra'
    · cases e
  · cases e
theorem ok_mul : BinOk G (binaryOp .Mult) fMul := by
  intro ua u B H da db d va vb e ra rb w
  unfold fMul at e
  split at e
  · split at e
    · cases e; cases ra.int; cases rb.int
      exact ⟨_, op_mul, _, _, rfl, rfl, ‹_›, .here w rep_int⟩
    · cases e
  · split at e
    · rename_i k hk
      cases e
      cases rb.int
      obtain ⟨a, xs, rfl, h1, r1⟩ := ra.lst
      exact ⟨_, op_rep, a, _, xs, rfl, rfl, w.sub _ _ h1, hk.1, hk.2.1, by rw [← r1.len]; exact hk.2.2, fun p hp => .lst w hp (r1.replicate _)⟩
    · cases e
  · cases e
theorem ok_mod : BinOk G (binaryOp .Mod) fMod := by
  intro ua u B H da db d va vb e ra rb w
  unfold fMod at e
  split at e
  · split at e
    · cases e; cases ra.int; cases rb.int
      exact ⟨_, op_mod, _, _, rfl, rfl, ‹_›, .here w rep_int⟩
    · cases e
  · cases e
theorem ok_pow : BinOk G (binaryOp .Pow) fPow := by
  intro ua u B H da db d va vb e ra rb w
  unfold fPow at e
  split at e
  · split at e
    · cases e; cases ra.int; cases rb.int
      exact ⟨_, op_pow, _, _, rfl, rfl, ‹_›, .here w rep_int⟩
    · cases e
  · cases e
end
def eqD (a b : D) : Option Bool :=
  match a, b with
  | .int i, .int j => some (decide (i = j))
  | .str i, .str j => some (decide (i = j))
  | .bl i, .bl j => some (decide (i = j))
  | .non, .non => some true
  | a, b => match toPy a, toPy b with
    | some x, some y => if SeqAt.shaped x = true ∧ SeqAt.shaped y = true then some (PyData.eqv x y) else none
    | _, _ => none
def cEq (a b : D) : Option D := (eqD a b).map .bl
def cNe (a b : D) : Option D := (eqD a b).map fun k => .bl (!k)
def cLt : D → D → Option D
  | .int i, .int j => some (.bl (decide (i < j)))
  | .str i, .str j => some (.bl (decide (i.cps.toList < j.cps.toList)))
  | _, _ => none
def cLe : D → D → Option D
  | .int i, .int j => some (.bl (decide (i ≤ j)))
  | _, _ => none
def cGt : D → D → Option D
  | .int i, .int j => some (.bl (decide (j < i)))
  | _, _ => none
def cGe : D → D → Option D
  | .int i, .int j => some (.bl (decide (j ≤ i)))
  | _, _ => none
def cIs : D → D → Option D
  | .non, .non => some (.bl true)
  | _, .non => some (.bl false)
  | _, _ => none
def inD (a : D) : D → Option Bool
  | .str z => match a with
    | .str c => match c.cps.toList with
      | [k] => some (decide (k ∈ z.cps.toList))
      | _ => none
    | _ => none
  | .lst ds => match toPy a, toPys ds with
    | some x, some ys => if SeqAt.shaped x = true ∧ SeqAt.shaped (.list ys) = true then some (ys.any fun z => PyData.eqv z x) else none
    | _, _ => none
  | .tup ds => match toPy a, toPys ds with
    | some x, some ys => if SeqAt.shaped x = true ∧ SeqAt.shaped (.tuple ys) = true then some (ys.any fun z => PyData.eqv z x) else none
    | _, _ => none
  | _ => none
def cIn (a b : D) : Option D := (inD a b).map .bl
def cNotIn (a b : D) : Option D := (inD a b).map fun k => .bl (!k)
section
variable {X : Cx} {G : Gx X.K}
theorem rep_eqD {ua : Option Addr} {u : U} {B H : Hp} {a b : D} {k : Bool} {va vb : V} (e : eqD a b = some k) (ra : Rep G ua a va B) (rb : Rep G ua b vb B) (w : Wd ua u B H) :
    (scal va vb = true ∧ k = decide (va = vb)) ∨ ∃ d e, Dp X.K H va d ∧ Dp X.K H vb e ∧ SeqAt.shaped d = true ∧ SeqAt.shaped e = true ∧ k = PyData.eqv d e := by
  unfold eqD at e
  split at e
  · cases e; cases ra.int; cases rb.int; exact .inl ⟨rfl, by simp⟩
  · cases e; cases ra.str; cases rb.str; exact .inl ⟨rfl, by simp⟩
  · cases e; cases ra.bl; cases rb.bl; exact .inl ⟨rfl, by simp⟩
  · cases e; cases ra.non; cases rb.non; exact .inl ⟨rfl, by simp⟩
  · split at e
    · rename_i x y h1 h2
      split at e
      · rename_i h
        cases e
        exact .inr ⟨x, y, rep_dp w.sub _ _ _ h1 ra, rep_dp w.sub _ _ _ h2 rb, h.1, h.2, rfl⟩
      · cases e
    · cases e
theorem ok_eq (hu : X.A.units + 64 < cLine) : BinOk G (compareOp .Eq) cEq := by
  intro ua u B H da db d va vb e ra rb w
  unfold cEq at e
  cases q : eqD da db with
  | none => rw [q] at e; cases e
  | some k =>
    rw [q] at e; cases e
    rcases rep_eqD q ra rb w with ⟨h1, rfl⟩ | ⟨x, y, h1, h2, h3, h4, rfl⟩
    · exact ⟨_, op_eq, h1, .here w rep_bl⟩
    · exact ⟨_, op_eqD hu, x, y, h1, h2, h3, h4, .here w rep_bl⟩
theorem ok_ne (hu : X.A.units + 64 < cLine) : BinOk G (compareOp .NotEq) cNe := by
  intro ua u B H da db d va vb e ra rb w
  unfold cNe at e
  cases q : eqD da db with
  | none => rw [q] at e; cases e
  | some k =>
    rw [q] at e; cases e
    rcases rep_eqD q ra rb w with ⟨h1, rfl⟩ | ⟨x, y, h1, h2, h3, h4, rfl⟩
    · exact ⟨_, op_ne, h1, .here w rep_bl⟩
    · exact ⟨_, op_neD hu, x, y, h1, h2, h3, h4, .here w rep_bl⟩
theorem ok_lt : BinOk G (compareOp .Lt) cLt := by
  intro ua u B H da db d va vb e ra rb w
  unfold cLt at e
  split at e
  · cases e; cases ra.int; cases rb.int
    exact ⟨_, op_lt, _, _, rfl, rfl, .here w rep_bl⟩
  · cases e; cases ra.str; cases rb.str
    exact ⟨_, op_lt_str, _, _, rfl, rfl, .here w rep_bl⟩
  · cases e
theorem ok_le : BinOk G (compareOp .LtE) cLe := by
  intro ua u B H da db d va vb e ra rb w
  unfold cLe at e
  split at e
  · cases e; cases ra.int; cases rb.int
    exact ⟨_, op_le, _, _, rfl, rfl, .here w rep_bl⟩
  · cases e
theorem ok_gt : BinOk G (compareOp .Gt) cGt := by
  intro ua u B H da db d va vb e ra rb w
  unfold cGt at e
  split at e
  · cases e; cases ra.int; cases rb.int
    exact ⟨_, op_gt, _, _, rfl, rfl, .here w rep_bl⟩
  · cases e
theorem ok_ge : BinOk G (compareOp .GtE) cGe := by
  intro ua u B H da db d va vb e ra rb w
  unfold cGe at e
  split at e
  · cases e; cases ra.int; cases rb.int
    exact ⟨_, op_ge, _, _, rfl, rfl, .here w rep_bl⟩
  · cases e
theorem rep_nn {ua : Option Addr} {B : Hp} {d : D} {v : V} (r : Rep G ua d v B) : v = .non ↔ d = .non := by
  cases d with
  | non => cases r.non; simp
  | bl b => cases r.bl; simp
  | int b => cases r.int; simp
  | str b => cases r.str; simp
  | lst b => obtain ⟨a, vs, rfl, _⟩ := r.lst; simp
  | tup b => obtain ⟨a, vs, rfl, _⟩ := r.tup; simp
  | pr b => obtain ⟨a, vs, rfl, _⟩ := r.pr; simp
  | ins c n x => unfold Rep at r; obtain ⟨a, C, dx, vs, rfl, _⟩ := r; simp
  | exc c n x => unfold Rep at r; obtain ⟨a, C, dx, vs, rfl, _⟩ := r; simp
  | fn x => unfold Rep at r; obtain ⟨a, _, rfl⟩ := r; simp
  | dct k x => unfold Rep at r; obtain ⟨a, vs, rfl, _⟩ := r; simp
  | dtt k x => unfold Rep at r; obtain ⟨a, vs, o, rfl, _⟩ := r; simp
  | dtn k x => unfold Rep at r; obtain ⟨a, vs, o, rfl, _⟩ := r; simp
  | urn => unfold Rep at r; obtain ⟨a, _, rfl⟩ := r; simp
theorem ok_is : BinOk G (compareOp .Is) cIs := by
  intro ua u B H da db d va vb e ra rb w
  unfold cIs at e
  split at e
  · cases e; cases ra.non; cases rb.non
    exact ⟨_, op_isN, rfl, .here w rep_bl⟩
  · rename_i hn
    cases e; cases rb.non
    refine ⟨_, op_isN, rfl, .here w ?_⟩
    rw [decide_eq_false (fun z => hn ((rep_nn ra).mp z))]
    exact rep_bl
  · cases e
def rInT (K : PySem.W.Frag) : R2 := fun x y H Q => ∃ d ds, Dp K H x d ∧ Dp K H y (.tuple ds) ∧ SeqAt.shaped d = true ∧ SeqAt.shaped (.tuple ds) = true ∧ Q (.bl (ds.any fun z => PyData.eqv z d)) H
def rNotInT (K : PySem.W.Frag) : R2 := fun x y H Q => ∃ d ds, Dp K H x d ∧ Dp K H y (.tuple ds) ∧ SeqAt.shaped d = true ∧ SeqAt.shaped (.tuple ds) = true ∧ Q (.bl (!ds.any fun z => PyData.eqv z d)) H
theorem op_inT (hu : X.A.units + 65 < cLine) : OpR X (compareOp .In) (rInT X.K) := by
  intro pins s σ H x y v u Q I rx ry h
  obtain ⟨d, ds, hd, he, sd, se, q⟩ := h
  obtain ⟨as, r1⟩ := Dp.reads I d x v hd rx
  obtain ⟨bs, r2⟩ := Dp.reads I (.tuple ds) y u he ry
  exact SeqAt.in_tuple_reads r2 r1 (SeqAt.canLay_of_shaped se) (SeqAt.canLay_of_shaped sd) (room_in_shaped sd hu) ⟨.bl _, H, I, rfl, q⟩
theorem op_notInT (hu : X.A.units + 65 < cLine) : OpR X (compareOp .NotIn) (rNotInT X.K) := by
  intro pins s σ H x y v u Q I rx ry h
  obtain ⟨d, ds, hd, he, sd, se, q⟩ := h
  obtain ⟨as, r1⟩ := Dp.reads I d x v hd rx
  obtain ⟨bs, r2⟩ := Dp.reads I (.tuple ds) y u he ry
  exact SeqAt.notIn_tuple_reads r2 r1 (SeqAt.canLay_of_shaped se) (SeqAt.canLay_of_shaped sd) (room_in_shaped sd hu) ⟨.bl _, H, I, rfl, q⟩
theorem rep_inD {ua : Option Addr} {u : U} {B H : Hp} {a b : D} {k : Bool} {va vb : V} (e : inD a b = some k) (ra : Rep G ua a va B) (rb : Rep G ua b vb B) (w : Wd ua u B H) :
    (∃ (c : Nat) (z : Str), va = .str ⟨#[c]⟩ ∧ vb = .str z ∧ k = decide (c ∈ z.cps.toList)) ∨
    (∃ d ds, Dp X.K H va d ∧ Dp X.K H vb (.list ds) ∧ SeqAt.shaped d = true ∧ SeqAt.shaped (.list ds) = true ∧ k = ds.any fun z => PyData.eqv z d) ∨
    (∃ d ds, Dp X.K H va d ∧ Dp X.K H vb (.tuple ds) ∧ SeqAt.shaped d = true ∧ SeqAt.shaped (.tuple ds) = true ∧ k = ds.any fun z => PyData.eqv z d) := by
  unfold inD at e
  split at e
  · split at e
    · split at e
      · rename_i c _ x hc
        cases e; cases ra.str; cases rb.str
        refine .inl ⟨x, _, ?_, rfl, rfl⟩
        obtain ⟨cp⟩ := c
        have : cp = #[x] := by
          have := congrArg List.toArray hc
          simpa using this
        rw [this]
      · cases e
    · cases e
  · split at e
    · rename_i ds _ _ x ys h1 h2
      split at e
      · rename_i h
        cases e
        refine .inr (.inl ⟨x, ys, rep_dp w.sub _ _ _ h1 ra, rep_dp w.sub (.lst ds) _ _ ?_ rb, h.1, h.2, rfl⟩)
        unfold toPy; rw [h2]; rfl
      · cases e
    · cases e
  · split at e
    · rename_i ds _ _ x ys h1 h2
      split at e
      · rename_i h
        cases e
        refine .inr (.inr ⟨x, ys, rep_dp w.sub _ _ _ h1 ra, rep_dp w.sub (.tup ds) _ _ ?_ rb, h.1, h.2, rfl⟩)
        unfold toPy; rw [h2]; rfl
      · cases e
    · cases e
  · cases e
theorem ok_in (hu : X.A.units + 65 < cLine) : BinOk G (compareOp .In) cIn := by
  intro ua u B H da db d va vb e ra rb w
  unfold cIn at e
  cases q : inD da db with
  | none => rw [q] at e; cases e
  | some k =>
    rw [q] at e; cases e
    rcases rep_inD q ra rb w with ⟨c, z, rfl, rfl, rfl⟩ | ⟨x, ys, h1, h2, h3, h4, rfl⟩ | ⟨x, ys, h1, h2, h3, h4, rfl⟩
    · exact ⟨_, op_in_sign, c, z, rfl, rfl, .here w rep_bl⟩
    · exact ⟨_, op_inD hu, x, ys, h1, h2, h3, h4, .here w rep_bl⟩
    · exact ⟨_, op_inT hu, x, ys, h1, h2, h3, h4, .here w rep_bl⟩
theorem ok_notin (hu : X.A.units + 65 < cLine) : BinOk G (compareOp .NotIn) cNotIn := by
  intro ua u B H da db d va vb e ra rb w
  unfold cNotIn at e
  cases q : inD da db with
  | none => rw [q] at e; cases e
  | some k =>
    rw [q] at e; cases e
    rcases rep_inD q ra rb w with ⟨c, z, rfl, rfl, rfl⟩ | ⟨x, ys, h1, h2, h3, h4, rfl⟩ | ⟨x, ys, h1, h2, h3, h4, rfl⟩
    · exact ⟨_, op_notIn_sign, c, z, rfl, rfl, .here w rep_bl⟩
    · exact ⟨_, op_notInD hu, x, ys, h1, h2, h3, h4, .here w rep_bl⟩
    · exact ⟨_, op_notInT hu, x, ys, h1, h2, h3, h4, .here w rep_bl⟩
end
def truD : D → Option Bool
  | .non => some false
  | .bl b => some b
  | .int i => some (i != 0)
  | .str x => if x.length ≤ sizeLine then some ((x.length : Int) != 0) else none
  | .lst ds => some (!ds.isEmpty)
  | .tup ds => some (!ds.isEmpty)
  | _ => none
theorem rep_tru {X : Cx} {G : Gx X.K} {ua : Option Addr} {u : U} {B H : Hp} {d : D} {k : Bool} {v : V} (e : truD d = some k) (r : Rep G ua d v B) (w : Wd ua u B H) : TruV X.K v H k := by
  cases d with
  | non => cases r.non; unfold truD at e; cases e; rfl
  | bl b => cases r.bl; unfold truD at e; cases e; rfl
  | int i => cases r.int; unfold truD at e; cases e; rfl
  | str x =>
    cases r.str
    simp only [truD] at e
    split at e
    · cases e; exact ⟨‹_›, rfl⟩
    · cases e
  | lst ds =>
    obtain ⟨a, vs, rfl, h, rs⟩ := r.lst
    unfold truD at e; cases e
    refine .inl ⟨vs, .of (w.sub _ _ h), ?_⟩
    have := rs.len
    cases ds <;> cases vs <;> simp_all
  | tup ds =>
    obtain ⟨a, vs, rfl, h, rs⟩ := r.tup
    unfold truD at e; cases e
    refine .inr (.inl ⟨vs, (h.mono w.sub).sq, ?_⟩)
    have := rs.len
    cases ds <;> cases vs <;> simp_all
  | pr ds => unfold truD at e; cases e
  | ins c n x => unfold truD at e; cases e
  | exc c n x => unfold truD at e; cases e
  | fn x => unfold truD at e; cases e
  | dct k x => unfold truD at e; cases e
  | dtt k x => unfold truD at e; cases e
  | dtn k x => unfold truD at e; cases e
  | urn => unfold truD at e; cases e
end Dv
namespace Dv
open PySem PySem.Spec PyProof.Rows L2
abbrev M := List Sl → U → Option (D × U)
abbrev Ms := List Sl → U → Option (List D × U)
abbrev MB := List Sl → U → Option (Bool × U)
def bnd {α β : Type} (m : Option (α × U)) (k : α → U → Option β) : Option β := match m with
  | none => none
  | some (a, u) => k a u
theorem bnd_some {α β : Type} {m : Option (α × U)} {k : α → U → Option β} {b : β} (h : bnd m k = some b) : ∃ a u, m = some (a, u) ∧ k a u = some b := by
  unfold bnd at h
  split at h
  · cases h
  · exact ⟨_, _, rfl, h⟩
def lft {α : Type} (o : Option α) (u : U) : Option (α × U) := match o with
  | none => none
  | some a => some (a, u)
theorem lft_some {α : Type} {o : Option α} {u u' : U} {a : α} (h : lft o u = some (a, u')) : o = some a ∧ u' = u := by
  unfold lft at h
  split at h
  · cases h
  · cases h; exact ⟨rfl, rfl⟩
theorem _root_.L2.PE.imp {X : Cx} {e : Expr} {t t' : TE} (h : PE X e t) (i : ∀ σ H Q, t' σ H Q → t σ H Q) : PE X e t' := ⟨fun pins s σ H Q I q => h.run pins s σ H Q I (i σ H Q q)⟩
theorem _root_.L2.PT.imp {X : Cx} {e : Expr} {t t' : TT} (h : PT X e t) (i : ∀ σ H Q, t' σ H Q → t σ H Q) : PT X e t' := ⟨fun pins s σ H Q I q => h.run pins s σ H Q I (i σ H Q q)⟩
theorem _root_.L2.PW.imp {X : Cx} {e : Expr} {t t' : TT} (h : PW X e t) (i : ∀ σ H Q, t' σ H Q → t σ H Q) : PW X e t' := ⟨fun wh pins s σ H Q I q => h.run wh pins s σ H Q I (i σ H Q q)⟩
theorem _root_.L2.PA.imp {X : Cx} {e : List Expr} {t t' : TA} (h : PA X e t) (i : ∀ σ H Q, t' σ H Q → t σ H Q) : PA X e t' := ⟨fun p pins s σ H Q I q => h.run p pins s σ H Q I (i σ H Q q)⟩
theorem _root_.L2.PI.imp {X : Cx} {g e : Expr} {t t' : TI} (h : PI X g e t) (i : ∀ σ H Q, t' σ H Q → t σ H Q) : PI X g e t' := ⟨fun pins s σ H Q I q => h.run pins s σ H Q I (i σ H Q q)⟩
theorem _root_.L2.PI.by {X : Cx} {g e : Expr} {t' : TI} (i : ∀ σ H Q, t' σ H Q → ∃ t, PI X g e t ∧ t σ H Q) : PI X g e t' := ⟨fun pins s σ H Q I q => by
  obtain ⟨t, h, q⟩ := i σ H Q q
  exact h.run pins s σ H Q I q⟩
section
variable {K : PySem.W.Frag} (G : Gx K)
def tEv (m : M) : TE := fun σ H Q => ∃ ua u B env d u', EnvOk G ua env σ B H ∧ Wd ua u B H ∧ m env u = some (d, u') ∧ ∀ v H', Aft G ua B H u' d v H' → Q v H'
def Afts (ua : Option Addr) (B H : Hp) (u' : U) (ds : List D) : List V → Hp → Prop := fun vs H' => ∃ B', Grow ua B H B' H' ∧ Wd ua u' B' H' ∧ Reps G ua ds vs B'
def tEvs (m : Ms) : TA := fun σ H Q => ∃ ua u B env ds u', EnvOk G ua env σ B H ∧ Wd ua u B H ∧ m env u = some (ds, u') ∧ ∀ vs H', Afts G ua B H u' ds vs H' → Q vs H'
def AftB (ua : Option Addr) (B H : Hp) (u' : U) (H' : Hp) : Prop := ∃ B', Grow ua B H B' H' ∧ Wd ua u' B' H'
def tTst (m : MB) : TT := fun σ H Q => ∃ ua u B env b u', EnvOk G ua env σ B H ∧ Wd ua u B H ∧ m env u = some (b, u') ∧ ∀ H', AftB ua B H u' H' → Q b H'
end
section
variable {X : Cx} {G : Gx X.K} {a b c e : Expr} {es : List Expr} {ma mb mc : M} {ms : Ms} {pos : Pos}
def mVar (i : Nat) : M := fun env u => match env[i]? with
  | some (.pub d) => some (d, u)
  | _ => none
def mC (d : D) : M := fun _ u => some (d, u)
theorem dv_var (i : Nat) {x : Str} {pos : Pos} (hN : X.N[i]? = some x := by rfl) (hv : Vis X.env.scope x := by first | exact Or.inl rfl | exact Or.inr (Or.inl rfl) | exact Or.inr (Or.inr rfl)) (hd : (x == ("__debug__" : Str)) = false := by decide)
    (hcd : (x == ("__classdict__" : Str)) = false := by decide) : PE X (.Name x pos) (tEv G (mVar i)) := by
  refine (pe_var hN hv hd hcd).imp fun σ H Q h => ?_
  obtain ⟨ua, u, B, env, d, u', hE, hW, hm, q⟩ := h
  unfold mVar at hm
  split at hm
  · rename_i h
    cases hm
    obtain ⟨v, h1, h2⟩ := hE.pub _ _ h
    exact ⟨v, h1, q v H (.here hW h2)⟩
  · cases hm
/-- a constant's value stands for its data in any heap -/
theorem dv_c {t : TE} {v : V} {d : D} (h : PE X e (tC v)) (r : ∀ ua B, Rep G ua d v B) : PE X e (tEv G (mC d)) := by
  refine h.imp fun σ H Q h => ?_
  obtain ⟨ua, u, B, env, d', u', hE, hW, hm, q⟩ := h
  cases hm
  exact q v H (.here hW (r ua B))
theorem dv_int {i j} : PE X (.Constant (.int i) j pos) (tEv G (mC (.int i))) := dv_c (t := tC .non) pe_int fun _ _ => rep_int
theorem dv_bl {i j} : PE X (.Constant (.bool i) j pos) (tEv G (mC (.bl i))) := dv_c (t := tC .non) pe_bl fun _ _ => rep_bl
theorem dv_str {i j} : PE X (.Constant (.str i) j pos) (tEv G (mC (.str i))) := dv_c (t := tC .non) pe_str fun _ _ => rep_str
theorem dv_non {j} : PE X (.Constant .none j pos) (tEv G (mC .non)) := dv_c (t := tC .non) pe_non fun _ _ => rep_non
theorem dv_globS {x : Str} {z : Str} {t : Tok} {pos : Pos} (hg : Gl X x) (hm : X.mg x = some (.str z t)) (hd : (x == ("__debug__" : Str)) = false := by decide) : PE X (.Name x pos) (tEv G (mC (.str z))) :=
  dv_c (t := tC .non) (pe_glob (v := .str z) hg hm ⟨_, rfl⟩ hd) fun _ _ => rep_str
def mNil : Ms := fun _ u => some ([], u)
def mCons (m : M) (r : Ms) : Ms := fun env u => bnd (m env u) fun d u1 => bnd (r env u1) fun ds u2 => some (d :: ds, u2)
theorem dvs_nil : PA X [] (tEvs G mNil) := by
  refine pa_nil.imp fun σ H Q h => ?_
  obtain ⟨ua, u, B, env, ds, u', hE, hW, hm, q⟩ := h
  cases hm
  exact q [] H ⟨B, .refl, hW, .nil⟩
theorem dvs_cons (ha : PE X e (tEv G ma)) (hr : PA X es (tEvs G ms)) (hs : starEach (e :: es) X.env = (false, eval e X.env) :: starEach es X.env := by rfl) : PA X (e :: es) (tEvs G (mCons ma ms)) := by
  refine (pa_cons ha hr hs).imp fun σ H Q h => ?_
  obtain ⟨ua, u, B, env, ds, u', hE, hW, hm, q⟩ := h
  obtain ⟨d, u1, h1, h2⟩ := bnd_some hm
  obtain ⟨ds', u2, h2, h3⟩ := bnd_some h2
  cases h3
  refine ⟨ua, u, B, env, d, u1, hE, hW, h1, fun v H1 ⟨B1, g1, w1, r1⟩ => ⟨ua, u1, B1, env, ds', _, hE.grow g1, w1, h2, fun vs H2 ⟨B2, g2, w2, r2⟩ => q _ _ ⟨B2, g1.trans g2, w2, .cons (r1.mono _ _ g2.pub) r2⟩⟩⟩
def mLst (m : Ms) : M := fun env u => bnd (m env u) fun ds u1 => if ds.length ≤ sizeLine then some (.lst ds, u1) else none
def mTup (m : Ms) : M := fun env u => bnd (m env u) fun ds u1 => if ds.length ≤ sizeLine then some (.tup ds, u1) else none
theorem dv_lst (h : PA X es (tEvs G ms)) : PE X (.List es pos) (tEv G (mLst ms)) := by
  refine (pe_lst h).imp fun σ H Q h => ?_
  obtain ⟨ua, u, B, env, d, u', hE, hW, hm, q⟩ := h
  obtain ⟨ds, u1, h1, h2⟩ := bnd_some hm
  split at h2
  · cases h2
    refine ⟨ua, u, B, env, ds, _, hE, hW, h1, fun vs H1 ⟨B1, g1, w1, r1⟩ => ⟨by rw [← r1.len]; assumption, fun p hp => q _ _ (.up g1 (.lst w1 hp r1))⟩⟩
  · cases h2
theorem dv_tup {k : Nat} (h : PA X es (tEvs G ms)) : PE X (.Tuple es k pos) (tEv G (mTup ms)) := by
  refine (pe_tupF h).imp fun σ H Q h => ?_
  obtain ⟨ua, u, B, env, d, u', hE, hW, hm, q⟩ := h
  obtain ⟨ds, u1, h1, h2⟩ := bnd_some hm
  split at h2
  · cases h2
    refine ⟨ua, u, B, env, ds, _, hE, hW, h1, fun vs H1 ⟨B1, g1, w1, r1⟩ => ⟨by rw [← r1.len]; assumption, fun p o hp ho => q _ _ (.up g1 (.tup w1 hp ho r1))⟩⟩
  · cases h2
def rBin (G : Gx X.K) (f : D → D → Option D) : R2 := fun x y H Q => ∃ ua u B da db d, f da db = some d ∧ Rep G ua da x B ∧ Rep G ua db y B ∧ Wd ua u B H ∧ ∀ v H', Aft G ua B H u d v H' → Q v H'
theorem op_of {F : Value → Value → Sem Value} {f : D → D → Option D} (hf : BinOk G F f) : OpR X F (rBin G f) := by
  intro pins s σ H x y v u Q I rx ry h
  obtain ⟨ua, u0, B, da, db, d, e, ra, rb, w, q⟩ := h
  obtain ⟨r, ho, hr⟩ := hf ua u0 B H da db d x y e ra rb w
  exact thn (ho pins s σ H x y v u _ I rx ry hr) fun v s ⟨z, H', I', r', a⟩ => ⟨z, H', I', r', q _ _ a⟩
def mBin (f : D → D → Option D) (a b : M) : M := fun env u => bnd (a env u) fun x u1 => bnd (b env u1) fun y u2 => lft (f x y) u2
theorem bin_read {f : D → D → Option D} {σ : L2.St} {H : Hp} {Q : VK} (h : tEv G (mBin f ma mb) σ H Q) : tOp (rBin G f) (tEv G ma) (tEv G mb) σ H Q := by
  obtain ⟨ua, u, B, env, d, u', hE, hW, hm, q⟩ := h
  obtain ⟨x, u1, h1, h2⟩ := bnd_some hm
  obtain ⟨y, u2, h2, h3⟩ := bnd_some h2
  obtain ⟨l3, rfl⟩ := lft_some h3
  exact ⟨ua, u, B, env, x, u1, hE, hW, h1, fun v H1 ⟨B1, g1, w1, r1⟩ => ⟨ua, u1, B1, env, y, u', hE.grow g1, w1, h2, fun v2 H2 ⟨B2, g2, w2, r2⟩ =>
    ⟨ua, u', B2, x, y, d, l3, r1.mono _ _ g2.pub, r2, w2, fun v3 H3 a => q v3 H3 (.up g1 (.up g2 a))⟩⟩⟩
theorem dv_bin {op : Operator} {f : D → D → Option D} (hf : BinOk G (binaryOp op) f) (ha : PE X a (tEv G ma)) (hb : PE X b (tEv G mb)) : PE X (.BinOp a op b pos) (tEv G (mBin f ma mb)) :=
  (pe_op (op_of hf) ha hb).imp fun _ _ _ h => bin_read h
theorem dv_cmp {op : CmpOp} {f : D → D → Option D} (hf : BinOk G (compareOp op) f) (ha : PE X a (tEv G ma)) (hb : PE X b (tEv G mb)) (hm : behindInMarks op b = false := by rfl) : PE X (.Compare a [op] [b] pos) (tEv G (mBin f ma mb)) :=
  (pe_cmpR (op_of hf) ha hb hm).imp fun _ _ _ h => bin_read h
def mNeg (a : M) : M := fun env u => bnd (a env u) fun x u1 => match x with
  | .int i => some (.int (-i), u1)
  | _ => none
/-- what gives a bool -/
def BoolF (f : D → D → Option D) : Prop := ∀ x y d, f x y = some d → ∃ k, d = .bl k
theorem bf_eq : BoolF cEq := fun x y d h => by unfold cEq at h; cases q : eqD x y with | none => rw [q] at h; cases h | some k => rw [q] at h; cases h; exact ⟨_, rfl⟩
theorem bf_ne : BoolF cNe := fun x y d h => by unfold cNe at h; cases q : eqD x y with | none => rw [q] at h; cases h | some k => rw [q] at h; cases h; exact ⟨_, rfl⟩
theorem bf_notin : BoolF cNotIn := fun x y d h => by unfold cNotIn at h; cases q : inD x y with | none => rw [q] at h; cases h | some k => rw [q] at h; cases h; exact ⟨_, rfl⟩
theorem bf_lt : BoolF cLt := fun x y d h => by unfold cLt at h; split at h <;> cases h <;> exact ⟨_, rfl⟩
theorem bf_le : BoolF cLe := fun x y d h => by unfold cLe at h; split at h <;> cases h <;> exact ⟨_, rfl⟩
theorem bf_gt : BoolF cGt := fun x y d h => by unfold cGt at h; split at h <;> cases h <;> exact ⟨_, rfl⟩
theorem bf_is : BoolF cIs := fun x y d h => by unfold cIs at h; split at h <;> cases h <;> exact ⟨_, rfl⟩
/-- a op b op' c -/
def mChain (f g : D → D → Option D) (a b c : M) : M := fun env u => bnd (a env u) fun x u1 => bnd (b env u1) fun y u2 => match f x y with
  | some (.bl true) => bnd (c env u2) fun z u3 => lft (g y z) u3
  | some (.bl false) => some (.bl false, u2)
  | _ => none
def mTru (a : M) : MB := fun env u => bnd (a env u) fun x u1 => lft (truD x) u1
theorem dt_val (ha : PE X a (tEv G ma)) (he : ∀ whole, isTrue a X.env whole = (do let v ← whole; standAt a.pos; holding [v] (truthy v)) := by intro _; rfl) : PT X a (tTst G (mTru ma)) := by
  refine (pt_truth ha he).imp fun σ H Q h => ?_
  obtain ⟨ua, u, B, env, d, u', hE, hW, hm, q⟩ := h
  obtain ⟨x, u1, h1, h2⟩ := bnd_some hm
  obtain ⟨l2, rfl⟩ := lft_some h2
  exact ⟨ua, u, B, env, x, u', hE, hW, h1, fun v H1 ⟨B1, g1, w1, r1⟩ => ⟨d, rep_tru l2 r1 w1, q _ ⟨B1, g1, w1⟩⟩⟩
theorem dt_cmp {op : CmpOp} {f : D → D → Option D} (hf : BinOk G (compareOp op) f) (bf : BoolF f) (ha : PE X a (tEv G ma)) (hb : PE X b (tEv G mb)) (hm : behindInMarks op b = false := by rfl) : PT X (.Compare a [op] [b] pos) (tTst G (mTru (mBin f ma mb))) := by
  refine (pt_cmpR (op_of hf) ha hb hm).imp fun σ H Q h => ?_
  obtain ⟨ua, u, B, env, d, u', hE, hW, hm, q⟩ := h
  obtain ⟨x, u1, h1, h2⟩ := bnd_some hm
  obtain ⟨l2, rfl⟩ := lft_some h2
  obtain ⟨k, rfl⟩ : ∃ k, x = .bl k := by
    obtain ⟨x1, u3, h3, h4⟩ := bnd_some h1
    obtain ⟨x2, u4, h4, h5⟩ := bnd_some h4
    exact bf _ _ _ (lft_some h5).1
  unfold truD at l2; cases l2
  refine bin_read ⟨ua, u, B, env, _, u', hE, hW, h1, fun v H1 ⟨B1, g1, w1, r1⟩ => ?_⟩
  cases r1.bl
  exact ⟨_, rfl, q _ ⟨B1, g1, w1⟩⟩
theorem dt_chain {op op' : CmpOp} {f g : D → D → Option D} (hf : BinOk G (compareOp op) f) (hg : BinOk G (compareOp op') g) (bg : BoolF g) (ha : PE X a (tEv G ma)) (hb : PE X b (tEv G mb)) (hc : PE X c (tEv G mc))
    (hm : lastMarks [op, op'] [b, c] = false := by with_unfolding_all rfl) : PT X (.Compare a [op, op'] [b, c] pos) (tTst G (mTru (mChain f g ma mb mc))) := by
  refine (pt_chain (op_of hf) (op_of hg) ha hb hc hm).imp fun σ H Q h => ?_
  obtain ⟨ua, u, B, env, d, u', hE, hW, hm, q⟩ := h
  obtain ⟨x0, u0, h1, h2⟩ := bnd_some hm
  obtain ⟨h0, rfl⟩ := lft_some h2
  obtain ⟨x, u1, h1, h2⟩ := bnd_some h1
  obtain ⟨y, u2, h2, h3⟩ := bnd_some h2
  refine ⟨ua, u, B, env, x, u1, hE, hW, h1, fun v H1 ⟨B1, g1, w1, r1⟩ => ⟨ua, u1, B1, env, y, u2, hE.grow g1, w1, h2, fun v2 H2 ⟨B2, g2, w2, r2⟩ => ?_⟩⟩
  split at h3
  · rename_i hk
    obtain ⟨z, u3, h4, h5⟩ := bnd_some h3
    obtain ⟨l5, rfl⟩ := lft_some h5
    refine ⟨ua, u2, B2, x, y, _, hk, r1.mono _ _ g2.pub, r2, w2, fun v3 H3 a3 => ?_⟩
    obtain ⟨B3, g3, w3, r3⟩ := a3
    cases r3.bl
    refine ⟨true, rfl, ?_⟩
    rw [if_pos rfl]
    refine ⟨ua, u2, B3, env, z, u', (hE.grow (g1.trans g2)).grow g3, w3, h4, fun v4 H4 ⟨B4, g4, w4, r4⟩ => ?_⟩
    refine ⟨ua, u', B4, y, z, x0, l5, (r2.mono _ _ g3.pub).mono _ _ g4.pub, r4, w4, fun v5 H5 a5 => ?_⟩
    obtain ⟨k, rfl⟩ := bg _ _ _ l5
    unfold truD at h0; cases h0
    obtain ⟨B5, g5, w5, r5⟩ := a5
    cases r5.bl
    exact ⟨_, rfl, q _ ⟨B5, g1.trans (g2.trans (g3.trans (g4.trans g5))), w5⟩⟩
  · rename_i hk
    cases h3
    unfold truD at h0; cases h0
    refine ⟨ua, _, B2, x, y, _, hk, r1.mono _ _ g2.pub, r2, w2, fun v3 H3 a3 => ?_⟩
    obtain ⟨B3, g3, w3, r3⟩ := a3
    cases r3.bl
    refine ⟨false, rfl, ?_⟩
    rw [if_neg Bool.false_ne_true]
    exact ⟨false, rfl, q _ ⟨B3, g1.trans (g2.trans g3), w3⟩⟩
  · cases h3
variable {na nb : MB} {rest : List Expr}
def mNotB (a : MB) : MB := fun env u => bnd (a env u) fun k u1 => some (!k, u1)
def mAndB (a b : MB) : MB := fun env u => bnd (a env u) fun k u1 => if k = true then b env u1 else some (false, u1)
def mOrB (a b : MB) : MB := fun env u => bnd (a env u) fun k u1 => if k = true then some (true, u1) else b env u1
theorem dt_not (ha : PT X a (tTst G na)) : PT X (.UnaryOp .Not a pos) (tTst G (mNotB na)) := by
  refine (pt_not ha).imp fun σ H Q h => ?_
  obtain ⟨ua, u, B, env, d, u', hE, hW, hm, q⟩ := h
  obtain ⟨k, u1, h1, h2⟩ := bnd_some hm
  cases h2
  exact ⟨ua, u, B, env, k, _, hE, hW, h1, fun H1 g => q _ g⟩
theorem dw_and1 (ha : PT X a (tTst G na)) : PW X (.BoolOp .And [a] pos) (tTst G na) := pw_and1 ha
theorem dw_or1 (ha : PT X a (tTst G na)) : PW X (.BoolOp .Or [a] pos) (tTst G na) := pw_or1 ha
theorem dw_and (ha : PT X a (tTst G na)) (hb : PW X (.BoolOp .And (b :: rest) pos) (tTst G nb)) : PW X (.BoolOp .And (a :: b :: rest) pos) (tTst G (mAndB na nb)) := by
  refine (pw_and ha hb).imp fun σ H Q h => ?_
  obtain ⟨ua, u, B, env, d, u', hE, hW, hm, q⟩ := h
  obtain ⟨k, u1, h1, h2⟩ := bnd_some hm
  refine ⟨ua, u, B, env, k, _, hE, hW, h1, fun H1 ⟨B1, g1, w1⟩ => ?_⟩
  cases k with
  | true => rw [if_pos rfl] at h2 ⊢; exact ⟨ua, u1, B1, env, d, u', hE.grow g1, w1, h2, fun H2 ⟨B2, g2, w2⟩ => q _ ⟨B2, g1.trans g2, w2⟩⟩
  | false => rw [if_neg Bool.false_ne_true] at h2 ⊢; cases h2; exact q _ ⟨B1, g1, w1⟩
theorem dw_or (ha : PT X a (tTst G na)) (hb : PW X (.BoolOp .Or (b :: rest) pos) (tTst G nb)) : PW X (.BoolOp .Or (a :: b :: rest) pos) (tTst G (mOrB na nb)) := by
  refine (pw_or ha hb).imp fun σ H Q h => ?_
  obtain ⟨ua, u, B, env, d, u', hE, hW, hm, q⟩ := h
  obtain ⟨k, u1, h1, h2⟩ := bnd_some hm
  refine ⟨ua, u, B, env, k, _, hE, hW, h1, fun H1 ⟨B1, g1, w1⟩ => ?_⟩
  cases k with
  | false => rw [if_neg Bool.false_ne_true] at h2 ⊢; exact ⟨ua, u1, B1, env, d, u', hE.grow g1, w1, h2, fun H2 ⟨B2, g2, w2⟩ => q _ ⟨B2, g1.trans g2, w2⟩⟩
  | true => rw [if_pos rfl] at h2 ⊢; cases h2; exact q _ ⟨B1, g1, w1⟩
def mNot (a : M) : M := fun env u => bnd (a env u) fun x u1 => bnd (lft (truD x) u1) fun k u2 => some (.bl (!k), u2)
def mAnd (a b : M) : M := fun env u => bnd (a env u) fun x u1 => bnd (lft (truD x) u1) fun k u2 => if k = true then b env u2 else some (x, u2)
def mOr (a b : M) : M := fun env u => bnd (a env u) fun x u1 => bnd (lft (truD x) u1) fun k u2 => if k = true then some (x, u2) else b env u2
theorem dv_not (ha : PE X a (tEv G ma)) : PE X (.UnaryOp .Not a pos) (tEv G (mNot ma)) := by
  refine (pe_notT ha).imp fun σ H Q h => ?_
  obtain ⟨ua, u, B, env, d, u', hE, hW, hm, q⟩ := h
  obtain ⟨x, u1, h1, h2⟩ := bnd_some hm
  obtain ⟨k, u2, h2, h3⟩ := bnd_some h2
  obtain ⟨l2, rfl⟩ := lft_some h2
  cases h3
  exact ⟨ua, u, B, env, x, _, hE, hW, h1, fun v H1 ⟨B1, g1, w1, r1⟩ => ⟨k, rep_tru l2 r1 w1, q _ _ ⟨B1, g1, w1, rep_bl⟩⟩⟩
theorem dv_one (op : PySem.BoolOp) (ha : PE X a (tEv G ma)) : PE X (.BoolOp op [a] pos) (tEv G ma) := pe_one ha
theorem dv_and (ha : PE X a (tEv G ma)) (hb : PE X (.BoolOp .And (b :: rest) pos) (tEv G mb)) : PE X (.BoolOp .And (a :: b :: rest) pos) (tEv G (mAnd ma mb)) := by
  refine (pe_andT ha hb).imp fun σ H Q h => ?_
  obtain ⟨ua, u, B, env, d, u', hE, hW, hm, q⟩ := h
  obtain ⟨x, u1, h1, h2⟩ := bnd_some hm
  obtain ⟨k, u2, h2, h3⟩ := bnd_some h2
  obtain ⟨l2, rfl⟩ := lft_some h2
  refine ⟨ua, u, B, env, x, _, hE, hW, h1, fun v H1 ⟨B1, g1, w1, r1⟩ => ⟨k, rep_tru l2 r1 w1, ?_⟩⟩
  cases k with
  | true => rw [if_pos rfl] at h3 ⊢; exact ⟨ua, _, B1, env, d, u', hE.grow g1, w1, h3, fun v2 H2 a2 => q _ _ (.up g1 a2)⟩
  | false => rw [if_neg Bool.false_ne_true] at h3 ⊢; cases h3; exact q _ _ ⟨B1, g1, w1, r1⟩
def mIte (c : MB) (a b : M) : M := fun env u => bnd (c env u) fun k u1 => if k = true then a env u1 else b env u1
theorem dv_ite (hc : PT X c (tTst G na)) (ha : PE X a (tEv G ma)) (hb : PE X b (tEv G mb)) : PE X (.IfExp c a b pos) (tEv G (mIte na ma mb)) := by
  refine (pe_ifExp hc ha hb).imp fun σ H Q h => ?_
  obtain ⟨ua, u, B, env, d, u', hE, hW, hm, q⟩ := h
  obtain ⟨k, u1, h1, h2⟩ := bnd_some hm
  refine ⟨ua, u, B, env, k, _, hE, hW, h1, fun H1 ⟨B1, g1, w1⟩ => ?_⟩
  cases k with
  | true => rw [if_pos rfl] at h2 ⊢; exact ⟨ua, u1, B1, env, d, u', hE.grow g1, w1, h2, fun v2 H2 a2 => q _ _ (.up g1 a2)⟩
  | false => rw [if_neg Bool.false_ne_true] at h2 ⊢; exact ⟨ua, u1, B1, env, d, u', hE.grow g1, w1, h2, fun v2 H2 a2 => q _ _ (.up g1 a2)⟩
end
end Dv
namespace Dv
open PySem PySem.Spec PyProof.Rows L2
def spF {K : PySem.W.Frag} (G : Gx K) (F : List D → U → Option (D × U)) (n : Nat) : Sp := fun vs H Q _ => ∃ ua u B ds d u', Reps G ua ds vs B ∧ ds.length = n ∧ Wd ua u B H ∧ F ds u = some (d, u') ∧ ∀ v H', Aft G ua B H u' d v H' → Q v H'
/-- the def x of the module, called by place, does F -/
def DefOk (P : Program) (w : World) {K : PySem.W.Frag} (mg : Str → Option Value) (base : Heap) (G : Gx K) (x : Str) (k n : Nat) (F : List D → U → Option (D × U)) : Prop :=
  ∃ f fd ps, FnOk P w K mg base CX0 k f fd ps (spF G F n) ∧ mg x = some (.ref f) ∧ PySem.W.keepIn K (.ref f) = true ∧ Binds K fd ps []
theorem DefOk.mono {P : Program} {w : World} {K : PySem.W.Frag} {mg : Str → Option Value} {base : Heap} {G : Gx K} {x : Str} {j k n : Nat} {F : List D → U → Option (D × U)} (h : DefOk P w mg base G x j n F) (l : j ≤ k) : DefOk P w mg base G x k n F := by
  obtain ⟨f, fd, ps, h1, h2⟩ := h
  exact ⟨f, fd, ps, h1.mono l, h2⟩
def mCall (n : Nat) (F : List D → U → Option (D × U)) (m : Ms) : M := fun env u => bnd (m env u) fun ds u1 => if ds.length = n then F ds u1 else none
section
variable {X : Cx} {G : Gx X.K} {a b c e : Expr} {es : List Expr} {ma mb mc : M} {ms : Ms} {pos p : Pos}
theorem dv_call {x : Str} {k n : Nat} {F : List D → U → Option (D × U)} (D0 : DefOk X.prog X.w X.mg X.base G x k n F) (hr : Room k X.A) (hg : Gl X x) (ha : PA X (e :: es) (tEvs G ms))
    (hdb : (x == ("__debug__" : Str)) = false := by decide) (he : starEach (e :: es) X.env = (false, eval e X.env) :: starEach es X.env := by rfl) (hpl : (backTo pos (starEach es X.env)).any (·.1) = false := by rfl) :
    PE X (.Call (.Name x p) (e :: es) [] pos) (tEv G (mCall n F ms)) := by
  obtain ⟨f, fd, ps, hf, hm, hk, hb⟩ := D0
  refine (pe_call hf hr hg hm hk hb .nil pass0 ha hdb he hpl).imp fun σ H Q h => ?_
  obtain ⟨ua, u, B, env, d, u', hE, hW, hm, q⟩ := h
  obtain ⟨ds, u1, h1, h2⟩ := bnd_some hm
  split at h2
  · refine ⟨ua, u, B, env, ds, u1, hE, hW, h1, fun vs H1 ⟨B1, g1, w1, r1⟩ => ?_⟩
    show spF G F n (vs ++ []) H1 Q E0
    rw [List.append_nil]
    exact ⟨ua, u1, B1, ds, d, u', r1, ‹_›, w1, h2, fun v H2 a => q _ _ (.up g1 a)⟩
  · cases h2
theorem dv_call0 {x : Str} {k : Nat} {F : List D → U → Option (D × U)} (D0 : DefOk X.prog X.w X.mg X.base G x k 0 F) (hr : Room k X.A) (hg : Gl X x)
    (hdb : (x == ("__debug__" : Str)) = false := by decide) : PE X (.Call (.Name x p) [] [] pos) (tEv G (mCall 0 F mNil)) := by
  obtain ⟨f, fd, ps, hf, hm, hk, hb⟩ := D0
  refine (pe_call0 hf hr hg hm hk hb .nil pass0 hdb).imp fun σ H Q h => ?_
  obtain ⟨ua, u, B, env, d, u', hE, hW, hm, q⟩ := h
  obtain ⟨ds, u1, h1, h2⟩ := bnd_some hm
  cases h1
  have h2 : F [] u = some (d, u') := h2
  exact ⟨ua, u, B, [], d, u', .nil, rfl, hW, h2, fun v H2 a => q _ _ a⟩
def BiOk {X : Cx} (G : Gx X.K) (f : Value) (sem : List D → Option D) : Prop := ∀ (ua : Option Addr) (u : U) (B H : Hp) (ds : List D) (d : D) (vs : List V), sem ds = some d → Reps G ua ds vs B → Wd ua u B H →
  ∃ r, CallR X f r ∧ r vs H (Aft G ua B H u d)
def rBi (G : Gx X.K) (sem : List D → Option D) : List V → Hp → VK → Prop := fun vs H Q => ∃ ua u B ds d, sem ds = some d ∧ Reps G ua ds vs B ∧ Wd ua u B H ∧ ∀ v H', Aft G ua B H u d v H' → Q v H'
theorem call_of {f : Value} {sem : List D → Option D} (hf : BiOk G f sem) : CallR X f (rBi G sem) := by
  intro pins s σ H xs us Q I r h
  obtain ⟨ua, u0, B, ds, d, e, rs, w, q⟩ := h
  obtain ⟨r', hr, hc⟩ := hf ua u0 B H ds d xs e rs w
  exact thn (hr pins s σ H xs us _ I r hc) fun v s ⟨z, H', I', r', a⟩ => ⟨z, H', I', r', q _ _ a⟩
def mBi (sem : List D → Option D) (m : Ms) : M := fun env u => bnd (m env u) fun ds u1 => lft (sem ds) u1
theorem bi_read {sem : List D → Option D} {σ : L2.St} {H : Hp} {Q : VK} (h : tEv G (mBi sem ms) σ H Q) : tCB (rBi G sem) (tEvs G ms) σ H Q := by
  obtain ⟨ua, u, B, env, d, u', hE, hW, hm, q⟩ := h
  obtain ⟨ds, u1, h1, h2⟩ := bnd_some hm
  obtain ⟨l2, rfl⟩ := lft_some h2
  exact ⟨ua, u, B, env, ds, u', hE, hW, h1, fun vs H1 ⟨B1, g1, w1, r1⟩ => ⟨ua, u', B1, ds, d, l2, r1, w1, fun v H2 a => q _ _ (.up g1 a)⟩⟩
theorem dv_bi {x : Str} {id : String} {sem : List D → Option D} (hc : BiOk G (.builtin id) sem) (hg : Gl X x) (hm : X.mg x = none) (hv : bootBuiltins x = some (.builtin id)) (ha : PA X (e :: es) (tEvs G ms)) (hn : x ≠ "__name__" := by decide) (hdb : (x == ("__debug__" : Str)) = false := by decide)
    (he : starEach (e :: es) X.env = (false, eval e X.env) :: starEach es X.env := by rfl) (hpl : (backTo pos (starEach es X.env)).any (·.1) = false := by rfl) : PE X (.Call (.Name x p) (e :: es) [] pos) (tEv G (mBi sem ms)) :=
  (pe_callB (call_of hc) hg hm hv ha hn hdb he hpl).imp fun _ _ _ h => bi_read h
theorem dv_ty {x : Str} {T : String} {sem : List D → Option D} (hc : BiOk G (.type T) sem) (hg : Gl X x) (hm : X.mg x = none) (hv : bootBuiltins x = some (.type T)) (ha : PA X (e :: es) (tEvs G ms)) (hn : x ≠ "__name__" := by decide) (hdb : (x == ("__debug__" : Str)) = false := by decide)
    (he : starEach (e :: es) X.env = (false, eval e X.env) :: starEach es X.env := by rfl) (hpl : (backTo pos (starEach es X.env)).any (·.1) = false := by rfl) : PE X (.Call (.Name x p) (e :: es) [] pos) (tEv G (mBi sem ms)) :=
  (pe_callTy (call_of hc) hg hm hv ha hn hdb he hpl).imp fun _ _ _ h => bi_read h
def bLen : List D → Option D
  | [.lst ds] => some (.int ds.length)
  | [.tup ds] => some (.int ds.length)
  | [.str x] => if x.length ≤ sizeLine then some (.int x.length) else none
  | _ => none
def bAbs : List D → Option D
  | [.int i] => some (.int (if i < 0 then -i else i))
  | _ => none
def bInt : List D → Option D
  | [.int i] => some (.int i)
  | [.bl k] => some (.int (if k then 1 else 0))
  | _ => none
def blsOf : List D → Option (List Bool)
  | [] => some []
  | .bl b :: r => (blsOf r).map fun bs => b :: bs
  | _ :: _ => none
theorem blsOf_eq : ∀ {ds : List D} {bs : List Bool}, blsOf ds = some bs → ds = bs.map .bl
  | [], bs, h => by unfold blsOf at h; cases h; rfl
  | d :: ds, bs, h => by
    cases d with
    | bl b =>
      unfold blsOf at h
      cases q : blsOf ds with
      | none => rw [q] at h; cases h
      | some r => rw [q] at h; cases h; rw [blsOf_eq q]; rfl
    | _ => unfold blsOf at h; cases h
def bAll : List D → Option D
  | [.lst ds] => (blsOf ds).map fun bs => .bl (bs.all id)
  | _ => none
theorem ok_len : BiOk G (.builtin "len") bLen := by
  intro ua u B H ds d vs e rs w
  unfold bLen at e
  split at e
  · cases e
    obtain ⟨v, t, rfl, r1, r2⟩ := rs.of_cons
    rw [r2.of_nil]
    obtain ⟨a, ys, rfl, h, r3⟩ := r1.lst
    exact ⟨_, call_len_seq, a, ys, rfl, .inl (.of (w.sub _ _ h)), .here w (by rw [← r3.len]; exact rep_int)⟩
  · cases e
    obtain ⟨v, t, rfl, r1, r2⟩ := rs.of_cons
    rw [r2.of_nil]
    obtain ⟨a, ys, rfl, h, r3⟩ := r1.tup
    exact ⟨_, call_len_seq, a, ys, rfl, .inr (h.mono w.sub).sq, .here w (by rw [← r3.len]; exact rep_int)⟩
  · split at e
    · cases e
      obtain ⟨v, t, rfl, r1, r2⟩ := rs.of_cons
      rw [r2.of_nil]
      cases r1.str
      exact ⟨_, call_len_str, _, rfl, ‹_›, .here w rep_int⟩
    · cases e
  · cases e
theorem ok_abs : BiOk G (.builtin "abs") bAbs := by
  intro ua u B H ds d vs e rs w
  unfold bAbs at e
  split at e
  · cases e
    obtain ⟨v, t, rfl, r1, r2⟩ := rs.of_cons
    rw [r2.of_nil]
    cases r1.int
    exact ⟨_, call_abs, _, rfl, .here w rep_int⟩
  · cases e
theorem ok_int : BiOk G (.type "int") bInt := by
  intro ua u B H ds d vs e rs w
  unfold bInt at e
  split at e
  · cases e
    obtain ⟨v, t, rfl, r1, r2⟩ := rs.of_cons
    rw [r2.of_nil]
    cases r1.int
    exact ⟨_, call_int1, .inl ⟨_, rfl, .here w rep_int⟩⟩
  · cases e
    obtain ⟨v, t, rfl, r1, r2⟩ := rs.of_cons
    rw [r2.of_nil]
    cases r1.bl
    exact ⟨_, call_int1, .inr ⟨_, rfl, .here w rep_int⟩⟩
  · cases e
theorem ok_all (hc : X.calm = true) : BiOk G (.builtin "all") bAll := by
  intro ua u B H ds d vs e rs w
  unfold bAll at e
  split at e
  · rename_i ds
    cases q : blsOf ds with
    | none => rw [q] at e; cases e
    | some bs =>
      rw [q] at e; cases e
      obtain ⟨v, t, rfl, r1, r2⟩ := rs.of_cons
      rw [r2.of_nil]
      obtain ⟨a, ys, rfl, h, r3⟩ := r1.lst
      rw [blsOf_eq q] at r3
      rw [r3.bls_of] at h
      exact ⟨_, cr_all hc, a, bs, rfl, .of (w.sub _ _ h), .here w rep_bl⟩
  · cases e
def tyN : D → Option String
  | .non => some "NoneType"
  | .bl _ => some "bool"
  | .int _ => some "int"
  | .str _ => some "str"
  | .lst _ => some "list"
  | .tup _ => some "tuple"
  | _ => none
def kitAnyB (t : String) : List String → Option Bool
  | [] => some false
  | n :: r => match kitB t n with
    | some true => some true
    | some false => kitAnyB t r
    | none => none
def plainTys : List String := ["str", "int", "bool", "list", "tuple"]
def isiD (d : D) (ts : List String) : Option Bool := match d with
  | .ins _ _ _ => if ts.all (plainTys.contains ·) then some false else none
  | d => (tyN d).bind fun t => kitAnyB t ts
theorem kitAny_of {K : PySem.W.Frag} {t : String} : ∀ {ts : List String} {b : Bool}, kitAnyB t ts = some b → PySem.W.kitAny K (.type t) (ts.map Value.type) = some b
  | [], b, h => by unfold kitAnyB at h; cases h; rfl
  | n :: r, b, h => by
    unfold kitAnyB at h
    show PySem.W.kitAny K (.type t) (.type n :: r.map Value.type) = some b
    split at h
    · rename_i q; cases h; exact kitAny_cons (kit_ty q) (fun z => nomatch z) (fun _ => rfl)
    · rename_i q; exact kitAny_cons (kit_ty q) (fun _ => kitAny_of h) (fun z => nomatch z)
    · cases h
theorem InsOk.one {K : PySem.W.Frag} {C : Addr} (h : InsOk K C) {n : String} (hn : plainTys.contains n = true) : PySem.W.kitOne K (.ref C) (.type n) = some false := by
  simp only [plainTys, List.contains_cons, List.contains_nil, Bool.or_eq_true, beq_iff_eq, Bool.or_false] at hn
  rcases hn with rfl | rfl | rfl | rfl | rfl
  · exact h.kStr
  · exact h.kInt
  · exact h.kBool
  · exact h.kList
  · exact h.kTup
theorem InsOk.any {K : PySem.W.Frag} {C : Addr} (h : InsOk K C) : ∀ {ts : List String}, ts.all (plainTys.contains ·) = true → PySem.W.kitAny K (.ref C) (ts.map Value.type) = some false
  | [], _ => rfl
  | n :: r, hn => by
    simp only [List.all_cons, Bool.and_eq_true] at hn
    exact kitAny_cons (h.one hn.1) (fun _ => InsOk.any h hn.2) (fun z => nomatch z)
theorem rep_isi {ua : Option Addr} {u : U} {B H : Hp} {d : D} {v : V} {ts : List String} {k : Bool} (e : isiD d ts = some k) (r : Rep G ua d v B) (w : Wd ua u B H) : ∃ t, TyX X.K H v t ∧ PySem.W.kitAny X.K t (ts.map Value.type) = some k := by
  unfold isiD at e
  cases d with
  | non => cases r.non; exact ⟨_, .base .non, kitAny_of e⟩
  | bl b => cases r.bl; exact ⟨_, .base (.bl b), kitAny_of e⟩
  | int b => cases r.int; exact ⟨_, .base (.int b), kitAny_of e⟩
  | str b => cases r.str; exact ⟨_, .base (.str b), kitAny_of e⟩
  | lst b => obtain ⟨a, vs, rfl, h, _⟩ := r.lst; exact ⟨_, .base (.lst (w.sub _ _ h)), kitAny_of e⟩
  | tup b => obtain ⟨a, vs, rfl, ⟨o, _, h⟩, _⟩ := r.tup; exact ⟨_, .fTuple (w.sub _ _ h), kitAny_of e⟩
  | pr b => exact absurd e (by simp [tyN])
  | ins c ns xs =>
    unfold Rep at r
    obtain ⟨a, C, dx, vs, rfl, hc, h, _⟩ := r
    have i := G.ok c C hc
    dsimp only at e
    split at e
    · cases e; exact ⟨_, .base (.ins (w.sub _ _ h) i.cl i.ha i.hn i.htk i.hm), i.any ‹_›⟩
    · cases e
  | exc c ns xs => exact absurd e (by simp [tyN])
  | fn x => exact absurd e (by simp [tyN])
  | dct k x => exact absurd e (by simp [tyN])
  | dtt k x => exact absurd e (by simp [tyN])
  | dtn k x => exact absurd e (by simp [tyN])
  | urn => exact absurd e (by simp [tyN])
def mIsi (ts : List String) (a : M) : M := fun env u => bnd (a env u) fun x u1 => lft ((isiD x ts).map .bl) u1
theorem map_some {α β : Type} {o : Option α} {f : α → β} {b : β} (h : o.map f = some b) : ∃ a, o = some a ∧ f a = b := by
  cases o with
  | none => cases h
  | some a => exact ⟨a, rfl, Option.some.inj h⟩
/-- isinstance(e, T) -/
theorem dv_isi {T : Str} {n : String} {pT : Pos} (hg : Gl X "isinstance") (hm : X.mg "isinstance" = none) (ha : PE X a (tEv G ma)) (hgT : Gl X T) (hmT : X.mg T = none) (hvT : bootBuiltins T = some (.type n)) (hnT : T ≠ "__name__" := by decide) (hdT : (T == ("__debug__" : Str)) = false := by decide)
    (hs : starEach (a :: [.Name T pT]) X.env = (false, eval a X.env) :: starEach [.Name T pT] X.env := by rfl) : PE X (.Call (.Name "isinstance" p) [a, .Name T pT] [] pos) (tEv G (mIsi [n] ma)) := by
  refine (pe_callB call_isi hg hm (by decide +kernel) (pa_cons ha (pa_cons (pe_bltn (v := .ty n) hgT hmT hvT rfl hnT hdT) pa_nil) hs) (he := hs)).imp fun σ H Q h => ?_
  obtain ⟨ua, u, B, env, d, u', hE, hW, hm, q⟩ := h
  obtain ⟨x, u1, h1, h2⟩ := bnd_some hm
  obtain ⟨l2, rfl⟩ := lft_some h2
  obtain ⟨k, e, rfl⟩ := map_some l2
  refine ⟨ua, u, B, env, x, u', hE, hW, h1, fun v H1 ⟨B1, g1, w1, r1⟩ => ?_⟩
  obtain ⟨t, ty, kk⟩ := rep_isi e r1 w1
  refine ⟨v, .ty n, t, .type n, k, rfl, .ty n, ty, ?_, q _ _ ⟨B1, g1, w1, rep_bl⟩⟩
  have kk : PySem.W.kitAny X.K t [Value.type n] = some k := kk
  unfold PySem.W.kitAny at kk
  split at kk
  · rename_i z; cases kk; exact z
  · rename_i z; cases kk; exact z
  · cases kk
theorem dv_isi2 {T T2 : Str} {n n2 : String} {pT pT2 pt : Pos} {kt : Nat} (hg : Gl X "isinstance") (hm : X.mg "isinstance" = none) (ha : PE X a (tEv G ma)) (hgT : Gl X T) (hmT : X.mg T = none) (hvT : bootBuiltins T = some (.type n)) (hgT2 : Gl X T2) (hmT2 : X.mg T2 = none) (hvT2 : bootBuiltins T2 = some (.type n2))
    (hnT : T ≠ "__name__" := by decide) (hdT : (T == ("__debug__" : Str)) = false := by decide) (hnT2 : T2 ≠ "__name__" := by decide) (hdT2 : (T2 == ("__debug__" : Str)) = false := by decide)
    (hs : starEach (a :: [.Tuple [.Name T pT, .Name T2 pT2] kt pt]) X.env = (false, eval a X.env) :: starEach [.Tuple [.Name T pT, .Name T2 pT2] kt pt] X.env := by rfl) :
    PE X (.Call (.Name "isinstance" p) [a, .Tuple [.Name T pT, .Name T2 pT2] kt pt] [] pos) (tEv G (mIsi [n, n2] ma)) := by
  refine (pe_callB call_isiT hg hm (by decide +kernel) (pa_cons ha (pa_cons (pe_tup (pa_cons (pe_bltn (v := .ty n) hgT hmT hvT rfl hnT hdT) (pa_cons (pe_bltn (v := .ty n2) hgT2 hmT2 hvT2 rfl hnT2 hdT2) pa_nil))) pa_nil) hs) (he := hs)).imp fun σ H Q h => ?_
  obtain ⟨ua, u, B, env, d, u', hE, hW, hm, q⟩ := h
  obtain ⟨x, u1, h1, h2⟩ := bnd_some hm
  obtain ⟨l2, rfl⟩ := lft_some h2
  obtain ⟨k, e, rfl⟩ := map_some l2
  refine ⟨ua, u, B, env, x, u', hE, hW, h1, fun v H1 ⟨B1, g1, w1, r1⟩ => ?_⟩
  refine ⟨by show 2 ≤ sizeLine; decide, fun tp htp => ?_⟩
  have w2 : Wd ua u' (upd B1 tp (.tup [.ty n, .ty n2])) (upd H1 tp (.tup [.ty n, .ty n2])) := w1.new1 htp
  have g2 : Grow ua B1 H1 (upd B1 tp (.tup [.ty n, .ty n2])) (upd H1 tp (.tup [.ty n, .ty n2])) := .new1 w1 htp
  obtain ⟨t, ty, kk⟩ := rep_isi e (r1.mono _ _ g2.pub) w2
  exact ⟨v, tp, [.ty n, .ty n2], t, [.type n, .type n2], k, rfl, upd_same, .cons (.ty n) (.cons (.ty n2) .nil), ty, kk, q _ _ ⟨_, g1.trans g2, w2, rep_bl⟩⟩
def ixD : D → D → Option D
  | .lst ds, .int i => atI ds i
  | .tup ds, .int i => atI ds i
  | .pr ds, .int i => atI ds i
  | .str z, .int i => if z.length ≤ sizeLine then (atI z.cps.toList i).map fun c => .str ⟨#[c]⟩ else none
  | _, _ => none
theorem Reps.at {ua : Option Addr} {B : Hp} {ds : List D} {vs : List V} {i : Int} {d : D} (r : Reps G ua ds vs B) (e : atI ds i = some d) : ∃ v, atI vs i = some v ∧ Rep G ua d v B := by
  unfold atI at e ⊢
  rw [← r.len]
  cases q : ixN ds.length i with
  | none => rw [q] at e; cases e
  | some j => rw [q] at e; exact r.get e
theorem dv_ix (ha : PE X a (tEv G ma)) (hb : PE X b (tEv G mb)) (hs : PlainIx b := by exact fun _ _ => rfl) : PE X (.Subscript a b pos) (tEv G (mBin ixD ma mb)) := by
  refine (pe_ix ix_seq ha hb hs).imp fun σ H Q h => ?_
  obtain ⟨ua, u, B, env, d, u', hE, hW, hm, q⟩ := h
  obtain ⟨x, u1, h1, h2⟩ := bnd_some hm
  obtain ⟨y, u2, h2, h3⟩ := bnd_some h2
  obtain ⟨l3, rfl⟩ := lft_some h3
  refine ⟨ua, u, B, env, x, u1, hE, hW, h1, fun v H1 ⟨B1, g1, w1, r1⟩ => ⟨ua, u1, B1, env, y, u', hE.grow g1, w1, h2, fun v2 H2 ⟨B2, g2, w2, r2⟩ => ?_⟩⟩
  have r1 := r1.mono _ _ g2.pub
  unfold ixD at l3
  split at l3
  · obtain ⟨p, xs, rfl, h, r3⟩ := r1.lst
    cases r2.int
    obtain ⟨z, e, r4⟩ := r3.at l3
    exact .inl ⟨p, xs, _, z, rfl, rfl, .of (w2.sub _ _ h), e, q _ _ ⟨B2, g1.trans g2, w2, r4⟩⟩
  · obtain ⟨p, xs, rfl, h, r3⟩ := r1.tup
    cases r2.int
    obtain ⟨z, e, r4⟩ := r3.at l3
    exact .inr (.inl ⟨p, xs, _, z, rfl, rfl, (h.mono w2.sub).sq, e, q _ _ ⟨B2, g1.trans g2, w2, r4⟩⟩)
  · obtain ⟨p, xs, rfl, h, r3⟩ := r1.pr
    cases r2.int
    obtain ⟨z, e, r4⟩ := r3.at l3
    exact .inr (.inl ⟨p, xs, _, z, rfl, rfl, .of (w2.sub _ _ h), e, q _ _ ⟨B2, g1.trans g2, w2, r4⟩⟩)
  · split at l3
    · cases r1.str
      cases r2.int
      obtain ⟨c, e, rfl⟩ := map_some l3
      exact .inr (.inr ⟨_, _, c, rfl, rfl, ‹_›, e, q _ _ ⟨B2, g1.trans g2, w2, rep_str⟩⟩)
    · cases l3
  · cases l3
abbrev MO := List Sl → U → Option (Option Int × U)
def tEvO (G : Gx X.K) (m : MO) : TO := fun σ H Q => ∃ ua u B env o u', EnvOk G ua env σ B H ∧ Wd ua u B H ∧ m env u = some (o, u') ∧ ∀ H', AftB ua B H u' H' → Q o H'
def moNo : MO := fun _ u => some (none, u)
def moAt (m : M) : MO := fun env u => bnd (m env u) fun d u1 => match d with
  | .int i => some (some i, u1)
  | _ => none
theorem _root_.L2.PO.imp {X : Cx} {e : Option Expr} {t t' : TO} (h : PO X e t) (i : ∀ σ H Q, t' σ H Q → t σ H Q) : PO X e t' := ⟨fun pins s σ H Q I q => h.run pins s σ H Q I (i σ H Q q)⟩
theorem do_no : PO X none (tEvO G moNo) := po_none.imp fun σ H Q h => by
  obtain ⟨ua, u, B, env, d, u', hE, hW, hm, q⟩ := h
  cases hm
  exact q _ ⟨B, .refl, hW⟩
theorem do_at (ha : PE X a (tEv G ma)) : PO X (some a) (tEvO G (moAt ma)) := (po_some ha).imp fun σ H Q h => by
  obtain ⟨ua, u, B, env, d, u', hE, hW, hm, q⟩ := h
  obtain ⟨x, u1, h1, h2⟩ := bnd_some hm
  split at h2
  · cases h2
    refine ⟨ua, u, B, env, _, _, hE, hW, h1, fun v H1 ⟨B1, g1, w1, r1⟩ => ?_⟩
    cases r1.int
    exact ⟨_, rfl, q _ ⟨B1, g1, w1⟩⟩
  · cases h2
def cutD (xs : List D) (lo hi : Option Int) : List D := (xs.drop (HT.sIx xs.length 0 lo)).take (HT.sIx xs.length xs.length hi - HT.sIx xs.length 0 lo)
def slD : D → Option Int → Option Int → Option D
  | .lst ds, lo, hi => some (.lst (cutD ds lo hi))
  | .tup ds, lo, hi => some (.tup (cutD ds lo hi))
  | .str z, lo, hi => if z.length ≤ sizeLine then some (.str (cutS z lo hi)) else none
  | _, _, _ => none
def mSl (a : M) (lo hi : MO) : M := fun env u => bnd (a env u) fun x u1 => bnd (lo env u1) fun l u2 => bnd (hi env u2) fun h u3 => lft (slD x l h) u3
theorem Reps.cut {ua : Option Addr} {B : Hp} {ds : List D} {vs : List V} (r : Reps G ua ds vs B) (lo hi : Option Int) : Reps G ua (cutD ds lo hi) (cutV vs lo hi) B := by
  unfold cutD cutV
  rw [← r.len]
  exact (r.drop _).take _
theorem dv_sl {lo hi : Option Expr} {ml mh : MO} {p2 : Pos} (ha : PE X a (tEv G ma)) (hl : PO X lo (tEvO G ml)) (hh : PO X hi (tEvO G mh)) : PE X (.Subscript a (.Slice lo hi none p2) pos) (tEv G (mSl ma ml mh)) := by
  refine (pe_slice (sl_list.or (sl_tupF.or sl_str)) ha hl hh).imp fun σ H Q h => ?_
  obtain ⟨ua, u, B, env, d, u', hE, hW, hm, q⟩ := h
  obtain ⟨x, u1, h1, h2⟩ := bnd_some hm
  obtain ⟨l, u2, h2, h3⟩ := bnd_some h2
  obtain ⟨h, u3, h3, h4⟩ := bnd_some h3
  obtain ⟨l4, rfl⟩ := lft_some h4
  refine ⟨ua, u, B, env, x, u1, hE, hW, h1, fun v H1 ⟨B1, g1, w1, r1⟩ => ⟨ua, u1, B1, env, l, u2, hE.grow g1, w1, h2, fun H2 ⟨B2, g2, w2⟩ => ⟨ua, u2, B2, env, h, u', (hE.grow g1).grow g2, w2, h3, fun H3 ⟨B3, g3, w3⟩ => ?_⟩⟩⟩
  have r1 := (r1.mono _ _ g2.pub).mono _ _ g3.pub
  have gg := g1.trans (g2.trans g3)
  unfold slD at l4
  split at l4
  · cases l4
    obtain ⟨p, xs, rfl, h, r3⟩ := r1.lst
    exact .inl ⟨p, xs, rfl, .of (w3.sub _ _ h), fun p hp => q _ _ (.up gg (.lst w3 hp (r3.cut _ _)))⟩
  · cases l4
    have r1' := r1
    obtain ⟨p, xs, rfl, h, r3⟩ := r1.tup
    refine .inr (.inl ⟨p, xs, rfl, (h.mono w3.sub).sq, fun hw => q _ _ ⟨B3, gg, w3, ?_⟩, fun _ p o hp ho => q _ _ (.up gg (.tup w3 hp ho (r3.cut _ _)))⟩)
    unfold cutD
    rw [r3.len, hw.1, hw.2, List.drop_zero, Nat.sub_zero, ← r3.len, List.take_length]
    exact r1'
  · split at l4
    · cases l4
      cases r1.str
      exact .inr (.inr ⟨_, rfl, ‹_›, q _ _ ⟨B3, gg, w3, rep_str⟩⟩)
    · cases l4
  · cases l4
end
end Dv
namespace Dv
open PySem PySem.Spec PyProof.Rows L2 RZ
def Wk {K : PySem.W.Frag} (G : Gx K) (ua : Option Addr) (J : It) (B0 : Hp) (ds : List D) : Prop := ∀ (i : Nat) (B H : Hp) (u : U), Same B0 B → Wd ua u B H →
  (∀ d, ds[i]? = some d → J.go i H ∧ ∀ x H', J.yld i H x H' → Aft G ua B H u d x H') ∧ (ds[i]? = none → J.stop i H)
abbrev MI := List Sl → U → Option (List D × U)
def tIt {K : PySem.W.Frag} (G : Gx K) (m : MI) : TI := fun σ H R => ∃ ua u B env ds u', EnvOk G ua env σ B H ∧ Wd ua u B H ∧ m env u = some (ds, u') ∧ ∀ J B' H', Grow ua B H B' H' → Wd ua u' B' H' → Wk G ua J B' ds → R J H'
def itemsD : D → Option (List D)
  | .lst ds => some ds
  | .tup ds => some ds
  | .str x => some (x.cps.toList.map fun c => .str ⟨#[c]⟩)
  | _ => none
def mItems (m : M) : MI := fun env u => bnd (m env u) fun d u1 => lft (itemsD d) u1
section
variable {X : Cx} {G : Gx X.K} {ua : Option Addr} {B H : Hp} {ds es : List D} {vs ws : List V}
theorem Reps.none {ua : Option Addr} {i : Nat} (r : Reps G ua ds vs B) (h : ds[i]? = none) : vs[i]? = none := by
  rw [List.getElem?_eq_none_iff] at h ⊢
  rw [← r.len]; exact h
theorem wk_lst {a : Addr} (h : B a = some (.lst vs)) (r : Reps G ua ds vs B) : Wk G ua (Itl X.K a) B ds := fun i B' H' u s w => by
  have hq : SqL X.K H' a vs := .of (w.sub _ _ (s _ _ h))
  refine ⟨fun d hd => ?_, fun hn => ⟨vs, hq, List.getElem?_eq_none_iff.mp (r.none hn)⟩⟩
  obtain ⟨v, hv, rv⟩ := r.get hd
  refine ⟨⟨vs, v, hq, hv⟩, fun x H2 y => ?_⟩
  obtain ⟨rfl, y⟩ := y
  have := y vs hq
  rw [hv] at this; cases this
  exact .here w (rv.mono _ _ s)
theorem wk_tup {a : Addr} (h : TupB B a vs) (r : Reps G ua ds vs B) : Wk G ua (Itt X.K a) B ds := fun i B' H' u s w => by
  have hq : SqT X.K H' a vs := ((h.mono s).mono w.sub).sq
  refine ⟨fun d hd => ?_, fun hn => ⟨vs, hq, List.getElem?_eq_none_iff.mp (r.none hn)⟩⟩
  obtain ⟨v, hv, rv⟩ := r.get hd
  refine ⟨⟨vs, v, hq, hv⟩, fun x H2 y => ?_⟩
  obtain ⟨rfl, y⟩ := y
  have := y vs hq
  rw [hv] at this; cases this
  exact .here w (rv.mono _ _ s)
theorem wk_str {x : Str} : Wk G ua (Its x) B (x.cps.toList.map fun c => .str ⟨#[c]⟩) := fun i B' H' u s w => by
  refine ⟨fun d hd => ?_, fun hn => ?_⟩
  · rw [List.getElem?_map] at hd
    obtain ⟨c, hc, rfl⟩ := map_some hd
    have hc' : x.cps[i]? = some c := by rw [← Array.getElem?_toList]; exact hc
    refine ⟨(Array.getElem?_eq_some_iff.mp hc').1, fun v H2 y => ?_⟩
    obtain ⟨rfl, c2, h2, rfl⟩ := y
    rw [hc'] at h2; cases h2
    exact .here w rep_str
  · rw [List.getElem?_eq_none_iff, List.length_map, Array.length_toList] at hn
    exact hn
theorem di_items {tg e : Expr} {m : M} (he : PE X e (tEv G m)) : PI X tg e (tIt G (mItems m)) := by
  refine PI.by fun σ H R h => ?_
  obtain ⟨ua, u, B, env, ds, u', hE, hW, hm, q⟩ := h
  obtain ⟨d, u1, h1, h2⟩ := bnd_some hm
  obtain ⟨l2, rfl⟩ := lft_some h2
  cases d with
  | lst xs =>
    cases l2
    refine ⟨_, pi_list he, ua, u, B, env, _, u', hE, hW, h1, fun v H1 ⟨B1, g1, w1, r1⟩ => ?_⟩
    obtain ⟨a, vs, rfl, h, rs⟩ := r1.lst
    exact ⟨a, rfl, ⟨vs, .of (w1.sub _ _ h)⟩, q _ _ _ g1 w1 (wk_lst h rs)⟩
  | tup xs =>
    cases l2
    refine ⟨_, pi_tup he, ua, u, B, env, _, u', hE, hW, h1, fun v H1 ⟨B1, g1, w1, r1⟩ => ?_⟩
    obtain ⟨a, vs, rfl, h, rs⟩ := r1.tup
    exact ⟨a, rfl, ⟨vs, (h.mono w1.sub).sq⟩, q _ _ _ g1 w1 (wk_tup h rs)⟩
  | str x =>
    cases l2
    refine ⟨_, pi_str he, ua, u, B, env, _, u', hE, hW, h1, fun v H1 ⟨B1, g1, w1, r1⟩ => ?_⟩
    cases r1.str
    exact ⟨_, rfl, q _ _ _ g1 w1 wk_str⟩
  | _ => cases l2
def rangeD (lo : Int) (n : Nat) : List D := (List.range n).map fun i => .int (lo + (i : Nat))
theorem wk_range {lo : Int} {n : Nat} : Wk G ua (Itr lo n) B (rangeD lo n) := fun i B' H' u s w => by
  unfold rangeD
  refine ⟨fun d hd => ?_, fun hn => ?_⟩
  · rw [List.getElem?_map] at hd
    obtain ⟨c, hc, rfl⟩ := map_some hd
    obtain ⟨hi, e⟩ := List.getElem?_eq_some_iff.mp hc
    rw [List.getElem_range] at e
    rw [List.length_range] at hi
    subst e
    refine ⟨hi, fun v H2 y => ?_⟩
    obtain ⟨rfl, rfl⟩ := y
    exact .here w rep_int
  · rw [List.getElem?_eq_none_iff, List.length_map, List.length_range] at hn
    exact hn
def mRange1 (m : M) : MI := fun env u => bnd (m env u) fun d u1 => match d with
  | .int j => if -(2 ^ 62) ≤ j ∧ j < 2 ^ 62 then some (rangeD 0 j.toNat, u1) else none
  | _ => none
theorem di_range1 {tg a : Expr} {m : M} {p pos : Pos} (hg : Gl X "range") (hm : X.mg "range" = none) (ha : PE X a (tEv G m)) (hs : starEach [a] X.env = [(false, eval a X.env)] := by rfl) : PI X tg (.Call (.Name "range" p) [a] [] pos) (tIt G (mRange1 m)) := by
  refine (pi_range1 hg hm (pa_cons ha pa_nil hs) hs).imp fun σ H R h => ?_
  obtain ⟨ua, u, B, env, ds, u', hE, hW, hm, q⟩ := h
  obtain ⟨d, u1, h1, h2⟩ := bnd_some hm
  refine ⟨ua, u, B, env, d, u1, hE, hW, h1, fun v H1 ⟨B1, g1, w1, r1⟩ => ?_⟩
  split at h2
  · split at h2
    · rename_i hj
      cases h2
      cases r1.int
      exact ⟨_, rfl, hj.1, hj.2, q _ _ _ g1 w1 wk_range⟩
    · cases h2
  · cases h2
/-- zip of two lists, of two tuples -/
def zipD (ds es : List D) : List D := List.zipWith (fun x y => .pr [x, y]) ds es
theorem zipD_get (ds es : List D) (i : Nat) : (zipD ds es)[i]? = match ds[i]?, es[i]? with | some x, some y => some (.pr [x, y]) | _, _ => none := by
  unfold zipD; rw [List.getElem?_zipWith]; cases ds[i]? <;> cases es[i]? <;> rfl
theorem wk_zipL {a b : Addr} (h : B a = some (.lst vs)) (r : Reps G ua ds vs B) (h2 : B b = some (.lst ws)) (r2 : Reps G ua es ws B) : Wk G ua (Itz X.K a b) B (zipD ds es) := fun i B' H' u s w => by
  have hq : SqL X.K H' a vs := .of (w.sub _ _ (s _ _ h))
  have hq2 : SqL X.K H' b ws := .of (w.sub _ _ (s _ _ h2))
  rw [zipD_get]
  refine ⟨fun d hd => ?_, fun hn => ⟨vs, ws, hq, hq2, ?_⟩⟩
  · split at hd
    · rename_i x y hx hy
      cases hd
      obtain ⟨v, hv, rv⟩ := r.get hx
      obtain ⟨v2, hv2, rv2⟩ := r2.get hy
      refine ⟨⟨vs, ws, v, v2, hq, hq2, hv, hv2⟩, fun x H2 y => ?_⟩
      obtain ⟨T, x, y, rfl, hT, rfl, y1, y2⟩ := y
      have e1 := y1 vs hq
      have e2 := y2 ws hq2
      rw [hv] at e1; cases e1
      rw [hv2] at e2; cases e2
      exact .pr w hT (.cons (rv.mono _ _ s) (.cons (rv2.mono _ _ s) .nil))
    · cases hd
  · cases q1 : ds[i]? with
    | none => exact .inl (List.getElem?_eq_none_iff.mp (r.none q1))
    | some x =>
      cases q2 : es[i]? with
      | none => exact .inr (List.getElem?_eq_none_iff.mp (r2.none q2))
      | some y => rw [q1, q2] at hn; cases hn
theorem wk_zipT {a b : Addr} (h : TupB B a vs) (r : Reps G ua ds vs B) (h2 : TupB B b ws) (r2 : Reps G ua es ws B) : Wk G ua (ItzT X.K a b) B (zipD ds es) := fun i B' H' u s w => by
  have hq : SqT X.K H' a vs := ((h.mono s).mono w.sub).sq
  have hq2 : SqT X.K H' b ws := ((h2.mono s).mono w.sub).sq
  rw [zipD_get]
  refine ⟨fun d hd => ?_, fun hn => ⟨vs, ws, hq, hq2, ?_⟩⟩
  · split at hd
    · rename_i x y hx hy
      cases hd
      obtain ⟨v, hv, rv⟩ := r.get hx
      obtain ⟨v2, hv2, rv2⟩ := r2.get hy
      refine ⟨⟨vs, ws, v, v2, hq, hq2, hv, hv2⟩, fun x H2 y => ?_⟩
      obtain ⟨T, x, y, rfl, hT, rfl, y1, y2⟩ := y
      have e1 := y1 vs hq
      have e2 := y2 ws hq2
      rw [hv] at e1; cases e1
      rw [hv2] at e2; cases e2
      exact .pr w hT (.cons (rv.mono _ _ s) (.cons (rv2.mono _ _ s) .nil))
    · cases hd
  · cases q1 : ds[i]? with
    | none => exact .inl (List.getElem?_eq_none_iff.mp (r.none q1))
    | some x =>
      cases q2 : es[i]? with
      | none => exact .inr (List.getElem?_eq_none_iff.mp (r2.none q2))
      | some y => rw [q1, q2] at hn; cases hn
def mZip (m m2 : M) : MI := fun env u => bnd (m env u) fun d u1 => bnd (m2 env u1) fun e u2 => match d, e with
  | .lst ds, .lst es => some (zipD ds es, u2)
  | .tup ds, .tup es => some (zipD ds es, u2)
  | _, _ => none
theorem di_zip {a b : Expr} {m m2 : M} {p pos tpos : Pos} {elts : List Expr} {kk : Nat} (hg : Gl X "zip") (hm : X.mg "zip" = none) (ha : PE X a (tEv G m)) (hb : PE X b (tEv G m2))
    (hs : starEach [a, b] X.env = (false, eval a X.env) :: starEach [b] X.env := by rfl) (hs2 : starEach [b] X.env = (false, eval b X.env) :: starEach [] X.env := by rfl) (hpl : (backTo pos (starEach [b] X.env)).any (·.1) = false := by rfl) :
    PI X (.Tuple elts kk tpos) (.Call (.Name "zip" p) [a, b] [] pos) (tIt G (mZip m m2)) := by
  refine (pi_zipA hg hm (pa_cons ha (pa_cons hb pa_nil hs2) hs) hs hpl).imp fun σ H R h => ?_
  obtain ⟨ua, u, B, env, ds, u', hE, hW, hm, q⟩ := h
  obtain ⟨d, u1, h1, h2⟩ := bnd_some hm
  obtain ⟨d2, u2, h3, h2⟩ := bnd_some h2
  refine ⟨ua, u, B, env, d, u1, hE, hW, h1, fun v H1 ⟨B1, g1, w1, r1⟩ => ⟨ua, u1, B1, env, d2, u2, hE.grow g1, w1, h3, fun v2 H2 ⟨B2, g2, w2, r2⟩ => ?_⟩⟩
  have r1 := r1.mono _ _ g2.pub
  split at h2
  · cases h2
    obtain ⟨a, vs, rfl, h, rs⟩ := r1.lst
    obtain ⟨b, ws, rfl, h', rs'⟩ := r2.lst
    exact ⟨a, b, vs, ws, rfl, .inl ⟨.of (w2.sub _ _ h), .of (w2.sub _ _ h'), q _ _ _ (g1.trans g2) w2 (wk_zipL h rs h' rs')⟩⟩
  · cases h2
    obtain ⟨a, vs, rfl, h, rs⟩ := r1.tup
    obtain ⟨b, ws, rfl, h', rs'⟩ := r2.tup
    exact ⟨a, b, vs, ws, rfl, .inr ⟨(h.mono w2.sub).sq, (h'.mono w2.sub).sq, q _ _ _ (g1.trans g2) w2 (wk_zipT h rs h' rs')⟩⟩
  · cases h2
end
inductive Tgt where
  | one (i : Nat) | many (is : List Nat) | tree (ts : List (Nat ⊕ List Nat)) | sq (is : List Nat)
def treeIds : List (Nat ⊕ List Nat) → List Nat
  | [] => []
  | .inl i :: r => i :: treeIds r
  | .inr is :: r => is ++ treeIds r
def Tgt.ids : Tgt → List Nat
  | .one i => [i]
  | .many is => is
  | .tree ts => treeIds ts
  | .sq is => is
def gNames : List Nat → TGs
  | [] => gNil
  | i :: r => gCons (gName i) (gNames r)
def gTrees (K : PySem.W.Frag) : List (Nat ⊕ List Nat) → TGs
  | [] => gNil
  | .inl i :: r => gCons (gName i) (gTrees K r)
  | .inr is :: r => gCons (gTup K is.length (gNames is)) (gTrees K r)
def gSq (K : PySem.W.Frag) (n : Nat) (t : TGs) : TG := fun v σ H Q => ∃ a xs, v = .ref a ∧ (SqT K H a xs ∨ SqL K H a xs) ∧ xs.length = n ∧ t xs σ H Q
def gOf (K : PySem.W.Frag) : Tgt → TG
  | .one i => gName i
  | .many is => gTup K is.length (gNames is)
  | .tree ts => gTup K ts.length (gTrees K ts)
  | .sq is => gSq K is.length (gNames is)
def setE : List Sl → List Nat → List D → List Sl
  | env, i :: is, d :: ds => setE (env.set i (Sl.pub d)) is ds
  | env, _, _ => env
def setV : List (Option V) → List Nat → List V → List (Option V)
  | σ, i :: is, v :: vs => setV (σ.set i (some v)) is vs
  | σ, _, _ => σ
theorem gNames_ok : ∀ (is : List Nat) (vs : List V) (σ : L2.St) (H : Hp) (Q : L2.St → Hp → Prop), vs.length = is.length → Q (setV σ is vs) H → gNames is vs σ H Q
  | [], [], σ, H, Q, _, q => ⟨rfl, q⟩
  | [], _ :: _, _, _, _, h, _ => by cases h
  | _ :: _, [], _, _, _, h, _ => by cases h
  | i :: is, v :: vs, σ, H, Q, h, q => ⟨v, vs, rfl, gNames_ok is vs _ H Q (by simpa using h) q⟩
section
variable {K : PySem.W.Frag} {G : Gx K} {ua : Option Addr} {B H : Hp}
theorem setE_ok : ∀ (is : List Nat) (ds : List D) (vs : List V) (env : List Sl) (σ : List (Option V)), EnvOk G ua env σ B H → Reps G ua ds vs B → EnvOk G ua (setE env is ds) (setV σ is vs) B H
  | [], ds, vs, env, σ, e, r => e
  | i :: is, [], vs, env, σ, e, r => by rw [r.of_nil]; exact e
  | i :: is, d :: ds, vs, env, σ, e, r => by
    obtain ⟨v, t, rfl, r1, r2⟩ := r.of_cons
    exact setE_ok is ds t _ _ (e.set r1 i) r2
end
theorem wipe_get (σ : List (Option V)) : ∀ (vs : List Nat) (j : Nat), (wipe σ vs)[j]? = if j ∈ vs then (σ[j]?).map (fun _ => none) else σ[j]?
  | [], j => by unfold wipe; simp
  | v :: vs, j => by
    unfold wipe
    by_cases h : v = j
    · subst h
      rw [if_pos List.mem_cons_self]
      by_cases hl : v < σ.length
      · rw [List.getElem?_set_self (by rw [wipe_length]; exact hl), List.getElem?_eq_getElem hl]; rfl
      · rw [List.getElem?_eq_none (by rw [List.length_set, wipe_length]; omega), List.getElem?_eq_none (by omega)]; rfl
    · rw [List.getElem?_set_ne h, wipe_get σ vs j]
      by_cases hj : j ∈ vs
      · rw [if_pos hj, if_pos (List.mem_cons_of_mem _ hj)]
      · rw [if_neg hj, if_neg (fun z => by rcases List.mem_cons.mp z with z | z; exact h z.symm; exact hj z)]
theorem wipe_set {σ : List (Option V)} {vs : List Nat} {i : Nat} {x : Option V} (h : i ∈ vs) : wipe (σ.set i x) vs = wipe σ vs := by
  apply List.ext_getElem?
  intro j
  rw [wipe_get, wipe_get]
  by_cases hj : j ∈ vs
  · rw [if_pos hj, if_pos hj]
    by_cases e : i = j
    · subst e
      by_cases hl : i < σ.length
      · rw [List.getElem?_set_self hl, List.getElem?_eq_getElem hl]; rfl
      · rw [List.getElem?_eq_none (by rw [List.length_set]; omega), List.getElem?_eq_none (by omega)]
    · rw [List.getElem?_set_ne e]
  · rw [if_neg hj, if_neg hj, List.getElem?_set_ne (fun z => hj (by rw [← z]; exact h))]
theorem wipe_wipe {σ : List (Option V)} {vs : List Nat} : wipe (wipe σ vs) vs = wipe σ vs := by
  apply List.ext_getElem?
  intro j
  rw [wipe_get, wipe_get]
  by_cases hj : j ∈ vs
  · rw [if_pos hj, if_pos hj]; cases σ[j]? <;> rfl
  · rw [if_neg hj, if_neg hj]
theorem wipe_setV {vs : List Nat} : ∀ {is : List Nat} {xs : List V} {σ : List (Option V)}, (∀ i ∈ is, i ∈ vs) → wipe (setV σ is xs) vs = wipe σ vs
  | [], _, _, _ => rfl
  | _ :: _, [], _, _ => rfl
  | i :: is, x :: xs, σ, h => by
    show wipe (setV (σ.set i (some x)) is xs) vs = _
    rw [wipe_setV fun j hj => h j (List.mem_cons_of_mem _ hj), wipe_set (h i List.mem_cons_self)]
theorem setV_keep : ∀ {is : List Nat} {vs : List V} {σ : List (Option V)} (j : Nat) (x : V), (setV σ is vs)[j]? = some (some x) → j ∉ is → σ[j]? = some (some x)
  | [], _, _, _, _, h, _ => h
  | _ :: _, [], _, _, _, h, _ => h
  | i :: is, v :: vs, σ, j, x, h, hj => by
    have := setV_keep (is := is) (vs := vs) (σ := σ.set i (some v)) j x h (fun z => hj (List.mem_cons_of_mem _ z))
    rw [List.getElem?_set_ne (fun z => hj (by rw [z]; exact List.mem_cons_self))] at this
    exact this
def flatN (n : Nat) : D → Option (List D)
  | .tup ds => if ds.length = n then some ds else none
  | .pr ds => if ds.length = n then some ds else none
  | _ => none
theorem flatN_ok {K : PySem.W.Frag} {G : Gx K} {ua : Option Addr} {u : U} {B H : Hp} {n : Nat} {d : D} {v : V} {ds : List D} (w : Wd ua u B H) (r : Rep G ua d v B) (h : flatN n d = some ds) : ∃ a vs, v = .ref a ∧ SqT K H a vs ∧ vs.length = n ∧ Reps G ua ds vs B := by
  cases d with
  | tup xs =>
    dsimp only [flatN] at h
    split at h
    · rename_i hl
      cases h
      obtain ⟨a, vs, rfl, h, rs⟩ := r.tup
      exact ⟨a, vs, rfl, (h.mono w.sub).sq, by rw [← rs.len]; exact hl, rs⟩
    · cases h
  | pr xs =>
    dsimp only [flatN] at h
    split at h
    · rename_i hl
      cases h
      obtain ⟨a, vs, rfl, h, rs⟩ := r.pr
      exact ⟨a, vs, rfl, .of (w.sub _ _ h), by rw [← rs.len]; exact hl, rs⟩
    · cases h
  | _ => cases h
def setT : List Sl → List (Nat ⊕ List Nat) → List D → Option (List Sl)
  | env, [], [] => some env
  | env, .inl i :: r, d :: ds => setT (env.set i (Sl.pub d)) r ds
  | env, .inr is :: r, d :: ds => match flatN is.length d with
    | some xs => setT (setE env is xs) r ds
    | none => none
  | _, _, _ => none
theorem tree_ok {K : PySem.W.Frag} {G : Gx K} {ua : Option Addr} {u : U} {B H : Hp} (w : Wd ua u B H) : ∀ (ts : List (Nat ⊕ List Nat)) (ds : List D) (vs : List V) (env env' : List Sl) (σ : List (Option V)) (Q : L2.St → Hp → Prop), EnvOk G ua env σ B H → Reps G ua ds vs B → setT env ts ds = some env' →
    (∀ σ' : List (Option V), EnvOk G ua env' σ' B H → (∀ vs, (∀ i ∈ treeIds ts, i ∈ vs) → wipe σ' vs = wipe σ vs) → (∀ (j : Nat) x, σ'[j]? = some (some x) → j ∉ treeIds ts → σ[j]? = some (some x)) → Q σ' H) → gTrees K ts vs σ H Q
  | [], [], vs, env, env', σ, Q, e, r, h, q => by
    cases h
    rw [r.of_nil]
    exact ⟨rfl, q σ e (fun _ _ => rfl) fun _ _ h _ => h⟩
  | [], _ :: _, vs, env, env', σ, Q, e, r, h, q => by cases h
  | .inl i :: ts, [], vs, env, env', σ, Q, e, r, h, q => by cases h
  | .inr is :: ts, [], vs, env, env', σ, Q, e, r, h, q => by cases h
  | .inl i :: ts, d :: ds, vs, env, env', σ, Q, e, r, h, q => by
    obtain ⟨v, t, rfl, r1, r2⟩ := r.of_cons
    refine ⟨v, t, rfl, ?_⟩
    refine tree_ok w ts ds t (env.set i (Sl.pub d)) env' (σ.set i (some v)) Q (e.set r1 i) r2 h fun σ' e' hw hk => q σ' e' (fun vs hv => ?_) fun j x hx hj => ?_
    · rw [hw vs (fun j hj => hv j (List.mem_cons_of_mem _ hj)), wipe_set (hv i List.mem_cons_self)]
    · have := hk j x hx (fun z => hj (List.mem_cons_of_mem _ z))
      rw [List.getElem?_set_ne (fun z => hj (by rw [z]; exact List.mem_cons_self))] at this
      exact this
  | .inr is :: ts, d :: ds, vs, env, env', σ, Q, e, r, h, q => by
    obtain ⟨v, t, rfl, r1, r2⟩ := r.of_cons
    have h : (match flatN is.length d with | some xs => setT (setE env is xs) ts ds | none => none) = some env' := h
    split at h
    · rename_i xs hf
      obtain ⟨a, ws, rfl, hs, hl, rs⟩ := flatN_ok w r1 hf
      refine ⟨_, t, rfl, a, ws, rfl, hs, hl, gNames_ok is ws σ H _ hl ?_⟩
      refine tree_ok w ts ds t (setE env is xs) env' (setV σ is ws) Q (setE_ok is xs ws env σ e rs) r2 h fun σ' e' hw hk => q σ' e' (fun vs hv => ?_) fun j x hx hj => ?_
      · rw [hw vs (fun j hj => hv j (List.mem_append_right _ hj)), wipe_setV fun j hj => hv j (List.mem_append_left _ hj)]
      · exact setV_keep j x (hk j x hx (fun z => hj (List.mem_append_right _ z))) fun z => hj (List.mem_append_left _ z)
    · cases h
def flatS (n : Nat) : D → Option (List D)
  | .tup ds => if ds.length = n then some ds else none
  | .lst ds => if ds.length = n then some ds else none
  | .pr ds => if ds.length = n then some ds else none
  | _ => none
theorem flatS_ok {K : PySem.W.Frag} {G : Gx K} {ua : Option Addr} {u : U} {B H : Hp} {n : Nat} {d : D} {v : V} {ds : List D} (w : Wd ua u B H) (r : Rep G ua d v B) (h : flatS n d = some ds) : ∃ a vs, v = .ref a ∧ (SqT K H a vs ∨ SqL K H a vs) ∧ vs.length = n ∧ Reps G ua ds vs B := by
  cases d with
  | tup xs =>
    dsimp only [flatS] at h
    split at h
    · rename_i hl
      cases h
      obtain ⟨a, vs, rfl, h, rs⟩ := r.tup
      exact ⟨a, vs, rfl, .inl (h.mono w.sub).sq, by rw [← rs.len]; exact hl, rs⟩
    · cases h
  | lst xs =>
    dsimp only [flatS] at h
    split at h
    · rename_i hl
      cases h
      obtain ⟨a, vs, rfl, h, rs⟩ := r.lst
      exact ⟨a, vs, rfl, .inr (.of (w.sub _ _ h)), by rw [← rs.len]; exact hl, rs⟩
    · cases h
  | pr xs =>
    dsimp only [flatS] at h
    split at h
    · rename_i hl
      cases h
      obtain ⟨a, vs, rfl, h, rs⟩ := r.pr
      exact ⟨a, vs, rfl, .inl (.of (w.sub _ _ h)), by rw [← rs.len]; exact hl, rs⟩
    · cases h
  | _ => cases h
def bindT : Tgt → D → List Sl → Option (List Sl)
  | .one i, d, env => some (env.set i (Sl.pub d))
  | .many is, .tup ds, env => if ds.length = is.length then some (setE env is ds) else none
  | .many is, .pr ds, env => if ds.length = is.length then some (setE env is ds) else none
  | .tree ts, d, env => match flatN ts.length d with
    | some ds => setT env ts ds
    | none => none
  | .sq is, d, env => match flatS is.length d with
    | some ds => some (setE env is ds)
    | none => none
  | _, _, _ => none
theorem bindT_ok {K : PySem.W.Frag} {G : Gx K} {ua : Option Addr} {u : U} {B H : Hp} {t : Tgt} {d : D} {v : V} {env env' : List Sl} {σ : List (Option V)} {Q : L2.St → Hp → Prop} (e : EnvOk G ua env σ B H) (w : Wd ua u B H) (r : Rep G ua d v B) (b : bindT t d env = some env')
    (q : ∀ σ' : List (Option V), EnvOk G ua env' σ' B H → (∀ vs, (∀ i ∈ t.ids, i ∈ vs) → wipe σ' vs = wipe σ vs) → (∀ (j : Nat) x, σ'[j]? = some (some x) → j ∉ t.ids → σ[j]? = some (some x)) → Q σ' H) : gOf K t v σ H Q := by
  cases t with
  | one i =>
    unfold bindT at b; cases b
    refine q (σ.set i (some v)) (e.set r i) (fun vs h => wipe_set (h i (by simp [Tgt.ids]))) fun j x hx hj => ?_
    rw [List.getElem?_set_ne (fun z => hj (by simp [Tgt.ids, z]))] at hx
    exact hx
  | many is =>
    cases d with
    | tup ds =>
      dsimp only [bindT] at b
      split at b
      · rename_i hl
        cases b
        obtain ⟨a, vs, rfl, h, rs⟩ := r.tup
        have hlv : vs.length = is.length := by rw [← rs.len]; exact hl
        refine ⟨a, vs, rfl, (h.mono w.sub).sq, hlv, gNames_ok is vs σ H Q hlv (q _ (setE_ok is ds vs env σ e rs) (fun ws h => wipe_setV h) ?_)⟩
        clear q e hl hlv h rs
        induction is generalizing σ vs with
        | nil => intro j x hx _; exact hx
        | cons i is ih =>
          intro j x hx hj
          cases vs with
          | nil => exact hx
          | cons v vs =>
            have hj' : j ∉ i :: is := hj
            have := ih (σ := σ.set i (some v)) (vs := vs) j x hx (fun z => hj' (List.mem_cons_of_mem _ z))
            rw [List.getElem?_set_ne (fun z => hj' (by rw [z]; exact List.mem_cons_self))] at this
            exact this
      · cases b
    | pr ds =>
      dsimp only [bindT] at b
      split at b
      · rename_i hl
        cases b
        obtain ⟨a, vs, rfl, h, rs⟩ := r.pr
        have hlv : vs.length = is.length := by rw [← rs.len]; exact hl
        refine ⟨a, vs, rfl, .of (w.sub _ _ h), hlv, gNames_ok is vs σ H Q hlv (q _ (setE_ok is ds vs env σ e rs) (fun ws h => wipe_setV h) ?_)⟩
        clear q e hl hlv h rs
        induction is generalizing σ vs with
        | nil => intro j x hx _; exact hx
        | cons i is ih =>
          intro j x hx hj
          cases vs with
          | nil => exact hx
          | cons v vs =>
            have hj' : j ∉ i :: is := hj
            have := ih (σ := σ.set i (some v)) (vs := vs) j x hx (fun z => hj' (List.mem_cons_of_mem _ z))
            rw [List.getElem?_set_ne (fun z => hj' (by rw [z]; exact List.mem_cons_self))] at this
            exact this
      · cases b
    | _ => cases b
  | tree ts =>
    unfold bindT at b
    dsimp only at b
    split at b
    · rename_i ds hf
      obtain ⟨a, vs, rfl, hs, hl, rs⟩ := flatN_ok w r hf
      exact ⟨a, vs, rfl, hs, hl, tree_ok w ts ds vs env env' σ Q e rs b q⟩
    · cases b
  | sq is =>
    unfold bindT at b
    dsimp only at b
    split at b
    · rename_i ds hf
      cases b
      obtain ⟨a, vs, rfl, hs, hl, rs⟩ := flatS_ok w r hf
      exact ⟨a, vs, rfl, hs, hl, gNames_ok is vs σ H Q hl (q _ (setE_ok is ds vs env σ e rs) (fun ws h => wipe_setV h) fun j x hx hj => setV_keep j x hx hj)⟩
    · cases b
end Dv
namespace Dv
open PySem PySem.Spec PyProof.Rows L2
def compL (f : D → U → Option (Option D × U)) : List D → U → Option (List D × U)
  | [], u => some ([], u)
  | d :: ds, u => bnd (f d u) fun o u1 => bnd (compL f ds u1) fun r u2 => some (match o with | some x => x :: r | none => r, u2)
def turnL (t : Tgt) (own : List Nat) (env : List Sl) (mc : MB) (me : M) : D → U → Option (Option D × U) := fun d u => match bindT t d (wipeE env own) with
  | none => none
  | some env' => bnd (mc env' u) fun b u1 => if b = true then bnd (me env' u1) fun x u2 => some (some x, u2) else some (none, u1)
def mLc (t : Tgt) (own : List Nat) (mi : MI) (mc : MB) (me : M) : M := fun env u => bnd (mi env u) fun ds u1 => bnd (compL (turnL t own env mc me) ds u1) fun r u2 => if r.length ≤ sizeLine then some (.lst r, u2) else none
def mYes : MB := fun _ u => some (true, u)
theorem Grow.put {ua : Option Addr} {B H B' H' : Hp} {p : Addr} {o : HO} (g : Grow ua B H B' H') (h : H p = none) : Grow ua B H B' (upd H' p o) := by
  refine ⟨fun a x e n => ?_, fun a e => ?_, g.pub, g.new⟩
  · rw [upd_ne (ne_of_none e h)]; exact g.keep a x e n
  · by_cases q : a = p
    · subst q; exact h
    · rw [upd_ne q] at e; exact g.live a e
/-- one's own object is shown to all -/
theorem Grow.show {ua : Option Addr} {B H B' H' : Hp} {p : Addr} {o : HO} (g : Grow ua B H B' H') (h : H p = none) (hb : B' p = none) : Grow ua B H (upd B' p o) H' := by
  refine ⟨g.keep, g.live, fun a x e => same_new hb a x (g.pub a x e), fun a x e => ?_⟩
  by_cases q : a = p
  · subst q; exact .inr h
  · rw [upd_ne q] at e; exact g.new a x e
theorem Wd.show {ua : Option Addr} {u : U} {B H : Hp} {p : Addr} {o : HO} (w : Wd ua u B H) (h : H p = some o) (n : ua ≠ some p) : Wd ua u (upd B p o) H := by
  refine ⟨fun a x e => ?_, fun a e => ?_⟩
  · by_cases q : a = p
    · subst q; rw [upd_same] at e; cases e; exact h
    · rw [upd_ne q] at e; exact w.sub a x e
  · rw [upd_ne (fun z => n (by rw [← z]; exact e))]; exact w.urn a e
theorem Grow.none_of {ua : Option Addr} {B H B' H' : Hp} {p : Addr} {o : HO} (g : Grow ua B H B' H') (h : H p = some o) (hb : B p = none) : B' p = none := by
  cases q : B' p with
  | none => rfl
  | some x =>
    rcases g.new p x q with z | z
    · rw [z] at hb; cases hb
    · rw [z] at h; cases h
section
variable {X : Cx} {G : Gx X.K} {mi : MI} {mc : MB} {me : M}
theorem lc_inner {t : Tgt} {own : List Nat} {σ : L2.St} {Q : VK} {ua : Option Addr} {u1 u' : U} {B1 H1 : Hp} {env : List Sl} {J : It} {ds r : List D} (ht : ∀ i ∈ t.ids, i ∈ own) (hE1 : EnvOk G ua env σ B1 H1) (w1 : Wd ua u1 B1 H1) (wk : Wk G ua J B1 ds)
    (h3 : compL (turnL t own env mc me) ds u1 = some (r, u')) (hr : r.length ≤ sizeLine) (q : ∀ v H', Aft G ua B1 H1 u' (.lst r) v H' → Q v H') :
    ∀ D, H1 D = none → ∃ W : Nat → Nat → Hp → Prop, (∃ m, W 0 m (upd H1 D (.lst []))) ∧ ∀ i m H, W i m H →
  (J.stop i H ∧ Q (.ref D) H) ∨ (J.go i H ∧ ∃ Nx : Hp → Prop, (∀ H', Nx H' → ∃ m', m' < m ∧ W (i + 1) m' H') ∧ ∀ x H', J.yld i H x H' → gOf X.K t x (wipe σ own) H' fun σ2 H2 => wipe σ2 own = wipe σ own ∧ tTst G mc σ2 H2 fun b H3 =>
    if b = true then tEv G me σ2 H3 fun y H4 => ∃ acc, H4 D = some (.lst acc) ∧ acc.length < sizeLine ∧ Nx (upd H4 D (.lst (acc ++ [y]))) else Nx H3) := by
  intro Dp hD
  refine ⟨fun i m H' => m = ds.length - i ∧ i ≤ ds.length ∧ ∃ B' uu done vs rest, Grow ua B1 H1 B' H' ∧ Wd ua uu B' H' ∧ H' Dp = some (.lst vs) ∧ B' Dp = none ∧ Reps G ua done vs B' ∧ compL (turnL t own env mc me) (ds.drop i) uu = some (rest, u') ∧ done ++ rest = r,
    ⟨ds.length, by omega, by omega, B1, u1, [], [], r, .own1 w1 hD, w1.own1 hD, upd_same, w1.none_of hD, .nil, h3, rfl⟩, ?_⟩
  rintro i m H' ⟨rfl, hi, B', uu, done, vs, rest, g2, w2, hv, hb, rs, hc, hcat⟩
  have sB : Same B1 B' := g2.pub
  have nu : ua ≠ some Dp := w1.ne_urn hD
  have hk := wk i B' H' uu sB w2
  by_cases hlt : i < ds.length
  · have hd : ds[i]? = some ds[i] := List.getElem?_eq_getElem hlt
    obtain ⟨hgo, hy⟩ := hk.1 _ hd
    rw [List.drop_eq_getElem_cons hlt] at hc
    obtain ⟨o, u3, c1, c2⟩ := bnd_some (show bnd (turnL t own env mc me ds[i] uu) _ = _ from hc)
    obtain ⟨rest', u4, c3, c4⟩ := bnd_some c2
    refine .inr ⟨hgo, fun H2 => ∃ B' uu done vs rest, Grow ua B1 H1 B' H2 ∧ Wd ua uu B' H2 ∧ H2 Dp = some (.lst vs) ∧ B' Dp = none ∧ Reps G ua done vs B' ∧ compL (turnL t own env mc me) (ds.drop (i + 1)) uu = some (rest, u') ∧ done ++ rest = r,
      fun H2 h2 => ⟨ds.length - (i + 1), by omega, rfl, hlt, h2⟩, fun x H2 y => ?_⟩
    obtain ⟨B2, g3, w3, r3⟩ := hy x H2 y
    have hv2 : H2 Dp = some (.lst vs) := g3.keep _ _ hv nu
    have hb2 : B2 Dp = none := g3.none_of hv hb
    have rs2 := rs.mono _ _ g3.pub
    have hE2 : EnvOk G ua (wipeE env own) (wipe σ own) B2 H2 := ((hE1.wipe own).grow g2).grow g3
    unfold turnL at c1
    split at c1
    · cases c1
    · rename_i env' hbt
      refine bindT_ok hE2 w3 r3 hbt fun σ' hE3 hwp hback => ⟨by rw [hwp own ht, wipe_wipe], ?_⟩
      obtain ⟨b, u5, c5, c6⟩ := bnd_some c1
      refine ⟨ua, uu, B2, env', b, u5, hE3, w3, c5, fun H3 ⟨B3, g4, w4⟩ => ?_⟩
      have hv3 : H3 Dp = some (.lst vs) := g4.keep _ _ hv2 nu
      have hb3 : B3 Dp = none := g4.none_of hv2 hb2
      have rs3 := rs2.mono _ _ g4.pub
      have gg := g2.trans (g3.trans g4)
      cases b with
      | true =>
        rw [if_pos rfl] at c6
        refine iteT ?_
        obtain ⟨x', u6, c7, c8⟩ := bnd_some c6
        cases c8
        cases c4
        refine ⟨ua, u5, B3, env', x', u3, hE3.grow g4, w4, c7, fun yv H4 ⟨B4, g5, w5, r5⟩ => ?_⟩
        have hv4 : H4 Dp = some (.lst vs) := g5.keep _ _ hv3 nu
        have hb4 : B4 Dp = none := g5.none_of hv3 hb3
        have rs4 := rs3.mono _ _ g5.pub
        refine ⟨vs, hv4, ?_, B4, u3, done ++ [x'], vs ++ [yv], rest', (gg.trans g5).put hD, w5.put hb4 nu, upd_same, hb4, rs4.append (.cons r5 .nil), c3, by rw [← hcat]; simp⟩
        have := congrArg List.length hcat
        rw [List.length_append, List.length_cons] at this
        rw [← rs4.len]
        omega
      | false =>
        rw [if_neg Bool.false_ne_true] at c6
        refine iteF ?_
        cases c6
        cases c4
        exact ⟨B3, _, done, vs, rest', gg, w4, hv3, hb3, rs3, c3, hcat⟩
  · have e : i = ds.length := by omega
    subst e
    rw [List.drop_length] at hc
    cases hc
    rw [List.append_nil] at hcat
    subst hcat
    refine .inl ⟨hk.2 (List.getElem?_eq_none (Nat.le_refl _)), q _ _ ⟨upd B' Dp (.lst vs), g2.show hD hb, w2.show hv nu, ?_⟩⟩
    unfold Rep
    exact ⟨Dp, vs, rfl, upd_same, rs.mono _ _ (same_new hb)⟩
theorem lc_read {t : Tgt} {own : List Nat} {σ : L2.St} {H : Hp} {Q : VK} (ht : ∀ i ∈ t.ids, i ∈ own) (h : tEv G (mLc t own mi mc me) σ H Q) : tLc (tIt G mi) (gOf X.K t) (tTst G mc) (tEv G me) own σ H Q := by
  obtain ⟨ua, u, B, env, d, u', hE, hW, hm, q⟩ := h
  obtain ⟨ds, u1, h1, h2⟩ := bnd_some hm
  obtain ⟨r, u2, h3, h4⟩ := bnd_some h2
  split at h4
  · cases h4
    exact ⟨ua, u, B, env, ds, u1, hE, hW, h1, fun J B1 H1 g1 w1 wk => lc_inner ht (hE.grow g1) w1 wk h3 ‹_› fun v H' a => q v H' (.up g1 a)⟩
  · cases h4
theorem dts_no : PTs X [] (tTst G mYes) := ⟨fun pins s σ H Q I h => by
  obtain ⟨ua, u, B, env, b, u', hE, hW, hm, q⟩ := h
  cases hm
  exact pts_nil.run pins s σ H Q I (q _ ⟨B, .refl, hW⟩)⟩
theorem dts_one {c : Expr} (h : PT X c (tTst G mc)) : PTs X [c] (tTst G mc) := pts_one h
variable {elt tg iter : Expr} {ifs : List Expr} {scope : Scope} {own : List (Str × Nat)} {pos : Pos}
theorem dv_lc (t : Tgt) (ids : List Nat) (hc : X.calm = true) (hN : X.N.Nodup) (hi : PI X tg iter (tIt G mi)) (ok : BlkOk X.N X.env.scope scope own) (hid : own.map (·.2) = ids) (ht : ∀ i ∈ t.ids, i ∈ ids)
    (hg : ∀ (s : Shared) (H : Hp) (C : Addr) (cl : List (Str × Addr)) (fp : List Addr), PG (X.blk s H scope (compEnvC scope cl C X.env) fp) tg (gOf X.K t)) (hq : ∀ (s : Shared) (H : Hp) (C : Addr) (cl : List (Str × Addr)) (fp : List Addr), PTs (X.blk s H scope (compEnvC scope cl C X.env) fp) ifs (tTst (K := X.K) G mc))
    (he : ∀ (s : Shared) (H : Hp) (C : Addr) (cl : List (Str × Addr)) (fp : List Addr), PE (X.blk s H scope (compEnvC scope cl C X.env) fp) elt (tEv (K := X.K) G me)) (hs : ∀ x, foldedSetIterable iter X.env x = pure x := by intro _; rfl) :
    PE X (.ListComp elt [⟨tg, iter, ifs, 0⟩] scope pos) (tEv G (mLc t ids mi mc me)) := by
  subst hid
  exact (pe_lc hc hN hi ok hg hq he hs).imp fun _ _ _ h => lc_read ht h
end
inductive Fl where
  | nx (env : List Sl) | rt (d : D) | er (env : List Sl) (c : Str) (ns : List Str) (xs : List D)
/-- an error in the air: its class, its dict, its fields -/
def ErR {K : PySem.W.Frag} (G : Gx K) (ua : Option Addr) (c : Str) (ns : List Str) (xs : List D) (cls : Value) (d : Option Addr) (B : Hp) : Prop := ∃ C vs, G.exc c = some C ∧ cls = .ref C ∧ ErD B ns vs d ∧ Reps G ua xs vs B
theorem ErR.mono {K : PySem.W.Frag} {G : Gx K} {ua : Option Addr} {c : Str} {ns : List Str} {xs : List D} {cls : Value} {d : Option Addr} {B B' : Hp} (h : ErR G ua c ns xs cls d B) (s : Same B B') : ErR G ua c ns xs cls d B' := by
  obtain ⟨C, vs, h1, h2, h3, h4⟩ := h
  exact ⟨C, vs, h1, h2, h3.mono s, h4.mono _ _ s⟩
abbrev MS := List Sl → U → Option (Fl × U)
def OwnNew (env : List Sl) (σ : List (Option V)) (H0 : Hp) : Prop := ∀ (i : Nat) ds p, env[i]? = some (Sl.own ds) → σ[i]? = some (some (V.ref p)) → H0 p = none
theorem OwnNew.set {env : List Sl} {σ : List (Option V)} {H0 : Hp} (h : OwnNew env σ H0) (i : Nat) (d : D) (v : V) : OwnNew (env.set i (Sl.pub d)) (σ.set i (some v)) H0 := fun j ds p h1 h2 => by
  rcases get_set h1 with ⟨rfl, q⟩ | ⟨q, h1⟩
  · cases q
  · rw [List.getElem?_set_ne (fun z => q z.symm)] at h2
    exact h j ds p h1 h2
def tSt {K : PySem.W.Frag} (G : Gx K) (W : WX) (m : MS) : TS := fun Dn σ H => ∃ ua u B env fl u' B0 H0, Grow ua B0 H0 B H ∧ OwnNew env σ H0 ∧ EnvOk G ua env σ B H ∧ Wd ua u B H ∧ m env u = some (fl, u') ∧ match fl with
  | .nx env' => ∀ (σ' : List (Option V)) B' H', Grow ua B0 H0 B' H' → OwnNew env' σ' H0 → EnvOk G ua env' σ' B' H' → Wd ua u' B' H' → Dn.nx σ' H'
  | .rt d => ∀ v B' H', Grow ua B0 H0 B' H' → Wd ua u' B' H' → Rep G ua d v B' → Dn.rt v H'
  | .er env' c ns xs => ∀ (σ' : List (Option V)) B' H' cls d, Grow ua B0 H0 B' H' → OwnNew env' σ' H0 → EnvOk G ua env' σ' B' H' → Wd ua u' B' H' → ErR G ua c ns xs cls d B' → W cls d σ' H'
theorem _root_.L2.PS.imp {X : Cx} {st : Stmt} {t t' : TS} (h : PS X st t) (i : ∀ Dn σ H, t' Dn σ H → t Dn σ H) : PS X st t' := ⟨fun pins s σ H Q I q => h.run pins s σ H Q I (i Q σ H q)⟩
theorem _root_.L2.PSs.imp {X : Cx} {st : List Stmt} {t t' : TS} (h : PSs X st t) (i : ∀ Dn σ H, t' Dn σ H → t Dn σ H) : PSs X st t' := ⟨fun pins s σ H Q I q => h.run pins s σ H Q I (i Q σ H q)⟩
section
variable {X : Cx} {G : Gx X.K} {W : WX} {a b e : Expr} {me ma mb : M} {mc : MB} {pos : Pos} {st : Stmt} {sts : List Stmt} {m1 m2 : MS}
def sNil : MS := fun env u => some (.nx env, u)
def sCons (a b : MS) : MS := fun env u => bnd (a env u) fun fl u1 => match fl with
  | .nx env' => b env' u1
  | fl => some (fl, u1)
theorem dss_nil : PSs X [] (tSt G W sNil) := pss_nil.imp fun Dn σ H h => by
  obtain ⟨ua, u, B, env, fl, u', B0, H0, hg, hO, hE, hW, hm, q⟩ := h
  cases hm
  exact q σ B H hg hO hE hW
theorem dss_cons (h1 : PS X st (tSt G W m1)) (h2 : PSs X sts (tSt G W m2)) : PSs X (st :: sts) (tSt G W (sCons m1 m2)) := (pss_cons h1 h2).imp fun Dn σ H h => by
  obtain ⟨ua, u, B, env, fl, u', B0, H0, hg, hO, hE, hW, hm, q⟩ := h
  obtain ⟨f1, u1, c1, c2⟩ := bnd_some hm
  refine ⟨ua, u, B, env, f1, u1, B0, H0, hg, hO, hE, hW, c1, ?_⟩
  cases f1 with
  | nx env' => exact fun σ' B' H' g o e w => ⟨ua, u1, B', env', fl, u', B0, H0, g, o, e, w, c2, q⟩
  | rt d => cases c2; exact q
  | er env' c ns xs => cases c2; exact q
def sSet (i : Nat) (m : M) : MS := fun env u => bnd (m env u) fun d u1 => some (.nx (env.set i (Sl.pub d)), u1)
theorem ds_set (i : Nat) {x : Str} {pos' : Pos} (hN : X.N.Nodup) (he : PE X e (tEv G me)) (hi : X.N[i]? = some x := by rfl) (hx : Loc X.env.scope x := by first | exact Or.inl rfl | exact Or.inr rfl) (hs : swapsWith e (some (.Name x pos')) pos.line X.env = pure false := by rfl)
    (hf : X.fn x = true ∨ X.env.scope.names.lookup x = some .local := by first | exact .inl rfl | exact .inr rfl | assumption) : PS X (.Assign [.Name x pos'] e pos) (tSt G W (sSet i me)) := (ps_set hN hi hx he hs hf).imp fun Dn σ H h => by
  obtain ⟨ua, u, B, env, fl, u', B0, H0, hg, hO, hE, hW, hm, q⟩ := h
  obtain ⟨d, u1, c1, c2⟩ := bnd_some hm
  cases c2
  exact ⟨ua, u, B, env, d, _, hE, hW, c1, fun v H1 ⟨B1, g1, w1, r1⟩ => q _ B1 H1 (hg.trans g1) (hO.set i d v) ((hE.grow g1).set r1 i) w1⟩
/-- a, b = a tuple -/
def sTgt (t : Tgt) (m : M) : MS := fun env u => bnd (m env u) fun d u1 => match bindT t d env with
  | some env' => some (.nx env', u1)
  | none => none
theorem setE_own : ∀ {is : List Nat} {xs : List D} {env : List Sl} (j : Nat) (ds : Oo), (setE env is xs)[j]? = some (Sl.own ds) → xs.length = is.length → env[j]? = some (Sl.own ds) ∧ j ∉ is
  | [], _, _, _, _, h, _ => ⟨h, by simp⟩
  | _ :: _, [], _, _, _, _, hl => by cases hl
  | i :: is, x :: xs, env, j, ds, h, hl => by
    obtain ⟨h1, h2⟩ := setE_own (is := is) (xs := xs) (env := env.set i (Sl.pub x)) j ds h (by simpa using hl)
    rcases get_set h1 with ⟨rfl, q⟩ | ⟨q, h3⟩
    · cases q
    · exact ⟨h3, fun z => by rcases List.mem_cons.mp z with z | z; exact q z; exact h2 z⟩
theorem flatN_len {n : Nat} {d : D} {xs : List D} (h : flatN n d = some xs) : xs.length = n := by
  cases d with
  | tup ys => dsimp only [flatN] at h; split at h; (cases h; assumption); cases h
  | pr ys => dsimp only [flatN] at h; split at h; (cases h; assumption); cases h
  | _ => cases h
theorem flatS_len {n : Nat} {d : D} {xs : List D} (h : flatS n d = some xs) : xs.length = n := by
  cases d with
  | tup ys => dsimp only [flatS] at h; split at h; (cases h; assumption); cases h
  | lst ys => dsimp only [flatS] at h; split at h; (cases h; assumption); cases h
  | pr ys => dsimp only [flatS] at h; split at h; (cases h; assumption); cases h
  | _ => cases h
theorem setT_own : ∀ {ts : List (Nat ⊕ List Nat)} {xs : List D} {env env' : List Sl} (j : Nat) (ds : Oo), setT env ts xs = some env' → env'[j]? = some (Sl.own ds) → env[j]? = some (Sl.own ds) ∧ j ∉ treeIds ts
  | [], [], _, _, _, _, b, h => by cases b; exact ⟨h, by simp [treeIds]⟩
  | [], _ :: _, _, _, _, _, b, _ => by cases b
  | .inl _ :: _, [], _, _, _, _, b, _ => by cases b
  | .inr _ :: _, [], _, _, _, _, b, _ => by cases b
  | .inl i :: ts, x :: xs, env, env', j, ds, b, h => by
    obtain ⟨h1, h2⟩ := setT_own (ts := ts) (xs := xs) (env := env.set i (Sl.pub x)) j ds b h
    rcases get_set h1 with ⟨rfl, q⟩ | ⟨q, h3⟩
    · cases q
    · exact ⟨h3, fun z => by rcases List.mem_cons.mp z with z | z; exact q z; exact h2 z⟩
  | .inr is :: ts, x :: xs, env, env', j, ds, b, h => by
    have b : (match flatN is.length x with | some ys => setT (setE env is ys) ts xs | none => none) = some env' := b
    split at b
    · rename_i ys hf
      obtain ⟨h1, h2⟩ := setT_own (ts := ts) (xs := xs) (env := setE env is ys) j ds b h
      obtain ⟨h3, h4⟩ := setE_own j ds h1 (flatN_len hf)
      exact ⟨h3, fun z => (List.mem_append.mp z).elim h4 h2⟩
    · cases b
theorem bindT_own {t : Tgt} {d : D} {env env' : List Sl} (b : bindT t d env = some env') (j : Nat) (ds : Oo) (h : env'[j]? = some (Sl.own ds)) : env[j]? = some (Sl.own ds) ∧ j ∉ t.ids := by
  cases t with
  | one i =>
    unfold bindT at b; cases b
    rcases get_set h with ⟨rfl, q⟩ | ⟨q, h⟩
    · cases q
    · exact ⟨h, by simp [Tgt.ids, q]⟩
  | many is =>
    cases d with
    | tup xs =>
      dsimp only [bindT] at b
      split at b
      · rename_i hl
        cases b
        show env[j]? = some (Sl.own ds) ∧ j ∉ is
        induction is generalizing env xs with
        | nil => exact ⟨h, by simp⟩
        | cons i is ih =>
          cases xs with
          | nil => cases hl
          | cons x xs =>
            obtain ⟨h1, h2⟩ := ih (env := env.set i (Sl.pub x)) xs (by simpa using hl) h
            rcases get_set h1 with ⟨rfl, q⟩ | ⟨q, h3⟩
            · cases q
            · exact ⟨h3, fun z => by rcases List.mem_cons.mp z with z | z; exact q z; exact h2 z⟩
      · cases b
    | pr xs =>
      dsimp only [bindT] at b
      split at b
      · rename_i hl
        cases b
        show env[j]? = some (Sl.own ds) ∧ j ∉ is
        induction is generalizing env xs with
        | nil => exact ⟨h, by simp⟩
        | cons i is ih =>
          cases xs with
          | nil => cases hl
          | cons x xs =>
            obtain ⟨h1, h2⟩ := ih (env := env.set i (Sl.pub x)) xs (by simpa using hl) h
            rcases get_set h1 with ⟨rfl, q⟩ | ⟨q, h3⟩
            · cases q
            · exact ⟨h3, fun z => by rcases List.mem_cons.mp z with z | z; exact q z; exact h2 z⟩
      · cases b
    | _ => cases b
  | tree ts =>
    unfold bindT at b
    dsimp only at b
    split at b
    · exact setT_own j ds b h
    · cases b
  | sq is =>
    unfold bindT at b
    dsimp only at b
    split at b
    · rename_i xs hf
      cases b
      exact setE_own j ds h (flatS_len hf)
    · cases b
theorem ds_tgt (t : Tgt) {tg : Expr} (he : PE X e (tEv G me)) (hg : PG X tg (gOf X.K t)) (hs : swapsWithSole [tg] e pos.line X.env = pure false := by rfl) (hw : swappedStores [tg] e X.env = pure none := by rfl)
    (h1 : (assignEach [tg] X.env).map (·.2) = [assign tg X.env] := by rfl) : PS X (.Assign [tg] e pos) (tSt G W (sTgt t me)) := (ps_asg he hg hs hw h1).imp fun Dn σ H h => by
  obtain ⟨ua, u, B, env, fl, u', B0, H0, hg, hO, hE, hW, hm, q⟩ := h
  obtain ⟨d, u1, c1, c2⟩ := bnd_some hm
  split at c2
  · rename_i env' hb
    cases c2
    refine ⟨ua, u, B, env, d, _, hE, hW, c1, fun v H1 ⟨B1, g1, w1, r1⟩ => bindT_ok (hE.grow g1) w1 r1 hb fun σ' e' _ hk => q _ B1 H1 (hg.trans g1) (fun j ds p z1 z2 => ?_) e' w1⟩
    obtain ⟨z3, z4⟩ := bindT_own hb j ds z1
    exact hO j ds p z3 (hk j _ z2 z4)
  · cases c2
/-- a, b = x, y -/
def sPar (i j : Nat) (a b : M) : MS := fun env u => bnd (a env u) fun d u1 => bnd (b env u1) fun d2 u2 => some (.nx ((env.set i (Sl.pub d)).set j (Sl.pub d2)), u2)
theorem ds_par (i j : Nat) {x y : Str} {px py pt pt2 : Pos} {kt k2 : Nat} (ha : PE X a (tEv G ma)) (hb : PE X b (tEv G mb)) (h : ∀ {ta : TA}, PA X [a, b] ta → PS X (.Assign [.Tuple [.Name x px, .Name y py] kt pt] (.Tuple [a, b] k2 pt2) pos) (tPar i j ta))
    (hs : starEach (a :: [b]) X.env = (false, eval a X.env) :: starEach [b] X.env := by rfl) (hs2 : starEach (b :: []) X.env = (false, eval b X.env) :: starEach [] X.env := by rfl) :
    PS X (.Assign [.Tuple [.Name x px, .Name y py] kt pt] (.Tuple [a, b] k2 pt2) pos) (tSt G W (sPar i j ma mb)) := (h (pa_cons ha (pa_cons hb pa_nil hs2) hs)).imp fun Dn σ H h => by
  obtain ⟨ua, u, B, env, fl, u', B0, H0, hg, hO, hE, hW, hm, q⟩ := h
  obtain ⟨d, u1, c1, c2⟩ := bnd_some hm
  obtain ⟨d2, u2, c3, c4⟩ := bnd_some c2
  cases c4
  refine ⟨ua, u, B, env, d, u1, hE, hW, c1, fun v H1 ⟨B1, g1, w1, r1⟩ => ⟨ua, u1, B1, env, d2, _, hE.grow g1, w1, c3, fun v2 H2 ⟨B2, g2, w2, r2⟩ => ?_⟩⟩
  exact ⟨v, v2, rfl, q _ B2 H2 (hg.trans (g1.trans g2)) ((hO.set i d v).set j d2 v2) ((((hE.grow g1).grow g2).set (r1.mono _ _ g2.pub) i).set r2 j) w2⟩
def sRet (m : M) : MS := fun env u => bnd (m env u) fun d u1 => some (.rt d, u1)
theorem ds_ret (he : PE X e (tEv G me)) : PS X (.Return (some e) pos) (tSt G W (sRet me)) := (ps_ret he).imp fun Dn σ H h => by
  obtain ⟨ua, u, B, env, fl, u', B0, H0, hg, hO, hE, hW, hm, q⟩ := h
  obtain ⟨d, u1, c1, c2⟩ := bnd_some hm
  cases c2
  exact ⟨ua, u, B, env, d, _, hE, hW, c1, fun v H1 ⟨B1, g1, w1, r1⟩ => q v B1 H1 (hg.trans g1) w1 r1⟩
def sIf (c : MB) (a b : MS) : MS := fun env u => bnd (c env u) fun k u1 => if k = true then a env u1 else b env u1
theorem ds_if {c : Expr} {x y : List Stmt} (hc : PT X c (tTst G mc)) (ha : PSs X x (tSt G W m1)) (hb : PSs X y (tSt G W m2)) : PS X (.If c x y pos) (tSt G W (sIf mc m1 m2)) := (ps_if hc ha hb).imp fun Dn σ H h => by
  obtain ⟨ua, u, B, env, fl, u', B0, H0, hg, hO, hE, hW, hm, q⟩ := h
  obtain ⟨k, u1, c1, c2⟩ := bnd_some hm
  refine ⟨ua, u, B, env, k, u1, hE, hW, c1, fun H1 ⟨B1, g1, w1⟩ => ?_⟩
  cases k with
  | true => rw [if_pos rfl] at c2 ⊢; exact ⟨ua, u1, B1, env, fl, u', B0, H0, hg.trans g1, hO, hE.grow g1, w1, c2, q⟩
  | false => rw [if_neg Bool.false_ne_true] at c2 ⊢; exact ⟨ua, u1, B1, env, fl, u', B0, H0, hg.trans g1, hO, hE.grow g1, w1, c2, q⟩
def sDrop (m : M) : MS := fun env u => bnd (m env u) fun _ u1 => some (.nx env, u1)
/-- a loop; no break, no continue -/
def forL (t : Tgt) (f : MS) : List D → List Sl → U → Option (Fl × U)
  | [], env, u => some (.nx env, u)
  | d :: ds, env, u => match bindT t d env with
    | none => none
    | some env1 => bnd (f env1 u) fun fl u1 => match fl with
      | .nx env2 => forL t f ds env2 u1
      | fl => some (fl, u1)
def sFor (t : Tgt) (mi : MI) (f : MS) : MS := fun env u => bnd (mi env u) fun ds u1 => forL t f ds env u1
theorem Grow.mid {ua : Option Addr} {B0 H0 B1 B2 H1 H2 : Hp} (g1 : Grow ua B0 H0 B1 H1) (g2 : Grow ua B0 H0 B2 H2) (s : Same B1 B2) : Grow ua B1 H0 B2 H2 :=
  ⟨g2.keep, g2.live, s, fun a o h => by
    rcases g2.new a o h with z | z
    · exact .inl (by
        have z1 := g1.pub a o z
        exact z1)
    · exact .inr z⟩
theorem Grow.unmid {ua : Option Addr} {B0 H0 B1 B2 H1 H2 : Hp} (g1 : Grow ua B0 H0 B1 H1) (g2 : Grow ua B1 H0 B2 H2) : Grow ua B0 H0 B2 H2 :=
  ⟨g2.keep, g2.live, fun a o h => g2.pub a o (g1.pub a o h), fun a o h => by
    rcases g2.new a o h with z | z
    · exact g1.new a o z
    · exact .inr z⟩
theorem for_read {t : Tgt} {mi : MI} {Dn : Ends} {σ : L2.St} {H : Hp} (h : tSt G W (sFor t mi m1) Dn σ H) : tFor (tIt G mi) (gOf X.K t) (tSt G W m1) Dn σ H := by
  obtain ⟨ua, u, B, env, fl, u', B0, H0, hg, hO, hE, hW, hm, q⟩ := h
  obtain ⟨ds, u1, c1, c2⟩ := bnd_some hm
  refine ⟨ua, u, B, env, ds, u1, hE, hW, c1, fun J B1 H1 g1 w1 wk => ?_⟩
  have g01 : Grow ua B0 H0 B1 H1 := hg.trans g1
  refine ⟨fun i m σ2 H2 => m = ds.length - i ∧ i ≤ ds.length ∧ ∃ B2 u2 env2, Grow ua B1 H0 B2 H2 ∧ OwnNew env2 σ2 H0 ∧ EnvOk G ua env2 σ2 B2 H2 ∧ Wd ua u2 B2 H2 ∧ forL t m1 (ds.drop i) env2 u2 = some (fl, u'),
    ⟨ds.length, by omega, by omega, B1, u1, env, g01.mid g01 (fun _ _ z => z), hO, hE.grow g1, w1, c2⟩, ?_⟩
  rintro i m σ2 H2 ⟨rfl, hi, B2, u2, env2, g2, o2, e2, w2, hf⟩
  have hk := wk i B2 H2 u2 g2.pub w2
  by_cases hlt : i < ds.length
  · have hd : ds[i]? = some ds[i] := List.getElem?_eq_getElem hlt
    obtain ⟨hgo, hy⟩ := hk.1 _ hd
    rw [List.drop_eq_getElem_cons hlt] at hf
    refine .inr ⟨hgo, fun σ3 H3 => ∃ B3 u3 env3, Grow ua B1 H0 B3 H3 ∧ OwnNew env3 σ3 H0 ∧ EnvOk G ua env3 σ3 B3 H3 ∧ Wd ua u3 B3 H3 ∧ forL t m1 (ds.drop (i + 1)) env3 u3 = some (fl, u'),
      fun σ3 H3 z => ⟨ds.length - (i + 1), by omega, rfl, hlt, z⟩, fun x H3 y => ?_⟩
    obtain ⟨B3, g3, w3, r3⟩ := hy x H3 y
    unfold forL at hf
    split at hf
    · cases hf
    · rename_i env3 hb
      refine bindT_ok (e2.grow g3) w3 r3 hb fun σ3 e3 _ hkk => ?_
      obtain ⟨f1, u3, c3, c4⟩ := bnd_some hf
      have o3 : OwnNew env3 σ3 H0 := fun j es p z1 z2 => by
        obtain ⟨z3, z4⟩ := bindT_own hb j es z1
        exact o2 j es p z3 (hkk j _ z2 z4)
      refine ⟨ua, u2, B3, env3, f1, u3, B1, H0, g2.trans g3, o3, e3, w3, c3, ?_⟩
      cases f1 with
      | nx env4 => exact fun σ4 B4 H4 z1 z2 z3 z4 => ⟨B4, u3, env4, z1, z2, z3, z4, c4⟩
      | rt x =>
        cases c4
        exact fun v B4 H4 z1 z2 z3 => q v B4 H4 (g01.unmid z1) z2 z3
      | er env4 c ns xs =>
        cases c4
        exact fun σ4 B4 H4 cls d z1 z2 z3 z4 z5 => q σ4 B4 H4 cls d (g01.unmid z1) z2 z3 z4 z5
  · have e : i = ds.length := by omega
    subst e
    rw [List.drop_length] at hf
    cases hf
    exact .inl ⟨hk.2 (List.getElem?_eq_none (Nat.le_refl _)), q σ2 B2 H2 (g01.unmid g2) o2 e2 w2⟩
theorem ds_for (t : Tgt) {mi : MI} {tg it : Expr} {body : List Stmt} (hp : PassesOwn (model X.prog X.w) X.A X.env X.xe) (hc : X.calm = true) (hi : PI X tg it (tIt G mi)) (hg : PG X tg (gOf X.K t)) (hb : PSs X body (tSt G W m1)) (hs : ∀ x, foldedSetIterable it X.env x = pure x := by intro _; rfl) :
    PS X (.For tg it body [] pos) (tSt G W (sFor t mi m1)) := (ps_for hp hc hi hg hb hs).imp fun _ _ _ h => for_read h
end
def runB (m : MS) (L : Nat) (ds : List D) (u : U) : Option (D × U) := match m (ds.map Sl.pub ++ List.replicate (L - ds.length) Sl.no) u with
  | some (.rt d, u') => some (d, u')
  | some (.nx _, u') => some (.non, u')
  | _ => none
theorem start_ok {K : PySem.W.Frag} {G : Gx K} {ua : Option Addr} {B H : Hp} {ds : List D} {vs : List V} {N : List Str} (r : Reps G ua ds vs B) : EnvOk G ua (ds.map Sl.pub ++ List.replicate (N.length - ds.length) Sl.no) (L2.start N vs) B H := by
  have hpub : ∀ (i : Nat) x, (ds.map Sl.pub ++ List.replicate (N.length - ds.length) Sl.no)[i]? = some x → (∃ d, ds[i]? = some d ∧ x = Sl.pub d) ∨ x = Sl.no := fun i x h => by
    by_cases hi : i < ds.length
    · rw [List.getElem?_append_left (by rw [List.length_map]; exact hi), List.getElem?_map] at h
      obtain ⟨d, h1, h2⟩ := map_some h
      exact .inl ⟨d, h1, h2.symm⟩
    · rw [List.getElem?_append_right (by rw [List.length_map]; omega), List.getElem?_replicate] at h
      split at h
      · exact .inr (Option.some.inj h).symm
      · cases h
  refine ⟨?_, fun i d h => ?_, fun i es h => ?_, fun i j es fs p h => ?_⟩
  · unfold L2.start
    rw [List.length_append, List.length_append, List.length_map, List.length_map, List.length_replicate, List.length_replicate, r.len]
  · rcases hpub i _ h with ⟨d', h1, h2⟩ | h2
    · cases h2
      obtain ⟨v, h3, h4⟩ := r.get h1
      refine ⟨v, ?_, h4⟩
      unfold L2.start
      rw [List.getElem?_append_left (by rw [List.length_map]; exact lt_of_get h3), List.getElem?_map, h3]; rfl
    · cases h2
  · rcases hpub i _ h with ⟨d', h1, h2⟩ | h2 <;> cases h2
  · rcases hpub i _ h with ⟨d', h1, h2⟩ | h2 <;> cases h2
/-- no error is wished for -/
def W0 : WX := fun _ _ _ _ => False
theorem def_ok {P : Program} {w : World} {K : PySem.W.Frag} {mg : Str → Option Value} {base : Heap} {G : Gx K} {x qual : Str} {st : Stmt} {f : Addr} {fd : FuncData} {N ps : List Str} {k n : Nat} {m : MS} (F : Fun K x qual st f fd) (S : FnScope N ps (defScope st)) (hn : ps.length = n)
    (hb : ∀ (cdv : Value) (A : Around) (outer : List Env) (s : Shared) (H : Hp) (E : XK), Room k (A.deeper (envOfC qual (defScope st) s.heap.objs.size f cdv)) → PSs (cxOf CX0 P w K mg base N qual (defScope st) f cdv A outer s H E).nox (defBody st) (tSt G W0 m)) :
    FnOk P w K mg base CX0 (k + 1) f fd ps (spF G (runB m N.length) n) := by
  refine F.ok S (fun vs H Q E h => ?_) (fun cdv A outer s H vs Q E hr h => ⟨_, hb cdv A outer s H E hr, ?_⟩)
  · obtain ⟨ua, u, B, ds, d, u', r, hl, _⟩ := h
    rw [← r.len, hl, hn]
  · obtain ⟨ua, u, B, ds, d, u', r, hl, hw, hf, q⟩ := h
    unfold runB at hf
    split at hf
    · rename_i d0 u0 hm
      cases hf
      refine ⟨ua, u, B, _, _, _, B, H, .refl, fun i es p z _ => ?_, start_ok r, hw, hm, fun v B' H' g w' r' => q v H' ⟨B', g, w', r'⟩⟩
      obtain ⟨_, _, h1, _⟩ := (start_ok (N := N) (H := H) r).own i es z
      have z2 := (start_ok (N := N) (H := H) r).own i es z
      exfalso
      by_cases hi : i < ds.length
      · rw [List.getElem?_append_left (by rw [List.length_map]; exact hi), List.getElem?_map] at z
        obtain ⟨_, _, h2⟩ := map_some z
        cases h2
      · rw [List.getElem?_append_right (by rw [List.length_map]; omega), List.getElem?_replicate] at z
        split at z <;> cases z
    · rename_i e0 u0 hm
      cases hf
      refine ⟨ua, u, B, _, _, _, B, H, .refl, fun i es p z _ => ?_, start_ok r, hw, hm, fun σ' B' H' g o e w' => q _ H' ⟨B', g, w', rep_non⟩⟩
      exfalso
      by_cases hi : i < ds.length
      · rw [List.getElem?_append_left (by rw [List.length_map]; exact hi), List.getElem?_map] at z
        obtain ⟨_, _, h2⟩ := map_some z
        cases h2
      · rw [List.getElem?_append_right (by rw [List.length_map]; omega), List.getElem?_replicate] at z
        split at z <;> cases z
    · cases hf
end Dv
namespace Dv
open PySem PySem.Spec PyProof.Rows L2
theorem hU64 {A : Around} {k : Nat} (hr : Room k A) : A.units + 64 < cLine := hr.units
theorem hU65 {A : Around} {k : Nat} (hr : Room k A) : A.units + 65 < cLine := by have := hr.un; omega
section
variable {X : Cx} {G : Gx X.K} {W : WX} {e : Expr} {me : M} {pos : Pos}
def isUrn (env : List Sl) (i : Nat) : Bool := match env[i]? with
  | some (.pub .urn) => true
  | _ => false
theorem isUrn_pub {env : List Sl} {i : Nat} (h : isUrn env i = true) : env[i]? = some (.pub .urn) := by
  unfold isUrn at h
  split at h
  · assumption
  · cases h
def mUrn0 (i : Nat) : M := fun env u => if isUrn env i = true then some (.int u.a, u) else none
def mUrn1 (i : Nat) : M := fun env u => if isUrn env i = true then some (.int u.b, u) else none
def mUrn2 (i : Nat) : M := fun env u => if isUrn env i = true then some (.int u.c, u) else none
def sUrn0 (i : Nat) (m : M) : MS := fun env u => bnd (m env u) fun d u1 => match d with
  | .int z => if isUrn env i = true then some (.nx env, { u1 with a := z }) else none
  | _ => none
def sUrn2 (i : Nat) (m : M) : MS := fun env u => bnd (m env u) fun d u1 => match d with
  | .int z => if isUrn env i = true then some (.nx env, { u1 with c := z }) else none
  | _ => none
theorem urn_read {j : Nat} {z : U → Int} {i : Nat} {σ : L2.St} {H : Hp} {Q : VK} (hj : ∀ u : U, ([V.int u.a, .int u.b, .int u.c] : List V)[j]? = some (.int (z u))) (h : tEv G (fun env u => if isUrn env i = true then some (D.int (z u), u) else none) σ H Q) :
    tOp (rIx X.K) (tVar i) (tC (.int (j : Nat))) σ H Q := by
  obtain ⟨ua, u, B, env, d, u', hE, hW, hm, q⟩ := h
  dsimp only at hm
  split at hm
  · rename_i hi
    cases hm
    obtain ⟨v, hv, r⟩ := hE.pub _ _ (isUrn_pub hi)
    unfold Rep at r
    obtain ⟨p, e1, rfl⟩ := r
    have hw := hW.urn p e1
    exact ⟨_, hv, .inl ⟨p, _, _, _, rfl, rfl, .of hw.2, atI_nat (hj u), q _ _ ⟨B, .refl, hW, rep_int⟩⟩⟩
  · cases hm
section
variable {x : Str} {px pc : Pos} {k : Nat}
theorem dv_urn0 (i : Nat) (hN : X.N[i]? = some x := by rfl) (hv : Vis X.env.scope x := by first | exact Or.inl rfl | exact Or.inr (Or.inl rfl) | exact Or.inr (Or.inr rfl)) (hd : (x == ("__debug__" : Str)) = false := by decide)
    (hcd : (x == ("__classdict__" : Str)) = false := by decide) : PE X (.Subscript (.Name x px) (.Constant (.int 0) k pc) pos) (tEv G (mUrn0 i)) := (pe_ix ix_seq (pe_var hN hv hd hcd) pe_int fun _ _ => rfl).imp fun _ _ _ h => urn_read (j := 0) (z := fun u => u.a) (fun _ => rfl) h
theorem dv_urn1 (i : Nat) (hN : X.N[i]? = some x := by rfl) (hv : Vis X.env.scope x := by first | exact Or.inl rfl | exact Or.inr (Or.inl rfl) | exact Or.inr (Or.inr rfl)) (hd : (x == ("__debug__" : Str)) = false := by decide)
    (hcd : (x == ("__classdict__" : Str)) = false := by decide) : PE X (.Subscript (.Name x px) (.Constant (.int 1) k pc) pos) (tEv G (mUrn1 i)) := (pe_ix ix_seq (pe_var hN hv hd hcd) pe_int fun _ _ => rfl).imp fun _ _ _ h => urn_read (j := 1) (z := fun u => u.b) (fun _ => rfl) h
theorem dv_urn2 (i : Nat) (hN : X.N[i]? = some x := by rfl) (hv : Vis X.env.scope x := by first | exact Or.inl rfl | exact Or.inr (Or.inl rfl) | exact Or.inr (Or.inr rfl)) (hd : (x == ("__debug__" : Str)) = false := by decide)
    (hcd : (x == ("__classdict__" : Str)) = false := by decide) : PE X (.Subscript (.Name x px) (.Constant (.int 2) k pc) pos) (tEv G (mUrn2 i)) := (pe_ix ix_seq (pe_var hN hv hd hcd) pe_int fun _ _ => rfl).imp fun _ _ _ h => urn_read (j := 2) (z := fun u => u.c) (fun _ => rfl) h
theorem urn_put {j : Nat} {i : Nat} {f : U → Int → U} {Dn : Ends} {σ : L2.St} {H : Hp} (hj : ∀ (u : U) (z : Int), ([V.int u.a, .int u.b, .int u.c] : List V).set j (.int z) = [V.int (f u z).a, .int (f u z).b, .int (f u z).c]) (hj3 : j < 3)
    (h : tSt G W (fun env u => bnd (me env u) fun d u1 => match d with | .int z => if isUrn env i = true then some (.nx env, f u1 z) else none | _ => none) Dn σ H) :
    tAsg (tEv G me) (gSub (tVar i) (tC (.int (j : Nat))) rSetL) Dn σ H := by
  obtain ⟨ua, u, B, env, fl, u', B0, H0, hg, hO, hE, hW, hm, q⟩ := h
  obtain ⟨d, u1, c1, c2⟩ := bnd_some hm
  refine ⟨ua, u, B, env, d, u1, hE, hW, c1, fun v H1 ⟨B1, g1, w1, r1⟩ => ?_⟩
  split at c2
  · split at c2
    · rename_i z hi
      cases c2
      cases r1.int
      have hE1 := hE.grow g1
      obtain ⟨v, hv, r⟩ := hE1.pub _ _ (isUrn_pub hi)
      unfold Rep at r
      obtain ⟨p, e1, rfl⟩ := r
      have hw := w1.urn p e1
      refine ⟨_, hv, p, _, _, j, rfl, rfl, hw.2, ?_, ?_⟩
      · unfold ixN
        rw [if_pos (by omega), if_pos (by show (j : Int) < ((3 : Nat) : Int); omega)]
        rfl
      · rw [hj]
        have gg := hg.trans g1
        refine q σ B1 _ ⟨fun a o h n => ?_, fun a h => ?_, gg.pub, gg.new⟩ hO ⟨hE1.len, hE1.pub, fun k ds hk => ?_, hE1.inj⟩ ⟨fun a o h => ?_, fun a ha => ?_⟩
        · rw [upd_ne (fun z => n (by rw [z]; exact e1))]; exact gg.keep a o h n
        · refine gg.live a ?_
          by_cases z : a = p
          · subst z; rw [upd_same] at h; cases h
          · rw [upd_ne z] at h; exact h
        · obtain ⟨p2, vs, h1, h2, h3, h4, h5⟩ := hE1.own k ds hk
          refine ⟨p2, vs, h1, ?_, h3, h4, h5⟩
          rw [upd_ne (fun z => h5 (by rw [z]; exact e1))]; exact h2
        · rw [upd_ne (ne_of_none h hw.1)]; exact w1.sub a o h
        · rw [e1] at ha
          cases ha
          exact ⟨hw.1, upd_same⟩
    · cases c2
  · cases c2
theorem ds_urn0 (i : Nat) (he : PE X e (tEv G me)) (hN : X.N[i]? = some x := by rfl) (hv : Vis X.env.scope x := by first | exact Or.inl rfl | exact Or.inr (Or.inl rfl) | exact Or.inr (Or.inr rfl)) (hd : (x == ("__debug__" : Str)) = false := by decide) (hcd : (x == ("__classdict__" : Str)) = false := by decide)
    (hs : swapsWithSole [.Subscript (.Name x px) (.Constant (.int 0) k pc) pos] e pos.line X.env = pure false := by rfl) {pos2 : Pos} (hs : swapsWithSole [.Subscript (.Name x px) (.Constant (.int 0) k pc) pos] e pos2.line X.env = pure false := by rfl) (hw : swappedStores [.Subscript (.Name x px) (.Constant (.int 0) k pc) pos] e X.env = pure none := by rfl) :
    PS X (.Assign [.Subscript (.Name x px) (.Constant (.int 0) k pc) pos] e pos2) (tSt G W (sUrn0 i me)) := (ps_asg he (pg_sub (pe_var hN hv hd hcd) pe_int set_list) hs hw).imp fun _ _ _ h => urn_put (j := 0) (f := fun u z => { u with a := z }) (fun _ _ => rfl) (by decide) h
theorem ds_urn2 (i : Nat) (he : PE X e (tEv G me)) (hN : X.N[i]? = some x := by rfl) (hv : Vis X.env.scope x := by first | exact Or.inl rfl | exact Or.inr (Or.inl rfl) | exact Or.inr (Or.inr rfl)) (hd : (x == ("__debug__" : Str)) = false := by decide) (hcd : (x == ("__classdict__" : Str)) = false := by decide)
    {pos2 : Pos} (hs : swapsWithSole [.Subscript (.Name x px) (.Constant (.int 2) k pc) pos] e pos2.line X.env = pure false := by rfl) (hw : swappedStores [.Subscript (.Name x px) (.Constant (.int 2) k pc) pos] e X.env = pure none := by rfl) :
    PS X (.Assign [.Subscript (.Name x px) (.Constant (.int 2) k pc) pos] e pos2) (tSt G W (sUrn2 i me)) := (ps_asg he (pg_sub (pe_var hN hv hd hcd) pe_int set_list) hs hw).imp fun _ _ _ h => urn_put (j := 2) (f := fun u z => { u with c := z }) (fun _ _ => rfl) (by decide) h
end
def DefK (P : Program) (w : World) {K : PySem.W.Frag} (mg : Str → Option Value) (base : Heap) (G : Gx K) (x : Str) (ks : List Str) (k : Nat) (F : List D → U → Option (D × U)) : Prop :=
  ∃ f fd, FnOk P w K mg base CX0 k f fd ks (spF G F ks.length) ∧ mg x = some (.ref f) ∧ PySem.W.keepIn K (.ref f) = true ∧ ∀ (s : Shared) (ws : List Value), K.In s.heap → ws.length = ks.length → BindsTo s fd ⟨[], ks.zip ws⟩ (ks.zip ws)
theorem DefK.mono {P : Program} {w : World} {K : PySem.W.Frag} {mg : Str → Option Value} {base : Heap} {G : Gx K} {x : Str} {ks : List Str} {j k : Nat} {F : List D → U → Option (D × U)} (h : DefK P w mg base G x ks j F) (l : j ≤ k) : DefK P w mg base G x ks k F := by
  obtain ⟨f, fd, h1, h2⟩ := h
  exact ⟨f, fd, h1.mono l, h2⟩
variable {kws : List Keyword} {ms : Ms} {kpos p : Pos} {nm : Option Str}
theorem dks_nil : PK X [] (tEvs G mNil) := ⟨fun pos pins s σ H Q I h => by
  obtain ⟨ua, u, B, env, ds, u', hE, hW, hm, q⟩ := h
  cases hm
  exact pk_nil.run pos pins s σ H Q I (q [] H ⟨B, .refl, hW, .nil⟩)⟩
theorem dks_cons (ha : PE X e (tEv G me)) (hr : PK X kws (tEvs G ms)) : PK X (⟨nm, e, kpos⟩ :: kws) (tEvs G (mCons me ms)) := ⟨fun pos pins s σ H Q I h => by
  obtain ⟨ua, u, B, env, ds, u', hE, hW, hm, q⟩ := h
  obtain ⟨d, u1, h1, h2⟩ := bnd_some hm
  obtain ⟨ds', u2, h4, h3⟩ := bnd_some h2
  cases h3
  refine (pk_cons ha hr).run pos pins s σ H Q I ⟨ua, u, B, env, d, u1, hE, hW, h1, fun v H1 ⟨B1, g1, w1, r1⟩ => ⟨ua, u1, B1, env, ds', _, hE.grow g1, w1, h4, fun vs H2 ⟨B2, g2, w2, r2⟩ => q _ _ ⟨B2, g1.trans g2, w2, .cons (r1.mono _ _ g2.pub) r2⟩⟩⟩⟩
/-- C(d): a new instance with the fields that mk tells -/
def MakeOk (P : Program) (w : World) {K : PySem.W.Frag} (mg : Str → Option Value) (base : Heap) (G : Gx K) (x : Str) (k n : Nat) (F : List D → U → Option (D × U)) : Prop :=
  ∃ C f fd ps sp ds dvs, Mk K C f ∧ FnOk P w K mg base CX0 k f fd ps sp ∧ mg x = some (.ref C) ∧ Binds K fd ps ds ∧ Vals dvs ds ∧
    ∀ (ua : Option Addr) (u u' : U) (B H : Hp) (as : List D) (vs : List V) (d : D), as.length = n → F as u = some (d, u') → Reps G ua as vs B → Wd ua u B H → ∀ (y dx : Addr), H y = none → H dx = none → dx ≠ y →
      ∀ Q : VK, (∀ H', Aft G ua B H u' d (.ref y) H' → Q (.ref y) H') → sp (.ref y :: (vs ++ dvs)) (upd (upd H dx (.own y)) y (.ins C dx [])) (fun v H2 => v = .non ∧ Q (.ref y) H2) E0
theorem MakeOk.mono {P : Program} {w : World} {K : PySem.W.Frag} {mg : Str → Option Value} {base : Heap} {G : Gx K} {x : Str} {j k n : Nat} {F : List D → U → Option (D × U)} (h : MakeOk P w mg base G x j n F) (l : j ≤ k) : MakeOk P w mg base G x k n F := by
  obtain ⟨C, f, fd, ps, sp, ds, dvs, h1, h2, h3⟩ := h
  exact ⟨C, f, fd, ps, sp, ds, dvs, h1, h2.mono l, h3⟩
end
end Dv
namespace Dv
open PySem PySem.Spec PyProof.Rows L2
section
variable {X : Cx} {G : Gx X.K} {W : WX}
theorem dv_gS {x : Str} {z : Str} {pos : Pos} (hg : Gl X x) (hm : ∃ t, X.mg x = some (.str z t)) (hd : (x == ("__debug__" : Str)) = false := by decide) : PE X (.Name x pos) (tEv G (mC (.str z))) := by
  obtain ⟨t, hm⟩ := hm
  exact dv_globS hg hm hd
end
end Dv
namespace Dv
open PySem PySem.Spec PyProof.Rows L2
section
variable {env env' : List Sl} {u u1 u2 u3 : U} {m a b : M} {ms : Ms} {mi : MI} {mc na nb : MB} {me : M} {p q : MS} {d x y z : D} {ds r : List D} {i n : Nat} {fl : Fl} {k : Bool}
theorem runB_rt {m : MS} {L : Nat} (h : m (ds.map Sl.pub ++ List.replicate (L - ds.length) Sl.no) u = some (.rt d, u1)) : runB m L ds u = some (d, u1) := by
  unfold runB; rw [h]
theorem sc_nx (h : p env u = some (.nx env', u1)) (h2 : q env' u1 = some (fl, u2)) : sCons p q env u = some (fl, u2) := by
  unfold sCons; rw [h]; exact h2
theorem sc_rt (h : p env u = some (.rt d, u1)) : sCons p q env u = some (.rt d, u1) := by
  unfold sCons; rw [h]; rfl
theorem sSet_eq (h : m env u = some (d, u1)) : sSet i m env u = some (.nx (env.set i (Sl.pub d)), u1) := by
  unfold sSet; rw [h]; rfl
theorem sTgt_eq {t : Tgt} (h : m env u = some (d, u1)) (h2 : bindT t d env = some env') : sTgt t m env u = some (.nx env', u1) := by
  unfold sTgt; rw [h]; show (match bindT t d env with | some env' => some (Fl.nx env', u1) | none => none) = _; rw [h2]
theorem sPar_eq {j : Nat} (h : a env u = some (x, u1)) (h2 : b env u1 = some (y, u2)) : sPar i j a b env u = some (.nx ((env.set i (Sl.pub x)).set j (Sl.pub y)), u2) := by
  unfold sPar; rw [h]; show bnd (b env u1) _ = _; rw [h2]; rfl
theorem sRet_eq (h : m env u = some (d, u1)) : sRet m env u = some (.rt d, u1) := by
  unfold sRet; rw [h]; rfl
theorem sIf_t (h : mc env u = some (true, u1)) (h2 : p env u1 = some (fl, u2)) : sIf mc p q env u = some (fl, u2) := by
  unfold sIf; rw [h]; exact h2
theorem sIf_f (h : mc env u = some (false, u1)) (h2 : q env u1 = some (fl, u2)) : sIf mc p q env u = some (fl, u2) := by
  unfold sIf; rw [h]; exact h2
theorem mCons_eq (h : m env u = some (x, u1)) (h2 : ms env u1 = some (ds, u2)) : mCons m ms env u = some (x :: ds, u2) := by
  unfold mCons; rw [h]; show bnd (ms env u1) _ = _; rw [h2]; rfl
theorem mNil_eq : mNil env u = some ([], u) := rfl
theorem mLst_eq (h : ms env u = some (ds, u1)) (hl : ds.length ≤ sizeLine) : mLst ms env u = some (.lst ds, u1) := by
  unfold mLst; rw [h]; exact if_pos hl
theorem mTup_eq (h : ms env u = some (ds, u1)) (hl : ds.length ≤ sizeLine) : mTup ms env u = some (.tup ds, u1) := by
  unfold mTup; rw [h]; exact if_pos hl
theorem mBin_eq {f : D → D → Option D} (h : a env u = some (x, u1)) (h2 : b env u1 = some (y, u2)) (h3 : f x y = some z) : mBin f a b env u = some (z, u2) := by
  unfold mBin; rw [h]; show bnd (b env u1) _ = _; rw [h2]; show lft (f x y) u2 = _; rw [h3]; rfl
theorem mBi_eq {f : List D → Option D} (h : ms env u = some (ds, u1)) (h2 : f ds = some d) : mBi f ms env u = some (d, u1) := by
  unfold mBi; rw [h]; show lft (f ds) u1 = _; rw [h2]; rfl
theorem mCall_eq {F : List D → U → Option (D × U)} (h : ms env u = some (ds, u1)) (hl : ds.length = n) (h2 : F ds u1 = some (d, u2)) : mCall n F ms env u = some (d, u2) := by
  unfold mCall; rw [h]; show (if ds.length = n then F ds u1 else none) = _; rw [if_pos hl]; exact h2
theorem mTru_eq (h : a env u = some (x, u1)) (h2 : truD x = some k) : mTru a env u = some (k, u1) := by
  unfold mTru; rw [h]; show lft (truD x) u1 = _; rw [h2]; rfl
theorem mNotB_eq (h : na env u = some (k, u1)) : mNotB na env u = some (!k, u1) := by
  unfold mNotB; rw [h]; rfl
theorem mAndB_t (h : na env u = some (true, u1)) (h2 : nb env u1 = some (k, u2)) : mAndB na nb env u = some (k, u2) := by
  unfold mAndB; rw [h]; exact h2
theorem mAndB_f (h : na env u = some (false, u1)) : mAndB na nb env u = some (false, u1) := by
  unfold mAndB; rw [h]; rfl
theorem mOrB_t (h : na env u = some (true, u1)) : mOrB na nb env u = some (true, u1) := by
  unfold mOrB; rw [h]; rfl
theorem mOrB_f (h : na env u = some (false, u1)) (h2 : nb env u1 = some (k, u2)) : mOrB na nb env u = some (k, u2) := by
  unfold mOrB; rw [h]; exact h2
theorem mAnd_t (h : a env u = some (x, u1)) (ht : truD x = some true) (h2 : b env u1 = some (y, u2)) : mAnd a b env u = some (y, u2) := by
  unfold mAnd; rw [h]; show bnd (lft (truD x) u1) _ = _; rw [ht]; exact h2
theorem mNot_eq (h : a env u = some (x, u1)) (ht : truD x = some k) : mNot a env u = some (.bl (!k), u1) := by
  unfold mNot; rw [h]; show bnd (lft (truD x) u1) _ = _; rw [ht]; rfl
theorem mIte_t (h : na env u = some (true, u1)) (h2 : a env u1 = some (d, u2)) : mIte na a b env u = some (d, u2) := by
  unfold mIte; rw [h]; exact h2
theorem mIte_f (h : na env u = some (false, u1)) (h2 : b env u1 = some (d, u2)) : mIte na a b env u = some (d, u2) := by
  unfold mIte; rw [h]; exact h2
theorem mSl_eq {lo hi : MO} {l h' : Option Int} (h : a env u = some (x, u1)) (h2 : lo env u1 = some (l, u2)) (h3 : hi env u2 = some (h', u3)) (h4 : slD x l h' = some z) : mSl a lo hi env u = some (z, u3) := by
  unfold mSl; rw [h]; show bnd (lo env u1) _ = _; rw [h2]; show bnd (hi env u2) _ = _; rw [h3]; show lft (slD x l h') u3 = _; rw [h4]; rfl
theorem moAt_eq {i : Int} (h : a env u = some (.int i, u1)) : moAt a env u = some (some i, u1) := by
  unfold moAt; rw [h]; rfl
theorem mIsi_eq {ts : List String} (h : a env u = some (x, u1)) (h2 : isiD x ts = some k) : mIsi ts a env u = some (.bl k, u1) := by
  unfold mIsi; rw [h]; show lft ((isiD x ts).map D.bl) u1 = _; rw [h2]; rfl
theorem mLc_eq {t : Tgt} {own : List Nat} (h : mi env u = some (ds, u1)) (h2 : compL (turnL t own env mc me) ds u1 = some (r, u2)) (hl : r.length ≤ sizeLine) : mLc t own mi mc me env u = some (.lst r, u2) := by
  unfold mLc; rw [h]; show bnd (compL (turnL t own env mc me) ds u1) _ = _; rw [h2]; exact if_pos hl
theorem mItems_eq (h : a env u = some (x, u1)) (h2 : itemsD x = some ds) : mItems a env u = some (ds, u1) := by
  unfold mItems; rw [h]; show lft (itemsD x) u1 = _; rw [h2]; rfl
theorem mRange1_eq {j : Int} (h : a env u = some (.int j, u1)) (h2 : -(2 ^ 62) ≤ j ∧ j < 2 ^ 62) : mRange1 a env u = some (rangeD 0 j.toNat, u1) := by
  unfold mRange1; rw [h]; exact if_pos h2
theorem turnL_eq {t : Tgt} {own : List Nat} (h : bindT t d (wipeE env own) = some env') (h2 : me env' u = some (x, u1)) : turnL t own env mYes me d u = some (some x, u1) := by
  unfold turnL; rw [h]; show bnd (me env' u) _ = _; rw [h2]; rfl
theorem turnL_c {t : Tgt} {own : List Nat} (h : bindT t d (wipeE env own) = some env') (hc : mc env' u = some (true, u1)) (h2 : me env' u1 = some (x, u2)) : turnL t own env mc me d u = some (some x, u2) := by
  unfold turnL; rw [h]; show bnd (mc env' u) _ = _; rw [hc]; show bnd (me env' u1) _ = _; rw [h2]; rfl
theorem turnL_n {t : Tgt} {own : List Nat} (h : bindT t d (wipeE env own) = some env') (hc : mc env' u = some (false, u1)) : turnL t own env mc me d u = some (none, u1) := by
  unfold turnL; rw [h]; show bnd (mc env' u) _ = _; rw [hc]; rfl
theorem sFor_eq {t : Tgt} (h : mi env u = some (ds, u1)) (h2 : forL t p ds env u1 = some (fl, u2)) : sFor t mi p env u = some (fl, u2) := by
  unfold sFor; rw [h]; exact h2
end
end Dv
namespace Dv
open PySem PySem.Spec PyProof.Rows L2
def cntS (x : Str) : List Str → Nat
  | [] => 0
  | y :: r => if y = x then cntS x r + 1 else cntS x r
/-- a dict of texts and numbers: what it holds -/
structure Tally (seen : List Str) (kvs : List (Key × V)) : Prop where
  val : ∀ x : Str, valV kvs (Sum.inr x) = if cntS x seen = 0 then none else some (.int (cntS x seen))
  len : kvs.length ≤ seen.length
theorem Tally.nil : Tally [] [] := ⟨fun _ => rfl, Nat.le_refl _⟩
theorem Tally.getD {seen : List Str} {kvs : List (Key × V)} (t : Tally seen kvs) (x : Str) : (valV kvs (Sum.inr x)).getD (.int 0) = .int (cntS x seen) := by
  rw [t.val]
  by_cases h : cntS x seen = 0
  · rw [if_pos h, h]; rfl
  · rw [if_neg h]; rfl
theorem Tally.put {seen : List Str} {kvs : List (Key × V)} (t : Tally seen kvs) (x : Str) : Tally (x :: seen) (putK kvs (Sum.inr x) (.int ((cntS x seen : Nat) + 1 : Int))) := by
  refine ⟨fun y => ?_, Nat.le_trans (length_putK _ _ _) (Nat.add_le_add_right t.len 1)⟩
  rw [valV_put]
  by_cases e : y = x
  · subst e
    rw [if_pos rfl]
    have : cntS y (y :: seen) = cntS y seen + 1 := if_pos rfl
    rw [this, if_neg (Nat.succ_ne_zero _)]; rfl
  · have h1 : ¬ (Sum.inr y : Key) = Sum.inr x := fun z => e (Sum.inr.inj z)
    have h2 : cntS y (x :: seen) = cntS y seen := if_neg fun z => e z.symm
    rw [if_neg h1, h2, t.val]
end Dv
namespace Dv
open PySem PySem.Spec PyProof.Rows L2
/-- the property f of the class c does F -/
def PrpOk (P : Program) (w : World) {K : PySem.W.Frag} (mg : Str → Option Value) (base : Heap) (G : Gx K) (c f : Str) (k : Nat) (F : List D → U → Option (D × U)) : Prop :=
  ∃ C p g fd ps, G.cls c = some C ∧ Cls K C ∧ PropOf K C f p g ∧ FnOk P w K mg base CX0 k g fd ps (spF G F 1) ∧ Binds K fd ps []
theorem PrpOk.mono {P : Program} {w : World} {K : PySem.W.Frag} {mg : Str → Option Value} {base : Heap} {G : Gx K} {c f : Str} {j k : Nat} {F : List D → U → Option (D × U)} (h : PrpOk P w mg base G c f j F) (l : j ≤ k) : PrpOk P w mg base G c f k F := by
  obtain ⟨C, p, g, fd, ps, h1, h2, h3, h4, h5⟩ := h
  exact ⟨C, p, g, fd, ps, h1, h2, h3, h4.mono l, h5⟩
end Dv
namespace Dv
open PySem PySem.Spec PyProof.Rows L2
/-- the special method of the class c does F -/
def SpcOk (P : Program) (w : World) {K : PySem.W.Frag} (mg : Str → Option Value) (base : Heap) (G : Gx K) (c name : Str) (k n : Nat) (F : List D → U → Option (D × U)) : Prop :=
  ∃ C f fd ps, G.cls c = some C ∧ PySem.W.findIn K (.ref C) name = some (some (.ref f)) ∧ PySem.W.isFn K (.ref f) = true ∧ PySem.W.fnIn K f = true ∧ FnOk P w K mg base CX0 k f fd ps (spF G F n) ∧ Binds K fd ps []
theorem SpcOk.mono {P : Program} {w : World} {K : PySem.W.Frag} {mg : Str → Option Value} {base : Heap} {G : Gx K} {c name : Str} {j k n : Nat} {F : List D → U → Option (D × U)} (h : SpcOk P w mg base G c name j n F) (l : j ≤ k) : SpcOk P w mg base G c name k n F := by
  obtain ⟨C, f, fd, ps, h1, h2, h3, h4, h5, h6⟩ := h
  exact ⟨C, f, fd, ps, h1, h2, h3, h4, h5.mono l, h6⟩
end Dv
namespace Dv
open PySem PySem.Spec PyProof.Rows L2
end Dv
namespace Dv
open PySem PySem.Spec PyProof.Rows L2
end Dv
namespace Dv
open PySem PySem.Spec PyProof.Rows L2
end Dv
namespace Dv
open PySem PySem.Spec PyProof.Rows L2
end Dv
namespace Dv
open PySem PySem.Spec PyProof.Rows L2
end Dv
namespace Dv
open PySem PySem.Spec PyProof.Rows L2
end Dv
namespace Dv
open PySem PySem.Spec PyProof.Rows L2
section
variable {K : PySem.W.Frag} {G : Gx K} {ua : Option Addr} {u : U} {env : List Sl} {σ : List (Option V)} {B H H0 : Hp} {i : Nat} {o o' : Oo} {l : Addr} {ho ho' : HO} {d : D}
theorem OwnNew.pub (h : OwnNew env σ H0) (i : Nat) (d : D) : OwnNew (env.set i (.pub d)) σ H0 := fun j es p' h1 h2 => by
  rcases get_set h1 with ⟨_, z⟩ | ⟨_, h1'⟩
  · cases z
  · exact h j es p' h1' h2
/-- one's own thing is shown -/
theorem EnvOk.show (e : EnvOk G ua env σ B H) (hi : env[i]? = some (.own o)) (hs : σ[i]? = some (some (.ref l))) (hb : B l = none) (r : Rep G ua d (.ref l) (upd B l ho')) : EnvOk G ua (env.set i (.pub d)) σ (upd B l ho') (upd H l ho') := by
  have sB : Same B (upd B l ho') := same_new hb
  refine ⟨by rw [List.length_set]; exact e.len, fun j x hj => ?_, fun j x hj => ?_, fun j k x y p a1 a2 a3 a4 => ?_⟩
  · rcases get_set hj with ⟨rfl, z⟩ | ⟨_, hj⟩
    · cases z
      exact ⟨_, hs, r⟩
    · obtain ⟨v, b1, b2⟩ := e.pub j x hj
      exact ⟨v, b1, b2.mono _ _ sB⟩
  · rcases get_set hj with ⟨_, z⟩ | ⟨hne, hj⟩
    · cases z
    · obtain ⟨p, ws, b1, b2, b3, b4, b5⟩ := e.own j x hj
      have np : p ≠ l := fun z => hne (by subst z; exact e.inj j i x o p hj hi b1 hs)
      exact ⟨p, ws, b1, by rw [upd_ne np]; exact b2, by rw [upd_ne np]; exact b3, b4.mono sB, b5⟩
  · rcases get_set a1 with ⟨_, z⟩ | ⟨_, a1⟩
    · cases z
    · rcases get_set a2 with ⟨_, z⟩ | ⟨_, a2⟩
      · cases z
      · exact e.inj j k x y p a1 a2 a3 a4
/-- what is shown: a list as it is, a dict frozen -/
def ooD : Oo → D
  | .lst ds => .lst ds
  | .dct ks ds => .dct ks ds
  | .dtt ks ds => .dtt ks ds
  | .dtn ks ds => .dtn ks ds
def isDk : Oo → Bool
  | .dct _ _ => true
  | _ => false
theorem RepO.show (r : RepO G ua o ho B) (hb : B l = none) : (isDk o = false ∧ Rep G ua (ooD o) (.ref l) (upd B l ho)) ∨ ∃ ks ds, o = .dct ks ds ∧ Mut (some ho) ∧ ∀ od, Rep G ua (.dct ks ds) (.ref l) (upd B l (.frz od ho)) := by
  cases o with
  | lst ds =>
    obtain ⟨vs, rfl, rs⟩ := r
    refine .inl ⟨rfl, ?_⟩
    unfold ooD Rep
    exact ⟨l, vs, rfl, upd_same, rs.mono _ _ (same_new hb)⟩
  | dtt ks ds =>
    obtain ⟨vs, hd, rs⟩ := r
    refine .inl ⟨rfl, ?_⟩
    unfold ooD Rep
    exact ⟨l, vs, ho, rfl, upd_same, hd.mono (same_new hb), rs.mono _ _ (same_new hb)⟩
  | dtn ks ds =>
    obtain ⟨vs, hd, rs⟩ := r
    refine .inl ⟨rfl, ?_⟩
    unfold ooD Rep
    exact ⟨l, vs, ho, rfl, upd_same, hd.mono (same_new hb), rs.mono _ _ (same_new hb)⟩
  | dct ks ds =>
    obtain ⟨vs, rfl, hl, rs, _⟩ := r
    refine .inr ⟨ks, ds, rfl, trivial, fun od => ?_⟩
    unfold Rep
    exact ⟨l, vs, rfl, ⟨od, upd_same⟩, hl, rs.mono _ _ (same_new hb)⟩
end
abbrev MSl := List Sl → U → Option (Sl × U)
section
variable {K : PySem.W.Frag} (G : Gx K)
/-- v stands for s; Hs: the heap from which it came -/
def SlR (ua : Option Addr) (Hs : Hp) : Sl → V → Hp → Hp → Prop
  | .pub d => fun v B _ => Rep G ua d v B
  | .own o => fun v B H => ∃ p ho, v = .ref p ∧ Hs p = none ∧ H p = some ho ∧ B p = none ∧ ua ≠ some p ∧ RepO G ua o ho B
  | .no => fun _ _ _ => False
def AftS (ua : Option Addr) (B H : Hp) (u' : U) (s : Sl) : V → Hp → Prop := fun v H' => ∃ B', Grow ua B H B' H' ∧ Wd ua u' B' H' ∧ SlR G ua H s v B' H'
end
section
variable {K : PySem.W.Frag} {G : Gx K} {ua : Option Addr} {u u' : U} {env : List Sl} {σ : List (Option V)} {B H B1 H1 H0 B0 Hs : Hp} {i : Nat} {s : Sl} {v : V}
theorem SlR.grow (r : SlR G ua Hs s v B H) (g : Grow ua B H B1 H1) : SlR G ua Hs s v B1 H1 := by
  cases s with
  | no => exact r.elim
  | pub d => exact Rep.mono _ _ g.pub r
  | own o =>
    obtain ⟨p, ho, e, h1, h2, h3, h4, h5⟩ := r
    exact ⟨p, ho, e, h1, g.keep _ _ h2 h4, g.none_of h2 h3, h4, h5.mono g.pub⟩
end
end Dv
namespace Dv
open PySem PySem.Spec PyProof.Rows L2
end Dv
namespace Dv
open PySem PySem.Spec PyProof.Rows L2
end Dv
namespace Dv
open PySem PySem.Spec PyProof.Rows L2
def txtOf (e : Int × Value) : Str := match e.2 with
  | .str x _ => x
  | _ => Str.ofString ""
def TxtE (w : World) (e : Int × Value) : Prop := ∃ x tk, e.2 = Value.str x tk ∧ e.1 = hashStr w x
/-- at a: the set of the texts ks; its table can be walked -/
def TxtSet (w : World) (h : Heap) (a : Addr) (ks : List Str) : Prop := ∃ o es ep t, h.get? a = some o ∧ o.ExactSet ∧ o.data = .set es ep t ∧ (∀ e ∈ es.toList, TxtE w e) ∧ (es.toList.map txtOf).Perm ks ∧ ks.Nodup ∧
  es.size < scanBound ∧ t.fits es.size = true ∧ Ris t.place.toList ∧ (w.params.followText "set-order" = true ∨ t.led = true)
section
variable {P : Program} {w : World} {A : Around} {E : Value → Shared → Prop} {s : Shared} {h h' : Heap} {a : Addr} {ks : List Str}
theorem TxtSet.at (R : TxtSet w h a ks) (k : ∀ o, h.get? a = some o → h'.get? a = some o) : TxtSet w h' a ks := by
  obtain ⟨o, es, ep, t, ho, r⟩ := R
  exact ⟨o, es, ep, t, k o ho, r⟩
end
end Dv
namespace Dv
open PySem PySem.Spec PyProof.Rows L2
end Dv
namespace Dv
open PySem PySem.Spec PyProof.Rows L2
end Dv
namespace PySem
open Builtin
end PySem
namespace PySem
open Builtin
end PySem
namespace Dv
open PySem PySem.Spec PyProof.Rows L2
theorem TupB.inj {H : Hp} {a : Addr} {xs ys : List V} (h : TupB H a xs) (h' : TupB H a ys) : xs = ys := by
  obtain ⟨o, _, e⟩ := h
  obtain ⟨o', _, e'⟩ := h'
  rw [e] at e'
  cases e'
  rfl
end Dv
namespace Dv
open PySem PySem.Spec PyProof.Rows L2
/-- what a def gives -/
inductive R where
  | ok (d : D) | er (c : Str) (ns : List Str) (xs : List D)
abbrev MX := List Sl → U → Option (R × U)
def AftE {K : PySem.W.Frag} (G : Gx K) (ua : Option Addr) (B H : Hp) (u' : U) (c : Str) (ns : List Str) (xs : List D) : Value → Option Addr → Hp → Prop := fun cls d H' => ∃ B', Grow ua B H B' H' ∧ Wd ua u' B' H' ∧ ErR G ua c ns xs cls d B'
theorem AftE.up {K : PySem.W.Frag} {G : Gx K} {ua : Option Addr} {B H B1 H1 H' : Hp} {u' : U} {c : Str} {ns : List Str} {xs : List D} {cls : Value} {d : Option Addr} (g : Grow ua B H B1 H1) (a : AftE G ua B1 H1 u' c ns xs cls d H') : AftE G ua B H u' c ns xs cls d H' := by
  obtain ⟨B', g', w, r⟩ := a
  exact ⟨B', g.trans g', w, r⟩
def OutR {K : PySem.W.Frag} (G : Gx K) (ua : Option Addr) (B H : Hp) (u' : U) (Q : VK) (E : XK) : R → Prop
  | .ok d => ∀ v H', Aft G ua B H u' d v H' → Q v H'
  | .er c ns xs => ∀ cls d H', AftE G ua B H u' c ns xs cls d H' → E cls d H'
theorem OutR.up {K : PySem.W.Frag} {G : Gx K} {ua : Option Addr} {B H B1 H1 : Hp} {u' : U} {Q : VK} {E : XK} {r : R} (g : Grow ua B H B1 H1) (a : OutR G ua B H u' Q E r) : OutR G ua B1 H1 u' Q E r := by
  cases r with
  | ok d => exact fun v H' z => a v H' (.up g z)
  | er c ns xs => exact fun cls d H' z => a cls d H' (.up g z)
theorem OutR.imp {K : PySem.W.Frag} {G : Gx K} {ua : Option Addr} {B H : Hp} {u' : U} {Q Q' : VK} {E E' : XK} {r : R} (a : OutR G ua B H u' Q E r) (q : ∀ v H', Q v H' → Q' v H') (e : ∀ c d H', E c d H' → E' c d H') : OutR G ua B H u' Q' E' r := by
  cases r with
  | ok d => exact fun v H' z => q _ _ (a v H' z)
  | er c ns xs => exact fun cls d H' z => e _ _ _ (a cls d H' z)
def spX {K : PySem.W.Frag} (G : Gx K) (F : List D → U → Option (R × U)) (n : Nat) : Sp := fun vs H Q E => ∃ ua u B ds r u', Reps G ua ds vs B ∧ ds.length = n ∧ Wd ua u B H ∧ F ds u = some (r, u') ∧ OutR G ua B H u' Q E r
def DefOkX (P : Program) (w : World) {K : PySem.W.Frag} (mg : Str → Option Value) (base : Heap) (G : Gx K) (x : Str) (k n : Nat) (F : List D → U → Option (R × U)) : Prop :=
  ∃ f fd ps, FnOk P w K mg base (L2.CX P w) k f fd ps (spX G F n) ∧ mg x = some (.ref f) ∧ PySem.W.keepIn K (.ref f) = true ∧ Binds K fd ps []
theorem DefOkX.mono {P : Program} {w : World} {K : PySem.W.Frag} {mg : Str → Option Value} {base : Heap} {G : Gx K} {x : Str} {j k n : Nat} {F : List D → U → Option (R × U)} (h : DefOkX P w mg base G x j n F) (l : j ≤ k) : DefOkX P w mg base G x k n F := by
  obtain ⟨f, fd, ps, h1, h2⟩ := h
  exact ⟨f, fd, ps, h1.mono l, h2⟩
/-- where it doesn't raise -/
def okF (F : List D → U → Option (R × U)) : List D → U → Option (D × U) := fun ds u => match F ds u with
  | some (.ok d, u') => some (d, u')
  | _ => none
theorem okF_some {F : List D → U → Option (R × U)} {ds : List D} {u u' : U} {d : D} (h : okF F ds u = some (d, u')) : F ds u = some (.ok d, u') := by
  unfold okF at h
  split at h
  · cases h; assumption
  · cases h
theorem fn_calm {P : Program} {w : World} {K : PySem.W.Frag} {mg : Str → Option Value} {base : Heap} {G : Gx K} {k n : Nat} {f : Addr} {fd : FuncData} {ps : List Str} {F : List D → U → Option (R × U)} (h : FnOk P w K mg base (L2.CX P w) k f fd ps (spX G F n)) :
    FnOk P w K mg base CX0 k f fd ps (spF G (okF F) n) := by
  have key : ∀ {vs H Q E}, spF G (okF F) n vs H Q E → spX G F n vs H Q (fun _ _ _ => False) := fun ⟨ua, u, B, ds, d, u', r, l, w, e, q⟩ => ⟨ua, u, B, ds, .ok d, u', r, l, w, okF_some e, q⟩
  refine ⟨fun vs H Q E z => h.len _ _ _ _ (key z), fun A outer s H args us vs Q E hr he hb hv z => codeAny_mono (h.run A outer s H args us vs Q _ hr he hb hv (key z)) fun r s' c => ?_⟩
  cases r with
  | ok fl => cases fl <;> exact c
  | error e =>
    obtain ⟨_, _, _, _, _, _, _, _, _, _, _, _, z⟩ := c
    exact z.elim
theorem DefOkX.calm {P : Program} {w : World} {K : PySem.W.Frag} {mg : Str → Option Value} {base : Heap} {G : Gx K} {x : Str} {k n : Nat} {F : List D → U → Option (R × U)} (h : DefOkX P w mg base G x k n F) : DefOk P w mg base G x k n (okF F) := by
  obtain ⟨f, fd, ps, h1, h2⟩ := h
  exact ⟨f, fd, ps, fn_calm h1, h2⟩
def runBX (m : MS) (L : Nat) (ds : List D) (u : U) : Option (R × U) := match m (ds.map Sl.pub ++ List.replicate (L - ds.length) Sl.no) u with
  | some (.rt d, u') => some (.ok d, u')
  | some (.nx _, u') => some (.ok .non, u')
  | some (.er _ c ns xs, u') => some (.er c ns xs, u')
  | none => none
abbrev WofE (E : XK) : WX := fun cls d _ H => E cls d H
theorem own_none {K : PySem.W.Frag} {G : Gx K} {ua : Option Addr} {B H0 : Hp} {ds : List D} {vs : List V} {N : List Str} (r : Reps G ua ds vs B) : OwnNew (ds.map Sl.pub ++ List.replicate (N.length - ds.length) Sl.no) (L2.start N vs) H0 := fun i es p z _ => by
  exfalso
  by_cases hi : i < ds.length
  · rw [List.getElem?_append_left (by rw [List.length_map]; exact hi), List.getElem?_map] at z
    obtain ⟨_, _, h2⟩ := map_some z
    cases h2
  · rw [List.getElem?_append_right (by rw [List.length_map]; omega), List.getElem?_replicate] at z
    split at z <;> cases z
theorem def_okX {P : Program} {w : World} {K : PySem.W.Frag} {mg : Str → Option Value} {base : Heap} {G : Gx K} {x qual : Str} {st : Stmt} {f : Addr} {fd : FuncData} {N ps : List Str} {k n : Nat} {m : MS} (F : Fun K x qual st f fd) (S : FnScope N ps (defScope st)) (hn : ps.length = n)
    (hb : ∀ (cdv : Value) (A : Around) (outer : List Env) (s : Shared) (H : Hp) (E : XK), Room k (A.deeper (envOfC qual (defScope st) s.heap.objs.size f cdv)) →
      Takes (cxOf (L2.CX P w) P w K mg base N qual (defScope st) f cdv A outer s H E) (WofE E) →
      PassesOwn (model P w) (cxOf (L2.CX P w) P w K mg base N qual (defScope st) f cdv A outer s H E).A (cxOf (L2.CX P w) P w K mg base N qual (defScope st) f cdv A outer s H E).env (cxOf (L2.CX P w) P w K mg base N qual (defScope st) f cdv A outer s H E).xe →
      PSs (cxOf (L2.CX P w) P w K mg base N qual (defScope st) f cdv A outer s H E) (defBody st) (tSt G (WofE E) m)) :
    FnOk P w K mg base (L2.CX P w) (k + 1) f fd ps (spX G (runBX m N.length) n) := by
  refine F.okX S (fun vs H Q E h => ?_) (fun cdv A outer s H vs Q E hr h => ⟨_, hb cdv A outer s H E hr (takes_of rfl rfl rfl rfl) (passes_of rfl), ?_⟩)
  · obtain ⟨ua, u, B, ds, d, u', r, hl, _⟩ := h
    rw [← r.len, hl, hn]
  · obtain ⟨ua, u, B, ds, r, u', rs, hl, hw, hf, q⟩ := h
    unfold runBX at hf
    split at hf
    · cases hf
      exact ⟨ua, u, B, _, _, _, B, H, .refl, own_none rs, start_ok rs, hw, ‹_›, fun v B' H' g w' r' => q v H' ⟨B', g, w', r'⟩⟩
    · cases hf
      exact ⟨ua, u, B, _, _, _, B, H, .refl, own_none rs, start_ok rs, hw, ‹_›, fun σ' B' H' g o e w' => q _ H' ⟨B', g, w', rep_non⟩⟩
    · cases hf
      exact ⟨ua, u, B, _, _, _, B, H, .refl, own_none rs, start_ok rs, hw, ‹_›, fun σ' B' H' cls d g o e w' r' => q cls d H' ⟨B', g, w', r'⟩⟩
    · cases hf
section
variable {X : Cx} {G : Gx X.K} {W : WX} {e a b : Expr} {es : List Expr} {m ma mb : M} {ms : Ms} {mx : MX} {pos p pc : Pos}
def tEvX (G : Gx X.K) (W : WX) (m : MX) : TE := fun σ H Q => ∃ ua u B env r u', EnvOk G ua env σ B H ∧ Wd ua u B H ∧ m env u = some (r, u') ∧ OutR G ua B H u' Q (fun c d H' => W c d σ H') r
def xCall (n : Nat) (F : List D → U → Option (R × U)) (ms : Ms) : MX := fun env u => bnd (ms env u) fun ds u1 => if ds.length = n then F ds u1 else none
def SpcOkX (P : Program) (w : World) {K : PySem.W.Frag} (mg : Str → Option Value) (base : Heap) (G : Gx K) (c name : Str) (k n : Nat) (F : List D → U → Option (R × U)) : Prop :=
  ∃ C f fd ps, G.cls c = some C ∧ PySem.W.findIn K (.ref C) name = some (some (.ref f)) ∧ PySem.W.isFn K (.ref f) = true ∧ PySem.W.fnIn K f = true ∧ FnOk P w K mg base (L2.CX P w) k f fd ps (spX G F n) ∧ Binds K fd ps []
theorem SpcOkX.mono {P : Program} {w : World} {K : PySem.W.Frag} {mg : Str → Option Value} {base : Heap} {G : Gx K} {c name : Str} {j k n : Nat} {F : List D → U → Option (R × U)} (h : SpcOkX P w mg base G c name j n F) (l : j ≤ k) : SpcOkX P w mg base G c name k n F := by
  obtain ⟨C, f, fd, ps, h1, h2, h3, h4, h5, h6⟩ := h
  exact ⟨C, f, fd, ps, h1, h2, h3, h4, h5.mono l, h6⟩
theorem SpcOkX.calm {P : Program} {w : World} {K : PySem.W.Frag} {mg : Str → Option Value} {base : Heap} {G : Gx K} {c name : Str} {k n : Nat} {F : List D → U → Option (R × U)} (h : SpcOkX P w mg base G c name k n F) : SpcOk P w mg base G c name k n (okF F) := by
  obtain ⟨C, f, fd, ps, h1, h2, h3, h4, h5, h6⟩ := h
  exact ⟨C, f, fd, ps, h1, h2, h3, h4, fn_calm h5, h6⟩
def sUpX (m : MX) (k : List Sl → D → U → Option (Fl × U)) : MS := fun env u => match m env u with
  | some (.ok d, u1) => k env d u1
  | some (.er c ns xs, u1) => some (.er env c ns xs, u1)
  | none => none
theorem up_read {Dn : Ends} {σ : L2.St} {H : Hp} {k : List Sl → D → U → Option (Fl × U)} {Q : VK} (h : tSt G W (sUpX mx k) Dn σ H)
    (q : ∀ (ua : Option Addr) (u1 : U) (H0 B0 B1 H1 : Hp) (env : List Sl) (fl : Fl) (u' : U) (d : D) (v : V), Grow ua B0 H0 B1 H1 → OwnNew env σ H0 → EnvOk G ua env σ B1 H1 → Wd ua u1 B1 H1 → Rep G ua d v B1 → k env d u1 = some (fl, u') →
      (match fl with
        | .nx env' => ∀ (σ' : List (Option V)) B' H', Grow ua B0 H0 B' H' → OwnNew env' σ' H0 → EnvOk G ua env' σ' B' H' → Wd ua u' B' H' → Dn.nx σ' H'
        | .rt d => ∀ v B' H', Grow ua B0 H0 B' H' → Wd ua u' B' H' → Rep G ua d v B' → Dn.rt v H'
        | .er env' c ns xs => ∀ (σ' : List (Option V)) B' H' cls d, Grow ua B0 H0 B' H' → OwnNew env' σ' H0 → EnvOk G ua env' σ' B' H' → Wd ua u' B' H' → ErR G ua c ns xs cls d B' → W cls d σ' H') → Q v H1) :
    tEvX G W mx σ H Q := by
  obtain ⟨ua, u, B, env, fl, u', B0, H0, hg, hO, hE, hW, hm, z⟩ := h
  unfold sUpX at hm
  split at hm
  · rename_i d u1 hx
    exact ⟨ua, u, B, env, _, u1, hE, hW, hx, fun v H1 ⟨B1, g1, w1, r1⟩ => q ua u1 H0 B0 B1 H1 env fl u' d v (hg.trans g1) hO (hE.grow g1) w1 r1 hm z⟩
  · rename_i c ns xs u1 hx
    cases hm
    exact ⟨ua, u, B, env, _, _, hE, hW, hx, fun cls d H1 ⟨B1, g1, w1, r1⟩ => z σ B1 H1 cls d (hg.trans g1) hO (hE.grow g1) w1 r1⟩
  · cases hm
def sSetX (i : Nat) (m : MX) : MS := sUpX m fun env d u => some (.nx (env.set i (Sl.pub d)), u)
theorem dsx_set (i : Nat) {x : Str} {pos' : Pos} (hN : X.N.Nodup) (he : PE X e (tEvX G W mx)) (hi : X.N[i]? = some x := by rfl) (hx : Loc X.env.scope x := by first | exact Or.inl rfl | exact Or.inr rfl) (hs : swapsWith e (some (.Name x pos')) pos.line X.env = pure false := by rfl)
    (hf : X.fn x = true ∨ X.env.scope.names.lookup x = some .local := by first | exact .inl rfl | exact .inr rfl | assumption) : PS X (.Assign [.Name x pos'] e pos) (tSt G W (sSetX i mx)) := (ps_set hN hi hx he hs hf).imp fun Dn σ H h =>
  up_read h fun ua u1 H0 B0 B1 H1 env fl u' d v g o e w r k z => by
    cases k
    exact z _ B1 H1 g (o.set i d v) (e.set r i) w
end
def spEr {K : PySem.W.Frag} (G : Gx K) (C : Addr) (f : Str) (F : List D → U → Option (D × U)) : Sp := fun vs H Q _ => ∃ ua u B a v d0 d u', vs = [.ref a, v] ∧ Rep G ua d0 v B ∧ Wd ua u B H ∧ B a = none ∧ ua ≠ some a ∧ H a = some (exo a C none) ∧ F [d0] u = some (d, u') ∧
  ∀ y dx B' H', Grow ua B H B' H' → Wd ua u' B' H' → Rep G ua d y B' → H' dx = none → dx ≠ a → Q .non (upd (upd H' dx (exd dx [(f, y)])) a (exo a C (some dx)))
/-- the error class x keeps F of what it is made with in its field f -/
def ErMk (P : Program) (w : World) {K : PySem.W.Frag} (mg : Str → Option Value) (base : Heap) (G : Gx K) (x f : Str) (k : Nat) (F : List D → U → Option (D × U)) : Prop :=
  ∃ C fI fd ps B newId initId bmB, OxC K C B newId initId bmB ∧ PySem.W.findIn K (.ref C) "__init__" = some (some (.ref fI)) ∧ PySem.W.typeIn K (.ref fI) = some (.type "function") ∧ FnOk P w K mg base CX0 k fI fd ps (spEr G C f F) ∧ Binds K fd ps [] ∧ mg x = some (.ref C) ∧ G.exc x = some C
theorem ErMk.mono {P : Program} {w : World} {K : PySem.W.Frag} {mg : Str → Option Value} {base : Heap} {G : Gx K} {x f : Str} {j k : Nat} {F : List D → U → Option (D × U)} (h : ErMk P w mg base G x f j F) (l : j ≤ k) : ErMk P w mg base G x f k F := by
  obtain ⟨C, fI, fd, ps, B, n1, n2, bm, h1, h2, h3, h4, h5⟩ := h
  exact ⟨C, fI, fd, ps, B, n1, n2, bm, h1, h2, h3, h4.mono l, h5⟩
section
variable {X : Cx} {G : Gx X.K} {W : WX} {e : Expr} {me : M} {pos p pc : Pos}
def sTry (c : Str) (i : Nat) (body suite : MS) : MS := fun env u => match body env u with
  | some (.er env1 c' ns xs, u1) => if c' = c then (match suite (env1.set i (.pub (.exc c' ns xs))) u1 with
      | some (.nx env2, u2) => some (.nx (env2.set i .no), u2)
      | some (.rt d, u2) => some (.rt d, u2)
      | _ => none) else none
  | r => r
theorem ds_try {x n : Str} {i : Nat} {body suite : List Stmt} {b₀ : Stmt} {np pos' : Pos} {mb ms : MS} (hs : X.stack = X.env :: X.outer) (hf : X.env.frame = some X.env.locals) (hex : X.ex = []) (hN : X.N.Nodup) (hi : X.N[i]? = some n) (hln : X.env.kindOf n = some .local)
    (hE0 : ∃ C, G.exc x = some C ∧ X.mg x = some (.ref C)) (hg : Gl X x) (hdb : (x == ("__debug__" : Str)) = false)
    (hb : ∀ (W : WX) (pn : List (Addr × Obj)) (xe : Value → Shared → Prop), Takes (X.tr pn xe) W → PassesOwn (model X.prog X.w) X.A X.env xe → PSs (X.tr pn xe) body (tSt (K := X.K) G W mb))
    (hsu : ∀ (a : Addr) (pn : List (Addr × Obj)), PSs (X.suite a pn) (b₀ :: suite) (tSt (K := X.K) G W0 ms)) :
    PS X (.Try body [.ExceptHandler (some (.Name x np)) (some n) (b₀ :: suite) pos'] [] [] pos) (tSt G W (sTry x i mb ms)) := by
  obtain ⟨C, hC, hmC⟩ := hE0
  have hit := (G.eok x C hC).hit
  refine (ps_try_hold (c := .ref C) hs hf hex hN hi hln ⟨hg, hdb, .inl hmC⟩ hb hsu).imp fun Dn σ H h => ?_
  obtain ⟨ua, u, B, env, fl, u', B0, H0, hgr, hO, hE, hW, hm, q⟩ := h
  have hW0 := hm
  unfold sTry at hm
  split at hm
  · rename_i env1 c' ns xs u1 hbody
    split at hm
    · rename_i hc
      subst hc
      refine ⟨ua, u, B, env, _, u1, B0, H0, hgr, hO, hE, hW, hbody, fun σ' B' H' cls d g o e w ⟨C2, vs, e1, e2, e3, e4⟩ => ?_⟩
      rw [hC] at e1
      cases e1
      subst e2
      refine ⟨C, rfl, hit, fun a ha => ?_⟩
      have g2 := Grow.new1 (o := Hx a C d) w ha
      have w2 := w.new1 (o := Hx a C d) ha
      have sB : Same B' (upd B' a (Hx a C d)) := same_new (w.none_of ha)
      have rx : Rep G ua (.exc c' ns xs) (.ref a) (upd B' a (Hx a C d)) := by
        unfold Rep
        exact ⟨a, C, d, vs, rfl, hC, upd_same, e3.mono sB, e4.mono _ _ sB⟩
      split at hm
      · rename_i env2 u2 hsuite
        cases hm
        exact ⟨ua, u1, _, _, _, _, B0, H0, g.trans g2, o.set i _ _, (e.grow g2).set rx i, w2, hsuite, fun σ3 B3 H3 g3 o3 e3 w3 => q (σ3.set i none) B3 H3 g3 (fun j ds p z1 z2 => by
          rcases get_set z1 with ⟨_, z⟩ | ⟨hj, z1⟩
          · cases z
          · rw [List.getElem?_set_ne (fun z => hj z.symm)] at z2
            exact o3 j ds p z1 z2) (e3.wipe1 i none) w3⟩
      · rename_i d2 u2 hsuite
        cases hm
        exact ⟨ua, u1, _, _, _, _, B0, H0, g.trans g2, o.set i _ _, (e.grow g2).set rx i, w2, hsuite, q⟩
      · cases hm
    · cases hm
  · rename_i hno
    refine ⟨ua, u, B, env, fl, u', B0, H0, hgr, hO, hE, hW, hm, ?_⟩
    cases fl with
    | nx env' => exact q
    | rt d => exact q
    | er env1 c' ns xs => exact (hno env1 c' ns xs u' hm).elim
def mIsE (c : Str) (b : Bool) (m : M) : M := fun env u => bnd (m env u) fun d u1 => match d with
  | .exc c' _ _ => if c' = c then some (.bl b, u1) else none
  | _ => none
/-- isinstance(e, T), e a held error of the class c -/
theorem dv_isE {c T : Str} {n : String} {b : Bool} {pT : Pos} (hk : ∀ C, G.exc c = some C → PySem.W.kitOne X.K (.ref C) (.type n) = some b) (hg : Gl X "isinstance") (hm : X.mg "isinstance" = none) (ha : PE X e (tEv G me)) (hgT : Gl X T) (hmT : X.mg T = none) (hvT : bootBuiltins T = some (.type n)) (hnT : T ≠ "__name__" := by decide) (hdT : (T == ("__debug__" : Str)) = false := by decide)
    (hs : starEach (e :: [.Name T pT]) X.env = (false, eval e X.env) :: starEach [.Name T pT] X.env := by rfl) : PE X (.Call (.Name "isinstance" p) [e, .Name T pT] [] pos) (tEv G (mIsE c b me)) := by
  refine (pe_callB call_hx hg hm (by decide +kernel) (pa_cons ha (pa_cons (pe_bltn (v := .ty n) hgT hmT hvT rfl hnT hdT) pa_nil) hs) (he := hs)).imp fun σ H Q h => ?_
  obtain ⟨ua, u, B, env, d, u', hE, hW, hm, q⟩ := h
  obtain ⟨d0, u1, h1, h2⟩ := bnd_some hm
  split at h2
  · rename_i c' ns xs
    split at h2
    · rename_i hc
      subst hc
      cases h2
      refine ⟨ua, u, B, env, _, _, hE, hW, h1, fun v H1 ⟨B1, g1, w1, r1⟩ => ?_⟩
      unfold Rep at r1
      obtain ⟨a, C, d2, vs, rfl, hC, ha, ⟨hl, hd⟩, rs⟩ := r1
      refine ⟨a, C, d2, .ty n, .type n, b, rfl, w1.sub _ _ ha, fun dd e => ?_, (G.eok _ C hC).isi, fun u z => z, hk C hC, q _ _ ⟨B1, g1, w1, rep_bl⟩⟩
      subst e
      rcases hd with ⟨_, z⟩ | ⟨dd', z, hdd⟩
      · cases z
      · cases z
        exact ⟨_, w1.sub _ _ hdd⟩
    · cases h2
  · cases h2
end
end Dv
namespace Dv
open PySem PySem.Spec PyProof.Rows L2
end Dv
namespace Dv
open PySem PySem.Spec PyProof.Rows L2
theorem Reps.reverse {K : PySem.W.Frag} {G : Gx K} {ua : Option Addr} {B : Hp} : ∀ {ds : List D} {vs : List V}, Reps G ua ds vs B → Reps G ua ds.reverse vs.reverse B
  | [], vs, h => by rw [h.of_nil]; exact .nil
  | d :: ds, vs, h => by
    obtain ⟨v, r, rfl, q, t⟩ := h.of_cons
    rw [List.reverse_cons, List.reverse_cons]
    exact (Reps.reverse t).append (.cons q .nil)
def MakeK (P : Program) (w : World) {K : PySem.W.Frag} (mg : Str → Option Value) (base : Heap) (G : Gx K) (x : Str) (ks : List Str) (k : Nat) (F : List D → U → Option (D × U)) : Prop :=
  ∃ C f fd ps sp g, Mk K C f ∧ FnOk P w K mg base CX0 k f fd ps sp ∧ mg x = some (.ref C) ∧ KBn K fd ps 1 ks g (fun vs zs => vs ++ zs) ∧
    ∀ (ua : Option Addr) (u u' : U) (B H : Hp) (as : List D) (vs : List V) (d : D), as.length = ks.length → F as u = some (d, u') → Reps G ua as vs B → Wd ua u B H → ∀ (y dx : Addr), H y = none → H dx = none → dx ≠ y →
      ∀ Q : VK, (∀ H', Aft G ua B H u' d (.ref y) H' → Q (.ref y) H') → sp (.ref y :: vs) (upd (upd H dx (.own y)) y (.ins C dx [])) (fun v H2 => v = .non ∧ Q (.ref y) H2) E0
theorem MakeK.mono {P : Program} {w : World} {K : PySem.W.Frag} {mg : Str → Option Value} {base : Heap} {G : Gx K} {x : Str} {ks : List Str} {j k : Nat} {F : List D → U → Option (D × U)} (h : MakeK P w mg base G x ks j F) (l : j ≤ k) : MakeK P w mg base G x ks k F := by
  obtain ⟨C, f, fd, ps, sp, g, h1, h2, h3⟩ := h
  exact ⟨C, f, fd, ps, sp, g, h1, h2.mono l, h3⟩
end Dv
namespace Dv
open PySem PySem.Spec PyProof.Rows L2
end Dv
namespace Dv
open PySem PySem.Spec PyProof.Rows L2
section
variable {X : Cx} {G : Gx X.K} {a b : Expr} {ma mb : M} {pos apos : Pos}
theorem dv_s1 {name : Str} {id : String} {r : V → List V → Hp → VK → Prop} {f : D → D → Option D} (slot : PySem.Slot "str" name id) (ty : typeOf (.builtin id) = pure (.type "method_descriptor")) (rule : MtR X id r)
    (h0 : ∀ x y d, f x y = some d → ∃ s t, x = .str s ∧ y = .str t) (h1 : ∀ (ua : Option Addr) (u : U) (B H : Hp) (s t : Str) (d : D) (Q : VK), f (.str s) (.str t) = some d → Wd ua u B H → (∀ v H', Aft G ua B H u d v H' → Q v H') → r (.str s) [.str t] H Q)
    (ha : PE X a (tEv G ma)) (hb : PE X b (tEv G mb)) (hs : starEach [b] X.env = [(false, eval b X.env)] := by rfl) (hbase : attributeBase a name X.env (eval a X.env) = eval a X.env := by rfl) (hline : (apos.endLine == pos.line) = true := by rfl) :
    PE X (.Call (.Attribute a name apos) [b] [] pos) (tEv G (mBin f ma mb)) := by
  refine (pe_m1 slot ty rule ha hb hs hbase hline).imp fun σ H Q h => ?_
  obtain ⟨ua, u, B, env, d, u', hE, hW, hm, q⟩ := h
  obtain ⟨x, u1, e1, e2⟩ := bnd_some hm
  obtain ⟨y, u2, e4, e3⟩ := bnd_some e2
  obtain ⟨l3, rfl⟩ := lft_some e3
  refine ⟨ua, u, B, env, x, u1, hE, hW, e1, fun v H1 ⟨B1, g1, w1, r1⟩ => ?_⟩
  obtain ⟨s, t, rfl, rfl⟩ := h0 _ _ _ l3
  cases r1.str
  refine ⟨⟨_, rfl⟩, ua, u1, B1, env, _, u', hE.grow g1, w1, e4, fun v2 H2 ⟨B2, g2, w2, r2⟩ => ?_⟩
  cases r2.str
  exact h1 ua u' B2 H2 s t d Q l3 w2 fun v3 H3 a3 => q _ _ (.up (g1.trans g2) a3)
def rmpD : D → D → Option D
  | .str a, .str b => if a.length ≤ sizeLine then some (.str (Txt.removeprefix a b)) else none
  | _, _ => none
def stwD : D → D → Option D
  | .str a, .str b => some (.bl (Txt.startswith a b))
  | _, _ => none
theorem rmp_str {x y d : D} (h : rmpD x y = some d) : ∃ s t, x = .str s ∧ y = .str t := by
  unfold rmpD at h
  split at h
  · exact ⟨_, _, rfl, rfl⟩
  · cases h
theorem stw_str {x y d : D} (h : stwD x y = some d) : ∃ s t, x = .str s ∧ y = .str t := by
  unfold stwD at h
  split at h
  · exact ⟨_, _, rfl, rfl⟩
  · cases h
theorem dv_rmp (ha : PE X a (tEv G ma)) (hb : PE X b (tEv G mb)) (hs : starEach [b] X.env = [(false, eval b X.env)] := by rfl) (hbase : attributeBase a "removeprefix" X.env (eval a X.env) = eval a X.env := by rfl) (hline : (apos.endLine == pos.line) = true := by rfl) :
    PE X (.Call (.Attribute a "removeprefix" apos) [b] [] pos) (tEv G (mBin rmpD ma mb)) :=
  dv_s1 PySem.F.slot_str_removeprefix PySem.F.type_str_removeprefix mt_removeprefix (fun _ _ _ h => rmp_str h) (fun ua u B H s t d Q h w q => by
    simp only [rmpD] at h
    split at h
    · cases h; exact ⟨s, t, rfl, rfl, ‹_›, q _ _ (.here w rep_str)⟩
    · cases h) ha hb hs hbase hline
theorem dv_stw (ha : PE X a (tEv G ma)) (hb : PE X b (tEv G mb)) (hs : starEach [b] X.env = [(false, eval b X.env)] := by rfl) (hbase : attributeBase a "startswith" X.env (eval a X.env) = eval a X.env := by rfl) (hline : (apos.endLine == pos.line) = true := by rfl) :
    PE X (.Call (.Attribute a "startswith" apos) [b] [] pos) (tEv G (mBin stwD ma mb)) :=
  dv_s1 PySem.F.slot_str_startswith PySem.F.type_str_startswith mt_startswith (fun _ _ _ h => stw_str h) (fun ua u B H s t d Q h w q => by
    simp only [stwD] at h
    cases h; exact ⟨s, t, rfl, rfl, q _ _ (.here w rep_bl)⟩) ha hb hs hbase hline
def mulS (x : Str) (n : Nat) : Str := ⟨(List.replicate n x.cps).foldl (· ++ ·) #[]⟩
def fMulS : D → D → Option D
  | .str x, .int n => if 2 ≤ n ∧ n ≤ 1000 ∧ 1 ≤ x.length ∧ x.length ≤ 1000 then some (.str (mulS x n.toNat)) else none
  | _, _ => none
def rMulS : R2 := fun x y H Q => ∃ (s : Str) (n : Int), x = .str s ∧ y = .int n ∧ (2 ≤ n ∧ n ≤ 1000 ∧ 1 ≤ s.length ∧ s.length ≤ 1000) ∧ Q (.str (mulS s n.toNat)) H
theorem rep_size (xs : Array Nat) : ∀ (n : Nat) (acc : Array Nat), ((List.replicate n xs).foldl (· ++ ·) acc).size = acc.size + n * xs.size
  | 0, acc => by simp
  | n + 1, acc => by
    rw [List.replicate_succ, List.foldl_cons, rep_size xs n, Array.size_append, Nat.succ_mul]
    omega
theorem mulS_len (x : Str) (n : Nat) : (mulS x n).length = n * x.length := by
  show ((List.replicate n x.cps).foldl (· ++ ·) #[]).size = n * x.cps.size
  rw [rep_size]
  simp
theorem op_mulS : OpR X (binaryOp .Mult) rMulS := by
  intro pins s σ H x y v u Q I rx ry h
  obtain ⟨st, n, rfl, rfl, ⟨h1, h2, h3, h4⟩, q⟩ := h
  obtain ⟨t, rfl⟩ := rx
  obtain ⟨t2, rfl⟩ := ry
  have hle : st.length * n.toNat ≤ 1000 * 1000 := Nat.mul_le_mul h4 (by omega)
  have e1 : (n == 1 || st.length == 0) = false := by
    rw [Bool.or_eq_false_iff]
    exact ⟨beq_eq_false_iff_ne.mpr (by omega), beq_eq_false_iff_ne.mpr (by omega)⟩
  refine PySem.P.mul_str ?_ (fun _ _ => ?_) (fun _ _ => ?_) ?_
  · rw [decide_eq_false (by omega), decide_eq_false (by omega)]; rfl
  · have : (st.length : Int) ≤ 1000 := by omega
    have h5 : (1000 : Int) ≤ (2 ^ 63 - 1) / n := by
      rw [Int.le_ediv_iff_mul_le (by omega)]
      omega
    omega
  · exact decide_eq_false (by have : sizeLine = 16777216 := rfl; omega)
  · rw [if_neg (by omega), e1, if_neg Bool.false_ne_true]
    have hz := mulS_len st n.toNat
    rw [Nat.mul_comm] at hz
    have hs : sizeLine = 16777216 := rfl
    exact ⟨by show (mulS st n.toNat).length ≤ _; omega, ⟨V.str (mulS st n.toNat), H, I.tok _, ⟨_, rfl⟩, q⟩⟩
theorem ok_mulS : BinOk G (binaryOp .Mult) fMulS := by
  intro ua u B H da db d va vb e ra rb w
  unfold fMulS at e
  split at e
  · split at e
    · cases e; cases ra.str; cases rb.int
      exact ⟨_, op_mulS, _, _, rfl, rfl, ‹_›, .here w rep_str⟩
    · cases e
  · cases e
end
end Dv
namespace PySem.W
open PySem PySem.Calls PyProof.Rows Builtin
end PySem.W
namespace Dv
open PySem PySem.Spec PyProof.Rows L2
section
variable {X : Cx} {G : Gx X.K} {a b e : Expr} {es : List Expr} {ma mb : M} {ms : Ms} {pos apos p1 : Pos}
/-- the class x has F as its static method m -/
def StOk (P : Program) (w : World) {K : PySem.W.Frag} (mg : Str → Option Value) (base : Heap) (G : Gx K) (x m : Str) (k n : Nat) (F : List D → U → Option (D × U)) : Prop :=
  ∃ C p f fd ps, mg x = some (.ref C) ∧ PySem.W.specialIn K (.ref C) "__getattribute__" = some (some (.builtin "type.__getattribute__")) ∧ PySem.W.readsIn K C (.type "type") = true ∧
    PySem.W.findCls K (.ref C) (.type "type") m = some (.get (.builtin "staticmethod.__get__") (.ref p) .none (.ref C)) ∧ (∃ rest, PySem.W.recIn K p "staticmethod" = some (.ref f :: rest)) ∧ FnOk P w K mg base CX0 k f fd ps (spF G F n) ∧ PySem.W.keepIn K (.ref f) = true ∧ Binds K fd ps []
theorem StOk.mono {P : Program} {w : World} {K : PySem.W.Frag} {mg : Str → Option Value} {base : Heap} {G : Gx K} {x m : Str} {j k n : Nat} {F : List D → U → Option (D × U)} (h : StOk P w mg base G x m j n F) (l : j ≤ k) : StOk P w mg base G x m k n F := by
  obtain ⟨C, p, f, fd, ps, h1, h2, h3, h4, h5, h6, h7⟩ := h
  exact ⟨C, p, f, fd, ps, h1, h2, h3, h4, h5, h6.mono l, h7⟩
end
end Dv
namespace Dv
open PySem PySem.Spec PyProof.Rows L2
def perm {α : Type} (π : List Nat) (l : List α) : List α := π.filterMap fun i => l[i]?
theorem Reps.at_or {K : PySem.W.Frag} {G : Gx K} {ua : Option Addr} {B : Hp} : ∀ {ds : List D} {vs : List V} (i : Nat), Reps G ua ds vs B → (ds[i]? = Option.none ∧ vs[i]? = Option.none) ∨ ∃ d v, ds[i]? = some d ∧ vs[i]? = some v ∧ Rep G ua d v B
  | [], vs, i, r => by rw [r.of_nil]; exact .inl ⟨rfl, rfl⟩
  | d :: ds, vs, i, r => by
    obtain ⟨v, t, rfl, r1, r2⟩ := r.of_cons
    cases i with
    | zero => exact .inr ⟨d, v, rfl, rfl, r1⟩
    | succ i => exact Reps.at_or i r2
theorem Reps.perm {K : PySem.W.Frag} {G : Gx K} {ua : Option Addr} {B : Hp} {ds : List D} {vs : List V} (r : Reps G ua ds vs B) : ∀ π : List Nat, Reps G ua (perm π ds) (perm π vs) B
  | [] => .nil
  | i :: π => by
    unfold Dv.perm
    rw [List.filterMap_cons, List.filterMap_cons]
    rcases r.at_or i with ⟨e1, e2⟩ | ⟨d, v, e1, e2, r1⟩
    · rw [e1, e2]; exact r.perm π
    · rw [e1, e2]; exact .cons r1 (r.perm π)
theorem vals_at {vs : List V} {us : List Value} (r : Vals vs us) : ∀ i : Nat, (vs[i]? = none ∧ us[i]? = none) ∨ ∃ v u, vs[i]? = some v ∧ us[i]? = some u ∧ RelV v u := by
  induction r with
  | nil => exact fun i => .inl ⟨rfl, rfl⟩
  | cons a b ih =>
    intro i
    cases i with
    | zero => exact .inr ⟨_, _, rfl, rfl, a⟩
    | succ i => exact ih i
theorem vals_perm {vs : List V} {us : List Value} (r : Vals vs us) : ∀ π : List Nat, Vals (perm π vs) (perm π us)
  | [] => .nil
  | i :: π => by
    unfold Dv.perm
    rw [List.filterMap_cons, List.filterMap_cons]
    rcases vals_at r i with ⟨e1, e2⟩ | ⟨v, u, e1, e2, r1⟩
    · rw [e1, e2]; exact vals_perm r π
    · rw [e1, e2]; exact .cons r1 (vals_perm r π)
def mCallP (n : Nat) (π : List Nat) (F : List D → U → Option (D × U)) (m : Ms) : M := fun env u => bnd (m env u) fun ds u1 => if ds.length = n ∧ (perm π ds).length = π.length then F (perm π ds) u1 else none
def DefKp (P : Program) (w : World) {K : PySem.W.Frag} (mg : Str → Option Value) (base : Heap) (G : Gx K) (x : Str) (ks : List Str) (π : List Nat) (k : Nat) (F : List D → U → Option (D × U)) : Prop :=
  ∃ f fd ps, FnOk P w K mg base CX0 k f fd ps (spF G F π.length) ∧ mg x = some (.ref f) ∧ PySem.W.keepIn K (.ref f) = true ∧ ∀ (s : Shared) (ws : List Value), K.In s.heap → ws.length = ks.length → BindsTo s fd ⟨[], ks.zip ws⟩ (ps.zip (perm π ws))
theorem DefKp.mono {P : Program} {w : World} {K : PySem.W.Frag} {mg : Str → Option Value} {base : Heap} {G : Gx K} {x : Str} {ks : List Str} {π : List Nat} {j k : Nat} {F : List D → U → Option (D × U)} (h : DefKp P w mg base G x ks π j F) (l : j ≤ k) : DefKp P w mg base G x ks π k F := by
  obtain ⟨f, fd, ps, h1, h2⟩ := h
  exact ⟨f, fd, ps, h1.mono l, h2⟩
section
variable {X : Cx} {G : Gx X.K} {kws : List Keyword} {ms : Ms} {p pos : Pos}
theorem dv_callKp {x : Str} {k n : Nat} {ks : List Str} {π : List Nat} {F : List D → U → Option (D × U)} (D0 : DefKp X.prog X.w X.mg X.base G x ks π k F) (hr : Room k X.A) (hg : Gl X x) (hn : ks.length = n) (ha : PK X kws (tEvs G ms))
    (hall : (backToKw pos (keywordEach kws X.env)).all (·.1.isSome) = true := by rfl) (hks : (backToKw pos (keywordEach kws X.env)).filterMap (·.1) = ks := by rfl) (hdb : (x == ("__debug__" : Str)) = false := by decide)
    (hpl : ((backTo pos (starEach [] X.env)).any (·.1) || (backToKw pos (keywordEach kws X.env)).any (·.1.isNone)) = false := by rfl) :
    PE X (.Call (.Name x p) [] kws pos) (tEv G (mCallP n π F ms)) := by
  subst hn
  obtain ⟨f, fd, ps, hf, hm, hk, hb⟩ := D0
  refine ⟨fun pins s σ H Q I h => ?_⟩
  obtain ⟨ua, u, B, env, d, u', hE, hW, hm2, q⟩ := h
  obtain ⟨ds, u1, h1, h2⟩ := bnd_some hm2
  split at h2
  · rename_i hl
    obtain ⟨hl, hl2⟩ := hl
    refine wpAny_Call_Name_kw (ld_glob I hg hm ?_ hdb)
    refine PySem.W.callWith_KW0 (h₀ := X.base) I.ok.mod.kin hk hall (thn (ha.run pos pins s σ H _ I ⟨ua, u, B, env, ds, u1, hE, hW, h1, fun _ _ z => z⟩) fun ws s2 ⟨zs, H2, I2, rz, B2, g2, w2, r2⟩ => ⟨I2.kIn, ?_⟩) hpl
    rw [hks]
    have lw : ws.length = ks.length := by rw [← rz.length, ← r2.len]; exact hl
    refine wpAny_call (codeAny_mono (hf.run X.A X.stack s2 H2 ⟨[] ++ [], ks.zip ws⟩ (perm π ws) (perm π zs) Q E0 hr I2.env0 (hb s2 ws I2.kIn lw) (vals_perm rz π) ⟨ua, u1, B2, perm π ds, d, u', r2.perm π, hl2, w2, h2, fun v H3 a => q v H3 (.up g2 a)⟩) fun r s' hq => ?_)
    cases r with
    | error e => exact hq.elim
    | ok fl =>
      cases fl with
      | ret u => exact I2.after hq
      | next => exact False.elim hq
      | brk => exact False.elim hq
      | cont => exact False.elim hq
  · cases h2
end
end Dv
namespace Dv
open PySem PySem.Spec PyProof.Rows L2
section
variable {X : Cx} {G : Gx X.K} {W : WX} {e : Expr} {es : List Expr} {ms : Ms} {pos p : Pos}
/-- tab tells what the defs do that a name may hold -/
def FnX (P : Program) (w : World) {K : PySem.W.Frag} (mg : Str → Option Value) (base : Heap) (G : Gx K) (tab : Str → Option (List D → U → Option (R × U))) (k n : Nat) : Prop :=
  ∀ y F, tab y = some F → ∃ f fd ps, FnOk P w K mg base (L2.CX P w) k f fd ps (spX G F n) ∧ PySem.W.keepIn K (.ref f) = true ∧ Binds K fd ps [] ∧ G.fns y = some f
def bindS (is : List Nat) : D → List Sl → Option (List Sl)
  | .tup ds, env => bindT (.many is) (.tup ds) env
  | .lst ds, env => bindT (.many is) (.tup ds) env
  | _, _ => none
def sTgtS (is : List Nat) (m : M) : MS := fun env u => bnd (m env u) fun d u1 => match bindS is d env with
  | some env' => some (.nx env', u1)
  | none => none
theorem pg_sq {es : List Expr} {k n : Nat} {t : TGs} {tpos : Pos} (hc : X.calm = true) (h : PGs X es t) (hn : (assignEach es X.env).length = n := by rfl) (hst : (assignEach es X.env).findIdx? (·.1) = none := by rfl) : PG X (.Tuple es k tpos) (gSq X.K n t) := by
  refine ⟨fun pins s σ H v u Q I r hw => ?_⟩
  obtain ⟨a, xs, e1, hq | hq, hl, hw⟩ := hw
  · exact (pg_tup hc h hn hst).run pins s σ H v u Q I r ⟨a, xs, e1, hq, hl, hw⟩
  · exact (pg_lst hc h hn hst).run pins s σ H v u Q I r ⟨a, xs, e1, hq, hl, hw⟩
theorem names_ok {ua : Option Addr} {u : U} {B H : Hp} {env : List Sl} {Q : L2.St → Hp → Prop} : ∀ {is : List Nat} {ds : List D} {vs : List V} {σ : List (Option V)}, EnvOk G ua env σ B H → Reps G ua ds vs B → ds.length = is.length →
    (∀ σ' : List (Option V), EnvOk G ua (setE env is ds) σ' B H → (∀ (j : Nat) x, σ'[j]? = some (some x) → j ∉ is → σ[j]? = some (some x)) → Q σ' H) → gNames is vs σ H Q := by
  intro is ds vs σ e rs hl q
  have hlv : vs.length = is.length := by rw [← rs.len]; exact hl
  refine gNames_ok is vs σ H Q hlv (q _ (setE_ok is ds vs env σ e rs) ?_)
  clear q e hl hlv rs
  induction is generalizing σ vs with
  | nil => intro j x hx _; exact hx
  | cons i is ih =>
    intro j x hx hj
    cases vs with
    | nil => exact hx
    | cons v vs =>
      have hj' : j ∉ i :: is := hj
      have := ih (σ := σ.set i (some v)) (vs := vs) j x hx (fun z => hj' (List.mem_cons_of_mem _ z))
      rw [List.getElem?_set_ne (fun z => hj' (by rw [z]; exact List.mem_cons_self))] at this
      exact this
theorem ds_tgtS (is : List Nat) {e : Expr} {me : M} {tg : Expr} (he : PE X e (tEv G me)) (hg : PG X tg (gSq X.K is.length (gNames is))) (hs : swapsWithSole [tg] e pos.line X.env = pure false := by rfl) (hw : swappedStores [tg] e X.env = pure none := by rfl)
    (h1 : (assignEach [tg] X.env).map (·.2) = [assign tg X.env] := by rfl) : PS X (.Assign [tg] e pos) (tSt G W (sTgtS is me)) := (ps_asg he hg hs hw h1).imp fun Dn σ H h => by
  obtain ⟨ua, u, B, env, fl, u', B0, H0, hg, hO, hE, hW, hm, q⟩ := h
  obtain ⟨d, u1, c1, c2⟩ := bnd_some hm
  split at c2
  · rename_i env' hb
    cases c2
    refine ⟨ua, u, B, env, d, _, hE, hW, c1, fun v H1 ⟨B1, g1, w1, r1⟩ => ?_⟩
    have fin : ∀ (ds : List D) (vs : List V), Reps G ua ds vs B1 → bindT (.many is) (.tup ds) env = some env' → gNames is vs σ H1 (fun σ' H' => Dn.nx σ' H') ∧ vs.length = is.length := fun ds vs rs hb' => by
      have hb0 := hb'
      dsimp only [bindT] at hb'
      split at hb'
      · rename_i hl
        cases hb'
        exact ⟨names_ok (u := u) (hE.grow g1) rs hl fun σ' e' hk => q _ B1 H1 (hg.trans g1) (fun j es p z1 z2 => by
          obtain ⟨z3, z4⟩ := bindT_own hb0 j es z1
          exact hO j es p z3 (hk j _ z2 z4)) e' w1, by rw [← rs.len]; exact hl⟩
      · cases hb'
    unfold bindS at hb
    split at hb
    · obtain ⟨a, vs, rfl, h, rs⟩ := r1.tup
      obtain ⟨f1, f2⟩ := fin _ vs rs hb
      exact ⟨a, vs, rfl, .inl (h.mono w1.sub).sq, f2, f1⟩
    · obtain ⟨a, vs, rfl, h, rs⟩ := r1.lst
      obtain ⟨f1, f2⟩ := fin _ vs rs hb
      exact ⟨a, vs, rfl, .inr (.of (w1.sub _ _ h)), f2, f1⟩
    · cases hb
  · cases c2
end
end Dv
namespace Dv
open PySem PySem.Spec PyProof.Rows L2
end Dv
namespace Dv
open PySem PySem.Spec PyProof.Rows L2
theorem FnX.mono {P : Program} {w : World} {K : PySem.W.Frag} {mg : Str → Option Value} {base : Heap} {G : Gx K} {tab : Str → Option (List D → U → Option (R × U))} {j k n : Nat} (h : FnX P w mg base G tab j n) (l : j ≤ k) : FnX P w mg base G tab k n := fun y F e => by
  obtain ⟨f, fd, ps, h1, h2⟩ := h y F e
  exact ⟨f, fd, ps, h1.mono l, h2⟩
end Dv
namespace Dv
open PySem PySem.Spec PyProof.Rows L2
def valD (ks : List Key) (ds : List D) (k : Key) : Option D := ((ks.zip ds).find? fun kd => decide (kd.1 = k)).map (·.2)
theorem Reps.val {K : PySem.W.Frag} {G : Gx K} {ua : Option Addr} {B : Hp} {k : Key} : ∀ {ks : List Key} {ds : List D} {vs : List V}, Reps G ua ds vs B → ks.length = vs.length →
    (valD ks ds k = Option.none ∧ valV (ks.zip vs) k = Option.none) ∨ ∃ d v, valD ks ds k = some d ∧ valV (ks.zip vs) k = some v ∧ Rep G ua d v B
  | [], ds, vs, r, l => .inl ⟨rfl, rfl⟩
  | j :: ks, [], vs, r, l => by rw [r.of_nil] at l; cases l
  | j :: ks, d :: ds, vs, r, l => by
    obtain ⟨v, t, rfl, r1, r2⟩ := r.of_cons
    unfold valD valV
    rw [List.zip_cons_cons, List.zip_cons_cons]
    by_cases e : j = k
    · refine .inr ⟨d, v, ?_, ?_, r1⟩
      · rw [List.find?_cons_of_pos (by exact decide_eq_true e)]; rfl
      · rw [List.find?_cons_of_pos (by exact decide_eq_true e)]; rfl
    · rw [List.find?_cons_of_neg (by simpa using e), List.find?_cons_of_neg (by simpa using e)]
      exact Reps.val r2 (Nat.succ.inj l)
end Dv
namespace Dv
open PySem PySem.Spec PyProof.Rows L2
end Dv
namespace Dv
open PySem L2
end Dv
namespace Dv
end Dv
namespace Dv
open PySem PySem.Spec PyProof.Rows L2
end Dv
namespace Dv
open PySem PySem.Spec PyProof.Rows L2
end Dv
namespace Dv
open PySem PySem.Spec PyProof.Rows L2
def bIntS (ds : List D) : Option D := match bInt ds with
  | some d => some d
  | none => match ds with
    | [.str a] => if a.length ≤ 640 then (PySem.intText? a).map .int else none
    | _ => none
theorem ok_intS {X : Cx} {G : Gx X.K} : BiOk G (.type "int") bIntS := by
  intro ua u B H ds d vs e rs w
  unfold bIntS at e
  cases hb : bInt ds with
  | some d' =>
    rw [hb] at e
    cases e
    exact ok_int ua u B H ds _ vs hb rs w
  | none =>
    rw [hb] at e
    dsimp only at e
    split at e
    · rename_i a
      split at e
      · rename_i hl
        obtain ⟨v, t, rfl, r1, r2⟩ := rs.of_cons
        rw [r2.of_nil]
        cases r1.str
        cases q : PySem.intText? a with
        | none => rw [q] at e; cases e
        | some n =>
          rw [q] at e
          cases e
          exact ⟨_, call_int_str, a, n, rfl, q, hl, .here w rep_int⟩
      · cases e
    · cases e
end Dv
namespace Dv
open PySem PySem.Spec PyProof.Rows L2
end Dv
namespace Dv
open PySem PySem.Spec PyProof.Rows L2
/-- a text of real code points -/
def TxO (x : Str) : Prop := PyData.strOk x = true
theorem toPys_map {α : Type} {f : α → D} {g : α → PyData} : ∀ {l : List α}, (∀ a ∈ l, toPy (f a) = some (g a)) → toPys (l.map f) = some (l.map g)
  | [], _ => by simp [toPys]
  | a :: l, h => by
    rw [List.map_cons, List.map_cons]
    unfold toPys
    rw [h a List.mem_cons_self, toPys_map fun b hb => h b (List.mem_cons_of_mem _ hb)]
    rfl
theorem lay_map {α : Type} {g : α → PyData} : ∀ {l : List α}, (∀ a ∈ l, (g a).canLay0 = true) → PyData.canLayAll0 (l.map g) = true
  | [], _ => by simp [PyData.canLayAll0]
  | a :: l, h => by
    rw [List.map_cons]
    unfold PyData.canLayAll0
    rw [h a List.mem_cons_self, lay_map fun b hb => h b (List.mem_cons_of_mem _ hb)]
    rfl
theorem depth_map {α : Type} {g : α → PyData} {n : Nat} : ∀ {l : List α}, (∀ a ∈ l, (g a).depth ≤ n) → PyData.depthAll (l.map g) ≤ n
  | [], _ => by simp [PyData.depthAll]
  | a :: l, h => by
    rw [List.map_cons]
    unfold PyData.depthAll
    exact Nat.max_le.mpr ⟨h a List.mem_cons_self, depth_map fun b hb => h b (List.mem_cons_of_mem _ hb)⟩
abbrev Dd := Bool × Str
def plainN : Nat → D → Bool
  | _, .non => true
  | _, .bl _ => true
  | _, .int _ => true
  | _, .str _ => true
  | n + 1, .lst ds => decide (ds.length ≤ 1000) && ds.all (plainN n)
  | n + 1, .tup ds => decide (ds.length ≤ 1000) && ds.all (plainN n)
  | _, _ => false
end Dv
namespace Dv
open PySem PySem.Spec PyProof.Rows L2
theorem fMul_r {i j : Int} (h : -(2 ^ 64) < j ∧ j < 2 ^ 64) : fMul (.int i) (.int j) = some (.int (i * j)) := by
  simp only [fMul]; rw [if_pos (.inr h)]
theorem fMod_p {i j : Int} (h : 0 < j) : fMod (.int i) (.int j) = some (.int (i % j)) := by simp only [fMod]; rw [if_pos h]
theorem compL_pure {f : D → U → Option (Option D × U)} {g : D → D} {u : U} : ∀ {ds : List D}, (∀ d ∈ ds, f d u = some (some (g d), u)) → compL f ds u = some (ds.map g, u)
  | [], _ => rfl
  | d :: ds, h => by
    unfold compL
    rw [h d List.mem_cons_self]
    show bnd (compL f ds u) _ = _
    rw [compL_pure fun d hd => h d (List.mem_cons_of_mem _ hd)]
    rfl
theorem len_cps (x : Str) : x.length = x.cps.toList.length := by
  show x.cps.size = _
  rw [Array.length_toList]
theorem app_cps (x y : Str) : (x ++ y).cps.toList = x.cps.toList ++ y.cps.toList := by
  show (x.cps ++ y.cps).toList = _
  simp
theorem cut_to {z : Str} {at_ : Nat} (h : at_ ≤ z.length) : (cutS z none (some (at_ : Int))).cps.toList = z.cps.toList.take at_ := by
  show ((z.cps.toList.drop (HT.sIx z.length 0 none)).take (HT.sIx z.length z.length (some (at_ : Int)) - HT.sIx z.length 0 none)).toArray.toList = _
  rw [List.toList_toArray, HT.sIx_none, HT.sIx_nat, List.drop_zero, Nat.sub_zero, Nat.min_eq_left h]
theorem cut_from {z : Str} {at_ : Nat} (h : at_ ≤ z.length) : (cutS z (some (at_ : Int)) none).cps.toList = z.cps.toList.drop at_ := by
  show ((z.cps.toList.drop (HT.sIx z.length 0 (some (at_ : Int)))).take (HT.sIx z.length z.length none - HT.sIx z.length 0 (some (at_ : Int)))).toArray.toList = _
  rw [List.toList_toArray, HT.sIx_none, HT.sIx_nat, Nat.min_eq_left h, len_cps, ← List.length_drop, List.take_length]
theorem line : sizeLine = 16777216 := rfl
theorem isiz {n : Nat} (h : n ≤ 1000) : n ≤ sizeLine := by rw [line]; omega
abbrev abc : Str := ("abcdefghijklmnopqrstuvwxyz" : Str)
theorem abc_mem (c : Nat) : c ∈ abc.cps.toList ↔ 97 ≤ c ∧ c ≤ 122 := by
  rw [show abc.cps.toList = (List.range 26).map (97 + ·) from by decide +kernel]
  simp only [List.mem_map, List.mem_range]
  constructor
  · rintro ⟨a, h, rfl⟩; omega
  · rintro ⟨h1, h2⟩; exact ⟨c - 97, by omega, by omega⟩
def bitB (c : Nat) : Bool := decide (c ∈ abc.cps.toList)
def allB (x : Str) : Bool := (x.cps.toList.map bitB).all id
theorem blsOf_map : ∀ bs : List Bool, blsOf (bs.map .bl) = some bs
  | [] => rfl
  | b :: bs => by
    show (blsOf (bs.map D.bl)).map _ = _
    rw [blsOf_map bs]; rfl
theorem mChain_t {f g : D → D → Option D} {a b c : M} {env : List Sl} {u u1 u2 u3 : U} {x y z w : D} (h1 : a env u = some (x, u1)) (h2 : b env u1 = some (y, u2)) (h3 : f x y = some (.bl true)) (h4 : c env u2 = some (z, u3)) (h5 : g y z = some w) : mChain f g a b c env u = some (w, u3) := by
  unfold mChain; rw [h1]; show bnd (b env u1) _ = _; rw [h2]; dsimp only [bnd]; rw [h3]; dsimp only; rw [h4]; dsimp only [bnd]; rw [h5]; rfl
theorem mChain_f {f g : D → D → Option D} {a b c : M} {env : List Sl} {u u1 u2 : U} {x y : D} (h1 : a env u = some (x, u1)) (h2 : b env u1 = some (y, u2)) (h3 : f x y = some (.bl false)) : mChain f g a b c env u = some (.bl false, u2) := by
  unfold mChain; rw [h1]; show bnd (b env u1) _ = _; rw [h2]; dsimp only [bnd]; rw [h3]
theorem isi_str (x : Str) : isiD (.str x) ["str"] = some true := by show kitAnyB "str" ["str"] = some true; decide +kernel
theorem isi_tt (x : List D) : isiD (.tup x) ["tuple"] = some true := by show kitAnyB "tuple" ["tuple"] = some true; decide +kernel
theorem isi_lt (x : List D) : isiD (.lst x) ["tuple"] = some false := by show kitAnyB "list" ["tuple"] = some false; decide +kernel
theorem isi_ii (x : Int) : isiD (.int x) ["int"] = some true := by show kitAnyB "int" ["int"] = some true; decide +kernel
theorem isi_ib (x : Int) : isiD (.int x) ["bool"] = some false := by show kitAnyB "int" ["bool"] = some false; decide +kernel
theorem len_str {x : Str} (h : x.length ≤ 1000) : bLen [.str x] = some (.int x.length) := if_pos (isiz h)
theorem c1 {x : D} {env : List Sl} {u u1 : U} {a : M} (h : a env u = some (x, u1)) : mCons a mNil env u = some ([x], u1) := mCons_eq h mNil_eq
theorem forL_inv {t : Tgt} {f : MS} {I : Int → List Sl → U → Prop} {N : Int} : ∀ {ds : List D} {i : Int} {env : List Sl} {u : U}, (∀ d ∈ ds, ∀ i env u, i ≤ N → I i env u → ∃ env1 env2 u2, bindT t d env = some env1 ∧ f env1 u = some (.nx env2, u2) ∧ I (i + 1) env2 u2) → I i env u → i + ds.length ≤ N + 1 →
    ∃ env' u', forL t f ds env u = some (.nx env', u') ∧ I (i + ds.length) env' u'
  | [], i, env, u, _, hi, _ => ⟨env, u, rfl, by simpa using hi⟩
  | d :: ds, i, env, u, h, hi, hN => by
    rw [List.length_cons] at hN
    obtain ⟨env1, env2, u2, e1, e2, hi2⟩ := h d List.mem_cons_self i env u (by omega) hi
    obtain ⟨env', u', e3, hi3⟩ := forL_inv (i := i + 1) (fun d hd => h d (List.mem_cons_of_mem _ hd)) hi2 (by omega)
    refine ⟨env', u', ?_, by rw [List.length_cons, show i + ((ds.length + 1 : Nat) : Int) = i + 1 + ds.length by omega]; exact hi3⟩
    unfold forL
    rw [e1]
    show bnd (f env1 u) _ = _
    rw [e2]
    exact e3
theorem isi2_str (x : Str) : isiD (.str x) ["list", "tuple"] = some false := by show kitAnyB "str" ["list", "tuple"] = some false; decide +kernel
theorem isi2_int (x : Int) : isiD (.int x) ["list", "tuple"] = some false := by show kitAnyB "int" ["list", "tuple"] = some false; decide +kernel
theorem isi2_lst (x : List D) : isiD (.lst x) ["list", "tuple"] = some true := by show kitAnyB "list" ["list", "tuple"] = some true; decide +kernel
theorem isi2_tup (x : List D) : isiD (.tup x) ["list", "tuple"] = some true := by show kitAnyB "tuple" ["list", "tuple"] = some true; decide +kernel
theorem mIsE_eq {c : Str} {b : Bool} {m : M} {env : List Sl} {u u1 : U} {ns : List Str} {xs : List D} (h : m env u = some (.exc c ns xs, u1)) : mIsE c b m env u = some (.bl b, u1) := by
  unfold mIsE; rw [h]; show (if c = c then some (D.bl b, u1) else none) = _; rw [if_pos rfl]
theorem mZip_l {m m2 : M} {env : List Sl} {u u1 u2 : U} {ds es : List D} (h : m env u = some (.lst ds, u1)) (h2 : m2 env u1 = some (.lst es, u2)) : mZip m m2 env u = some (zipD ds es, u2) := by
  unfold mZip; rw [h]; show bnd (m2 env u1) _ = _; rw [h2]; rfl
theorem mZip_t {m m2 : M} {env : List Sl} {u u1 u2 : U} {ds es : List D} (h : m env u = some (.tup ds, u1)) (h2 : m2 env u1 = some (.tup es, u2)) : mZip m m2 env u = some (zipD ds es, u2) := by
  unfold mZip; rw [h]; show bnd (m2 env u1) _ = _; rw [h2]; rfl
theorem sc_er {p q : MS} {env env1 : List Sl} {u u1 : U} {c : Str} {ns : List Str} {xs : List D} (h : p env u = some (.er env1 c ns xs, u1)) : sCons p q env u = some (.er env1 c ns xs, u1) := by
  unfold sCons; rw [h]; rfl
theorem fAdd_l {a b : List D} (h : a.length + b.length ≤ 1000) : fAdd (.lst a) (.lst b) = some (.lst (a ++ b)) := by simp only [fAdd]; rw [if_pos (isiz h)]
theorem len_t {xs : List D} (h : xs.length ≤ 1000) : bLen [.tup xs] = some (.int xs.length) := by
  first
  | exact if_pos (isiz h)
  | rfl
theorem isi_bs_bl (b : Bool) : isiD (.bl b) ["bool", "str"] = some true := by show kitAnyB "bool" ["bool", "str"] = some true; decide +kernel
theorem isi_bs_str (b : Str) : isiD (.str b) ["bool", "str"] = some true := by show kitAnyB "str" ["bool", "str"] = some true; decide +kernel
theorem isi_bs_int (b : Int) : isiD (.int b) ["bool", "str"] = some false := by show kitAnyB "int" ["bool", "str"] = some false; decide +kernel
theorem isi2_non : isiD .non ["list", "tuple"] = some false := by decide +kernel
theorem isi2_bl (b : Bool) : isiD (.bl b) ["list", "tuple"] = some false := by show kitAnyB "bool" ["list", "tuple"] = some false; decide +kernel
theorem isi_l_l (x : List D) : isiD (.lst x) ["list"] = some true := by show kitAnyB "list" ["list"] = some true; decide +kernel
theorem isi_t_l (x : List D) : isiD (.tup x) ["list"] = some false := by show kitAnyB "tuple" ["list"] = some false; decide +kernel
theorem isi_b_non : isiD .non ["bool"] = some false := by decide +kernel
theorem isi_b_bl (b : Bool) : isiD (.bl b) ["bool"] = some true := by show kitAnyB "bool" ["bool"] = some true; decide +kernel
theorem isi_b_str (b : Str) : isiD (.str b) ["bool"] = some false := by show kitAnyB "str" ["bool"] = some false; decide +kernel
theorem ceq_bl (b : Bool) : cEq (.bl b) (.bl b) = some (.bl true) := by show some (D.bl (decide (b = b))) = _; rw [decide_eq_true rfl]
theorem ceq_str (b : Str) : cEq (.str b) (.str b) = some (.bl true) := by show some (D.bl (decide (b = b))) = _; rw [decide_eq_true rfl]
theorem ceq_int (b : Int) : cEq (.int b) (.int b) = some (.bl true) := by show some (D.bl (decide (b = b))) = _; rw [decide_eq_true rfl]
theorem bAll_ts {α : Type} (l : List α) : bAll [.lst (l.map fun _ => .bl true)] = some (.bl true) := by
  have : ∀ l : List α, blsOf (l.map fun _ => D.bl true) = some (l.map fun _ => true) := fun l => by
    induction l with
    | nil => rfl
    | cons a l ih =>
      show (blsOf (l.map fun _ => D.bl true)).map _ = _
      rw [ih]; rfl
  show (blsOf _).map _ = _
  rw [this]
  show some (D.bl _) = _
  have : (l.map fun _ => true).all id = true := by simp
  rw [this]
theorem zip_mem {xs : List D} {d : D} (h : d ∈ zipD xs xs) : ∃ x ∈ xs, d = .pr [x, x] := by
  unfold zipD at h
  induction xs with
  | nil => simp at h
  | cons x xs ih =>
    rw [List.zipWith_cons_cons] at h
    rcases List.mem_cons.mp h with rfl | h
    · exact ⟨x, List.mem_cons_self, rfl⟩
    · obtain ⟨y, hy, e⟩ := ih h
      exact ⟨y, List.mem_cons_of_mem _ hy, e⟩
theorem zip_len (xs : List D) : (zipD xs xs).length = xs.length := by unfold zipD; simp
theorem len_l {xs : List D} (h : xs.length ≤ 1000) : bLen [.lst xs] = some (.int xs.length) := by
  first
  | exact if_pos (isiz h)
  | rfl
theorem same_go {f : List D → U → Option (D × U)} {xs : List D} {a b : D} {u : U} (h : ∀ x ∈ xs, f [x, x] u = some (.bl true, u)) :
    compL (turnL (.many [2, 3]) [2, 3] [Sl.pub a, .pub b, .no, .no] mYes (mCall 2 f (mCons (mVar 2) (mCons (mVar 3) mNil)))) (zipD xs xs) u = some ((zipD xs xs).map fun _ => .bl true, u) :=
  compL_pure (g := fun _ => .bl true) fun d hd => by
    obtain ⟨x, hx, rfl⟩ := zip_mem hd
    exact turnL_eq rfl (mCall_eq (mCons_eq rfl (c1 rfl)) rfl (h x hx))
theorem xCall_eq {n : Nat} {F : List D → U → Option (R × U)} {ms : Ms} {env : List Sl} {u u1 u2 : U} {ds : List D} {r : R} (h : ms env u = some (ds, u1)) (hl : ds.length = n) (h2 : F ds u1 = some (r, u2)) : xCall n F ms env u = some (r, u2) := by
  unfold xCall; rw [h]; show (if ds.length = n then F ds u1 else none) = _; rw [if_pos hl]; exact h2
theorem sUpX_ok {m : MX} {k : List Sl → D → U → Option (Fl × U)} {env : List Sl} {u u1 : U} {d : D} (h : m env u = some (.ok d, u1)) : sUpX m k env u = k env d u1 := by unfold sUpX; rw [h]
theorem sUpX_er {m : MX} {k : List Sl → D → U → Option (Fl × U)} {env : List Sl} {u u1 : U} {c : Str} {ns : List Str} {xs : List D} (h : m env u = some (.er c ns xs, u1)) : sUpX m k env u = some (.er env c ns xs, u1) := by unfold sUpX; rw [h]
theorem plain_l {n : Nat} {l : List D} (h : ∀ d ∈ l, plainN n d = true) (few : l.length ≤ 1000) : plainN (n + 1) (.lst l) = true := by
  unfold plainN
  rw [Bool.and_eq_true]
  exact ⟨decide_eq_true few, List.all_eq_true.mpr h⟩
def P4 (l : List D) : Prop := ∀ d ∈ l, plainN 4 d = true
theorem P4.cons {a : D} {b : List D} (h : plainN 4 a = true) (g : P4 b) : P4 (a :: b) := fun d hd => (List.mem_cons.mp hd).elim (fun e => by rw [e]; exact h) (g d)
theorem P4.nil : P4 [] := fun d hd => by cases hd
end Dv
namespace Dv
open PySem PySem.Spec PyProof.Rows L2
section
variable {env env' : List Sl} {u u1 u2 u3 : U} {m a b : M} {ms : Ms} {mb : MB} {p q : MS} {d x y z : D} {ds es : List D} {i j n : Nat} {s s2 : Sl} {mv mv2 : MSl} {fl : Fl} {k : Bool} {o : Oo}
theorem sTgtS_eq {is : List Nat} (h : m env u = some (d, u1)) (h2 : bindS is d env = some env') : sTgtS is m env u = some (.nx env', u1) := by
  unfold sTgtS; rw [h]; show (match bindS is d env with | some env' => some (Fl.nx env', u1) | none => none) = _; rw [h2]
theorem mCallP_eq {π : List Nat} {F : List D → U → Option (D × U)} (h : ms env u = some (ds, u1)) (hl : ds.length = n ∧ (perm π ds).length = π.length) (h2 : F (perm π ds) u1 = some (d, u2)) : mCallP n π F ms env u = some (d, u2) := by
  unfold mCallP; rw [h]; show (if ds.length = n ∧ (perm π ds).length = π.length then F (perm π ds) u1 else none) = _; rw [if_pos hl]; exact h2
end
structure OkU (n : Int) (u : U) : Prop where
  a : 0 ≤ u.a
  b : 0 ≤ u.b ∧ u.b < 2 ^ 62
  c : 0 ≤ u.c ∧ u.c ≤ n
theorem OkU.mono {n k : Int} {u : U} (h : OkU n u) (l : n ≤ k) : OkU k u := ⟨h.a, h.b, h.c.1, by have := h.c.2; omega⟩
end Dv
namespace Dv
open PySem PySem.Spec PyProof.Rows L2
def AllT (xs : List Str) : Prop := ∀ x ∈ xs, TxO x
theorem AllT.sub {xs ys : List Str} (h : AllT ys) (s : ∀ x ∈ xs, x ∈ ys) : AllT xs := fun x hx => h x (s x hx)
theorem strs_py (xs : List Str) : toPys (xs.map D.str) = some (xs.map PyData.str) := toPys_map fun a _ => by unfold toPy; rfl
theorem strs_lay {xs : List Str} (h : AllT xs) : PyData.canLayAll0 (xs.map PyData.str) = true := lay_map fun a ha => by unfold PyData.canLay0; exact h a ha
theorem strs_dep (xs : List Str) : PyData.depthAll (xs.map PyData.str) ≤ 0 := depth_map fun a _ => by simp [PyData.depth]
theorem strs_shL {xs : List Str} (h : AllT xs) : SeqAt.shaped (.list (xs.map PyData.str)) = true := by
  unfold SeqAt.shaped
  rw [Bool.and_eq_true]
  refine ⟨by simp only [PyData.canLay0]; exact strs_lay h, decide_eq_true ?_⟩
  have := strs_dep xs
  unfold PyData.depth
  omega
theorem eqvAll_nil (ps : List PyData) : PyData.eqvAll ps [] = ps.isEmpty := by cases ps <;> simp [PyData.eqvAll]
theorem eqD_nilS {ys : List Str} (g : AllT ys) : eqD (.lst (ys.map .str)) (.lst []) = some ys.isEmpty := by
  show (match toPy (.lst (ys.map D.str)), toPy (.lst []) with | some x, some y => if SeqAt.shaped x = true ∧ SeqAt.shaped y = true then some (PyData.eqv x y) else none | _, _ => none) = _
  have e1 : toPy (.lst (ys.map D.str)) = some (.list (ys.map .str)) := by unfold toPy; rw [strs_py]; rfl
  have e2 : toPy (.lst []) = some (.list []) := by unfold toPy; simp [toPys]
  rw [e1, e2]
  show (if _ then _ else _) = _
  rw [if_pos ⟨strs_shL g, by decide⟩]
  show some (PyData.eqvAll (ys.map PyData.str) []) = _
  rw [eqvAll_nil]
  cases ys <;> rfl
theorem cne_nilS {ys : List Str} (g : AllT ys) : cNe (.lst (ys.map .str)) (.lst []) = some (.bl (!ys.isEmpty)) := by
  show (eqD _ _).map (fun k => D.bl (!k)) = _; rw [eqD_nilS g]; rfl
end Dv
namespace Dv
open PySem PySem.Spec L2
abbrev Al := List (Str × Int)
def putA (x : Str) (v : Int) : Al → Al
  | [] => [(x, v)]
  | p :: r => if p.1 = x then (p.1, v) :: r else p :: putA x v r
def getA (x : Str) : Al → Option Int
  | [] => none
  | p :: r => if p.1 = x then some p.2 else getA x r
theorem putA_cons (x : Str) (v : Int) (p : Str × Int) (r : Al) : putA x v (p :: r) = if p.1 = x then (p.1, v) :: r else p :: putA x v r := by rw [putA]
def NdA (al : Al) : Prop := (al.map (·.1)).Nodup
theorem put_keys (x : Str) (v : Int) : ∀ al : Al, (putA x v al).map (·.1) = if x ∈ al.map (·.1) then al.map (·.1) else al.map (·.1) ++ [x]
  | [] => rfl
  | p :: r => by
    rw [putA_cons]
    by_cases e : p.1 = x
    · rw [if_pos e, if_pos (by rw [← e]; exact List.mem_cons_self)]; rfl
    · rw [if_neg e, List.map_cons, put_keys x v r, List.map_cons]
      by_cases f : x ∈ r.map (·.1)
      · rw [if_pos f, if_pos (List.mem_cons_of_mem _ f)]
      · rw [if_neg f, if_neg (fun z => (List.mem_cons.mp z).elim (fun w => e w.symm) f)]; rfl
theorem NdA.put {al : Al} (h : NdA al) (x : Str) (v : Int) : NdA (putA x v al) := by
  unfold NdA
  rw [put_keys]
  split
  · exact h
  · rename_i hx
    refine List.nodup_append.mpr ⟨h, List.nodup_cons.mpr ⟨by simp, .nil⟩, fun a ha b hb => ?_⟩
    simp only [List.mem_cons, List.not_mem_nil, or_false] at hb
    rw [hb]
    intro z
    exact hx (z ▸ ha)
theorem compL_fm {α : Type} {f : D → U → Option (Option D × U)} {g h : α → D} {P : α → Bool} {u : U} : ∀ {l : List α}, (∀ a ∈ l, f (g a) u = some (if P a = true then some (h a) else none, u)) → compL f (l.map g) u = some ((l.filter P).map h, u)
  | [], _ => rfl
  | a :: l, hf => by
    rw [List.map_cons]
    unfold compL
    rw [hf a List.mem_cons_self]
    show bnd (compL f (l.map g) u) _ = _
    rw [compL_fm fun b hb => hf b (List.mem_cons_of_mem _ hb)]
    cases q : P a with
    | true => rw [List.filter_cons_of_pos q]; rfl
    | false => rw [List.filter_cons_of_neg (by rw [q]; decide)]; rfl
theorem compL_mp {α : Type} {f : D → U → Option (Option D × U)} {g h : α → D} {u : U} {l : List α} (hf : ∀ a ∈ l, f (g a) u = some (some (h a), u)) : compL f (l.map g) u = some (l.map h, u) := by
  have := compL_fm (P := fun _ => true) (h := h) (f := f) (g := g) (u := u) (l := l) fun a ha => by rw [if_pos rfl]; exact hf a ha
  rw [this, List.filter_eq_self.mpr fun _ _ => rfl]
end Dv
namespace Dv
open PySem PySem.Spec L2
structure Cod {α : Type} [DecidableEq α] (e : α → D) (p : α → PyData) (ok : α → Prop) (n : Nat) : Prop where
  py : ∀ a, toPy (e a) = some (p a)
  lay : ∀ a, ok a → (p a).canLay0 = true
  dep : ∀ a, (p a).depth ≤ n
  eqv : ∀ a b, PyData.eqv (p a) (p b) = decide (a = b)
  tup : ∀ a, ∃ xs, e a = .tup xs
section
variable {α : Type} [DecidableEq α] {e : α → D} {p : α → PyData} {ok : α → Prop} {n : Nat}
theorem Cod.any (c : Cod e p ok n) (a : α) (l : List α) [Decidable (a ∈ l)] : ((l.map p).any fun z => PyData.eqv z (p a)) = decide (a ∈ l) := by
  rw [List.any_map]
  have : ((fun z => PyData.eqv z (p a)) ∘ p) = fun q => decide (q = a) := funext fun q => c.eqv q a
  rw [this, Bool.eq_iff_iff, List.any_eq_true, decide_eq_true_iff]
  exact ⟨fun ⟨x, hx, h⟩ => by rw [← of_decide_eq_true h]; exact hx, fun hx => ⟨a, hx, decide_eq_true rfl⟩⟩
end
end Dv
namespace Dv
open PySem PySem.Spec PyProof.Rows L2
end Dv
namespace Dv
open PySem PySem.Spec PyProof.Rows L2
end Dv
namespace Dv
open PySem PySem.Spec PyProof.Rows L2
end Dv
namespace Dv
open PySem PySem.Spec PyProof.Rows L2
def manyOf (x : Str) (ds : List Dd) : Nat := ds.countP (fun q => decide (q = (true, x)))
def outR (x : Str) : List Dd → Nat
  | [] => 0
  | p :: r => if p.1 = true then outR x r else if p.2 = x then manyOf x r else outR x r
def ouOf (x : Str) (ds : List Dd) : Nat := outR x ds.reverse
structure CI (pre : List Dd) (w o : Al) : Prop where
  nw : NdA w
  no_ : NdA o
  lw : w.length ≤ pre.length
  lo : o.length ≤ pre.length
  w : ∀ x, (getA x w).getD 0 = (manyOf x pre : Int)
  o : ∀ x, (getA x o).getD 0 = (ouOf x pre : Int)
theorem CI.nil : CI [] [] [] := ⟨.nil, .nil, Nat.le_refl _, Nat.le_refl _, fun _ => rfl, fun _ => rfl⟩
/-- the streams of ds are among xs -/
def InS (ds : List Dd) (xs : List Str) : Prop := ∀ p ∈ ds, p.2 ∈ xs
theorem InS.take {ds : List Dd} {xs : List Str} (h : InS ds xs) (k : Nat) : InS (ds.take k) xs := fun p hp => h p (List.mem_of_mem_take hp)
end Dv
namespace Dv
open PySem PySem.Spec PyProof.Rows L2
end Dv
namespace Dv
open PySem PySem.Spec PyProof.Rows L2
theorem runBX_rt {m : MS} {L : Nat} {ds : List D} {u u1 : U} {d : D} (h : m (ds.map Sl.pub ++ List.replicate (L - ds.length) Sl.no) u = some (.rt d, u1)) : runBX m L ds u = some (.ok d, u1) := by
  unfold runBX; rw [h]
theorem runBX_er {m : MS} {L : Nat} {ds : List D} {u u1 : U} {env : List Sl} {c : Str} {ns : List Str} {xs : List D} (h : m (ds.map Sl.pub ++ List.replicate (L - ds.length) Sl.no) u = some (.er env c ns xs, u1)) : runBX m L ds u = some (.er c ns xs, u1) := by
  unfold runBX; rw [h]
end Dv
namespace Dv
open PySem PySem.Spec PyProof.Rows L2
end Dv
namespace Dv
open PySem PySem.Spec PyProof.Rows L2
end Dv
namespace Dv
open PySem PySem.Spec PyProof.Rows L2
section
variable {X : Cx} {G : Gx X.K} {mi : MI} {mc : MB} {me : M}
theorem AftS.up {K : PySem.W.Frag} {G : Gx K} {ua : Option Addr} {B H B1 H1 H' : Hp} {u' : U} {o : Oo} {v : V} (g : Grow ua B H B1 H1) (a : AftS G ua B1 H1 u' (.own o) v H') : AftS G ua B H u' (.own o) v H' := by
  obtain ⟨B', g', w, p, ho, e, h1, h2⟩ := a
  exact ⟨B', g.trans g', w, p, ho, e, g.live _ h1, h2⟩
variable {elt tg iter : Expr} {ifs : List Expr} {scope : Scope} {own : List (Str × Nat)} {pos : Pos}
end
def spFO {K : PySem.W.Frag} (G : Gx K) (F : List D → U → Option (Oo × U)) (n : Nat) : Sp := fun vs H Q _ => ∃ ua u B ds o u', Reps G ua ds vs B ∧ ds.length = n ∧ Wd ua u B H ∧ F ds u = some (o, u') ∧ ∀ v H', AftS G ua B H u' (.own o) v H' → Q v H'
def DefOkO (P : Program) (w : World) {K : PySem.W.Frag} (mg : Str → Option Value) (base : Heap) (G : Gx K) (x : Str) (k n : Nat) (F : List D → U → Option (Oo × U)) : Prop :=
  ∃ f fd ps, FnOk P w K mg base CX0 k f fd ps (spFO G F n) ∧ mg x = some (.ref f) ∧ PySem.W.keepIn K (.ref f) = true ∧ Binds K fd ps []
theorem DefOkO.mono {P : Program} {w : World} {K : PySem.W.Frag} {mg : Str → Option Value} {base : Heap} {G : Gx K} {x : Str} {j k n : Nat} {F : List D → U → Option (Oo × U)} (h : DefOkO P w mg base G x j n F) (l : j ≤ k) : DefOkO P w mg base G x k n F := by
  obtain ⟨f, fd, ps, h1, h2⟩ := h
  exact ⟨f, fd, ps, h1.mono l, h2⟩
end Dv
namespace Dv
open PySem PySem.Spec PyProof.Rows L2
end Dv
namespace Dv
open PySem PySem.Spec PyProof.Rows L2
end Dv
namespace Dv
open PySem PySem.Spec PyProof.Rows L2
section
variable {X : Cx} {C : Addr} {bmB : List Value} {B newId initId : String}
theorem pmk_bare {x : Str} {p pos : Pos} (F : ExcBaseFacts B newId initId bmB) (q : PySem.W.excIn X.K C bmB newId = true) (gC : X.mg x = some (.ref C)) (kC : PySem.W.keepIn X.K (.ref C) = true) (r : Raises X (.ref C)) (hg : Gl X x)
    (hdb : (x == ("__debug__" : Str)) = false := by decide) : PMk X (.Call (.Name x p) [] [] pos) (fun _ H Q => Q (.ref C) none H) := by
  intro pins s σ H Q I h
  refine wpAny_Call_Name_kw (ld_glob I hg gC ?_ hdb)
  refine PySem.W.callWith_K0 I.kIn kC ?_
  show wpAny _ _ (call (.ref C) []) _ _ _
  obtain ⟨bm, N, nm, qn, bs, hdct, sn, sub, ab, col, dd, k0, k1, k2, k3, k5, mN, hC, hN, hni, T⟩ := exc_obj I.kIn q
  refine wpAny_call_exc_subT F T hC hN hni (fun h' e hm => ?_) (by show 0 ≤ sizeLine; rw [sizeLine_eq]; omega)
  exact mk_of I hm r h (I.hok.gone hm.new)
/-- what a law knows of such a class -/
def ErMk0 (K : PySem.W.Frag) (mg : Str → Option Value) (G : Gx K) (x : Str) : Prop :=
  ∃ C B newId initId bmB, ExcBaseFacts B newId initId bmB ∧ PySem.W.excIn K C bmB newId = true ∧ mg x = some (.ref C) ∧ PySem.W.keepIn K (.ref C) = true ∧ PySem.W.subIn K (.ref C) (.type "BaseException") = some true ∧ PySem.W.typeIn K (.ref C) = some (.type "type") ∧ G.exc x = some C
def sRaise0 (x : Str) : MS := fun env u => some (.er env x [] [], u)
theorem ds_raise0 {G : Gx X.K} {W : WX} {x : Str} {p pc pos : Pos} (M0 : ErMk0 X.K X.mg G x) (hc : X.calm = true) (tk : Takes X W) (hg : Gl X x) (hdb : (x == ("__debug__" : Str)) = false := by decide) :
    PS X (.Raise (some (.Call (.Name x p) [] [] pc)) none pos) (tSt G W (sRaise0 x)) := by
  obtain ⟨C, B, newId, initId, bmB, F, q, gC, kC, isE, isT, hG⟩ := M0
  refine (ps_raise hc tk (pmk_bare F q gC kC (raises_own isE isT) hg hdb)).imp fun Dn σ H h => ?_
  obtain ⟨ua, u, B, env, fl, u', B0, H0, hgr, hO, hE, hW, hm, q⟩ := h
  cases hm
  exact q σ B H (.ref C) none hgr hO hE hW ⟨C, [], hG, rfl, ⟨rfl, .inl ⟨rfl, rfl⟩⟩, .nil⟩
end
end Dv
namespace Dv
open PySem PySem.Spec PyProof.Rows L2
section
variable {X : Cx} {G : Gx X.K} {W : WX} {c : Expr} {mb : MB} {m1 : MS} {body : List Stmt} {pos : Pos}
/-- while: at most so many turns -/
def sWh : Nat → MB → MS → MS
  | 0, _, _ => fun _ _ => none
  | n + 1, mb, m1 => fun env u => bnd (mb env u) fun b u1 => if b = true then bnd (m1 env u1) fun fl u2 => (match fl with
      | .nx env' => sWh n mb m1 env' u2
      | fl => some (fl, u2)) else some (.nx env, u1)
theorem ds_while (n : Nat) (hp : PassesOwn (model X.prog X.w) X.A X.env X.xe) (hc : PT X c (tTst G mb)) (hb : PSs X body (tSt G W m1)) : PS X (.While c body [] pos) (tSt G W (sWh n mb m1)) := (ps_while hp hc hb).imp fun Dn σ H h => by
  obtain ⟨ua, u, B, env, fl, u', B0, H0, hg, hO, hE, hW, hm, q⟩ := h
  refine ⟨fun k σ1 H1 => ∃ u1 B1 env1, Grow ua B0 H0 B1 H1 ∧ OwnNew env1 σ1 H0 ∧ EnvOk G ua env1 σ1 B1 H1 ∧ Wd ua u1 B1 H1 ∧ sWh k mb m1 env1 u1 = some (fl, u'), ⟨n, u, B, env, hg, hO, hE, hW, hm⟩, ?_⟩
  rintro k σ1 H1 ⟨u1, B1, env1, g1, o1, e1, w1, hm1⟩
  cases k with
  | zero => cases hm1
  | succ k =>
    obtain ⟨b, u2, c1, c2⟩ := bnd_some (show bnd (mb env1 u1) _ = _ from hm1)
    refine ⟨ua, u1, B1, env1, b, u2, e1, w1, c1, fun H2 ⟨B2, g2, w2⟩ => ?_⟩
    cases b with
    | true =>
      rw [if_pos rfl] at c2
      refine iteT ?_
      obtain ⟨f1, u3, c3, c4⟩ := bnd_some c2
      refine ⟨fun σ3 H3 => ∃ u1 B1 env1, Grow ua B0 H0 B1 H3 ∧ OwnNew env1 σ3 H0 ∧ EnvOk G ua env1 σ3 B1 H3 ∧ Wd ua u1 B1 H3 ∧ sWh k mb m1 env1 u1 = some (fl, u'), fun σ3 H3 z => ⟨k, Nat.lt_succ_self k, z⟩, ?_⟩
      refine ⟨ua, u2, B2, env1, f1, u3, B0, H0, g1.trans g2, o1, e1.grow g2, w2, c3, ?_⟩
      cases f1 with
      | nx env' => exact fun σ3 B3 H3 z1 z2 z3 z4 => ⟨u3, B3, env', z1, z2, z3, z4, c4⟩
      | rt d => cases c4; exact q
      | er env' cl ns xs => cases c4; exact q
    | false =>
      rw [if_neg Bool.false_ne_true] at c2
      refine iteF ?_
      cases c2
      exact q σ1 B2 H2 (g1.trans g2) o1 (e1.grow g2) w2
theorem sWh_f {n : Nat} {env : List Sl} {u u1 : U} (h : mb env u = some (false, u1)) : sWh (n + 1) mb m1 env u = some (.nx env, u1) := by
  show bnd (mb env u) _ = _
  rw [h]; rfl
theorem sWh_t {n : Nat} {env env' : List Sl} {u u1 u2 : U} (h : mb env u = some (true, u1)) (h2 : m1 env u1 = some (.nx env', u2)) : sWh (n + 1) mb m1 env u = sWh n mb m1 env' u2 := by
  show bnd (mb env u) _ = _
  rw [h]
  show bnd (m1 env u1) _ = _
  rw [h2]; rfl
end
end Dv
namespace Dv
open PySem PySem.Spec PyProof.Rows L2
def bStrI : List D → Option D
  | [.int i] => if i.natAbs.log2 < 1920 then some (.str (toString i)) else none
  | _ => none
section
variable {X : Cx} {G : Gx X.K}
theorem ok_strI : BiOk G (.type "str") bStrI := by
  intro ua u B H ds d vs e rs w
  unfold bStrI at e
  split at e
  · split at e
    · rename_i hz
      cases e
      obtain ⟨v, t, rfl, r1, r2⟩ := rs.of_cons
      rw [r2.of_nil]
      cases r1.int
      exact ⟨_, call_str_int, _, rfl, hz, .here w rep_str⟩
    · cases e
  · cases e
end
end Dv
namespace Dv
open PySem PySem.Spec PyProof.Rows L2
section
variable {X : Cx} {G : Gx X.K} {a b : Expr} {ma mb : M} {pos apos : Pos}
def fDivW : D → D → Option D
  | .int i, .int j => if 0 < j ∧ j.natAbs.log2 < 9000 then some (.int (i / j)) else none
  | _, _ => none
theorem ok_divW : BinOk G (binaryOp .FloorDiv) fDivW := by
  intro ua u B H da db d va vb e ra rb w
  unfold fDivW at e
  split at e
  · split at e
    · cases e; cases ra.int; cases rb.int
      exact ⟨_, op_fdivW, _, _, rfl, rfl, ‹_›, .here w rep_int⟩
    · cases e
  · cases e
def cLeS : D → D → Option D
  | .str i, .str j => some (.bl (!decide (j.cps.toList < i.cps.toList)))
  | _, _ => none
theorem ok_leS : BinOk G (compareOp .LtE) cLeS := by
  intro ua u B H da db d va vb e ra rb w
  unfold cLeS at e
  split at e
  · cases e; cases ra.str; cases rb.str
    exact ⟨_, op_le_str, _, _, rfl, rfl, .here w rep_bl⟩
  · cases e
theorem bf_leS : BoolF cLeS := fun x y d h => by
  unfold cLeS at h
  split at h
  · cases h; exact ⟨_, rfl⟩
  · cases h
def rsC : D → D → Option D
  | .str a, .str b => if a.length ≤ sizeLine then some (.str (Txt.rstripChars a b)) else none
  | _, _ => none
theorem rs_str {x y d : D} (h : rsC x y = some d) : ∃ s t, x = .str s ∧ y = .str t := by
  unfold rsC at h
  split at h
  · exact ⟨_, _, rfl, rfl⟩
  · cases h
theorem dv_rsC (ha : PE X a (tEv G ma)) (hb : PE X b (tEv G mb)) (hs : starEach [b] X.env = [(false, eval b X.env)] := by rfl) (hbase : attributeBase a "rstrip" X.env (eval a X.env) = eval a X.env := by rfl) (hline : (apos.endLine == pos.line) = true := by rfl) :
    PE X (.Call (.Attribute a "rstrip" apos) [b] [] pos) (tEv G (mBin rsC ma mb)) :=
  dv_s1 PySem.F.slot_str_rstrip PySem.F.type_str_rstrip mt_rstripChars (fun _ _ _ h => rs_str h) (fun ua u B H s t d Q h w q => by
    simp only [rsC] at h
    split at h
    · cases h; exact ⟨s, t, rfl, rfl, ‹_›, q _ _ (.here w rep_str)⟩
    · cases h) ha hb hs hbase hline
/-- the text of what stands in an f-string -/
def txtD : D → Option Str
  | .str x => if x.length ≤ sizeLine then some x else none
  | .int i => if i.natAbs.log2 < 1920 then some (toString i) else none
  | _ => none
def fmt2D (a b : D) : Option D := match txtD a, txtD b with
  | some x, some y => if (Str.empty ++ x).length ≤ sizeLine ∧ (Str.empty ++ x ++ y).length ≤ sizeLine then some (.str (Str.empty ++ x ++ y)) else none
  | _, _ => none
theorem fmt_run {σ : L2.St} {ua : Option Addr} {u u1 : U} {B : Hp} {H : Hp} {env : List Sl} {m : M} {x : Str} {d : D} {Q : VK} (hE : EnvOk G ua env σ B H) (hW : Wd ua u B H) (hm : m env u = some (d, u1)) (hx : txtD d = some x) (q : ∀ B1 H1, Grow ua B H B1 H1 → Wd ua u1 B1 H1 → Q (.str x) H1) : tFmt (tEv G m) σ H Q := by
  refine ⟨ua, u, B, env, d, u1, hE, hW, hm, fun v H1 ⟨B1, g1, w1, r1⟩ => ?_⟩
  unfold txtD at hx
  split at hx
  · split at hx
    · cases hx; cases r1.str
      exact .inl ⟨_, rfl, ‹_›, q B1 H1 g1 w1⟩
    · cases hx
  · split at hx
    · cases hx; cases r1.int
      exact .inr ⟨_, rfl, ‹_›, q B1 H1 g1 w1⟩
    · cases hx
  · cases hx
theorem dv_fmt2 {p1 p2 : Pos} (ha : PE X a (tEv G ma)) (hb : PE X b (tEv G mb)) : PE X (.JoinedStr [.FormattedValue a (-1) none p1, .FormattedValue b (-1) none p2] pos) (tEv G (mBin fmt2D ma mb)) := by
  refine (pe_joined (.cons (pe_fmt ha) (.cons (pe_fmt hb) .nil))).imp fun σ H Q h => ?_
  obtain ⟨ua, u, B, env, d, u', hE, hW, hm, q⟩ := h
  obtain ⟨x, u1, e1, e2⟩ := bnd_some hm
  obtain ⟨y, u2, e4, e3⟩ := bnd_some e2
  obtain ⟨l3, rfl⟩ := lft_some e3
  unfold fmt2D at l3
  split at l3
  · rename_i s t hs ht
    split at l3
    · rename_i hl
      cases l3
      refine fmt_run hE hW e1 hs fun B1 H1 g1 w1 => ⟨s, rfl, hl.1, ?_⟩
      refine fmt_run (hE.grow g1) w1 e4 ht fun B2 H2 g2 w2 => ⟨t, rfl, hl.2, ?_⟩
      exact q _ _ (.up (g1.trans g2) (.here w2 rep_str))
    · cases l3
  · cases l3
end
def DefKX (P : Program) (w : World) {K : PySem.W.Frag} (mg : Str → Option Value) (base : Heap) (G : Gx K) (x : Str) (ks : List Str) (k : Nat) (F : List D → U → Option (R × U)) : Prop :=
  ∃ f fd, FnOk P w K mg base (L2.CX P w) k f fd ks (spX G F ks.length) ∧ mg x = some (.ref f) ∧ PySem.W.keepIn K (.ref f) = true ∧ ∀ (s : Shared) (ws : List Value), K.In s.heap → ws.length = ks.length → BindsTo s fd ⟨[], ks.zip ws⟩ (ks.zip ws)
theorem DefKX.mono {P : Program} {w : World} {K : PySem.W.Frag} {mg : Str → Option Value} {base : Heap} {G : Gx K} {x : Str} {ks : List Str} {j k : Nat} {F : List D → U → Option (R × U)} (h : DefKX P w mg base G x ks j F) (l : j ≤ k) : DefKX P w mg base G x ks k F := by
  obtain ⟨f, fd, h1, h2⟩ := h
  exact ⟨f, fd, h1.mono l, h2⟩
section
variable {X : Cx} {G : Gx X.K} {W : WX} {kws : List Keyword} {ms : Ms} {p pos : Pos}
theorem dx_callK {x : Str} {k n : Nat} {ks : List Str} {F : List D → U → Option (R × U)} (D0 : DefKX X.prog X.w X.mg X.base G x ks k F) (tk : Takes X W) (hr : Room k X.A) (hg : Gl X x) (hn : ks.length = n) (ha : PK X kws (tEvs G ms))
    (hall : (backToKw pos (keywordEach kws X.env)).all (·.1.isSome) = true := by rfl) (hks : (backToKw pos (keywordEach kws X.env)).filterMap (·.1) = ks := by rfl) (hdb : (x == ("__debug__" : Str)) = false := by decide)
    (hpl : ((backTo pos (starEach [] X.env)).any (·.1) || (backToKw pos (keywordEach kws X.env)).any (·.1.isNone)) = false := by rfl) :
    PE X (.Call (.Name x p) [] kws pos) (tEvX G W (xCall n F ms)) := by
  subst hn
  obtain ⟨f, fd, hf, hm, hk, hb⟩ := D0
  refine ⟨fun pins s σ H Q I h => ?_⟩
  obtain ⟨ua, u, B, env, r, u', hE, hW, hm2, q⟩ := h
  obtain ⟨ds, u1, h1, h2⟩ := bnd_some hm2
  split at h2
  · rename_i hl
    refine wpAny_Call_Name_kw (ld_glob I hg hm ?_ hdb)
    refine PySem.W.callWith_KW0 (h₀ := X.base) I.ok.mod.kin hk hall (thn (ha.run pos pins s σ H _ I ⟨ua, u, B, env, ds, u1, hE, hW, h1, fun _ _ z => z⟩) fun ws s2 ⟨zs, H2, I2, rz, B2, g2, w2, r2⟩ => ⟨I2.kIn, ?_⟩) hpl
    rw [hks]
    have lw : ws.length = ks.length := by rw [← rz.length, ← r2.len]; exact hl
    refine wpAny_call (codeAny_mono (hf.run X.A X.stack s2 H2 ⟨[] ++ [], ks.zip ws⟩ ws zs Q (fun c d H' => W c d σ H') hr I2.env0 (hb s2 ws I2.kIn lw) rz ⟨ua, u1, B2, ds, r, u', r2, hl, w2, h2, q.up g2⟩) fun r s' hq => ?_)
    cases r with
    | error e => exact (passAt tk σ) pins H2 s2 e s' I2 hq
    | ok fl =>
      cases fl with
      | ret u => exact I2.after hq
      | next => exact False.elim hq
      | brk => exact False.elim hq
      | cont => exact False.elim hq
  · cases h2
end
end Dv
namespace Dv
open PySem PySem.Spec PyProof.Rows L2
/-- called by place, n and more things: what is left over as a tuple behind the n -/
def spXV {K : PySem.W.Frag} (G : Gx K) (F : List D → U → Option (R × U)) (n : Nat) : Sp := fun vs H Q E => ∃ ua u B ds r u', Reps G ua ds vs B ∧ n ≤ ds.length ∧ ds.length ≤ 1000 ∧ Wd ua u B H ∧ F (ds.take n ++ [.tup (ds.drop n)]) u = some (r, u') ∧ OutR G ua B H u' Q E r
def DefOkXV (P : Program) (w : World) {K : PySem.W.Frag} (mg : Str → Option Value) (base : Heap) (G : Gx K) (x : Str) (k n : Nat) (F : List D → U → Option (R × U)) : Prop :=
  ∃ f, FnR P w K mg base (L2.CX P w) k f (spXV G F n) ∧ mg x = some (.ref f) ∧ PySem.W.keepIn K (.ref f) = true
theorem DefOkXV.mono {P : Program} {w : World} {K : PySem.W.Frag} {mg : Str → Option Value} {base : Heap} {G : Gx K} {x : Str} {j k n : Nat} {F : List D → U → Option (R × U)} (h : DefOkXV P w mg base G x j n F) (l : j ≤ k) : DefOkXV P w mg base G x k n F := by
  obtain ⟨f, h1, h2⟩ := h
  exact ⟨f, h1.mono l, h2⟩
end Dv
namespace Dv
open PySem PySem.Spec PyProof.Rows L2
end Dv
namespace Lw89
open PySem PySem.Spec PyProof.Rows L2 Dv
def topS (i : Nat) : Stmt := PySem.Challenge.pw_lateshown_k89_lines_as_texts.main.body.getD i (.Pass ⟨0, 0, 0, 0⟩)
structure Tx (mg : Str → Option Value) : Prop where
  n_ValueError : mg ("ValueError" : Str) = none
  n_abs : mg ("abs" : Str) = none
  n_all : mg ("all" : Str) = none
  n_bool : mg ("bool" : Str) = none
  n_enumerate : mg ("enumerate" : Str) = none
  n_int : mg ("int" : Str) = none
  n_isinstance : mg ("isinstance" : Str) = none
  n_len : mg ("len" : Str) = none
  n_list : mg ("list" : Str) = none
  n_range : mg ("range" : Str) = none
  n_str : mg ("str" : Str) = none
  n_tuple : mg ("tuple" : Str) = none
  n_zip : mg ("zip" : Str) = none
  c_DIGITS : ∃ t, mg ("DIGITS" : Str) = some (.str ("0123456789" : Str) t)
  c_LETTERS : ∃ t, mg ("LETTERS" : Str) = some (.str ("abcdefghijklmnopqrstuvwxyz" : Str) t)
abbrev s_is_name : Stmt := topS 4
theorem sc_is_name : FnScope [("thing" : Str), ("letter" : Str)] [("thing" : Str)] (defScope s_is_name) := ⟨rfl, rfl, rfl, by decide +kernel, rfl, by decide +kernel, by decide +kernel⟩
def m_is_name : MS := (sCons (sIf (mOrB (mNotB (mTru (mIsi ["str"] (mVar 0)))) (mNotB (mTru (mChain cLe cLe (mC (.int (1))) (mBi bLen (mCons (mVar 0) mNil)) (mC (.int (8))))))) (sCons (sRet (mC (.bl false)))
    sNil) sNil)
    (sCons (sRet (mBi bAll (mCons (mLc (.one 1) [1] (mItems (mVar 0)) mYes (mBin cIn (mVar 1) (mC (.str ("abcdefghijklmnopqrstuvwxyz" : Str))))) mNil)))
    sNil))
def F_is_name : List D → U → Option (D × U) := runB m_is_name 2
theorem ok_is_name {P : Program} {w : World} {K : PySem.W.Frag} {mg : Str → Option Value} {base : Heap} {G : Gx K} (T : Tx mg) {f : Addr} {fd : FuncData} (F : Fun K ("is_name" : Str) ("is_name" : Str) s_is_name f fd)  : FnOk P w K mg base CX0 1 f fd [("thing" : Str)] (spF G F_is_name 1) :=
  have nd := sc_is_name.nd
  def_ok F sc_is_name rfl fun cdv A outer s H E hr => (dss_cons (ds_if (PW.pt (dw_or (dt_not (dt_val (dv_isi rfl T.n_isinstance (dv_var 0) rfl T.n_str (by decide +kernel)))) (dw_or1 (dt_not (dt_chain ok_le ok_le bf_le dv_int (dv_bi ok_len rfl T.n_len (by decide +kernel) (dvs_cons (dv_var 0) dvs_nil)) dv_int))))) (dss_cons (ds_ret dv_bl)
    dss_nil) dss_nil)
    (dss_cons (ds_ret (dv_bi (ok_all (by rfl)) rfl T.n_all (by decide +kernel) (dvs_cons (dv_lc (.one 1) [1] rfl nd (di_items (dv_var 0)) (blkOk_by (own := [(("letter" : Str), 1)]) (N := [("thing" : Str), ("letter" : Str)]) (sc := defScope s_is_name) (by decide +kernel)) rfl (by decide) (fun _ _ _ _ _ => (pg_name (i := 1) nd rfl (by first | exact Or.inl rfl | exact Or.inr rfl))) (fun _ _ _ _ _ => dts_no) (fun _ _ _ _ _ => (dv_cmp (ok_in (hU65 hr)) (dv_var 1) (dv_gS rfl T.c_LETTERS)))) dvs_nil)))
    dss_nil))
abbrev s_line_text : Stmt := topS 7
theorem sc_line_text : FnScope [("line" : Str), ("stream" : Str), ("number" : Str)] [("line" : Str)] (defScope s_line_text) := ⟨rfl, rfl, rfl, by decide +kernel, rfl, by decide +kernel, by decide +kernel⟩
def m_line_text : MS := (sCons (sTgtS [1, 2] (mVar 0))
    (sCons (sRet (mBin fmt2D (mVar 1) (mVar 2)))
    sNil))
def F_line_text : List D → U → Option (D × U) := runB m_line_text 3
theorem ok_line_text {P : Program} {w : World} {K : PySem.W.Frag} {mg : Str → Option Value} {base : Heap} {G : Gx K} (T : Tx mg) {f : Addr} {fd : FuncData} (F : Fun K ("line_text" : Str) ("line_text" : Str) s_line_text f fd)  : FnOk P w K mg base CX0 1 f fd [("line" : Str)] (spF G F_line_text 1) :=
  have nd := sc_line_text.nd
  def_ok F sc_line_text rfl fun cdv A outer s H E hr => (dss_cons (ds_tgtS [1, 2] (dv_var 0) (pg_sq rfl (pgs_cons (pg_name (i := 1) nd rfl (by first | exact Or.inl rfl | exact Or.inr rfl)) (pgs_cons (pg_name (i := 2) nd rfl (by first | exact Or.inl rfl | exact Or.inr rfl)) pgs_nil))))
    (dss_cons (ds_ret (dv_fmt2 (dv_var 1) (dv_var 2)))
    dss_nil))
abbrev s_line_in : Stmt := topS 8
theorem sc_line_in : FnScope [("text" : Str), ("stream" : Str), ("digits" : Str), ("number" : Str), ("digit" : Str)] [("text" : Str)] (defScope s_line_in) := ⟨rfl, rfl, rfl, by decide +kernel, rfl, by decide +kernel, by decide +kernel⟩
def m_line_in : MS := (sCons (sSet 1 (mBin rsC (mVar 0) (mC (.str ("0123456789" : Str)))))
    (sCons (sSet 2 (mBin rmpD (mVar 0) (mVar 1)))
    (sCons (sIf (mOrB (mNotB (mTru (mCall 1 F_is_name (mCons (mVar 1) mNil)))) (mOrB (mTru (mBin cEq (mVar 2) (mC (.str ("" : Str))))) (mTru (mBin stwD (mVar 2) (mC (.str ("0" : Str))))))) (sCons (sRaise0 ("BadText" : Str))
    sNil) sNil)
    (sCons (sSet 3 (mC (.int (0))))
    (sCons (sFor (.one 4) (mItems (mVar 2)) (sCons (sSet 3 (mBin fAdd (mBin fMul (mC (.int (10))) (mVar 3)) (mBi bIntS (mCons (mVar 4) mNil))))
    sNil))
    (sCons (sRet (mTup (mCons (mVar 1) (mCons (mVar 3) mNil))))
    sNil))))))
def F_line_in : List D → U → Option (R × U) := runBX m_line_in 5
theorem ok_line_in {P : Program} {w : World} {K : PySem.W.Frag} {mg : Str → Option Value} {base : Heap} {G : Gx K} (T : Tx mg) {f : Addr} {fd : FuncData} (F : Fun K ("line_in" : Str) ("line_in" : Str) s_line_in f fd) (D_is_name : DefOk P w mg base G ("is_name" : Str) 1 1 F_is_name) (E0_BadText : ErMk0 K mg G ("BadText" : Str)) : FnOk P w K mg base (L2.CX P w) 2 f fd [("text" : Str)] (spX G F_line_in 1) :=
  have nd := sc_line_in.nd
  def_okX F sc_line_in rfl fun cdv A outer s H E hr tk hp => (dss_cons (ds_set 1 nd (dv_rsC (dv_var 0) (dv_gS rfl T.c_DIGITS)))
    (dss_cons (ds_set 2 nd (dv_rmp (dv_var 0) (dv_var 1)))
    (dss_cons (ds_if (PW.pt (dw_or (dt_not (dt_val (dv_call (D_is_name.mono (by decide)) hr rfl (dvs_cons (dv_var 1) dvs_nil)))) (dw_or (dt_cmp (ok_eq (hU64 hr)) bf_eq (dv_var 2) dv_str) (dw_or1 (dt_val (dv_stw (dv_var 2) dv_str)))))) (dss_cons (ds_raise0 E0_BadText rfl tk rfl)
    dss_nil) dss_nil)
    (dss_cons (ds_set 3 nd dv_int)
    (dss_cons (ds_for (.one 4) hp rfl (di_items (dv_var 2)) (pg_name (i := 4) nd rfl (by first | exact Or.inl rfl | exact Or.inr rfl)) (dss_cons (ds_set 3 nd (dv_bin ok_add (dv_bin ok_mul dv_int (dv_var 3)) (dv_ty ok_intS rfl T.n_int (by decide +kernel) (dvs_cons (dv_var 4) dvs_nil))))
    dss_nil))
    (dss_cons (ds_ret (dv_tup (dvs_cons (dv_var 1) (dvs_cons (dv_var 3) dvs_nil))))
    dss_nil))))))
abbrev s__law_box : Stmt := topS 10
theorem sc__law_box : FnScope [("_law_script" : Str), ("_law_k" : Str), ("_law_cell" : Str)] [("_law_script" : Str), ("_law_k" : Str)] (defScope s__law_box) := ⟨rfl, rfl, rfl, by decide +kernel, rfl, by decide +kernel, by decide +kernel⟩
def m__law_box : MS := (sCons (sSet 2 (mIte (mTru (mBin cLt (mVar 1) (mBi bLen (mCons (mVar 0) mNil)))) (mBin ixD (mVar 0) (mVar 1)) (mC (.int (0)))))
    (sCons (sRet (mLst (mCons (mBin fMul (mBi bAbs (mCons (mVar 2) mNil)) (mBi bInt (mCons (mBin cGe (mBi bAbs (mCons (mVar 2) mNil)) (mBin fPow (mC (.int (10))) (mC (.int (18))))) mNil))) (mCons (mBin fAdd (mBin fAdd (mBin fMod (mBi bInt (mCons (mVar 2) mNil)) (mC (.int (2305843009213693951)))) (mBin fMul (mC (.int (39373))) (mVar 1))) (mC (.int (824189)))) (mCons (mC (.int (0))) mNil)))))
    sNil))
def F__law_box : List D → U → Option (D × U) := runB m__law_box 3
theorem ok__law_box {P : Program} {w : World} {K : PySem.W.Frag} {mg : Str → Option Value} {base : Heap} {G : Gx K} (T : Tx mg) {f : Addr} {fd : FuncData} (F : Fun K ("_law_box" : Str) ("_law_box" : Str) s__law_box f fd)  : FnOk P w K mg base CX0 1 f fd [("_law_script" : Str), ("_law_k" : Str)] (spF G F__law_box 2) :=
  have nd := sc__law_box.nd
  def_ok F sc__law_box rfl fun cdv A outer s H E hr => (dss_cons (ds_set 2 nd (dv_ite (dt_cmp ok_lt bf_lt (dv_var 1) (dv_bi ok_len rfl T.n_len (by decide +kernel) (dvs_cons (dv_var 0) dvs_nil))) (dv_ix (dv_var 0) (dv_var 1)) dv_int))
    (dss_cons (ds_ret (dv_lst (dvs_cons (dv_bin ok_mul (dv_bi ok_abs rfl T.n_abs (by decide +kernel) (dvs_cons (dv_var 2) dvs_nil)) (dv_ty ok_int rfl T.n_int (by decide +kernel) (dvs_cons (dv_cmp ok_ge (dv_bi ok_abs rfl T.n_abs (by decide +kernel) (dvs_cons (dv_var 2) dvs_nil)) (dv_bin ok_pow dv_int dv_int)) dvs_nil))) (dvs_cons (dv_bin ok_add (dv_bin ok_add (dv_bin ok_mod (dv_ty ok_int rfl T.n_int (by decide +kernel) (dvs_cons (dv_var 2) dvs_nil)) dv_int) (dv_bin ok_mul dv_int (dv_var 1))) dv_int) (dvs_cons dv_int dvs_nil)))))
    dss_nil))
abbrev s__law_take : Stmt := topS 11
theorem sc__law_take : FnScope [("_law_urn" : Str), ("_law_low_so" : Str), ("_law_drawn" : Str), ("_law_once" : Str), ("_law_far" : Str), ("_law_twice" : Str)] [("_law_urn" : Str), ("_law_low_so" : Str)] (defScope s__law_take) := ⟨rfl, rfl, rfl, by decide +kernel, rfl, by decide +kernel, by decide +kernel⟩
def m__law_take : MS := (sCons (sIf (mTru (mBin cGt (mUrn0 0) (mC (.int (0))))) (sCons (sSet 2 (mBin fMod (mBi bInt (mCons (mUrn0 0) mNil)) (mVar 1)))
    (sCons (sUrn0 0 (mBin fDivW (mUrn0 0) (mVar 1)))
    (sCons (sRet (mVar 2))
    sNil))) sNil)
    (sCons (sUrn2 0 (mBin fAdd (mUrn2 0) (mC (.int (1)))))
    (sCons (sSet 3 (mBin fMod (mBi bInt (mCons (mBin fMul (mBin fAdd (mUrn1 0) (mBin fMul (mC (.int (48271))) (mUrn2 0))) (mBin fAdd (mC (.int (39373))) (mUrn2 0))) mNil)) (mC (.int (2147483647)))))
    (sCons (sSet 4 (mBin fAdd (mBin fMod (mBi bInt (mCons (mVar 3) mNil)) (mC (.int (40009)))) (mC (.int (7)))))
    (sCons (sSet 5 (mBin fMod (mBi bInt (mCons (mBin fMul (mBin fAdd (mBin fAdd (mVar 3) (mUrn2 0)) (mBin fDivW (mUrn1 0) (mC (.int (1000003))))) (mVar 4)) mNil)) (mC (.int (2147483629)))))
    (sCons (sRet (mBin fMod (mBi bInt (mCons (mBin fDivW (mBin fMod (mBi bInt (mCons (mBin fAdd (mBin fMul (mVar 5) (mC (.int (48271)))) (mVar 3)) mNil)) (mC (.int (2147483587)))) (mC (.int (64)))) mNil)) (mVar 1)))
    sNil))))))
def F__law_take : List D → U → Option (D × U) := runB m__law_take 6
theorem ok__law_take {P : Program} {w : World} {K : PySem.W.Frag} {mg : Str → Option Value} {base : Heap} {G : Gx K} (T : Tx mg) {f : Addr} {fd : FuncData} (F : Fun K ("_law_take" : Str) ("_law_take" : Str) s__law_take f fd)  : FnOk P w K mg base CX0 1 f fd [("_law_urn" : Str), ("_law_low_so" : Str)] (spF G F__law_take 2) :=
  have nd := sc__law_take.nd
  def_ok F sc__law_take rfl fun cdv A outer s H E hr => (dss_cons (ds_if (dt_cmp ok_gt bf_gt (dv_urn0 0) dv_int) (dss_cons (ds_set 2 nd (dv_bin ok_mod (dv_ty ok_int rfl T.n_int (by decide +kernel) (dvs_cons (dv_urn0 0) dvs_nil)) (dv_var 1)))
    (dss_cons (ds_urn0 0 (dv_bin ok_divW (dv_urn0 0) (dv_var 1)))
    (dss_cons (ds_ret (dv_var 2))
    dss_nil))) dss_nil)
    (dss_cons (ds_urn2 0 (dv_bin ok_add (dv_urn2 0) dv_int))
    (dss_cons (ds_set 3 nd (dv_bin ok_mod (dv_ty ok_int rfl T.n_int (by decide +kernel) (dvs_cons (dv_bin ok_mul (dv_bin ok_add (dv_urn1 0) (dv_bin ok_mul dv_int (dv_urn2 0))) (dv_bin ok_add dv_int (dv_urn2 0))) dvs_nil)) dv_int))
    (dss_cons (ds_set 4 nd (dv_bin ok_add (dv_bin ok_mod (dv_ty ok_int rfl T.n_int (by decide +kernel) (dvs_cons (dv_var 3) dvs_nil)) dv_int) dv_int))
    (dss_cons (ds_set 5 nd (dv_bin ok_mod (dv_ty ok_int rfl T.n_int (by decide +kernel) (dvs_cons (dv_bin ok_mul (dv_bin ok_add (dv_bin ok_add (dv_var 3) (dv_urn2 0)) (dv_bin ok_divW (dv_urn1 0) dv_int)) (dv_var 4)) dvs_nil)) dv_int))
    (dss_cons (ds_ret (dv_bin ok_mod (dv_ty ok_int rfl T.n_int (by decide +kernel) (dvs_cons (dv_bin ok_divW (dv_bin ok_mod (dv_ty ok_int rfl T.n_int (by decide +kernel) (dvs_cons (dv_bin ok_add (dv_bin ok_mul (dv_var 5) dv_int) (dv_var 3)) dvs_nil)) dv_int) dv_int) dvs_nil)) (dv_var 1)))
    dss_nil))))))
abbrev s__law_of : Stmt := topS 13
theorem sc__law_of : FnScope [("_law_urn" : Str), ("_law_some_so" : Str)] [("_law_urn" : Str), ("_law_some_so" : Str)] (defScope s__law_of) := ⟨rfl, rfl, rfl, by decide +kernel, rfl, by decide +kernel, by decide +kernel⟩
def m__law_of : MS := (sCons (sRet (mBin ixD (mVar 1) (mCall 2 F__law_take (mCons (mVar 0) (mCons (mBi bLen (mCons (mVar 1) mNil)) mNil)))))
    sNil)
def F__law_of : List D → U → Option (D × U) := runB m__law_of 2
theorem ok__law_of {P : Program} {w : World} {K : PySem.W.Frag} {mg : Str → Option Value} {base : Heap} {G : Gx K} (T : Tx mg) {f : Addr} {fd : FuncData} (F : Fun K ("_law_of" : Str) ("_law_of" : Str) s__law_of f fd) (D__law_take : DefOk P w mg base G ("_law_take" : Str) 1 2 F__law_take) : FnOk P w K mg base CX0 2 f fd [("_law_urn" : Str), ("_law_some_so" : Str)] (spF G F__law_of 2) :=
  have nd := sc__law_of.nd
  def_ok F sc__law_of rfl fun cdv A outer s H E hr => (dss_cons (ds_ret (dv_ix (dv_var 1) (dv_call (D__law_take.mono (by decide)) hr rfl (dvs_cons (dv_var 0) (dvs_cons (dv_bi ok_len rfl T.n_len (by decide +kernel) (dvs_cons (dv_var 1) dvs_nil)) dvs_nil)))))
    dss_nil)
abbrev s__law_same : Stmt := topS 14
theorem sc__law_same : FnScope [("_law_got" : Str), ("_law_goal" : Str), ("_law_mine_so" : Str), ("_law_own" : Str)] [("_law_got" : Str), ("_law_goal" : Str)] (defScope s__law_same) := ⟨rfl, rfl, rfl, by decide +kernel, rfl, by decide +kernel, by decide +kernel⟩
def m__law_same (F__law_same_ : List D → U → Option (D × U)) : MS := (sCons (sIf (mTru (mIsi ["list", "tuple"] (mVar 1))) (sCons (sIf (mOrB (mTru (mBin cNe (mIsi ["list"] (mVar 0)) (mIsi ["list"] (mVar 1)))) (mTru (mBin cNe (mIsi ["tuple"] (mVar 0)) (mIsi ["tuple"] (mVar 1))))) (sCons (sRet (mC (.bl false)))
    sNil) sNil)
    (sCons (sRet (mAnd (mBin cEq (mBi bLen (mCons (mVar 0) mNil)) (mBi bLen (mCons (mVar 1) mNil))) (mBi bAll (mCons (mLc (.many [2, 3]) [2, 3] (mZip (mVar 0) (mVar 1)) mYes (mCall 2 F__law_same_ (mCons (mVar 2) (mCons (mVar 3) mNil)))) mNil))))
    sNil)) sNil)
    (sCons (sIf (mOrB (mTru (mBin cIs (mVar 1) (mC .non))) (mTru (mIsi ["bool", "str"] (mVar 1)))) (sCons (sRet (mAnd (mBin cEq (mVar 0) (mVar 1)) (mAnd (mBin cEq (mIsi ["bool"] (mVar 0)) (mIsi ["bool"] (mVar 1))) (mBin cEq (mBin cIs (mVar 0) (mC .non)) (mBin cIs (mVar 1) (mC .non))))))
    sNil) sNil)
    (sCons (sRet (mAnd (mIsi ["int"] (mVar 0)) (mAnd (mNot (mIsi ["bool"] (mVar 0))) (mBin cEq (mVar 0) (mVar 1)))))
    sNil)))
def FR__law_same : Nat → List D → U → Option (D × U)
  | 0 => fun _ _ => none
  | n + 1 => runB (m__law_same (FR__law_same n)) 4
theorem okR__law_same {P : Program} {w : World} {K : PySem.W.Frag} {mg : Str → Option Value} {base : Heap} {G : Gx K} (T : Tx mg) {f : Addr} {fd : FuncData} (F : Fun K ("_law_same" : Str) ("_law_same" : Str) s__law_same f fd) (hm : mg ("_law_same" : Str) = some (.ref f)) (hb : Binds K fd [("_law_got" : Str), ("_law_goal" : Str)] [])  : ∀ n : Nat, FnOk P w K mg base CX0 (0 + n) f fd [("_law_got" : Str), ("_law_goal" : Str)] (spF G (FR__law_same n) 2)
  | 0 => ⟨fun _ _ _ _ h => (by obtain ⟨_, _, _, _, _, _, _, _, _, h, _⟩ := h; cases h), fun _ _ _ _ _ _ _ _ _ _ _ _ _ h => (by obtain ⟨_, _, _, _, _, _, _, _, _, h, _⟩ := h; cases h)⟩
  | n + 1 =>
    have nd := sc__law_same.nd
    have D__law_same : DefOk P w mg base G ("_law_same" : Str) (0 + n) 2 (FR__law_same n) := ⟨f, fd, _, okR__law_same T F hm hb  n, hm, F.kp, hb⟩
    def_ok (k := 0 + n) F sc__law_same rfl fun cdv A outer s H E hr => (dss_cons (ds_if (dt_val (dv_isi2 rfl T.n_isinstance (dv_var 1) rfl T.n_list (by decide +kernel) rfl T.n_tuple (by decide +kernel))) (dss_cons (ds_if (PW.pt (dw_or (dt_cmp (ok_ne (hU64 hr)) bf_ne (dv_isi rfl T.n_isinstance (dv_var 0) rfl T.n_list (by decide +kernel)) (dv_isi rfl T.n_isinstance (dv_var 1) rfl T.n_list (by decide +kernel))) (dw_or1 (dt_cmp (ok_ne (hU64 hr)) bf_ne (dv_isi rfl T.n_isinstance (dv_var 0) rfl T.n_tuple (by decide +kernel)) (dv_isi rfl T.n_isinstance (dv_var 1) rfl T.n_tuple (by decide +kernel)))))) (dss_cons (ds_ret dv_bl)
    dss_nil) dss_nil)
    (dss_cons (ds_ret (dv_and (dv_cmp (ok_eq (hU64 hr)) (dv_bi ok_len rfl T.n_len (by decide +kernel) (dvs_cons (dv_var 0) dvs_nil)) (dv_bi ok_len rfl T.n_len (by decide +kernel) (dvs_cons (dv_var 1) dvs_nil))) (dv_one _ (dv_bi (ok_all (by rfl)) rfl T.n_all (by decide +kernel) (dvs_cons (dv_lc (.many [2, 3]) [2, 3] rfl nd (di_zip rfl T.n_zip (dv_var 0) (dv_var 1)) (blkOk_by (own := [(("_law_mine_so" : Str), 2), (("_law_own" : Str), 3)]) (N := [("_law_got" : Str), ("_law_goal" : Str), ("_law_mine_so" : Str), ("_law_own" : Str)]) (sc := defScope s__law_same) (by decide +kernel)) rfl (by decide) (fun _ _ _ _ _ => (pg_tup rfl (pgs_cons (pg_name (i := 2) nd rfl (by first | exact Or.inl rfl | exact Or.inr rfl)) (pgs_cons (pg_name (i := 3) nd rfl (by first | exact Or.inl rfl | exact Or.inr rfl)) pgs_nil)))) (fun _ _ _ _ _ => dts_no) (fun _ _ _ _ _ => (dv_call (D__law_same) hr rfl (dvs_cons (dv_var 2) (dvs_cons (dv_var 3) dvs_nil))))) dvs_nil)))))
    dss_nil)) dss_nil)
    (dss_cons (ds_if (PW.pt (dw_or (dt_cmp ok_is bf_is (dv_var 1) dv_non) (dw_or1 (dt_val (dv_isi2 rfl T.n_isinstance (dv_var 1) rfl T.n_bool (by decide +kernel) rfl T.n_str (by decide +kernel)))))) (dss_cons (ds_ret (dv_and (dv_cmp (ok_eq (hU64 hr)) (dv_var 0) (dv_var 1)) (dv_and (dv_cmp (ok_eq (hU64 hr)) (dv_isi rfl T.n_isinstance (dv_var 0) rfl T.n_bool (by decide +kernel)) (dv_isi rfl T.n_isinstance (dv_var 1) rfl T.n_bool (by decide +kernel))) (dv_one _ (dv_cmp (ok_eq (hU64 hr)) (dv_cmp ok_is (dv_var 0) dv_non) (dv_cmp ok_is (dv_var 1) dv_non))))))
    dss_nil) dss_nil)
    (dss_cons (ds_ret (dv_and (dv_isi rfl T.n_isinstance (dv_var 0) rfl T.n_int (by decide +kernel)) (dv_and (dv_not (dv_isi rfl T.n_isinstance (dv_var 0) rfl T.n_bool (by decide +kernel))) (dv_one _ (dv_cmp (ok_eq (hU64 hr)) (dv_var 0) (dv_var 1))))))
    dss_nil)))
abbrev s__law_heard : Stmt := topS 15
theorem sc__law_heard : FnScope [("_law_say_so" : Str), ("_law_caught" : Str), ("_law_answer_so" : Str), ("error_so" : Str)] [("_law_say_so" : Str)] (defScope s__law_heard) := ⟨rfl, rfl, rfl, by decide +kernel, rfl, by decide +kernel, by decide +kernel⟩
def m__law_heard : MS := (sCons (sTgt (.many [1, 2]) (mTup (mCons (mC .non) (mCons (mC .non) mNil))))
    (sCons (sTry ("BadText" : Str) 3
      (sCons (sSetX 2 (xCall 1 F_line_in (mCons (mVar 0) mNil)))
    sNil)
      (sCons (sSet 1 (mVar 3))
    sNil))
    (sCons (sRet (mIte (mTru (mBin cIs (mVar 1) (mC .non))) (mVar 2) (mIte (mTru (mIsE ("BadText" : Str) true (mVar 1))) (mC (.str ("bad" : Str))) (mC .non))))
    sNil)))
def F__law_heard : List D → U → Option (D × U) := runB m__law_heard 4
theorem ok__law_heard {P : Program} {w : World} {K : PySem.W.Frag} {mg : Str → Option Value} {base : Heap} {G : Gx K} (T : Tx mg) {f : Addr} {fd : FuncData} (F : Fun K ("_law_heard" : Str) ("_law_heard" : Str) s__law_heard f fd) (HE_BadText : ∃ C, G.exc ("BadText" : Str) = some C ∧ mg ("BadText" : Str) = some (.ref C)) (KI_BadText_ValueError : ∀ C, G.exc ("BadText" : Str) = some C → PySem.W.kitOne K (.ref C) (.type "ValueError") = some true) (KX_line_in : DefKX P w mg base G ("line_in" : Str) [("text" : Str)] 2 F_line_in) : FnOk P w K mg base CX0 3 f fd [("_law_say_so" : Str)] (spF G F__law_heard 1) :=
  have nd := sc__law_heard.nd
  def_ok F sc__law_heard rfl fun cdv A outer s H E hr => (dss_cons (ds_tgt (.many [1, 2]) (dv_tup (dvs_cons dv_non (dvs_cons dv_non dvs_nil))) (pg_tup rfl (pgs_cons (pg_name (i := 1) nd rfl (by first | exact Or.inl rfl | exact Or.inr rfl)) (pgs_cons (pg_name (i := 2) nd rfl (by first | exact Or.inl rfl | exact Or.inr rfl)) pgs_nil))))
    (dss_cons (ds_try (i := 3) rfl rfl rfl nd rfl rfl HE_BadText rfl (by decide)
      (fun W pn xe tk hp => (dss_cons (dsx_set 2 nd (dx_callK (KX_line_in.mono (by decide)) tk hr rfl rfl (dks_cons (dv_var 0) dks_nil)))
    dss_nil))
      (fun a pn => (dss_cons (ds_set 1 nd (dv_var 3))
    dss_nil)))
    (dss_cons (ds_ret (dv_ite (dt_cmp ok_is bf_is (dv_var 1) dv_non) (dv_var 2) (dv_ite (dt_val (dv_isE KI_BadText_ValueError rfl T.n_isinstance (dv_var 1) rfl T.n_ValueError (by decide +kernel))) dv_str dv_non)))
    dss_nil)))
abbrev s__law_by_hand_right : Stmt := topS 16
theorem sc__law_by_hand_right : FnScope [("_law_far" : Str), ("_law_got" : Str), ("_law_goal" : Str), ("_law_bad" : Str), ("_law_own" : Str)] [] (defScope s__law_by_hand_right) := ⟨rfl, rfl, rfl, by decide +kernel, rfl, by decide +kernel, by decide +kernel⟩
def m__law_by_hand_right : MS := (sCons (sSet 0 (mBin fPow (mC (.int (10))) (mC (.int (40)))))
    (sCons (sSet 1 (mLst (mCons (mCall 1 F_line_text (mCons (mTup (mCons (mC (.str ("a" : Str))) (mCons (mC (.int (12))) mNil))) mNil)) (mCons (mCallP 1 [0] F_line_text (mCons (mLst (mCons (mC (.str ("ab" : Str))) (mCons (mVar 0) mNil))) mNil)) (mCons (mCall 1 F__law_heard (mCons (mC (.str ("ab3" : Str))) mNil)) mNil)))))
    (sCons (sSet 1 (mBin fAdd (mVar 1) (mLst (mCons (mCall 1 F__law_heard (mCons (mBin fAdd (mC (.str ("z1" : Str))) (mBin fMulS (mC (.str ("0" : Str))) (mC (.int (40))))) mNil)) (mCons (mCall 1 F__law_heard (mCons (mC (.str ("abcdefgh10" : Str))) mNil)) mNil)))))
    (sCons (sSet 2 (mLst (mCons (mC (.str ("a12" : Str))) (mCons (mBin fAdd (mC (.str ("ab1" : Str))) (mBin fMulS (mC (.str ("0" : Str))) (mC (.int (40))))) (mCons (mTup (mCons (mC (.str ("ab" : Str))) (mCons (mC (.int (3))) mNil))) (mCons (mTup (mCons (mC (.str ("z" : Str))) (mCons (mVar 0) mNil))) (mCons (mTup (mCons (mC (.str ("abcdefgh" : Str))) (mCons (mC (.int (10))) mNil))) mNil)))))))
    (sCons (sSet 3 (mLst (mCons (mC (.str ("" : Str))) (mCons (mC (.str ("a" : Str))) (mCons (mC (.str ("1" : Str))) (mCons (mC (.str ("a0" : Str))) (mCons (mC (.str ("a01" : Str))) (mCons (mC (.str ("a00" : Str))) (mCons (mC (.str ("A1" : Str))) (mCons (mC (.str ("a 1" : Str))) (mCons (mC (.str ("a1 " : Str))) (mCons (mC (.str (" a1" : Str))) (mCons (mC (.str ("a-1" : Str))) (mCons (mC (.str ("a+1" : Str))) (mCons (mC (.str ("1a" : Str))) mNil)))))))))))))))
    (sCons (sSet 3 (mBin fAdd (mVar 3) (mLst (mCons (mC (.str ("a1b" : Str))) (mCons (mC (.str ("a1b2" : Str))) (mCons (mC (.str ("a1_0" : Str))) (mCons (mC (.str ("a1.0" : Str))) (mCons (mC (.str ("a1\n" : Str))) (mCons (mC (.str ("(a, 1)" : Str))) (mCons (mC (.str ("-" : Str))) (mCons (mC (.str ("abcdefghi1" : Str))) mNil)))))))))))
    (sCons (sRet (mCall 2 (FR__law_same 6) (mCons (mBin fAdd (mVar 1) (mLc (.one 4) [4] (mItems (mVar 3)) mYes (mCall 1 F__law_heard (mCons (mVar 4) mNil)))) (mCons (mBin fAdd (mVar 2) (mBin fMul (mLst (mCons (mC (.str ("bad" : Str))) mNil)) (mBi bLen (mCons (mVar 3) mNil)))) mNil))))
    sNil)))))))
def F__law_by_hand_right : List D → U → Option (D × U) := runB m__law_by_hand_right 5
theorem ok__law_by_hand_right {P : Program} {w : World} {K : PySem.W.Frag} {mg : Str → Option Value} {base : Heap} {G : Gx K} (T : Tx mg) {f : Addr} {fd : FuncData} (F : Fun K ("_law_by_hand_right" : Str) ("_law_by_hand_right" : Str) s__law_by_hand_right f fd) (D__law_heard : DefOk P w mg base G ("_law_heard" : Str) 3 1 F__law_heard) (D__law_same : DefOk P w mg base G ("_law_same" : Str) 6 2 (FR__law_same 6)) (D_line_text : DefOk P w mg base G ("line_text" : Str) 1 1 F_line_text) (KP_line_text_0 : DefKp P w mg base G ("line_text" : Str) [("line" : Str)] [0] 1 F_line_text) : FnOk P w K mg base CX0 7 f fd [] (spF G F__law_by_hand_right 0) :=
  have nd := sc__law_by_hand_right.nd
  def_ok F sc__law_by_hand_right rfl fun cdv A outer s H E hr => (dss_cons (ds_set 0 nd (dv_bin ok_pow dv_int dv_int))
    (dss_cons (ds_set 1 nd (dv_lst (dvs_cons (dv_call (D_line_text.mono (by decide)) hr rfl (dvs_cons (dv_tup (dvs_cons dv_str (dvs_cons dv_int dvs_nil))) dvs_nil)) (dvs_cons (dv_callKp (KP_line_text_0.mono (by decide)) hr rfl rfl (dks_cons (dv_lst (dvs_cons dv_str (dvs_cons (dv_var 0) dvs_nil))) dks_nil)) (dvs_cons (dv_call (D__law_heard.mono (by decide)) hr rfl (dvs_cons dv_str dvs_nil)) dvs_nil)))))
    (dss_cons (ds_set 1 nd (dv_bin ok_add (dv_var 1) (dv_lst (dvs_cons (dv_call (D__law_heard.mono (by decide)) hr rfl (dvs_cons (dv_bin ok_add dv_str (dv_bin ok_mulS dv_str dv_int)) dvs_nil)) (dvs_cons (dv_call (D__law_heard.mono (by decide)) hr rfl (dvs_cons dv_str dvs_nil)) dvs_nil)))))
    (dss_cons (ds_set 2 nd (dv_lst (dvs_cons dv_str (dvs_cons (dv_bin ok_add dv_str (dv_bin ok_mulS dv_str dv_int)) (dvs_cons (dv_tup (dvs_cons dv_str (dvs_cons dv_int dvs_nil))) (dvs_cons (dv_tup (dvs_cons dv_str (dvs_cons (dv_var 0) dvs_nil))) (dvs_cons (dv_tup (dvs_cons dv_str (dvs_cons dv_int dvs_nil))) dvs_nil)))))))
    (dss_cons (ds_set 3 nd (dv_lst (dvs_cons dv_str (dvs_cons dv_str (dvs_cons dv_str (dvs_cons dv_str (dvs_cons dv_str (dvs_cons dv_str (dvs_cons dv_str (dvs_cons dv_str (dvs_cons dv_str (dvs_cons dv_str (dvs_cons dv_str (dvs_cons dv_str (dvs_cons dv_str dvs_nil)))))))))))))))
    (dss_cons (ds_set 3 nd (dv_bin ok_add (dv_var 3) (dv_lst (dvs_cons dv_str (dvs_cons dv_str (dvs_cons dv_str (dvs_cons dv_str (dvs_cons dv_str (dvs_cons dv_str (dvs_cons dv_str (dvs_cons dv_str dvs_nil)))))))))))
    (dss_cons (ds_ret (dv_call (D__law_same.mono (by decide)) hr rfl (dvs_cons (dv_bin ok_add (dv_var 1) (dv_lc (.one 4) [4] rfl nd (di_items (dv_var 3)) (blkOk_by (own := [(("_law_own" : Str), 4)]) (N := [("_law_far" : Str), ("_law_got" : Str), ("_law_goal" : Str), ("_law_bad" : Str), ("_law_own" : Str)]) (sc := defScope s__law_by_hand_right) (by decide +kernel)) rfl (by decide) (fun _ _ _ _ _ => (pg_name (i := 4) nd rfl (by first | exact Or.inl rfl | exact Or.inr rfl))) (fun _ _ _ _ _ => dts_no) (fun _ _ _ _ _ => (dv_call (D__law_heard.mono (by decide)) hr rfl (dvs_cons (dv_var 4) dvs_nil))))) (dvs_cons (dv_bin ok_add (dv_var 2) (dv_bin ok_mul (dv_lst (dvs_cons dv_str dvs_nil)) (dv_bi ok_len rfl T.n_len (by decide +kernel) (dvs_cons (dv_var 3) dvs_nil)))) dvs_nil))))
    dss_nil)))))))
abbrev s__law_read : Stmt := topS 17
theorem sc__law_read : FnScope [("_law_say_so" : Str), ("_law_k" : Str), ("_law_tail" : Str), ("_law_own" : Str)] [("_law_say_so" : Str)] (defScope s__law_read) := ⟨rfl, rfl, rfl, by decide +kernel, rfl, by decide +kernel, by decide +kernel⟩
def m__law_read : MS := (sCons (sSet 1 (mC (.int (0))))
    (sCons (sWh 4000 (mAndB (mTru (mBin cLt (mVar 1) (mBi bLen (mCons (mVar 0) mNil)))) (mTru (mChain cLeS cLeS (mC (.str ("a" : Str))) (mBin ixD (mVar 0) (mVar 1)) (mC (.str ("z" : Str)))))) (sCons (sSet 1 (mBin fAdd (mVar 1) (mC (.int (1)))))
    sNil))
    (sCons (sSet 2 (mSl (mVar 0) (moAt (mVar 1)) moNo))
    (sCons (sIf (mOrB (mTru (mBin cEq (mVar 1) (mC (.int (0))))) (mOrB (mTru (mBin cEq (mVar 2) (mC (.str ("" : Str))))) (mOrB (mTru (mBin cEq (mBin ixD (mVar 2) (mC (.int (0)))) (mC (.str ("0" : Str))))) (mTru (mBin cNe (mLc (.one 3) [3] (mItems (mVar 2)) (mTru (mBin cNotIn (mVar 3) (mC (.str ("0123456789" : Str))))) (mVar 3)) (mLst mNil)))))) (sCons (sRet (mC (.str ("bad" : Str))))
    sNil) sNil)
    (sCons (sRet (mTup (mCons (mSl (mVar 0) moNo (moAt (mVar 1))) (mCons (mBi bIntS (mCons (mVar 2) mNil)) mNil))))
    sNil)))))
def F__law_read : List D → U → Option (D × U) := runB m__law_read 4
theorem ok__law_read {P : Program} {w : World} {K : PySem.W.Frag} {mg : Str → Option Value} {base : Heap} {G : Gx K} (T : Tx mg) {f : Addr} {fd : FuncData} (F : Fun K ("_law_read" : Str) ("_law_read" : Str) s__law_read f fd)  : FnOk P w K mg base CX0 1 f fd [("_law_say_so" : Str)] (spF G F__law_read 1) :=
  have nd := sc__law_read.nd
  def_ok F sc__law_read rfl fun cdv A outer s H E hr => (dss_cons (ds_set 1 nd dv_int)
    (dss_cons (ds_while 4000 PassesOwn.never (PW.pt (dw_and (dt_cmp ok_lt bf_lt (dv_var 1) (dv_bi ok_len rfl T.n_len (by decide +kernel) (dvs_cons (dv_var 0) dvs_nil))) (dw_and1 (dt_chain ok_leS ok_leS bf_leS dv_str (dv_ix (dv_var 0) (dv_var 1)) dv_str)))) (dss_cons (ds_set 1 nd (dv_bin ok_add (dv_var 1) dv_int))
    dss_nil))
    (dss_cons (ds_set 2 nd (dv_sl (dv_var 0) (do_at (dv_var 1)) do_no))
    (dss_cons (ds_if (PW.pt (dw_or (dt_cmp (ok_eq (hU64 hr)) bf_eq (dv_var 1) dv_int) (dw_or (dt_cmp (ok_eq (hU64 hr)) bf_eq (dv_var 2) dv_str) (dw_or (dt_cmp (ok_eq (hU64 hr)) bf_eq (dv_ix (dv_var 2) dv_int) dv_str) (dw_or1 (dt_cmp (ok_ne (hU64 hr)) bf_ne (dv_lc (.one 3) [3] rfl nd (di_items (dv_var 2)) (blkOk_by (own := [(("_law_own" : Str), 3)]) (N := [("_law_say_so" : Str), ("_law_k" : Str), ("_law_tail" : Str), ("_law_own" : Str)]) (sc := defScope s__law_read) (by decide +kernel)) rfl (by decide) (fun _ _ _ _ _ => (pg_name (i := 3) nd rfl (by first | exact Or.inl rfl | exact Or.inr rfl))) (fun _ _ _ _ _ => dts_one (dt_cmp (ok_notin (hU65 hr)) bf_notin (dv_var 3) dv_str)) (fun _ _ _ _ _ => (dv_var 3))) (dv_lst dvs_nil))))))) (dss_cons (ds_ret dv_str)
    dss_nil) dss_nil)
    (dss_cons (ds_ret (dv_tup (dvs_cons (dv_sl (dv_var 0) do_no (do_at (dv_var 1))) (dvs_cons (dv_ty ok_intS rfl T.n_int (by decide +kernel) (dvs_cons (dv_var 2) dvs_nil)) dvs_nil))))
    dss_nil)))))
abbrev s__law_right : Stmt := topS 18
theorem sc__law_right : FnScope [("_law_urn" : Str), ("_law_turn" : Str), ("_law_tag" : Str), ("_law_many" : Str), ("_law_say_so" : Str), ("_law_spot" : Str), ("_law_sign_so" : Str), ("_law_odd" : Str)] [("_law_urn" : Str)] (defScope s__law_right) := ⟨rfl, rfl, rfl, by decide +kernel, rfl, by decide +kernel, by decide +kernel⟩
def m__law_right : MS := (sCons (sIf (mNotB (mTru (mCall 0 F__law_by_hand_right mNil))) (sCons (sRet (mC (.bl false)))
    sNil) sNil)
    (sCons (sFor (.one 1) (mRange1 (mC (.int (12)))) (sCons (sPar 2 3 (mCall 2 F__law_of (mCons (mVar 0) (mCons (mLst (mCons (mC (.str ("a" : Str))) (mCons (mC (.str ("ab" : Str))) (mCons (mC (.str ("zz" : Str))) (mCons (mC (.str ("log" : Str))) mNil))))) mNil))) (mBin fAdd (mC (.int (1))) (mCall 2 F__law_take (mCons (mVar 0) (mCons (mCall 2 F__law_of (mCons (mVar 0) (mCons (mLst (mCons (mC (.int (9))) (mCons (mC (.int (99))) (mCons (mBin fPow (mC (.int (10))) (mC (.int (30)))) mNil)))) mNil))) mNil)))))
    (sCons (sSet 4 (mBin fAdd (mVar 2) (mBi bStrI (mCons (mVar 3) mNil))))
    (sCons (sIf (mNotB (mTru (mCall 2 (FR__law_same 6) (mCons (mLst (mCons (mCall 1 F_line_text (mCons (mTup (mCons (mVar 2) (mCons (mVar 3) mNil))) mNil)) (mCons (mCall 1 F__law_heard (mCons (mVar 4) mNil)) mNil))) (mCons (mLst (mCons (mVar 4) (mCons (mTup (mCons (mVar 2) (mCons (mVar 3) mNil))) mNil))) mNil))))) (sCons (sRet (mC (.bl false)))
    sNil) sNil)
    (sCons (sPar 5 6 (mCall 2 F__law_take (mCons (mVar 0) (mCons (mBin fAdd (mBi bLen (mCons (mVar 4) mNil)) (mC (.int (1)))) mNil))) (mCall 2 F__law_of (mCons (mVar 0) (mCons (mLst (mCons (mC (.str ("a" : Str))) (mCons (mC (.str (" " : Str))) (mCons (mC (.str ("0" : Str))) (mCons (mC (.str ("1" : Str))) (mCons (mC (.str ("-" : Str))) (mCons (mC (.str ("" : Str))) (mCons (mC (.str ("b" : Str))) mNil)))))))) mNil))))
    (sCons (sSet 7 (mBin fAdd (mBin fAdd (mSl (mVar 4) moNo (moAt (mVar 5))) (mVar 6)) (mSl (mVar 4) (moAt (mBin fAdd (mVar 5) (mCall 2 F__law_take (mCons (mVar 0) (mCons (mC (.int (2))) mNil))))) moNo)))
    (sCons (sIf (mNotB (mTru (mCall 2 (FR__law_same 6) (mCons (mCall 1 F__law_heard (mCons (mVar 7) mNil)) (mCons (mCall 1 F__law_read (mCons (mVar 7) mNil)) mNil))))) (sCons (sRet (mC (.bl false)))
    sNil) sNil)
    sNil)))))))
    (sCons (sRet (mC (.bl true)))
    sNil)))
def F__law_right : List D → U → Option (D × U) := runB m__law_right 8
theorem ok__law_right {P : Program} {w : World} {K : PySem.W.Frag} {mg : Str → Option Value} {base : Heap} {G : Gx K} (T : Tx mg) {f : Addr} {fd : FuncData} (F : Fun K ("_law_right" : Str) ("_law_right" : Str) s__law_right f fd) (D__law_by_hand_right : DefOk P w mg base G ("_law_by_hand_right" : Str) 7 0 F__law_by_hand_right) (D__law_heard : DefOk P w mg base G ("_law_heard" : Str) 3 1 F__law_heard) (D__law_of : DefOk P w mg base G ("_law_of" : Str) 2 2 F__law_of) (D__law_read : DefOk P w mg base G ("_law_read" : Str) 1 1 F__law_read) (D__law_same : DefOk P w mg base G ("_law_same" : Str) 6 2 (FR__law_same 6)) (D__law_take : DefOk P w mg base G ("_law_take" : Str) 1 2 F__law_take) (D_line_text : DefOk P w mg base G ("line_text" : Str) 1 1 F_line_text) : FnOk P w K mg base CX0 8 f fd [("_law_urn" : Str)] (spF G F__law_right 1) :=
  have nd := sc__law_right.nd
  def_ok F sc__law_right rfl fun cdv A outer s H E hr => (dss_cons (ds_if (dt_not (dt_val (dv_call0 (D__law_by_hand_right.mono (by decide)) hr rfl))) (dss_cons (ds_ret dv_bl)
    dss_nil) dss_nil)
    (dss_cons (ds_for (.one 1) PassesOwn.never rfl (di_range1 rfl T.n_range dv_int) (pg_name (i := 1) nd rfl (by first | exact Or.inl rfl | exact Or.inr rfl)) (dss_cons (ds_par 2 3 (dv_call (D__law_of.mono (by decide)) hr rfl (dvs_cons (dv_var 0) (dvs_cons (dv_lst (dvs_cons dv_str (dvs_cons dv_str (dvs_cons dv_str (dvs_cons dv_str dvs_nil))))) dvs_nil))) (dv_bin ok_add dv_int (dv_call (D__law_take.mono (by decide)) hr rfl (dvs_cons (dv_var 0) (dvs_cons (dv_call (D__law_of.mono (by decide)) hr rfl (dvs_cons (dv_var 0) (dvs_cons (dv_lst (dvs_cons dv_int (dvs_cons dv_int (dvs_cons (dv_bin ok_pow dv_int dv_int) dvs_nil)))) dvs_nil))) dvs_nil)))) (fun h => ps_par (i := 2) (j := 3) rfl nd rfl rfl (by decide) rfl rfl h (by rfl)))
    (dss_cons (ds_set 4 nd (dv_bin ok_add (dv_var 2) (dv_ty ok_strI rfl T.n_str (by decide +kernel) (dvs_cons (dv_var 3) dvs_nil))))
    (dss_cons (ds_if (dt_not (dt_val (dv_call (D__law_same.mono (by decide)) hr rfl (dvs_cons (dv_lst (dvs_cons (dv_call (D_line_text.mono (by decide)) hr rfl (dvs_cons (dv_tup (dvs_cons (dv_var 2) (dvs_cons (dv_var 3) dvs_nil))) dvs_nil)) (dvs_cons (dv_call (D__law_heard.mono (by decide)) hr rfl (dvs_cons (dv_var 4) dvs_nil)) dvs_nil))) (dvs_cons (dv_lst (dvs_cons (dv_var 4) (dvs_cons (dv_tup (dvs_cons (dv_var 2) (dvs_cons (dv_var 3) dvs_nil))) dvs_nil))) dvs_nil))))) (dss_cons (ds_ret dv_bl)
    dss_nil) dss_nil)
    (dss_cons (ds_par 5 6 (dv_call (D__law_take.mono (by decide)) hr rfl (dvs_cons (dv_var 0) (dvs_cons (dv_bin ok_add (dv_bi ok_len rfl T.n_len (by decide +kernel) (dvs_cons (dv_var 4) dvs_nil)) dv_int) dvs_nil))) (dv_call (D__law_of.mono (by decide)) hr rfl (dvs_cons (dv_var 0) (dvs_cons (dv_lst (dvs_cons dv_str (dvs_cons dv_str (dvs_cons dv_str (dvs_cons dv_str (dvs_cons dv_str (dvs_cons dv_str (dvs_cons dv_str dvs_nil)))))))) dvs_nil))) (fun h => ps_par (i := 5) (j := 6) rfl nd rfl rfl (by decide) rfl rfl h (by rfl)))
    (dss_cons (ds_set 7 nd (dv_bin ok_add (dv_bin ok_add (dv_sl (dv_var 4) do_no (do_at (dv_var 5))) (dv_var 6)) (dv_sl (dv_var 4) (do_at (dv_bin ok_add (dv_var 5) (dv_call (D__law_take.mono (by decide)) hr rfl (dvs_cons (dv_var 0) (dvs_cons dv_int dvs_nil))))) do_no)))
    (dss_cons (ds_if (dt_not (dt_val (dv_call (D__law_same.mono (by decide)) hr rfl (dvs_cons (dv_call (D__law_heard.mono (by decide)) hr rfl (dvs_cons (dv_var 7) dvs_nil)) (dvs_cons (dv_call (D__law_read.mono (by decide)) hr rfl (dvs_cons (dv_var 7) dvs_nil)) dvs_nil))))) (dss_cons (ds_ret dv_bl)
    dss_nil) dss_nil)
    dss_nil)))))))
    (dss_cons (ds_ret dv_bl)
    dss_nil)))
end Lw89
namespace Lw89
open PySem Dv
theorem fDivW_p {i j : Int} (h : 0 < j ∧ j.natAbs.log2 < 9000) : fDivW (.int i) (.int j) = some (.int (i / j)) := by simp only [fDivW]; rw [if_pos h]
theorem take_ok {n low : Int} {u : U} (h : OkU n u) (hn : n ≤ 2 ^ 40) (h0 : 0 < low) (h1 : low.natAbs.log2 < 9000) :
    ∃ r u', F__law_take [.urn, .int low] u = some (.int r, u') ∧ 0 ≤ r ∧ r < low ∧ OkU (n + 1) u' := by
  obtain ⟨ha, ⟨hb1, hb2⟩, hc1, hc2⟩ := h
  obtain ⟨a, b, c⟩ := u
  dsimp only at ha hb1 hb2 hc1 hc2
  by_cases q : 0 < a
  · refine ⟨a % low, ⟨a / low, b, c⟩, ?_, Int.emod_nonneg _ (by omega), Int.emod_lt_of_pos _ h0, ⟨Int.ediv_nonneg ha (by omega), ⟨hb1, hb2⟩, hc1, by show c ≤ n + 1; omega⟩⟩
    simp [F__law_take, runB, m__law_take, sCons, sIf, mTru, mBin, mUrn0, isUrn, bnd, lft, mC, cGt, truD, q, sSet, sRet, mBi, mCons, mNil, bInt, mVar, fMod_p h0, fDivW_p ⟨h0, h1⟩, sUrn0, sNil]
  · obtain ⟨k, hk⟩ : ∃ k, k = c + 1 := ⟨_, rfl⟩
    obtain ⟨once, ho⟩ : ∃ z, z = (b + 48271 * k) * (39373 + k) % 2147483647 := ⟨_, rfl⟩
    obtain ⟨far, hf⟩ : ∃ z, z = once % 40009 + 7 := ⟨_, rfl⟩
    obtain ⟨twice, ht⟩ : ∃ z, z = (once + k + b / 1000003) * far % 2147483629 := ⟨_, rfl⟩
    have o1 : 0 ≤ once ∧ once < 2147483647 := by rw [ho]; exact ⟨Int.emod_nonneg _ (by decide), Int.emod_lt_of_pos _ (by decide)⟩
    have f1 : 0 ≤ far ∧ far < 50000 := by omega
    have t1 : 0 ≤ twice ∧ twice < 2147483629 := by rw [ht]; exact ⟨Int.emod_nonneg _ (by decide), Int.emod_lt_of_pos _ (by decide)⟩
    have e0 := fMul_r (i := 48271) (j := k) (by omega)
    have e1 := fMul_r (i := b + 48271 * k) (j := 39373 + k) (by omega)
    have e2 := fMul_r (i := once + k + b / 1000003) (j := far) (by omega)
    have e3 := fMul_r (i := twice) (j := 48271) (by decide)
    have m1 := fMod_p (i := (b + 48271 * k) * (39373 + k)) (j := 2147483647) (by decide)
    have m2 := fMod_p (i := once) (j := 40009) (by decide)
    have m3 := fMod_p (i := (once + k + b / 1000003) * far) (j := 2147483629) (by decide)
    have m4 := fMod_p (i := twice * 48271 + once) (j := 2147483587) (by decide)
    have d1 := fDivW_p (i := b) (j := 1000003) (by decide +kernel)
    have d2 := fDivW_p (i := (twice * 48271 + once) % 2147483587) (j := 64) (by decide +kernel)
    rw [← ho] at m1
    rw [← ht] at m3
    refine ⟨(twice * 48271 + once) % 2147483587 / 64 % low, ⟨a, b, k⟩, ?_, Int.emod_nonneg _ (by omega), Int.emod_lt_of_pos _ h0, ⟨ha, ⟨hb1, hb2⟩, by show 0 ≤ k; omega, by show k ≤ n + 1; omega⟩⟩
    simp only [F__law_take, runB, m__law_take, sCons, sIf, mTru, mBin, mUrn0, mUrn1, mUrn2, isUrn, bnd, lft, mC, cGt, truD, q, sSet, sRet, mBi, mCons, mNil, bInt, mVar, fMod_p h0, fDivW_p ⟨h0, h1⟩, sUrn0, sUrn2, sNil, fAdd, List.map, List.length, List.replicate, List.append, List.cons_append, List.nil_append, List.getElem?_cons_zero, List.getElem?_cons_succ, List.set, decide_false, if_true, Bool.false_eq_true, if_false, ← hk, ← hf, e0, e1, e2, e3, m1, m2, m3, m4, d1, d2, Nat.reduceSub, List.replicate_succ, List.replicate_zero]
end Lw89
namespace Lw89
open PySem Dv L2
def isDg (c : Nat) : Bool := decide (48 ≤ c ∧ c ≤ 57)
def isLt (c : Nat) : Bool := decide (97 ≤ c ∧ c ≤ 122)
def sfx (l : List Nat) : List Nat := (l.reverse.takeWhile isDg).reverse
def pfx (l : List Nat) : List Nat := l.take (l.length - (sfx l).length)
def nameL (p : List Nat) : Bool := decide (1 ≤ p.length ∧ p.length ≤ 8) && p.all isLt
def hL (l : List Nat) : Option (List Nat × Nat) := if nameL (pfx l) = true ∧ sfx l ≠ [] ∧ (sfx l).head? ≠ some 48 then some (pfx l, NumText.digitsVal (sfx l)) else none
def ltrs (l : List Nat) : List Nat := l.takeWhile isLt
def tailL (l : List Nat) : List Nat := l.drop (ltrs l).length
def rL (l : List Nat) : Option (List Nat × Nat) := if (ltrs l).length ≠ 0 ∧ tailL l ≠ [] ∧ (tailL l).head? ≠ some 48 ∧ (tailL l).all isDg = true then some (ltrs l, NumText.digitsVal (tailL l)) else none
structure Good (p q : List Nat) : Prop where
  lt : ∀ c ∈ p, isLt c = true
  pos : 1 ≤ p.length
  dg : ∀ c ∈ q, isDg c = true
  ne : q ≠ []
  hd : q.head? ≠ some 48
theorem lt_dg {c : Nat} (h : isLt c = true) : isDg c = false := by
  have := of_decide_eq_true h
  exact decide_eq_false (by omega)
theorem tw_all {α : Type} {p : α → Bool} : ∀ {a b : List α}, (∀ x ∈ a, p x = true) → (∀ x, b.head? = some x → p x = false) → (a ++ b).takeWhile p = a
  | [], [], _, _ => rfl
  | [], x :: b, _, h => by
    rw [List.nil_append, List.takeWhile_cons, if_neg (by rw [h x rfl]; decide)]
  | x :: a, b, h, h2 => by
    rw [List.cons_append, List.takeWhile_cons, if_pos (h x List.mem_cons_self), tw_all (fun y hy => h y (List.mem_cons_of_mem _ hy)) h2]
theorem good_sfx {p q : List Nat} (h : Good p q) : sfx (p ++ q) = q := by
  unfold sfx
  rw [List.reverse_append, tw_all (fun x hx => h.dg x (List.mem_reverse.mp hx)) (fun x hx => by
    rw [List.head?_reverse] at hx
    exact lt_dg (h.lt x (List.mem_of_getLast? hx))), List.reverse_reverse]
theorem good_pfx {p q : List Nat} (h : Good p q) : pfx (p ++ q) = p := by
  unfold pfx
  rw [good_sfx h, List.length_append, Nat.add_sub_cancel, List.take_left]
theorem good_ltrs {p q : List Nat} (h : Good p q) : ltrs (p ++ q) = p := tw_all h.lt fun x hx => by
  have hm : x ∈ q := List.mem_of_mem_head? hx
  have := h.dg x hm
  cases e : isLt x with
  | false => rfl
  | true => rw [lt_dg e] at this; cases this
theorem good_tail {p q : List Nat} (h : Good p q) : tailL (p ++ q) = q := by
  unfold tailL
  rw [good_ltrs h, List.drop_left]
theorem good_h {p q : List Nat} (h : Good p q) (h8 : p.length ≤ 8) : hL (p ++ q) = some (p, NumText.digitsVal q) := by
  unfold hL
  rw [good_sfx h, good_pfx h, if_pos]
  refine ⟨?_, h.ne, h.hd⟩
  unfold nameL
  rw [Bool.and_eq_true]
  exact ⟨decide_eq_true ⟨h.pos, h8⟩, List.all_eq_true.mpr h.lt⟩
theorem good_r {p q : List Nat} (h : Good p q) : rL (p ++ q) = some (p, NumText.digitsVal q) := by
  unfold rL
  rw [good_tail h, good_ltrs h, if_pos]
  exact ⟨by have := h.pos; omega, h.ne, h.hd, List.all_eq_true.mpr h.dg⟩
theorem tw_mem {α : Type} {p : α → Bool} : ∀ {l : List α} {x : α}, x ∈ l.takeWhile p → p x = true
  | [], _, h => by cases h
  | a :: l, x, h => by
    rw [List.takeWhile_cons] at h
    split at h
    · rcases List.mem_cons.mp h with rfl | h
      · assumption
      · exact tw_mem h
    · cases h
theorem sfx_mem {l : List Nat} {c : Nat} (h : c ∈ sfx l) : isDg c = true := tw_mem (List.mem_reverse.mp h)
theorem tw_app {α : Type} (p : α → Bool) (l : List α) : l = l.takeWhile p ++ l.drop (l.takeWhile p).length := by
  induction l with
  | nil => rfl
  | cons a l ih =>
    rw [List.takeWhile_cons]
    split
    · rw [List.length_cons, List.drop_succ_cons, List.cons_append, ← ih]
    · rfl
theorem pfx_sfx (l : List Nat) : l = pfx l ++ sfx l := by
  have h := congrArg List.reverse (tw_app isDg l.reverse)
  rw [List.reverse_reverse, List.reverse_append] at h
  have hs : (l.reverse.takeWhile isDg).reverse = sfx l := rfl
  rw [hs] at h
  have hl := congrArg List.length h
  rw [List.length_append] at hl
  have : pfx l = (l.reverse.drop (l.reverse.takeWhile isDg).length).reverse := by
    unfold pfx
    conv => lhs; rw [h]
    rw [show (((l.reverse.drop (l.reverse.takeWhile isDg).length).reverse ++ sfx l).length - (sfx ((l.reverse.drop (l.reverse.takeWhile isDg).length).reverse ++ sfx l)).length) = (l.reverse.drop (l.reverse.takeWhile isDg).length).reverse.length by
      rw [← h]; omega]
    exact List.take_left ..
  rw [this]; exact h
theorem h_good {l : List Nat} {r : List Nat × Nat} (h : hL l = some r) : Good (pfx l) (sfx l) := by
  unfold hL at h
  split at h
  · rename_i hc
    obtain ⟨h1, h2, h3⟩ := hc
    unfold nameL at h1
    rw [Bool.and_eq_true] at h1
    exact ⟨List.all_eq_true.mp h1.2, (of_decide_eq_true h1.1).1, fun c hc => sfx_mem hc, h2, h3⟩
  · cases h
theorem r_good {l : List Nat} {r : List Nat × Nat} (h : rL l = some r) : Good (ltrs l) (tailL l) := by
  unfold rL at h
  split at h
  · rename_i hc
    obtain ⟨h1, h2, h3, h4⟩ := hc
    exact ⟨fun c hc => tw_mem hc, by omega, List.all_eq_true.mp h4, h2, h3⟩
  · cases h
theorem r_h {l : List Nat} (h8 : (ltrs l).length ≤ 8) : rL l = hL l := by
  cases e : rL l with
  | some r =>
    have g := r_good e
    have el : l = ltrs l ++ tailL l := tw_app isLt l
    have h1 := good_r g
    have h2 := good_h g h8
    rw [← el] at h1 h2
    rw [h2, ← h1, e]
  | none =>
    cases e2 : hL l with
    | none => rfl
    | some r =>
      have g := h_good e2
      have h1 := good_r g
      rw [← pfx_sfx, e] at h1
      cases h1
abbrev dgs : Str := ("0123456789" : Str)
theorem dgs_mem (c : Nat) : c ∈ dgs.cps.toList ↔ 48 ≤ c ∧ c ≤ 57 := by
  have : dgs.cps.toList = [48, 49, 50, 51, 52, 53, 54, 55, 56, 57] := by decide +kernel
  rw [this]
  simp only [List.mem_cons, List.not_mem_nil, or_false]
  omega
theorem dgs_has : (dgs.cps.contains : Nat → Bool) = isDg := by
  funext c
  unfold isDg
  rw [Bool.eq_iff_iff, decide_eq_true_iff, ← dgs_mem]
  simp
def strOf (l : List Nat) : Str := ⟨l.toArray⟩
theorem strOf_cps (l : List Nat) : (strOf l).cps.toList = l := by unfold strOf; simp
theorem strOf_len (l : List Nat) : (strOf l).length = l.length := by unfold strOf Str.length; simp
theorem strOf_of (x : Str) : strOf x.cps.toList = x := by
  obtain ⟨⟨x⟩⟩ := x
  rfl
theorem rstrip_eq (x : Str) : Txt.rstripChars x dgs = strOf (pfx x.cps.toList) := by
  unfold Txt.rstripChars
  rw [PyProof.Rows.stripBy_eq, dgs_has]
  have h0 : PySem.stripLo isDg false x = 0 := rfl
  rw [h0]
  have h1 : PySem.stripHi isDg true x 0 = x.length - (x.cps.toList.reverse.takeWhile isDg).length := by
    unfold PySem.stripHi
    rw [if_pos rfl, List.drop_zero]
  rw [h1]
  have e := PySem.StrLaws.strSub_toList x 0 (x.length - (x.cps.toList.reverse.takeWhile isDg).length)
  rw [← strOf_of (Builtin.Str.strSub x 0 _), e]
  congr 1
  unfold pfx sfx
  rw [List.drop_zero, Nat.sub_zero, List.length_reverse, len_cps]
theorem rmp_go {x : Str} {P S : List Nat} (hx : x.cps.toList = P ++ S) : Txt.removeprefix x (strOf P) = strOf S := by
  rw [PySem.StrLaws.removeprefix_eq]
  have hl : P.length + S.length = x.length := by
    have := congrArg List.length hx
    rw [List.length_append, ← len_cps] at this
    omega
  have hs : Builtin.Str.subAt x (strOf P) 0 = true := by
    unfold Builtin.Str.subAt
    rw [beq_iff_eq]
    apply Array.ext'
    rw [Array.toList_extract, strOf_cps, strOf_len, hx]
    simp
  rw [if_pos (by rw [Bool.and_eq_true]; exact ⟨decide_eq_true (by rw [strOf_len]; omega), hs⟩), strOf_len]
  show strOf _ = strOf _
  congr 1
  rw [hx, List.drop_left, List.take_of_length_le (by omega)]
theorem rmp_eq (x : Str) : Txt.removeprefix x (strOf (pfx x.cps.toList)) = strOf (sfx x.cps.toList) := rmp_go (pfx_sfx _)
end Lw89
namespace Lw89
open PySem Dv L2
theorem name_raw {x : Str} {u : U} (h1 : 1 ≤ x.length) (h2 : x.length ≤ 8) : F_is_name [.str x] u = some (.bl (allB x), u) := by
  have e1 : cLe (.int 1) (.int x.length) = some (.bl true) := by show some (D.bl (decide _)) = _; rw [decide_eq_true (by omega)]
  have e2 : cLe (.int x.length) (.int 8) = some (.bl true) := by show some (D.bl (decide _)) = _; rw [decide_eq_true (by omega)]
  have c1 : compL (turnL (.one 1) [1] [Sl.pub (.str x), Sl.no] mYes (mBin cIn (mVar 1) (mC (.str abc)))) (x.cps.toList.map fun c => .str ⟨#[c]⟩) u = some ((x.cps.toList.map bitB).map .bl, u) := by
    rw [compL_pure (g := fun d => match d with | .str z => .bl (match z.cps.toList with | [c] => bitB c | _ => false) | d => d) (fun d hd => ?_)]
    · rw [List.map_map, List.map_map]; rfl
    · obtain ⟨c, _, rfl⟩ := List.mem_map.mp hd
      exact turnL_eq rfl (mBin_eq rfl rfl rfl)
  refine runB_rt (sc_nx (sIf_f (mOrB_f (mNotB_eq (k := true) (mTru_eq (mIsi_eq rfl (isi_str x)) rfl)) (mNotB_eq (k := true) (mTru_eq (mChain_t rfl (mBi_eq (mCons_eq rfl mNil_eq) (len_str (by omega))) e1 rfl e2) rfl))) rfl) (sc_rt (sRet_eq (mBi_eq (mCons_eq (mLc_eq (mItems_eq rfl rfl) c1 ?_) mNil_eq) ?_))))
  · rw [List.length_map, List.length_map, ← len_cps]; exact isiz (by omega)
  · show (blsOf _).map _ = _
    rw [blsOf_map]; rfl
theorem bit_lt (c : Nat) : bitB c = isLt c := by
  unfold bitB isLt
  rw [Bool.eq_iff_iff, decide_eq_true_iff, decide_eq_true_iff, abc_mem]
theorem name_any {p : List Nat} {u : U} (hl : p.length ≤ 1000) : F_is_name [.str (strOf p)] u = some (.bl (nameL p), u) := by
  have el := strOf_len p
  by_cases h : 1 ≤ p.length ∧ p.length ≤ 8
  · rw [name_raw (by omega) (by omega)]
    congr 2
    unfold nameL allB
    rw [decide_eq_true h, Bool.true_and, strOf_cps, List.all_map, show (id ∘ bitB) = isLt from funext bit_lt]
  · have en : nameL p = false := by unfold nameL; rw [decide_eq_false h]; rfl
    rw [en]
    by_cases h0 : 1 ≤ p.length
    · have e1 : cLe (.int 1) (.int (strOf p).length) = some (.bl true) := by show some (D.bl (decide _)) = _; rw [decide_eq_true (by omega)]
      have e2 : cLe (.int (strOf p).length) (.int 8) = some (.bl false) := by show some (D.bl (decide _)) = _; rw [decide_eq_false (by omega)]
      exact runB_rt (sc_rt (sIf_t (mOrB_f (mNotB_eq (k := true) (mTru_eq (mIsi_eq rfl (isi_str _)) rfl)) (mNotB_eq (k := false) (mTru_eq (mChain_t rfl (mBi_eq (mCons_eq rfl mNil_eq) (len_str (by omega))) e1 rfl e2) rfl))) (sc_rt (sRet_eq rfl))))
    · have e1 : cLe (.int 1) (.int (strOf p).length) = some (.bl false) := by show some (D.bl (decide _)) = _; rw [decide_eq_false (by omega)]
      exact runB_rt (sc_rt (sIf_t (mOrB_f (mNotB_eq (k := true) (mTru_eq (mIsi_eq rfl (isi_str _)) rfl)) (mNotB_eq (k := false) (mTru_eq (mChain_f rfl (mBi_eq (mCons_eq rfl mNil_eq) (len_str (by omega))) e1) rfl))) (sc_rt (sRet_eq rfl))))
theorem starts0 (q : List Nat) : Txt.startswith (strOf q) ("0" : Str) = decide (q.head? = some 48) := by
  have h1 : ("0" : Str).length = 1 := by decide +kernel
  have h2 : ("0" : Str).cps = #[48] := by decide +kernel
  unfold Txt.startswith Builtin.Str.subAt
  rw [h1, h2, strOf_len]
  cases q with
  | nil => rfl
  | cons c r =>
    have : ((strOf (c :: r)).cps.extract 0 (0 + 1)) = #[c] := by
      apply Array.ext'
      rw [Array.toList_extract, strOf_cps]
      simp
    rw [this, Bool.eq_iff_iff, Bool.and_eq_true, decide_eq_true_iff, decide_eq_true_iff, beq_iff_eq]
    simp
theorem int_digit {c : Nat} (h : isDg c = true) : bIntS [.str ⟨#[c]⟩] = some (.int ((c - 48 : Nat) : Int)) := by
  have hc := of_decide_eq_true h
  have ad : NumText.AllDigits (⟨#[c]⟩ : Str).cps.toList := fun d hd => by
    have : d = c := by simpa using hd
    omega
  have e := PySem.intText_digits (x := (⟨#[c]⟩ : Str)) ad (by simp) (by show 1 ≤ 4300; decide)
  have hv : NumText.digitsVal (⟨#[c]⟩ : Str).cps.toList = c - 48 := by
    show NumText.digitsVal [c] = _
    unfold NumText.digitsVal
    simp
  rw [hv] at e
  show (if (⟨#[c]⟩ : Str).length ≤ 640 then (PySem.intText? ⟨#[c]⟩).map D.int else none) = _
  rw [if_pos (by show 1 ≤ 640; decide)]
  have e' : PySem.intText? ⟨#[c]⟩ = some ((c - 48 : Nat) : Int) := e
  rw [e']; rfl
abbrev dgB : MS := (sCons (sSet 3 (mBin fAdd (mBin fMul (mC (.int (10))) (mVar 3)) (mBi bIntS (mCons (mVar 4) mNil))))
    sNil)
theorem dig_loop {A B C : Sl} {u : U} : ∀ {cs : List Nat} {n : Nat} {t : Sl}, (∀ c ∈ cs, isDg c = true) → ∃ t', forL (.one 4) dgB (cs.map fun c => .str ⟨#[c]⟩) [A, B, C, .pub (.int (n : Nat)), t] u = some (.nx [A, B, C, .pub (.int ((cs.foldl (fun acc c => acc * 10 + (c - 48)) n : Nat) : Int)), t'], u)
  | [], n, t, _ => ⟨t, rfl⟩
  | c :: cs, n, t, h => by
    obtain ⟨t', e⟩ := dig_loop (A := A) (B := B) (C := C) (u := u) (cs := cs) (n := n * 10 + (c - 48)) (t := .pub (.str ⟨#[c]⟩)) fun d hd => h d (List.mem_cons_of_mem _ hd)
    refine ⟨t', ?_⟩
    rw [List.map_cons]
    unfold forL
    show bnd (dgB [A, B, C, .pub (.int (n : Nat)), .pub (.str ⟨#[c]⟩)] u) _ = _
    have m1 : fMul (.int 10) (.int (n : Int)) = some (.int (10 * (n : Int))) := by simp only [fMul]; rw [if_pos (.inl (by decide))]
    have hs : dgB [A, B, C, .pub (.int (n : Nat)), .pub (.str ⟨#[c]⟩)] u = some (.nx [A, B, C, .pub (.int ((n * 10 + (c - 48) : Nat) : Int)), .pub (.str ⟨#[c]⟩)], u) := by
      refine sc_nx (env' := [A, B, C, .pub (.int ((n * 10 + (c - 48) : Nat) : Int)), .pub (.str ⟨#[c]⟩)]) ?_ rfl
      have := sSet_eq (i := 3) (env := [A, B, C, .pub (.int (n : Nat)), .pub (.str ⟨#[c]⟩)]) (u := u) (mBin_eq (a := mBin fMul (mC (.int 10)) (mVar 3)) (b := mBi bIntS (mCons (mVar 4) mNil)) (f := fAdd) (mBin_eq rfl rfl m1) (mBi_eq (c1 rfl) (int_digit (h c List.mem_cons_self))) rfl)
      rw [this]
      show some (Fl.nx [A, B, C, .pub (.int (10 * (n : Int) + ((c - 48 : Nat) : Int))), .pub (.str ⟨#[c]⟩)], u) = _
      rw [show (10 * (n : Int) + ((c - 48 : Nat) : Int)) = ((n * 10 + (c - 48) : Nat) : Int) by omega]
    rw [hs]
    exact e
def hD (o : Option (List Nat × Nat)) : D := match o with
  | none => .str ("bad" : Str)
  | some (p, n) => .tup [.str (strOf p), .int (n : Nat)]
theorem line_in_ok {T : Str} {u : U} (hl : T.length ≤ 600) : F_line_in [.str T] u = some (match hL T.cps.toList with | none => .er ("BadText" : Str) [] [] | some (p, n) => .ok (.tup [.str (strOf p), .int (n : Nat)]), u) := by
  have hx := pfx_sfx T.cps.toList
  have hlen : (pfx T.cps.toList).length + (sfx T.cps.toList).length = T.length := by
    have := congrArg List.length hx
    rw [List.length_append, ← len_cps] at this
    omega
  have r1 : rsC (.str T) (.str dgs) = some (.str (strOf (pfx T.cps.toList))) := by
    simp only [rsC]
    rw [if_pos (isiz (by omega)), rstrip_eq]
  have r2 : rmpD (.str T) (.str (strOf (pfx T.cps.toList))) = some (.str (strOf (sfx T.cps.toList))) := by
    simp only [rmpD]
    rw [if_pos (isiz (by omega)), rmp_eq]
  have dgm : ∀ c ∈ sfx T.cps.toList, isDg c = true := fun c hc => sfx_mem hc
  unfold hL
  revert r1 r2 dgm hlen
  generalize pfx T.cps.toList = p
  generalize sfx T.cps.toList = q
  intro hlen r1 r2 dgm
  have n1 := name_any (p := p) (u := u) (by omega)
  have e1 : cEq (.str (strOf q)) (.str ("" : Str)) = some (.bl (decide (strOf q = ("" : Str)))) := rfl
  have e2 : stwD (.str (strOf q)) (.str ("0" : Str)) = some (.bl (decide (q.head? = some 48))) := by
    simp only [stwD]; rw [starts0]
  have eq0 : strOf q = ("" : Str) ↔ q = [] := by
    constructor
    · intro h
      have := congrArg (fun z : Str => z.cps.toList) h
      rw [strOf_cps] at this
      rw [this]; decide +kernel
    · rintro rfl; decide +kernel
  have v1 : sSet 1 (mBin rsC (mVar 0) (mC (.str dgs))) [Sl.pub (.str T), .no, .no, .no, .no] u = some (.nx [Sl.pub (.str T), .pub (.str (strOf p)), .no, .no, .no], u) := sSet_eq (mBin_eq rfl rfl r1)
  have v2 : sSet 2 (mBin rmpD (mVar 0) (mVar 1)) [Sl.pub (.str T), .pub (.str (strOf p)), .no, .no, .no] u = some (.nx [Sl.pub (.str T), .pub (.str (strOf p)), .pub (.str (strOf q)), .no, .no], u) := sSet_eq (mBin_eq rfl rfl r2)
  by_cases hc : nameL p = true ∧ q ≠ [] ∧ q.head? ≠ some 48
  · rw [if_pos hc]
    obtain ⟨h1, h2, h3⟩ := hc
    rw [h1] at n1
    rw [decide_eq_false (fun z => h2 (eq0.mp z))] at e1
    rw [decide_eq_false h3] at e2
    obtain ⟨t', el⟩ := dig_loop (A := .pub (.str T)) (B := .pub (.str (strOf p))) (C := .pub (.str (strOf q))) (u := u) (cs := q) (n := 0) (t := .no) dgm
    refine runBX_rt (sc_nx v1 (sc_nx v2 (sc_nx (sIf_f (mOrB_f (mNotB_eq (k := true) (mTru_eq (mCall_eq (c1 rfl) rfl n1) rfl)) (mOrB_f (mTru_eq (mBin_eq rfl rfl e1) rfl) (mTru_eq (mBin_eq rfl rfl e2) rfl))) rfl) (sc_nx (env' := [Sl.pub (.str T), .pub (.str (strOf p)), .pub (.str (strOf q)), .pub (.int ((0 : Nat) : Int)), .no]) (sSet_eq rfl) (sc_nx (sFor_eq (mItems_eq rfl (show itemsD (.str (strOf q)) = some (q.map fun c => .str ⟨#[c]⟩) from by show some ((strOf q).cps.toList.map _) = _; rw [strOf_cps])) el) (sc_rt (sRet_eq (mTup_eq (mCons_eq rfl (c1 rfl)) (isiz (by simp))))))))))
  · rw [if_neg hc]
    have bad : (mOrB (mNotB (mTru (mCall 1 F_is_name (mCons (mVar 1) mNil)))) (mOrB (mTru (mBin cEq (mVar 2) (mC (.str ("" : Str))))) (mTru (mBin stwD (mVar 2) (mC (.str ("0" : Str))))))) [Sl.pub (.str T), .pub (.str (strOf p)), .pub (.str (strOf q)), .no, .no] u = some (true, u) := by
      by_cases h1 : nameL p = true
      · rw [h1] at n1
        refine mOrB_f (mNotB_eq (k := true) (mTru_eq (mCall_eq (c1 rfl) rfl n1) rfl)) ?_
        by_cases h2 : q = []
        · rw [decide_eq_true (eq0.mpr h2)] at e1
          exact mOrB_t (mTru_eq (mBin_eq rfl rfl e1) rfl)
        · rw [decide_eq_false (fun z => h2 (eq0.mp z))] at e1
          have h3 : q.head? = some 48 := Decidable.byContradiction fun z => hc ⟨h1, h2, z⟩
          rw [decide_eq_true h3] at e2
          exact mOrB_f (mTru_eq (mBin_eq rfl rfl e1) rfl) (mTru_eq (mBin_eq rfl rfl e2) rfl)
      · have h1' : nameL p = false := by simpa using h1
        rw [h1'] at n1
        exact mOrB_t (mNotB_eq (k := false) (mTru_eq (mCall_eq (c1 rfl) rfl n1) rfl))
    exact runBX_er (sc_nx v1 (sc_nx v2 (sc_er (sIf_t bad (sc_er rfl)))))
theorem try_er {c : Str} {i : Nat} {body suite : MS} {env env1 env2 : List Sl} {u u1 u2 : U} {ns : List Str} {xs : List D} (h : body env u = some (.er env1 c ns xs, u1)) (h2 : suite (env1.set i (.pub (.exc c ns xs))) u1 = some (.nx env2, u2)) : sTry c i body suite env u = some (.nx (env2.set i .no), u2) := by
  unfold sTry
  rw [h]
  dsimp only
  rw [if_pos rfl, h2]
theorem try_nx {c : Str} {i : Nat} {body suite : MS} {env env1 : List Sl} {u u1 : U} (h : body env u = some (.nx env1, u1)) : sTry c i body suite env u = some (.nx env1, u1) := by
  unfold sTry
  rw [h]
theorem heard_ok {T : Str} {u : U} (hl : T.length ≤ 600) : F__law_heard [.str T] u = some (hD (hL T.cps.toList), u) := by
  have e := line_in_ok (u := u) hl
  have s1 : sTgt (.many [1, 2]) (mTup (mCons (mC .non) (mCons (mC .non) mNil))) [Sl.pub (.str T), .no, .no, .no] u = some (.nx [Sl.pub (.str T), .pub .non, .pub .non, .no], u) := sTgt_eq (mTup_eq (mCons_eq rfl (c1 rfl)) (isiz (by simp))) rfl
  cases q : hL T.cps.toList with
  | none =>
    rw [q] at e
    refine runB_rt (sc_nx s1 (sc_nx (env' := [Sl.pub (.str T), .pub (.exc ("BadText" : Str) [] []), .pub .non, .no]) (u1 := u) (try_er (env2 := [Sl.pub (.str T), .pub (.exc ("BadText" : Str) [] []), .pub .non, .pub (.exc ("BadText" : Str) [] [])]) (sc_er (sUpX_er (xCall_eq (n := 1) (c1 rfl) rfl e))) (sc_nx (sSet_eq rfl) rfl)) (sc_rt (sRet_eq ?_))))
    exact mIte_f (mTru_eq (mBin_eq rfl rfl rfl) rfl) (mIte_t (mTru_eq (mIsE_eq rfl) rfl) rfl)
  | some r =>
    obtain ⟨p, n⟩ := r
    rw [q] at e
    refine runB_rt (sc_nx s1 (sc_nx (env' := [Sl.pub (.str T), .pub .non, .pub (.tup [.str (strOf p), .int (n : Nat)]), .no]) (u1 := u) (try_nx (sc_nx (env' := [Sl.pub (.str T), .pub .non, .pub (.tup [.str (strOf p), .int (n : Nat)]), .no]) ((sUpX_ok (xCall_eq (n := 1) (c1 rfl) rfl e)).trans rfl) rfl)) (sc_rt (sRet_eq ?_))))
    exact mIte_t (mTru_eq (mBin_eq rfl rfl rfl) rfl) rfl
end Lw89
namespace Lw89
open PySem Dv L2
abbrev rdC : MB := (mAndB (mTru (mBin cLt (mVar 1) (mBi bLen (mCons (mVar 0) mNil)))) (mTru (mChain cLeS cLeS (mC (.str ("a" : Str))) (mBin ixD (mVar 0) (mVar 1)) (mC (.str ("z" : Str))))))
abbrev rdB : MS := (sCons (sSet 1 (mBin fAdd (mVar 1) (mC (.int (1)))))
    sNil)
theorem aS : ("a" : Str).cps.toList = [97] := by decide +kernel
theorem zS : ("z" : Str).cps.toList = [122] := by decide +kernel
theorem one_lt (a b : Nat) : [a] < [b] ↔ a < b := by
  rw [List.cons_lt_cons_iff]
  constructor
  · rintro (h | ⟨_, h⟩)
    · exact h
    · exact absurd h (List.lt_irrefl _)
  · exact .inl
theorem le_lo (c : Nat) : cLeS (.str ("a" : Str)) (.str ⟨#[c]⟩) = some (.bl (decide (97 ≤ c))) := by
  simp only [cLeS]
  rw [aS]
  show some (D.bl (!decide ([c] < [97]))) = _
  rw [show decide ([c] < [97]) = decide (c < 97) from decide_eq_decide.mpr (one_lt c 97)]
  by_cases q : 97 ≤ c
  · rw [decide_eq_true q, decide_eq_false (by omega)]; rfl
  · rw [decide_eq_false q, decide_eq_true (by omega)]; rfl
theorem le_hi (c : Nat) : cLeS (.str ⟨#[c]⟩) (.str ("z" : Str)) = some (.bl (decide (c ≤ 122))) := by
  simp only [cLeS]
  rw [zS]
  show some (D.bl (!decide ([122] < [c]))) = _
  rw [show decide ([122] < [c]) = decide (122 < c) from decide_eq_decide.mpr (one_lt 122 c)]
  by_cases q : c ≤ 122
  · rw [decide_eq_true q, decide_eq_false (by omega)]; rfl
  · rw [decide_eq_false q, decide_eq_true (by omega)]; rfl
theorem ch_ix {T : Str} {i : Nat} {c : Nat} (hl : T.length ≤ 600) (h : T.cps.toList[i]? = some c) : ixD (.str T) (.int (i : Nat)) = some (.str ⟨#[c]⟩) := by
  show (if T.length ≤ sizeLine then (atI T.cps.toList (i : Int)).map (fun c => D.str ⟨#[c]⟩) else none) = _
  rw [if_pos (isiz (by omega)), atI_nat h]; rfl
theorem rd_chain {T : Str} {i c : Nat} {A B : Sl} {u : U} (hl : T.length ≤ 600) (h : T.cps.toList[i]? = some c) : mTru (mChain cLeS cLeS (mC (.str ("a" : Str))) (mBin ixD (mVar 0) (mVar 1)) (mC (.str ("z" : Str)))) [Sl.pub (.str T), .pub (.int (i : Nat)), A, B] u = some (isLt c, u) := by
  have h1 := le_lo c
  have h2 := le_hi c
  unfold isLt
  by_cases q : 97 ≤ c
  · rw [decide_eq_true q] at h1
    have e := mTru_eq (k := decide (c ≤ 122)) (mChain_t (f := cLeS) (g := cLeS) (env := [Sl.pub (.str T), .pub (.int (i : Nat)), A, B]) (u := u) (a := mC (.str ("a" : Str))) (b := mBin ixD (mVar 0) (mVar 1)) (c := mC (.str ("z" : Str))) rfl (mBin_eq rfl rfl (ch_ix hl h)) h1 rfl h2) rfl
    rw [e]
    congr 2
    exact decide_eq_decide.mpr ⟨fun z => ⟨q, z⟩, fun z => z.2⟩
  · rw [decide_eq_false q] at h1
    have e := mTru_eq (k := false) (mChain_f (f := cLeS) (g := cLeS) (env := [Sl.pub (.str T), .pub (.int (i : Nat)), A, B]) (u := u) (a := mC (.str ("a" : Str))) (b := mBin ixD (mVar 0) (mVar 1)) (c := mC (.str ("z" : Str))) rfl (mBin_eq rfl rfl (ch_ix hl h)) h1) rfl
    rw [e, decide_eq_false fun z => q z.1]
theorem rd_loop {T : Str} {A B : Sl} {u : U} (hl : T.length ≤ 600) : ∀ {r p : List Nat} (k : Nat), T.cps.toList = p ++ r → r.length < k →
    sWh k rdC rdB [Sl.pub (.str T), .pub (.int (p.length : Nat)), A, B] u = some (.nx [Sl.pub (.str T), .pub (.int ((p.length + (r.takeWhile isLt).length : Nat) : Int)), A, B], u)
  | _, _, 0, _, h => by omega
  | [], p, k + 1, he, _ => by
    have l0 : p.length = T.length := by rw [len_cps, he, List.append_nil]
    have e1 : cLt (.int (p.length : Nat)) (.int (T.length : Nat)) = some (.bl false) := by show some (D.bl (decide _)) = _; rw [decide_eq_false (by omega)]
    exact sWh_f (mAndB_f (mTru_eq (mBin_eq rfl (mBi_eq (c1 rfl) (len_str (by omega))) e1) rfl))
  | c :: r, p, k + 1, he, hk => by
    have l0 : p.length < T.length := by rw [len_cps, he, List.length_append, List.length_cons]; omega
    have e1 : cLt (.int (p.length : Nat)) (.int (T.length : Nat)) = some (.bl true) := by show some (D.bl (decide _)) = _; rw [decide_eq_true (by omega)]
    have hc : T.cps.toList[p.length]? = some c := by rw [he]; simp
    have e2 := rd_chain (A := A) (B := B) (u := u) hl hc
    have e0 : (mTru (mBin cLt (mVar 1) (mBi bLen (mCons (mVar 0) mNil)))) [Sl.pub (.str T), .pub (.int (p.length : Nat)), A, B] u = some (true, u) := mTru_eq (mBin_eq rfl (mBi_eq (c1 rfl) (len_str (by omega))) e1) rfl
    rw [List.takeWhile_cons]
    cases q : isLt c with
    | false =>
      rw [q] at e2
      rw [if_neg (by decide)]
      exact sWh_f (mAndB_t e0 e2)
    | true =>
      rw [q] at e2
      rw [if_pos rfl]
      have ih := rd_loop (A := A) (B := B) (u := u) hl (r := r) (p := p ++ [c]) k (by rw [he, List.append_assoc]; rfl) (by rw [List.length_cons] at hk; omega)
      rw [List.length_append] at ih
      rw [sWh_t (env' := [Sl.pub (.str T), .pub (.int ((p.length + 1 : Nat) : Int)), A, B]) (mAndB_t e0 e2) (sc_nx (sSet_eq (mBin_eq rfl rfl rfl)) rfl)]
      rw [show p.length + (c :: List.takeWhile isLt r).length = p.length + [c].length + (List.takeWhile isLt r).length by simp; omega]
      exact ih
theorem cutS_from {T : Str} {k : Nat} (h : k ≤ T.length) : cutS T (some (k : Int)) none = strOf (T.cps.toList.drop k) := by
  rw [← strOf_of (cutS T _ _), cut_from h]
theorem cutS_to {T : Str} {k : Nat} (h : k ≤ T.length) : cutS T none (some (k : Int)) = strOf (T.cps.toList.take k) := by
  rw [← strOf_of (cutS T _ _), cut_to h]
theorem cin_dg (c : Nat) : cNotIn (.str ⟨#[c]⟩) (.str dgs) = some (.bl (!isDg c)) := by
  show (inD (.str ⟨#[c]⟩) (.str dgs)).map (fun k => D.bl (!k)) = _
  have : inD (.str ⟨#[c]⟩) (.str dgs) = some (decide (c ∈ dgs.cps.toList)) := rfl
  rw [this]
  unfold isDg
  rw [show decide (c ∈ dgs.cps.toList) = decide (48 ≤ c ∧ c ≤ 57) from decide_eq_decide.mpr (dgs_mem c)]; rfl
theorem ch_tx {c : Nat} (h : c < 128) : TxO ⟨#[c]⟩ := by
  unfold TxO PyData.strOk
  rw [← Array.all_toList, List.all_eq_true]
  intro d hd
  have : d = c := by simpa using hd
  exact decide_eq_true (by omega)
theorem read_ok {T : Str} {u : U} (hl : T.length ≤ 600) (ha : ∀ c ∈ T.cps.toList, c < 128) : F__law_read [.str T] u = some (hD (rL T.cps.toList), u) := by
  have lp := rd_loop (A := .no) (B := .no) (u := u) hl (r := T.cps.toList) (p := []) 4000 rfl (by rw [← len_cps]; omega)
  have hx : T.cps.toList = ltrs T.cps.toList ++ tailL T.cps.toList := tw_app isLt _
  have hlen : (ltrs T.cps.toList).length + (tailL T.cps.toList).length = T.length := by
    have := congrArg List.length hx
    rw [List.length_append, ← len_cps] at this
    omega
  have ek : ((([] : List Nat).length + (T.cps.toList.takeWhile isLt).length : Nat) : Int) = ((ltrs T.cps.toList).length : Nat) := by
    show (((0 + (ltrs T.cps.toList).length : Nat)) : Int) = _
    omega
  rw [ek] at lp
  have etake : T.cps.toList.take (ltrs T.cps.toList).length = ltrs T.cps.toList := by
    have := congrArg (List.take (ltrs T.cps.toList).length) hx
    rw [List.take_left] at this
    exact this
  have s1 : slD (.str T) (some ((ltrs T.cps.toList).length : Int)) none = some (.str (strOf (tailL T.cps.toList))) := by
    show (if T.length ≤ sizeLine then some (D.str (cutS T (some ((ltrs T.cps.toList).length : Int)) none)) else none) = _
    rw [if_pos (isiz (by omega)), cutS_from (by omega)]; rfl
  have s2 : slD (.str T) none (some ((ltrs T.cps.toList).length : Int)) = some (.str (strOf (ltrs T.cps.toList))) := by
    show (if T.length ≤ sizeLine then some (D.str (cutS T none (some ((ltrs T.cps.toList).length : Int)))) else none) = _
    rw [if_pos (isiz (by omega)), cutS_to (by omega), etake]
  unfold rL
  have hq : ∀ c ∈ tailL T.cps.toList, c < 128 := fun c hc => ha c (List.mem_of_mem_drop hc)
  revert lp s1 s2 hlen hq
  generalize ltrs T.cps.toList = p
  generalize tailL T.cps.toList = q
  intro lp hlen s1 s2 hq
  have st1 : sSet 1 (mC (.int 0)) [Sl.pub (.str T), .no, .no, .no] u = some (.nx [Sl.pub (.str T), .pub (.int (([] : List Nat).length : Nat)), .no, .no], u) := sSet_eq rfl
  have st2 : sSet 2 (mSl (mVar 0) (moAt (mVar 1)) moNo) [Sl.pub (.str T), .pub (.int (p.length : Nat)), .no, .no] u = some (.nx [Sl.pub (.str T), .pub (.int (p.length : Nat)), .pub (.str (strOf q)), .no], u) := sSet_eq (mSl_eq rfl (moAt_eq rfl) rfl s1)
  obtain ⟨E, hE⟩ : ∃ E, E = [Sl.pub (.str T), .pub (.int (p.length : Nat)), .pub (.str (strOf q)), Sl.no] := ⟨_, rfl⟩
  have e1 : mTru (mBin cEq (mVar 1) (mC (.int 0))) E u = some (decide (p.length = 0), u) := by
    rw [hE]
    refine mTru_eq (x := .bl (decide ((p.length : Int) = 0))) (mBin_eq rfl rfl rfl) ?_
    show some (decide ((p.length : Int) = 0)) = _
    congr 1
    exact decide_eq_decide.mpr (by omega)
  have e2 : mTru (mBin cEq (mVar 2) (mC (.str ("" : Str)))) E u = some (decide (q = []), u) := by
    rw [hE]
    refine mTru_eq (x := .bl (decide (strOf q = ("" : Str)))) (mBin_eq rfl rfl rfl) ?_
    show some (decide (strOf q = ("" : Str))) = _
    congr 1
    refine decide_eq_decide.mpr ⟨fun h => ?_, ?_⟩
    · have := congrArg (fun z : Str => z.cps.toList) h
      rw [strOf_cps] at this
      rw [this]; decide +kernel
    · rintro rfl; decide +kernel
  have bad : ∀ k, (mOrB (mTru (mBin cEq (mVar 1) (mC (.int (0))))) (mOrB (mTru (mBin cEq (mVar 2) (mC (.str ("" : Str))))) (mOrB (mTru (mBin cEq (mBin ixD (mVar 2) (mC (.int (0)))) (mC (.str ("0" : Str))))) (mTru (mBin cNe (mLc (.one 3) [3] (mItems (mVar 2)) (mTru (mBin cNotIn (mVar 3) (mC (.str ("0123456789" : Str))))) (mVar 3)) (mLst mNil)))))) E u = some (k, u) → k = true → F__law_read [.str T] u = some (.str ("bad" : Str), u) := fun k hk e => by
    subst e
    rw [hE] at hk
    exact runB_rt (sc_nx st1 (sc_nx lp (sc_nx st2 (sc_rt (sIf_t hk (sc_rt (sRet_eq rfl)))))))
  by_cases h1 : p.length = 0
  · rw [if_neg fun z => z.1 h1]
    rw [decide_eq_true h1] at e1
    exact bad true (mOrB_t e1) rfl
  rw [decide_eq_false h1] at e1
  by_cases h2 : q = []
  · rw [if_neg fun z => z.2.1 h2]
    rw [decide_eq_true h2] at e2
    exact bad true (mOrB_f e1 (mOrB_t e2)) rfl
  rw [decide_eq_false h2] at e2
  obtain ⟨c, r, rfl⟩ : ∃ c r, q = c :: r := by
    cases q with
    | nil => exact absurd rfl h2
    | cons c r => exact ⟨c, r, rfl⟩
  have lq : (strOf (c :: r)).length ≤ 600 := by rw [strOf_len]; omega
  have e3 : mTru (mBin cEq (mBin ixD (mVar 2) (mC (.int (0)))) (mC (.str ("0" : Str)))) E u = some (decide (c = 48), u) := by
    rw [hE]
    refine mTru_eq (x := .bl (decide ((⟨#[c]⟩ : Str) = ("0" : Str)))) (mBin_eq (mBin_eq rfl rfl (ch_ix (i := 0) (c := c) lq (by rw [strOf_cps]; rfl))) rfl rfl) ?_
    show some (decide ((⟨#[c]⟩ : Str) = ("0" : Str))) = _
    congr 1
    refine decide_eq_decide.mpr ⟨fun h => ?_, ?_⟩
    · have := congrArg (fun z : Str => z.cps.toList) h
      have e0 : ("0" : Str).cps.toList = [48] := by decide +kernel
      rw [e0] at this
      exact (List.cons.inj this).1
    · rintro rfl; decide +kernel
  by_cases h3 : c = 48
  · rw [if_neg fun z => z.2.2.1 (by rw [h3]; rfl)]
    rw [decide_eq_true h3] at e3
    exact bad true (mOrB_f e1 (mOrB_f e2 (mOrB_t e3))) rfl
  rw [decide_eq_false h3] at e3
  have cl : compL (turnL (.one 3) [3] E (mTru (mBin cNotIn (mVar 3) (mC (.str ("0123456789" : Str))))) (mVar 3)) ((c :: r).map fun c => .str ⟨#[c]⟩) u = some (((c :: r).filter fun c => !isDg c).map fun c => .str ⟨#[c]⟩, u) := compL_fm (P := fun c => !isDg c) fun d hd => by
    have e := cin_dg d
    have hb : bindT (.one 3) (.str ⟨#[d]⟩) (wipeE E [3]) = some [Sl.pub (.str T), .pub (.int (p.length : Nat)), .pub (.str (strOf (c :: r))), .pub (.str ⟨#[d]⟩)] := by rw [hE]; rfl
    cases q : isDg d with
    | true =>
      rw [q] at e
      rw [if_neg (by decide)]
      exact turnL_n hb (mTru_eq (mBin_eq rfl rfl e) rfl)
    | false =>
      rw [q] at e
      rw [if_pos (show (!false) = true from rfl)]
      exact turnL_c hb (mTru_eq (mBin_eq rfl rfl e) rfl) rfl
  have fl : ((c :: r).filter fun c => !isDg c).length ≤ 600 := Nat.le_trans (List.length_filter_le _ _) (by rw [← strOf_len]; exact lq)
  have e4 : mLc (.one 3) [3] (mItems (mVar 2)) (mTru (mBin cNotIn (mVar 3) (mC (.str ("0123456789" : Str))))) (mVar 3) E u = some (.lst (((c :: r).filter fun c => !isDg c).map fun c => .str ⟨#[c]⟩), u) := mLc_eq (mItems_eq (a := mVar 2) (x := .str (strOf (c :: r))) (by rw [hE]; rfl) (show itemsD (.str (strOf (c :: r))) = some ((c :: r).map fun c => .str ⟨#[c]⟩) from by show some ((strOf (c :: r)).cps.toList.map _) = _; rw [strOf_cps])) cl (by rw [List.length_map]; exact isiz (by omega))
  by_cases h4 : (c :: r).all isDg = true
  · rw [if_pos ⟨h1, h2, by intro z; exact h3 (Option.some.inj z), h4⟩]
    have hall := List.all_eq_true.mp h4
    have e0 : ((c :: r).filter fun c => !isDg c) = [] := List.filter_eq_nil_iff.mpr fun d hd => by rw [hall d hd]; decide
    rw [e0] at e4
    have e5 : mTru (mBin cNe (mLc (.one 3) [3] (mItems (mVar 2)) (mTru (mBin cNotIn (mVar 3) (mC (.str ("0123456789" : Str))))) (mVar 3)) (mLst mNil)) E u = some (false, u) := mTru_eq (mBin_eq e4 (mLst_eq (ds := []) rfl (isiz (by simp))) (show cNe (.lst []) (.lst []) = some (.bl false) from rfl)) rfl
    rw [hE] at e1 e2 e3 e5
    have it : bIntS [.str (strOf (c :: r))] = some (.int (NumText.digitsVal (c :: r) : Nat)) := by
      have ad : NumText.AllDigits (strOf (c :: r)).cps.toList := fun d hd => by
        rw [strOf_cps] at hd
        exact of_decide_eq_true (hall d hd)
      have e := PySem.intText_digits (x := strOf (c :: r)) ad (by rw [strOf_cps]; simp) (by omega)
      show (if (strOf (c :: r)).length ≤ 640 then (PySem.intText? (strOf (c :: r))).map D.int else none) = _
      rw [if_pos (by omega), e, strOf_cps]; rfl
    exact runB_rt (sc_nx st1 (sc_nx lp (sc_nx st2 (sc_nx (sIf_f (mOrB_f e1 (mOrB_f e2 (mOrB_f e3 e5))) rfl) (sc_rt (sRet_eq (mTup_eq (mCons_eq (mSl_eq rfl rfl (moAt_eq rfl) s2) (c1 (mBi_eq (c1 rfl) it))) (isiz (by simp)))))))))
  · rw [if_neg fun z => h4 z.2.2.2]
    obtain ⟨d, hd, hb⟩ : ∃ d ∈ c :: r, isDg d = false := by
      have : (c :: r).all isDg = false := by simpa using h4
      obtain ⟨d, hd, hb⟩ := List.all_eq_false.mp this
      exact ⟨d, hd, by simpa using hb⟩
    have hm : d ∈ (c :: r).filter fun c => !isDg c := List.mem_filter.mpr ⟨hd, by rw [hb]; rfl⟩
    cases q : (c :: r).filter fun c => !isDg c with
    | nil => rw [q] at hm; cases hm
    | cons x xs =>
      rw [q] at e4
      have ne : cNe (.lst ((x :: xs).map fun c => .str ⟨#[c]⟩)) (.lst []) = some (.bl true) := by
        have e := cne_nilS (ys := (x :: xs).map fun c => (⟨#[c]⟩ : Str)) fun z hz => by
          obtain ⟨d, hd, rfl⟩ := List.mem_map.mp hz
          exact ch_tx (hq d (by rw [← q] at hd; exact (List.mem_filter.mp hd).1))
        rw [List.map_map] at e
        exact e
      have e5 : mTru (mBin cNe (mLc (.one 3) [3] (mItems (mVar 2)) (mTru (mBin cNotIn (mVar 3) (mC (.str ("0123456789" : Str))))) (mVar 3)) (mLst mNil)) E u = some (true, u) := mTru_eq (mBin_eq e4 (mLst_eq (ds := []) rfl (isiz (by simp))) ne) rfl
      exact bad true (mOrB_f e1 (mOrB_f e2 (mOrB_f e3 e5))) rfl
end Lw89
namespace Dv
open PySem PySem.Spec PyProof.Rows L2
def m_sameA (F_same_ : List D → U → Option (D × U)) : MS := (sCons (sIf (mTru (mIsi ["list", "tuple"] (mVar 1))) (sCons (sIf (mOrB (mTru (mBin cNe (mIsi ["list"] (mVar 0)) (mIsi ["list"] (mVar 1)))) (mTru (mBin cNe (mIsi ["tuple"] (mVar 0)) (mIsi ["tuple"] (mVar 1))))) (sCons (sRet (mC (.bl false)))
    sNil) sNil)
    (sCons (sRet (mAnd (mBin cEq (mBi bLen (mCons (mVar 0) mNil)) (mBi bLen (mCons (mVar 1) mNil))) (mBi bAll (mCons (mLc (.many [2, 3]) [2, 3] (mZip (mVar 0) (mVar 1)) mYes (mCall 2 F_same_ (mCons (mVar 2) (mCons (mVar 3) mNil)))) mNil))))
    sNil)) sNil)
    (sCons (sIf (mOrB (mTru (mBin cIs (mVar 1) (mC .non))) (mTru (mIsi ["bool", "str"] (mVar 1)))) (sCons (sRet (mAnd (mBin cEq (mVar 0) (mVar 1)) (mAnd (mBin cEq (mIsi ["bool"] (mVar 0)) (mIsi ["bool"] (mVar 1))) (mBin cEq (mBin cIs (mVar 0) (mC .non)) (mBin cIs (mVar 1) (mC .non))))))
    sNil) sNil)
    (sCons (sRet (mAnd (mIsi ["int"] (mVar 0)) (mAnd (mNot (mIsi ["bool"] (mVar 0))) (mBin cEq (mVar 0) (mVar 1)))))
    sNil)))
def FR_sameA : Nat → List D → U → Option (D × U)
  | 0 => fun _ _ => none
  | n + 1 => runB (m_sameA (FR_sameA n)) 4
theorem sameA_self {u : U} : ∀ (n : Nat) (d : D), plainN n d = true → FR_sameA (n + 1) [d, d] u = some (.bl true, u) := by
  intro n
  induction n with
  | zero =>
    intro d h
    cases d with
    | non => exact runB_rt (sc_nx (sIf_f (mTru_eq (mIsi_eq rfl isi2_non) rfl) rfl) (sc_rt (sIf_t (mOrB_t (mTru_eq (mBin_eq rfl rfl rfl) rfl)) (sc_rt (sRet_eq (mAnd_t (mBin_eq rfl rfl rfl) rfl (mAnd_t (mBin_eq (mIsi_eq rfl isi_b_non) (mIsi_eq rfl isi_b_non) rfl) rfl (mBin_eq (mBin_eq rfl rfl rfl) (mBin_eq rfl rfl rfl) rfl))))))))
    | bl b => exact runB_rt (sc_nx (sIf_f (mTru_eq (mIsi_eq rfl (isi2_bl b)) rfl) rfl) (sc_rt (sIf_t (mOrB_f (mTru_eq (mBin_eq rfl rfl rfl) rfl) (mTru_eq (mIsi_eq rfl (isi_bs_bl b)) rfl)) (sc_rt (sRet_eq (mAnd_t (mBin_eq rfl rfl (ceq_bl b)) rfl (mAnd_t (mBin_eq (mIsi_eq rfl (isi_b_bl b)) (mIsi_eq rfl (isi_b_bl b)) rfl) rfl (mBin_eq (mBin_eq rfl rfl rfl) (mBin_eq rfl rfl rfl) rfl))))))))
    | str x => exact runB_rt (sc_nx (sIf_f (mTru_eq (mIsi_eq rfl (isi2_str x)) rfl) rfl) (sc_rt (sIf_t (mOrB_f (mTru_eq (mBin_eq rfl rfl rfl) rfl) (mTru_eq (mIsi_eq rfl (isi_bs_str x)) rfl)) (sc_rt (sRet_eq (mAnd_t (mBin_eq rfl rfl (ceq_str x)) rfl (mAnd_t (mBin_eq (mIsi_eq rfl (isi_b_str x)) (mIsi_eq rfl (isi_b_str x)) rfl) rfl (mBin_eq (mBin_eq rfl rfl rfl) (mBin_eq rfl rfl rfl) rfl))))))))
    | int i => exact runB_rt (sc_nx (sIf_f (mTru_eq (mIsi_eq rfl (isi2_int i)) rfl) rfl) (sc_nx (sIf_f (mOrB_f (mTru_eq (mBin_eq rfl rfl rfl) rfl) (mTru_eq (mIsi_eq rfl (isi_bs_int i)) rfl)) rfl) (sc_rt (sRet_eq (mAnd_t (mIsi_eq rfl (isi_ii i)) rfl (mAnd_t (mNot_eq (k := false) (mIsi_eq rfl (isi_ib i)) rfl) rfl (mBin_eq rfl rfl (ceq_int i))))))))
    | _ => simp [plainN] at h
  | succ n ih =>
    intro d h
    cases d with
    | non => exact runB_rt (sc_nx (sIf_f (mTru_eq (mIsi_eq rfl isi2_non) rfl) rfl) (sc_rt (sIf_t (mOrB_t (mTru_eq (mBin_eq rfl rfl rfl) rfl)) (sc_rt (sRet_eq (mAnd_t (mBin_eq rfl rfl rfl) rfl (mAnd_t (mBin_eq (mIsi_eq rfl isi_b_non) (mIsi_eq rfl isi_b_non) rfl) rfl (mBin_eq (mBin_eq rfl rfl rfl) (mBin_eq rfl rfl rfl) rfl))))))))
    | bl b => exact runB_rt (sc_nx (sIf_f (mTru_eq (mIsi_eq rfl (isi2_bl b)) rfl) rfl) (sc_rt (sIf_t (mOrB_f (mTru_eq (mBin_eq rfl rfl rfl) rfl) (mTru_eq (mIsi_eq rfl (isi_bs_bl b)) rfl)) (sc_rt (sRet_eq (mAnd_t (mBin_eq rfl rfl (ceq_bl b)) rfl (mAnd_t (mBin_eq (mIsi_eq rfl (isi_b_bl b)) (mIsi_eq rfl (isi_b_bl b)) rfl) rfl (mBin_eq (mBin_eq rfl rfl rfl) (mBin_eq rfl rfl rfl) rfl))))))))
    | str x => exact runB_rt (sc_nx (sIf_f (mTru_eq (mIsi_eq rfl (isi2_str x)) rfl) rfl) (sc_rt (sIf_t (mOrB_f (mTru_eq (mBin_eq rfl rfl rfl) rfl) (mTru_eq (mIsi_eq rfl (isi_bs_str x)) rfl)) (sc_rt (sRet_eq (mAnd_t (mBin_eq rfl rfl (ceq_str x)) rfl (mAnd_t (mBin_eq (mIsi_eq rfl (isi_b_str x)) (mIsi_eq rfl (isi_b_str x)) rfl) rfl (mBin_eq (mBin_eq rfl rfl rfl) (mBin_eq rfl rfl rfl) rfl))))))))
    | int i => exact runB_rt (sc_nx (sIf_f (mTru_eq (mIsi_eq rfl (isi2_int i)) rfl) rfl) (sc_nx (sIf_f (mOrB_f (mTru_eq (mBin_eq rfl rfl rfl) rfl) (mTru_eq (mIsi_eq rfl (isi_bs_int i)) rfl)) rfl) (sc_rt (sRet_eq (mAnd_t (mIsi_eq rfl (isi_ii i)) rfl (mAnd_t (mNot_eq (k := false) (mIsi_eq rfl (isi_ib i)) rfl) rfl (mBin_eq rfl rfl (ceq_int i))))))))
    | lst xs =>
      unfold plainN at h
      rw [Bool.and_eq_true] at h
      have few := of_decide_eq_true h.1
      have hx := same_go (f := FR_sameA (n + 1)) (xs := xs) (a := .lst xs) (b := .lst xs) (u := u) fun x hx => ih x (List.all_eq_true.mp h.2 x hx)
      exact runB_rt (sc_rt (sIf_t (mTru_eq (mIsi_eq rfl (isi2_lst xs)) rfl) (sc_nx (sIf_f (mOrB_f (mTru_eq (mBin_eq (mIsi_eq rfl (isi_l_l xs)) (mIsi_eq rfl (isi_l_l xs)) rfl) rfl) (mTru_eq (mBin_eq (mIsi_eq rfl (isi_lt xs)) (mIsi_eq rfl (isi_lt xs)) rfl) rfl)) rfl)
        (sc_rt (sRet_eq (mAnd_t (mBin_eq (mBi_eq (c1 rfl) (len_l few)) (mBi_eq (c1 rfl) (len_l few)) (ceq_int _)) rfl (mBi_eq (c1 (mLc_eq (mZip_l rfl rfl) hx (by rw [List.length_map, zip_len]; exact isiz few))) (bAll_ts _))))))))
    | tup xs =>
      unfold plainN at h
      rw [Bool.and_eq_true] at h
      have few := of_decide_eq_true h.1
      have hx := same_go (f := FR_sameA (n + 1)) (xs := xs) (a := .tup xs) (b := .tup xs) (u := u) fun x hx => ih x (List.all_eq_true.mp h.2 x hx)
      exact runB_rt (sc_rt (sIf_t (mTru_eq (mIsi_eq rfl (isi2_tup xs)) rfl) (sc_nx (sIf_f (mOrB_f (mTru_eq (mBin_eq (mIsi_eq rfl (isi_t_l xs)) (mIsi_eq rfl (isi_t_l xs)) rfl) rfl) (mTru_eq (mBin_eq (mIsi_eq rfl (isi_tt xs)) (mIsi_eq rfl (isi_tt xs)) rfl) rfl)) rfl)
        (sc_rt (sRet_eq (mAnd_t (mBin_eq (mBi_eq (c1 rfl) (len_t few)) (mBi_eq (c1 rfl) (len_t few)) (ceq_int _)) rfl (mBi_eq (c1 (mLc_eq (mZip_t rfl rfl) hx (by rw [List.length_map, zip_len]; exact isiz few))) (bAll_ts _))))))))
    | _ => simp [plainN] at h
end Dv
namespace Lw89
open PySem Dv L2
theorem str_ext {x y : Str} (h : x.cps.toList = y.cps.toList) : x = y := by rw [← strOf_of x, ← strOf_of y, h]
def numS (n : Nat) : Str := Str.ofString (toString ((n : Nat) : Int))
theorem numS_cps (n : Nat) : (numS n).cps.toList = TL.numL n := TL.tl_num n
theorem num_head : ∀ (m n : Nat), n ≤ m → 1 ≤ n → (TL.numL n).head? ≠ some 48
  | 0, n, h, h1 => by omega
  | m + 1, n, h, h1 => by
    by_cases q : n < 10
    · rw [TL.numL_lt q]
      intro z
      have := Option.some.inj z
      omega
    · rw [TL.numL_step (by omega)]
      have ih := num_head m (n / 10) (by omega) (by omega)
      cases e : TL.numL (n / 10) with
      | nil => exact absurd e (TL.numL_ne _)
      | cons c r => rw [e] at ih; exact ih
theorem say_good {t : Str} {n : Nat} (ht : ∀ c ∈ t.cps.toList, isLt c = true) (h1 : 1 ≤ t.length) (hn : 1 ≤ n) : Good t.cps.toList (TL.numL n) :=
  ⟨ht, by rw [← len_cps]; exact h1, fun c hc => decide_eq_true (TL.numL_digits n c hc), TL.numL_ne n, num_head n n (Nat.le_refl _) hn⟩
theorem say_cps (t : Str) (n : Nat) : (t ++ numS n).cps.toList = t.cps.toList ++ TL.numL n := by rw [app_cps, numS_cps]
theorem say_h {t : Str} {n : Nat} (ht : ∀ c ∈ t.cps.toList, isLt c = true) (h1 : 1 ≤ t.length) (h8 : t.length ≤ 8) (hn : 1 ≤ n) : hL (t ++ numS n).cps.toList = some (t.cps.toList, n) := by
  rw [say_cps, good_h (say_good ht h1 hn) (by rw [← len_cps]; exact h8), TL.numL_val]
theorem log2_b {i : Int} {b : Nat} (h : i.natAbs < 2 ^ b) (h0 : 0 < b) : i.natAbs.log2 < b := PySem.Flt.log2_lt_of h0 h
theorem text_ok {t : Str} {n : Nat} {u : U} (ht : t.length ≤ 100) (hn : n < 2 ^ 200) (hl : (numS n).length ≤ 100) : F_line_text [.tup [.str t, .int (n : Nat)]] u = some (.str (t ++ numS n), u) := by
  have e0 : Str.empty ++ t = t := str_ext (by rw [app_cps]; rfl)
  have la : ∀ x y : Str, (x ++ y).length = x.length + y.length := fun x y => by rw [len_cps, app_cps, List.length_append, ← len_cps, ← len_cps]
  have e1 : txtD (.str t) = some t := if_pos (isiz (by omega))
  have e2 : txtD (.int (n : Nat)) = some (numS n) := if_pos (Nat.lt_of_lt_of_le (log2_b (b := 200) (by simpa using hn) (by decide)) (by decide))
  have e3 : fmt2D (.str t) (.int (n : Nat)) = some (.str (t ++ numS n)) := by
    unfold fmt2D
    rw [e1, e2]
    dsimp only
    rw [e0, if_pos ⟨isiz (by omega), isiz (by rw [la]; omega)⟩]
  exact runB_rt (sc_nx (env' := [Sl.pub (.tup [.str t, .int (n : Nat)]), .pub (.str t), .pub (.int (n : Nat))]) (sTgtS_eq rfl rfl) (sc_rt (sRet_eq (mBin_eq rfl rfl e3))))
theorem text_l {t : Str} {n : Nat} {u : U} (ht : t.length ≤ 100) (hn : n < 2 ^ 200) (hl : (numS n).length ≤ 100) : F_line_text [.lst [.str t, .int (n : Nat)]] u = some (.str (t ++ numS n), u) := by
  have e0 : Str.empty ++ t = t := str_ext (by rw [app_cps]; rfl)
  have la : ∀ x y : Str, (x ++ y).length = x.length + y.length := fun x y => by rw [len_cps, app_cps, List.length_append, ← len_cps, ← len_cps]
  have e1 : txtD (.str t) = some t := if_pos (isiz (by omega))
  have e2 : txtD (.int (n : Nat)) = some (numS n) := if_pos (Nat.lt_of_lt_of_le (log2_b (b := 200) (by simpa using hn) (by decide)) (by decide))
  have e3 : fmt2D (.str t) (.int (n : Nat)) = some (.str (t ++ numS n)) := by
    unfold fmt2D
    rw [e1, e2]
    dsimp only
    rw [e0, if_pos ⟨isiz (by omega), isiz (by rw [la]; omega)⟩]
  exact runB_rt (sc_nx (env' := [Sl.pub (.lst [.str t, .int (n : Nat)]), .pub (.str t), .pub (.int (n : Nat))]) (sTgtS_eq rfl rfl) (sc_rt (sRet_eq (mBin_eq rfl rfl e3))))
theorem same_ok {u : U} (n : Nat) (d : D) (h : plainN n d = true) : FR__law_same (n + 1) [d, d] u = some (.bl true, u) := by
  have e : ∀ n, FR__law_same n = FR_sameA n := fun n => by
    induction n with
    | zero => rfl
    | succ n ih => unfold FR__law_same FR_sameA; rw [ih]; rfl
  rw [e]; exact sameA_self n d h
abbrev bads : List Str := ["", "a", "1", "a0", "a01", "a00", "A1", "a 1", "a1 ", " a1", "a-1", "a+1", "1a", "a1b", "a1b2", "a1_0", "a1.0", "a1\n", "(a, 1)", "-", "abcdefghi1"]
theorem bads_no : ∀ s ∈ bads, s.length ≤ 600 ∧ hL s.cps.toList = none := by decide +kernel
def ten40 : Nat := 10 ^ 40
def z40 : Str := mulS ("0" : Str) 40
theorem h_ab3 : hL ("ab3" : Str).cps.toList = some (("ab" : Str).cps.toList, 3) := by decide +kernel
theorem h_z1 : hL (("z1" : Str) ++ z40).cps.toList = some (("z" : Str).cps.toList, ten40) := by decide +kernel
theorem h_ah : hL ("abcdefgh10" : Str).cps.toList = some (("abcdefgh" : Str).cps.toList, 10) := by decide +kernel
theorem t_a12 : ("a" : Str) ++ numS 12 = ("a12" : Str) := by decide +kernel
theorem t_ab : ("ab" : Str) ++ numS ten40 = ("ab1" : Str) ++ z40 := by decide +kernel
theorem hD_some (p : Str) (n : Nat) : hD (some (p.cps.toList, n)) = .tup [.str p, .int (n : Nat)] := by
  unfold hD
  dsimp only
  rw [strOf_of]
theorem hand_any (u : U) : F__law_by_hand_right [] u = some (.bl true, u) := by
  have lz : z40.length = 40 := by decide +kernel
  have la : ∀ x y : Str, (x ++ y).length = x.length + y.length := fun x y => by rw [len_cps, app_cps, List.length_append, ← len_cps, ← len_cps]
  have p40 : fPow (.int 10) (.int 40) = some (.int (ten40 : Nat)) := by
    have e : ((10 : Int) ^ (40 : Int).toNat) = (ten40 : Nat) := by decide +kernel
    simp only [fPow]
    rw [if_pos (by decide), e]
  have k1 := text_ok (t := ("a" : Str)) (n := 12) (u := u) (by decide +kernel) (by decide) (by decide +kernel)
  rw [t_a12] at k1
  have k2 := text_l (t := ("ab" : Str)) (n := ten40) (u := u) (by decide +kernel) (by decide +kernel) (by decide +kernel)
  rw [t_ab] at k2
  have k3 := heard_ok (T := ("ab3" : Str)) (u := u) (by decide +kernel)
  rw [h_ab3, hD_some] at k3
  have k4 := heard_ok (T := ("z1" : Str) ++ z40) (u := u) (by rw [la, lz]; decide +kernel)
  rw [h_z1, hD_some] at k4
  have k5 := heard_ok (T := ("abcdefgh10" : Str)) (u := u) (by decide +kernel)
  rw [h_ah, hD_some] at k5
  have m40 : fMulS (.str ("0" : Str)) (.int 40) = some (.str z40) := by
    simp only [fMulS]
    rw [if_pos (by decide +kernel)]; rfl
  have a1 : fAdd (.str ("z1" : Str)) (.str z40) = some (.str (("z1" : Str) ++ z40)) := by
    simp only [fAdd]
    rw [if_pos (isiz (by rw [lz]; decide +kernel))]
  have a2 : fAdd (.str ("ab1" : Str)) (.str z40) = some (.str (("ab1" : Str) ++ z40)) := by
    simp only [fAdd]
    rw [if_pos (isiz (by rw [lz]; decide +kernel))]
  obtain ⟨GA, hGA⟩ : ∃ G : List D, G = [.str ("a12" : Str), .str (("ab1" : Str) ++ z40), .tup [.str ("ab" : Str), .int (3 : Nat)]] := ⟨_, rfl⟩
  obtain ⟨GB, hGB⟩ : ∃ G : List D, G = GA ++ [.tup [.str ("z" : Str), .int (ten40 : Nat)], .tup [.str ("abcdefgh" : Str), .int (10 : Nat)]] := ⟨_, rfl⟩
  have lA : GA.length = 3 := by rw [hGA]; rfl
  have lB : GB.length = 5 := by rw [hGB, List.length_append, lA]; rfl
  have bl : bads.length = 21 := by decide
  have pl : ∀ d ∈ GB ++ bads.map (fun _ => D.str ("bad" : Str)), plainN 4 d = true := fun d hd => by
    rcases List.mem_append.mp hd with hd | hd
    · rw [hGB, hGA] at hd
      simp only [List.mem_append, List.mem_cons, List.not_mem_nil, or_false] at hd
      rcases hd with (rfl | rfl | rfl) | rfl | rfl <;> rfl
    · obtain ⟨s, _, rfl⟩ := List.mem_map.mp hd
      rfl
  have sm := same_ok (u := u) 5 (.lst (GB ++ bads.map fun _ => D.str ("bad" : Str))) (plain_l (n := 4) pl (by rw [List.length_append, List.length_map, lB, bl]; omega))
  obtain ⟨BD, hBD⟩ : ∃ B : List D, B = bads.map D.str := ⟨_, rfl⟩
  have lBD : BD.length = 21 := by rw [hBD, List.length_map]; exact bl
  have hc : compL (turnL (.one 4) [4] [Sl.pub (.int (ten40 : Nat)), .pub (.lst GB), .pub (.lst GB), .pub (.lst BD), .no] mYes (mCall 1 F__law_heard (mCons (mVar 4) mNil))) (bads.map .str) u = some (bads.map (fun _ => D.str ("bad" : Str)), u) := compL_mp fun s hs => by
    obtain ⟨l6, hn⟩ := bads_no s hs
    have e := heard_ok (T := s) (u := u) l6
    rw [hn] at e
    exact turnL_eq (env' := [Sl.pub (.int (ten40 : Nat)), .pub (.lst GB), .pub (.lst GB), .pub (.lst BD), .pub (.str s)]) rfl (mCall_eq (c1 rfl) rfl e)
  have mb : fMul (.lst [.str ("bad" : Str)]) (.int (21 : Nat)) = some (.lst (bads.map fun _ => D.str ("bad" : Str))) := by
    simp only [fMul]
    rw [if_pos ⟨by decide, by decide, isiz (by decide)⟩]
    rfl
  refine runB_rt (sc_nx (env' := [Sl.pub (.int (ten40 : Nat)), .no, .no, .no, .no]) (sSet_eq (mBin_eq rfl rfl p40)) ?_)
  refine sc_nx (env' := [Sl.pub (.int (ten40 : Nat)), .pub (.lst GA), .no, .no, .no]) (u1 := u) (by
    rw [hGA]
    exact sSet_eq (mLst_eq (mCons_eq (mCall_eq (c1 (mTup_eq (mCons_eq rfl (c1 rfl)) (isiz (by simp)))) rfl k1) (mCons_eq (mCallP_eq (ds := [.lst [.str ("ab" : Str), .int (ten40 : Nat)]]) (c1 (mLst_eq (mCons_eq rfl (c1 rfl)) (isiz (by simp)))) ⟨rfl, rfl⟩ k2) (c1 (mCall_eq (c1 rfl) rfl k3)))) (isiz (by simp)))) ?_
  refine sc_nx (env' := [Sl.pub (.int (ten40 : Nat)), .pub (.lst GB), .no, .no, .no]) (u1 := u) (by
    rw [hGB]
    exact sSet_eq (mBin_eq rfl (mLst_eq (mCons_eq (mCall_eq (c1 (mBin_eq rfl (mBin_eq rfl rfl m40) a1)) rfl k4) (c1 (mCall_eq (c1 rfl) rfl k5))) (isiz (by simp))) (fAdd_l (by rw [lA]; simp)))) ?_
  refine sc_nx (env' := [Sl.pub (.int (ten40 : Nat)), .pub (.lst GB), .pub (.lst GB), .no, .no]) (u1 := u) (by
    have := sSet_eq (i := 2) (env := [Sl.pub (.int (ten40 : Nat)), .pub (.lst GB), .no, .no, .no]) (u := u) (mLst_eq (mCons_eq (m := mC (.str ("a12" : Str))) rfl (mCons_eq (m := mBin fAdd (mC (.str ("ab1" : Str))) (mBin fMulS (mC (.str ("0" : Str))) (mC (.int (40))))) (mBin_eq rfl (mBin_eq rfl rfl m40) a2) (mCons_eq (m := mTup (mCons (mC (.str ("ab" : Str))) (mCons (mC (.int (3))) mNil))) (mTup_eq (mCons_eq rfl (c1 rfl)) (isiz (by simp))) (mCons_eq (m := mTup (mCons (mC (.str ("z" : Str))) (mCons (mVar 0) mNil))) (mTup_eq (mCons_eq rfl (c1 rfl)) (isiz (by simp))) (c1 (a := mTup (mCons (mC (.str ("abcdefgh" : Str))) (mCons (mC (.int (10))) mNil))) (mTup_eq (mCons_eq rfl (c1 rfl)) (isiz (by simp)))))))) (isiz (by simp)))
    rw [this, hGB, hGA]; rfl) ?_
  refine sc_nx (env' := [Sl.pub (.int (ten40 : Nat)), .pub (.lst GB), .pub (.lst GB), .pub (.lst (BD.take 13)), .no]) (u1 := u) (by
    rw [hBD]
    exact sSet_eq (mLst_eq (ds := (bads.map D.str).take 13) rfl (isiz (by decide)))) ?_
  refine sc_nx (env' := [Sl.pub (.int (ten40 : Nat)), .pub (.lst GB), .pub (.lst GB), .pub (.lst BD), .no]) (u1 := u) (by
    have := sSet_eq (i := 3) (env := [Sl.pub (.int (ten40 : Nat)), .pub (.lst GB), .pub (.lst GB), .pub (.lst (BD.take 13)), .no]) (u := u) (mBin_eq (a := mVar 3) (f := fAdd) rfl (mLst_eq (ms := (mCons (mC (.str ("a1b" : Str))) (mCons (mC (.str ("a1b2" : Str))) (mCons (mC (.str ("a1_0" : Str))) (mCons (mC (.str ("a1.0" : Str))) (mCons (mC (.str ("a1\n" : Str))) (mCons (mC (.str ("(a, 1)" : Str))) (mCons (mC (.str ("-" : Str))) (mCons (mC (.str ("abcdefghi1" : Str))) mNil))))))))) (ds := (bads.map D.str).drop 13) rfl (isiz (by decide))) (fAdd_l (by rw [List.length_take, lBD]; decide)))
    rw [this, hBD, List.take_append_drop]; rfl) ?_
  refine sc_rt (sRet_eq (mCall_eq (mCons_eq (mBin_eq rfl (mLc_eq (mItems_eq (x := .lst BD) rfl (by rw [hBD]; rfl)) hc (by rw [List.length_map, bl]; exact isiz (by decide))) (fAdd_l (by rw [List.length_map, lB, bl]; decide))) (c1 (mBin_eq rfl (mBin_eq (mLst_eq (c1 rfl) (isiz (by simp))) (mBi_eq (c1 rfl) (show bLen [.lst BD] = some (.int (21 : Nat)) by rw [len_l (by omega), lBD])) mb) (fAdd_l (by rw [List.length_map, lB, bl]; decide))))) rfl sm))
end Lw89
namespace Lw89
open PySem Dv L2
theorem low_b {i : Int} (h0 : 0 < i) (h : i < 2 ^ 200) : i.natAbs.log2 < 9000 := Nat.lt_of_lt_of_le (log2_b (b := 200) (by omega) (by decide)) (by decide)
theorem of_ok {n : Int} {u : U} {ds : List D} (h : OkU n u) (hn : n ≤ 2 ^ 40) (h0 : 0 < ds.length) (h1 : ds.length < 1000) :
    ∃ d u', F__law_of [.urn, .lst ds] u = some (d, u') ∧ d ∈ ds ∧ OkU (n + 1) u' := by
  obtain ⟨r, u', e, r0, r1, hu⟩ := take_ok (low := ds.length) h hn (by omega) (low_b (by omega) (by omega))
  have hr : r.toNat < ds.length := by omega
  have e2 : ixD (.lst ds) (.int r) = some ds[r.toNat] := by
    have := atI_nat (List.getElem?_eq_getElem hr)
    rw [Int.toNat_of_nonneg r0] at this
    exact this
  refine ⟨_, u', ?_, List.getElem_mem hr, hu⟩
  simp only [F__law_of, m__law_of, runB, sCons, sSet, sTgt, sPar, sRet, sIf, sNil, sDrop, mVar, mC, mCons, mNil, mLst, mTup, mBin, mCall, mBi, mAnd, mOr, mNot, mIte, mTru, mNotB, mAndB, mOrB, mChain, mNeg, mSl, moNo, moAt, mIsi, bnd, lft, bindT, setE, List.map_cons, List.map_nil, List.length_cons, List.length_nil, List.cons_append, List.nil_append, List.getElem?_cons_zero, List.getElem?_cons_succ, List.set_cons_zero, List.set_cons_succ, if_true, if_false, Bool.false_eq_true, List.replicate_succ, List.replicate_zero, Nat.reduceSub, Nat.reduceAdd, reduceIte, Option.map_some, Option.map_none, Nat.zero_add, bLen, e, e2]
theorem cutS_fr {T : Str} (k : Nat) : cutS T (some (k : Int)) none = strOf (T.cps.toList.drop k) := by
  by_cases h : k ≤ T.length
  · exact cutS_from h
  · rw [← strOf_of (cutS T _ _)]
    congr 1
    show ((T.cps.toList.drop (HT.sIx T.length 0 (some (k : Int)))).take (HT.sIx T.length T.length none - HT.sIx T.length 0 (some (k : Int)))).toArray.toList = _
    rw [List.toList_toArray, HT.sIx_none, HT.sIx_nat, Nat.min_eq_right (by omega), Nat.sub_self, List.take_zero, List.drop_of_length_le (by rw [← len_cps]; omega)]
def tagsL : List Str := ["a", "ab", "zz", "log"]
theorem tags_f : ∀ t ∈ tagsL, (∀ c ∈ t.cps.toList, isLt c = true) ∧ 1 ≤ t.length ∧ t.length ≤ 3 := by decide +kernel
def signsL : List Str := ["a", " ", "0", "1", "-", "", "b"]
theorem signs_f : ∀ t ∈ signsL, (∀ c ∈ t.cps.toList, c < 128) ∧ t.length ≤ 1 := by decide +kernel
/-- few letters in a bent text -/
theorem bent_ltrs {s z : List Nat} {k r : Nat} (hz : z.length ≤ 1) (hs : s.countP isLt ≤ 3) : (ltrs (s.take k ++ z ++ s.drop (k + r))).length ≤ 8 := by
  have h1 : (ltrs (s.take k ++ z ++ s.drop (k + r))).length = (ltrs (s.take k ++ z ++ s.drop (k + r))).countP isLt := by
    rw [List.countP_eq_length.mpr fun c hc => tw_mem hc]
  have h2 : (ltrs (s.take k ++ z ++ s.drop (k + r))).countP isLt ≤ (s.take k ++ z ++ s.drop (k + r)).countP isLt := (List.takeWhile_sublist _).countP_le
  rw [List.countP_append, List.countP_append] at h2
  have h3 : z.countP isLt ≤ 1 := Nat.le_trans List.countP_le_length hz
  have h4 : (s.take k).countP isLt + (s.drop (k + r)).countP isLt ≤ s.countP isLt := by
    have e : s.countP isLt = (s.take k).countP isLt + (s.drop k).countP isLt := by rw [← List.countP_append, List.take_append_drop]
    have l : (s.drop (k + r)).countP isLt ≤ (s.drop k).countP isLt := by
      rw [← List.drop_drop]
      exact (List.drop_sublist _ _).countP_le
    omega
  omega
abbrev b1 : MS := (sCons (sPar 2 3 (mCall 2 F__law_of (mCons (mVar 0) (mCons (mLst (mCons (mC (.str ("a" : Str))) (mCons (mC (.str ("ab" : Str))) (mCons (mC (.str ("zz" : Str))) (mCons (mC (.str ("log" : Str))) mNil))))) mNil))) (mBin fAdd (mC (.int (1))) (mCall 2 F__law_take (mCons (mVar 0) (mCons (mCall 2 F__law_of (mCons (mVar 0) (mCons (mLst (mCons (mC (.int (9))) (mCons (mC (.int (99))) (mCons (mBin fPow (mC (.int (10))) (mC (.int (30)))) mNil)))) mNil))) mNil))))) (sCons (sSet 4 (mBin fAdd (mVar 2) (mBi bStrI (mCons (mVar 3) mNil)))) (sCons (sIf (mNotB (mTru (mCall 2 (FR__law_same 6) (mCons (mLst (mCons (mCall 1 F_line_text (mCons (mTup (mCons (mVar 2) (mCons (mVar 3) mNil))) mNil)) (mCons (mCall 1 F__law_heard (mCons (mVar 4) mNil)) mNil))) (mCons (mLst (mCons (mVar 4) (mCons (mTup (mCons (mVar 2) (mCons (mVar 3) mNil))) mNil))) mNil))))) (sCons (sRet (mC (.bl false))) sNil) sNil) (sCons (sPar 5 6 (mCall 2 F__law_take (mCons (mVar 0) (mCons (mBin fAdd (mBi bLen (mCons (mVar 4) mNil)) (mC (.int (1)))) mNil))) (mCall 2 F__law_of (mCons (mVar 0) (mCons (mLst (mCons (mC (.str ("a" : Str))) (mCons (mC (.str (" " : Str))) (mCons (mC (.str ("0" : Str))) (mCons (mC (.str ("1" : Str))) (mCons (mC (.str ("-" : Str))) (mCons (mC (.str ("" : Str))) (mCons (mC (.str ("b" : Str))) mNil)))))))) mNil)))) (sCons (sSet 7 (mBin fAdd (mBin fAdd (mSl (mVar 4) moNo (moAt (mVar 5))) (mVar 6)) (mSl (mVar 4) (moAt (mBin fAdd (mVar 5) (mCall 2 F__law_take (mCons (mVar 0) (mCons (mC (.int (2))) mNil))))) moNo))) (sCons (sIf (mNotB (mTru (mCall 2 (FR__law_same 6) (mCons (mCall 1 F__law_heard (mCons (mVar 7) mNil)) (mCons (mCall 1 F__law_read (mCons (mVar 7) mNil)) mNil))))) (sCons (sRet (mC (.bl false))) sNil) sNil) sNil))))))
theorem same_hD {u : U} (o : Option (List Nat × Nat)) : FR__law_same 6 [hD o, hD o] u = some (.bl true, u) := by
  refine same_ok 5 (hD o) ?_
  cases o with
  | none => rfl
  | some r => rfl
theorem turn_ok {n : Int} {u : U} {t a2 a3 a4 a5 a6 a7 : Sl} (o : OkU n u) (hn : n ≤ 2 ^ 37) :
    ∃ (c2 c3 c4 c5 c6 c7 : Sl) (u' : U), b1 [.pub .urn, t, a2, a3, a4, a5, a6, a7] u = some (.nx [.pub .urn, t, c2, c3, c4, c5, c6, c7], u') ∧ OkU (n + 6) u' := by
  have p30 : fPow (.int 10) (.int 30) = some (.int ((10 ^ 30 : Nat) : Int)) := by
    have e : ((10 : Int) ^ (30 : Int).toNat) = ((10 ^ 30 : Nat) : Int) := by decide +kernel
    simp only [fPow]
    rw [if_pos (by decide), e]
  obtain ⟨dt, u1, e1, m1, o1⟩ := of_ok (ds := tagsL.map .str) o (by omega) (by decide) (by decide)
  obtain ⟨tg, htg, rfl⟩ := List.mem_map.mp m1
  obtain ⟨tl, t1, t3⟩ := tags_f tg htg
  obtain ⟨dl, u2, e2, m2, o2⟩ := of_ok (ds := [.int 9, .int 99, .int ((10 ^ 30 : Nat) : Int)]) o1 (by omega) (by decide) (by decide)
  obtain ⟨low, rfl, lw0, lw1⟩ : ∃ low : Int, dl = .int low ∧ 0 < low ∧ low ≤ ((10 ^ 30 : Nat) : Int) := by
    simp only [List.mem_cons, List.not_mem_nil, or_false] at m2
    rcases m2 with rfl | rfl | rfl
    · exact ⟨_, rfl, by decide, by decide⟩
    · exact ⟨_, rfl, by decide, by decide⟩
    · exact ⟨_, rfl, by decide, by decide⟩
  have h200 : ((10 ^ 30 : Nat) : Int) < 2 ^ 200 := by decide
  obtain ⟨r, u3, e3, r0, r1, o3⟩ := take_ok (low := low) o2 (by omega) lw0 (low_b lw0 (by omega))
  obtain ⟨m, hm⟩ : ∃ m : Nat, (1 : Int) + r = m := ⟨(1 + r).toNat, by omega⟩
  have m0 : 1 ≤ m := by omega
  have mh : m ≤ 10 ^ 30 := by omega
  have mN : m < 2 ^ 200 := by
    have : (10 ^ 30 : Nat) < 2 ^ 200 := by decide
    omega
  have nl : (numS m).length ≤ 31 := by
    rw [len_cps, numS_cps]
    refine TL.numL_len (by decide) (Nat.lt_of_le_of_lt mh (by decide))
  have la : ∀ x y : Str, (x ++ y).length = x.length + y.length := fun x y => by rw [len_cps, app_cps, List.length_append, ← len_cps, ← len_cps]
  have tx := text_ok (t := tg) (n := m) (u := u3) (by omega) mN (by omega)
  have hd := heard_ok (T := tg ++ numS m) (u := u3) (by rw [la]; omega)
  rw [say_h tl t1 (by omega) m0, hD_some] at hd
  obtain ⟨S, hS⟩ : ∃ S : Str, S = tg ++ numS m := ⟨_, rfl⟩
  have ls : S.length ≤ 34 := by rw [hS, la]; omega
  have as : ∀ c ∈ S.cps.toList, c < 128 := fun c hc => by
    rw [hS, say_cps] at hc
    rcases List.mem_append.mp hc with hc | hc
    · have := of_decide_eq_true (tl c hc); omega
    · have := TL.numL_digits m c hc; omega
  have cs : S.cps.toList.countP isLt ≤ 3 := by
    rw [hS, say_cps, List.countP_append]
    have e : (TL.numL m).countP isLt = 0 := List.countP_eq_zero.mpr fun c hc => by
      have := TL.numL_digits m c hc
      unfold isLt
      rw [decide_eq_false (by omega)]; decide
    have l : tg.cps.toList.countP isLt ≤ tg.cps.toList.length := List.countP_le_length
    rw [← len_cps] at l
    omega
  have a1 : fAdd (.str tg) (.str (numS m)) = some (.str S) := by
    simp only [fAdd]
    rw [if_pos (isiz (by omega)), hS]
  have b1' : bStrI [.int (m : Nat)] = some (.str (numS m)) := if_pos (Nat.lt_of_lt_of_le (log2_b (b := 200) (by simpa using mN) (by decide)) (by decide))
  rw [← hS] at tx hd
  have sm1 := same_ok (u := u3) 5 (.lst [.str S, .tup [.str tg, .int (m : Nat)]]) (plain_l (n := 4) (fun d hd => by
    simp only [List.mem_cons, List.not_mem_nil, or_false] at hd
    rcases hd with rfl | rfl <;> rfl) (by simp))
  obtain ⟨k, u4, e4, k0, k1, o4⟩ := take_ok (low := (S.length : Int) + 1) o3 (by omega) (by omega) (low_b (by omega) (by omega))
  obtain ⟨k, rfl⟩ : ∃ c : Nat, k = c := ⟨k.toNat, by omega⟩
  obtain ⟨dz, u5, e5, m5, o5⟩ := of_ok (ds := signsL.map .str) o4 (by omega) (by decide) (by decide)
  obtain ⟨z, hz, rfl⟩ := List.mem_map.mp m5
  obtain ⟨za, zl⟩ := signs_f z hz
  obtain ⟨q, u6, e6, q0, q1, o6⟩ := take_ok (low := 2) o5 (by omega) (by decide) (by decide +kernel)
  obtain ⟨q, rfl⟩ : ∃ c : Nat, q = c := ⟨q.toNat, by omega⟩
  obtain ⟨O, hO⟩ : ∃ O : Str, O = strOf (S.cps.toList.take k) ++ z ++ strOf (S.cps.toList.drop (k + q)) := ⟨_, rfl⟩
  have cO : O.cps.toList = S.cps.toList.take k ++ z.cps.toList ++ S.cps.toList.drop (k + q) := by
    rw [hO, app_cps, app_cps, strOf_cps, strOf_cps]
  have lt1 : (strOf (S.cps.toList.take k)).length ≤ 34 := by rw [strOf_len, List.length_take, ← len_cps]; omega
  have lt2 : (strOf (S.cps.toList.drop (k + q))).length ≤ 34 := by rw [strOf_len, List.length_drop, ← len_cps]; omega
  have lO : O.length ≤ 600 := by rw [hO, la, la]; omega
  have aO : ∀ c ∈ O.cps.toList, c < 128 := fun c hc => by
    rw [cO] at hc
    rcases List.mem_append.mp hc with hc | hc
    · rcases List.mem_append.mp hc with hc | hc
      · exact as c (List.mem_of_mem_take hc)
      · exact za c hc
    · exact as c (List.mem_of_mem_drop hc)
  have rh : rL O.cps.toList = hL O.cps.toList := r_h (by rw [cO]; exact bent_ltrs (by rw [← len_cps]; exact zl) cs)
  have hdO := heard_ok (T := O) (u := u6) lO
  have rdO := read_ok (T := O) (u := u6) lO aO
  rw [rh] at rdO
  have s1 : slD (.str S) none (some (k : Int)) = some (.str (strOf (S.cps.toList.take k))) := by
    show (if S.length ≤ sizeLine then some (D.str (cutS S none (some (k : Int)))) else none) = _
    rw [if_pos (isiz (by omega)), cutS_to (by omega)]
  have s2 : slD (.str S) (some ((k : Int) + q)) none = some (.str (strOf (S.cps.toList.drop (k + q)))) := by
    show (if S.length ≤ sizeLine then some (D.str (cutS S (some (((k + q : Nat)) : Int)) none)) else none) = _
    rw [if_pos (isiz (by omega)), cutS_fr]
  have f1 : fAdd (.str (strOf (S.cps.toList.take k))) (.str z) = some (.str (strOf (S.cps.toList.take k) ++ z)) := by
    simp only [fAdd]
    rw [if_pos (isiz (by omega))]
  have f2 : fAdd (.str (strOf (S.cps.toList.take k) ++ z)) (.str (strOf (S.cps.toList.drop (k + q)))) = some (.str O) := by
    simp only [fAdd]
    rw [if_pos (isiz (by rw [la]; omega)), hO]
  have lS : bLen [.str S] = some (.int (S.length : Nat)) := len_str (by omega)
  refine ⟨.pub (.str tg), .pub (.int (m : Nat)), .pub (.str S), .pub (.int (k : Nat)), .pub (.str z), .pub (.str O), u6, ?_, o6.mono (by omega)⟩
  refine sc_nx (env' := [.pub .urn, t, .pub (.str tg), .pub (.int (m : Nat)), a4, a5, a6, a7]) (u1 := u3) (sPar_eq (mCall_eq (mCons_eq rfl (c1 (mLst_eq (ds := tagsL.map .str) rfl (isiz (by decide))))) rfl e1) (mBin_eq rfl (mCall_eq (mCons_eq rfl (c1 (mCall_eq (mCons_eq rfl (c1 (mLst_eq (mCons_eq rfl (mCons_eq rfl (c1 (mBin_eq rfl rfl p30)))) (isiz (by simp))))) rfl e2))) rfl e3) (show fAdd (.int 1) (.int r) = some (.int (m : Nat)) by show some (D.int (1 + r)) = _; rw [hm]))) ?_
  refine sc_nx (env' := [.pub .urn, t, .pub (.str tg), .pub (.int (m : Nat)), .pub (.str S), a5, a6, a7]) (u1 := u3) (sSet_eq (mBin_eq rfl (mBi_eq (c1 rfl) b1') a1)) ?_
  refine sc_nx (env' := [.pub .urn, t, .pub (.str tg), .pub (.int (m : Nat)), .pub (.str S), a5, a6, a7]) (u1 := u3) (sIf_f (mNotB_eq (k := true) (mTru_eq (mCall_eq (mCons_eq (mLst_eq (mCons_eq (mCall_eq (c1 (mTup_eq (mCons_eq rfl (c1 rfl)) (isiz (by simp)))) rfl tx) (c1 (mCall_eq (c1 rfl) rfl hd))) (isiz (by simp))) (c1 (mLst_eq (mCons_eq rfl (c1 (mTup_eq (mCons_eq rfl (c1 rfl)) (isiz (by simp))))) (isiz (by simp))))) rfl sm1) rfl)) rfl) ?_
  refine sc_nx (env' := [.pub .urn, t, .pub (.str tg), .pub (.int (m : Nat)), .pub (.str S), .pub (.int (k : Nat)), .pub (.str z), a7]) (u1 := u5) (sPar_eq (mCall_eq (mCons_eq rfl (c1 (mBin_eq (mBi_eq (c1 rfl) lS) rfl rfl))) rfl e4) (mCall_eq (mCons_eq rfl (c1 (mLst_eq (ds := signsL.map .str) rfl (isiz (by decide))))) rfl e5)) ?_
  refine sc_nx (env' := [.pub .urn, t, .pub (.str tg), .pub (.int (m : Nat)), .pub (.str S), .pub (.int (k : Nat)), .pub (.str z), .pub (.str O)]) (u1 := u6) (sSet_eq (mBin_eq (mBin_eq (mSl_eq rfl rfl (moAt_eq rfl) s1) rfl f1) (mSl_eq rfl (moAt_eq (mBin_eq rfl (mCall_eq (mCons_eq rfl (c1 rfl)) rfl e6) rfl)) rfl s2) f2)) ?_
  exact sc_nx (env' := [.pub .urn, t, .pub (.str tg), .pub (.int (m : Nat)), .pub (.str S), .pub (.int (k : Nat)), .pub (.str z), .pub (.str O)]) (u1 := u6) (sIf_f (mNotB_eq (k := true) (mTru_eq (mCall_eq (mCons_eq (mCall_eq (c1 rfl) rfl hdO) (c1 (mCall_eq (c1 rfl) rfl rdO))) rfl (same_hD _)) rfl)) rfl) rfl
theorem right_ok {u : U} (h : OkU 0 u) : ∃ u', F__law_right [.urn] u = some (.bl true, u') := by
  obtain ⟨env', u', e, ou, t, a2, a3, a4, a5, a6, a7, rfl⟩ := forL_inv (t := .one 1) (f := b1) (ds := rangeD 0 12) (i := 0) (N := 20) (env := [.pub .urn, .no, .no, .no, .no, .no, .no, .no]) (u := u)
    (I := fun i env u => OkU (i * 10) u ∧ ∃ t a2 a3 a4 a5 a6 a7, env = [Sl.pub .urn, t, a2, a3, a4, a5, a6, a7]) (fun d hd i env u hi hI => by
      obtain ⟨ou, t, a2, a3, a4, a5, a6, a7, rfl⟩ := hI
      obtain ⟨c2, c3, c4, c5, c6, c7, u', e, o'⟩ := turn_ok (t := .pub d) (a2 := a2) (a3 := a3) (a4 := a4) (a5 := a5) (a6 := a6) (a7 := a7) ou (by omega)
      exact ⟨_, _, u', rfl, e, o'.mono (by omega), _, _, _, _, _, _, _, rfl⟩) ⟨by simpa using h, _, _, _, _, _, _, _, rfl⟩ (by decide)
  exact ⟨u', runB_rt (sc_nx (sIf_f (mNotB_eq (k := true) (mTru_eq (mCall_eq (ds := []) rfl rfl (hand_any _)) rfl)) rfl) (sc_nx (sFor_eq (mRange1_eq rfl (by decide)) e) (sc_rt (sRet_eq rfl))))⟩
end Lw89
namespace Lw89
open PySem PySem.Spec PyProof.Rows L2 Dv
theorem fPow_s {i j : Int} (h : 0 ≤ j ∧ j ≤ 1000000 ∧ i.natAbs < 2 ^ 64) : fPow (.int i) (.int j) = some (.int (i ^ j.toNat)) := by simp only [fPow]; rw [if_pos h]
theorem box_ok {cs : List Int} {k : Nat} {u : U} (hk : k < cs.length) (h3 : cs.length ≤ 8) : ∃ a b : Int, F__law_box [.lst (cs.map .int), .int k] u = some (.lst [.int a, .int b, .int 0], u) ∧ 0 ≤ a ∧ 0 ≤ b ∧ b < 2 ^ 62 := by
  have hix : ixD (.lst (cs.map .int)) (.int k) = some (.int cs[k]) := by
    show atI (cs.map D.int) (k : Int) = _
    refine atI_nat ?_
    rw [List.getElem?_map, List.getElem?_eq_getElem hk]; rfl
  have hlen : bLen [.lst (cs.map .int)] = some (.int cs.length) := by
    show some (D.int ((cs.map D.int).length : Int)) = _
    rw [List.length_map]
  have hlt : cLt (.int k) (.int cs.length) = some (.bl true) := by
    show some (D.bl (decide _)) = _
    rw [decide_eq_true (by omega)]
  obtain ⟨c, hc⟩ : ∃ c, c = cs[k] := ⟨_, rfl⟩
  rw [← hc] at hix
  obtain ⟨m, hm⟩ : ∃ m, m = if c < 0 then -c else c := ⟨_, rfl⟩
  have hm0 : 0 ≤ m := by rw [hm]; split <;> omega
  have habs : bAbs [.int c] = some (.int m) := by rw [hm]; rfl
  obtain ⟨g, hg⟩ : ∃ g : Bool, g = decide ((10 : Int) ^ 18 ≤ m) := ⟨_, rfl⟩
  have hge : cGe (.int m) (.int ((10 : Int) ^ (18 : Int).toNat)) = some (.bl g) := by rw [hg]; rfl
  have hmul : fMul (.int m) (.int (if g then 1 else 0)) = some (.int (m * (if g then 1 else 0))) := fMul_r (by cases g <;> decide)
  have hmod := fMod_p (i := c) (j := 2305843009213693951) (by decide)
  have hmk := fMul_r (i := 39373) (j := (k : Int)) (by omega)
  have h1 := Int.emod_nonneg c (show (2305843009213693951 : Int) ≠ 0 by decide)
  have h2 := Int.emod_lt_of_pos c (show (0 : Int) < 2305843009213693951 by decide)
  refine ⟨m * (if g then 1 else 0), c % 2305843009213693951 + 39373 * k + 824189, runB_rt (sc_nx (sSet_eq (mIte_t (mTru_eq (mBin_eq rfl (mBi_eq (c1 rfl) hlen) hlt) rfl) (mBin_eq rfl rfl hix))) (sc_rt (sRet_eq (mLst_eq (mCons_eq (mBin_eq (mBi_eq (c1 rfl) habs) (mBi_eq (c1 (mBin_eq (mBi_eq (c1 rfl) habs) (mBin_eq rfl rfl (fPow_s (by decide))) hge)) rfl) hmul) (mCons_eq (mBin_eq (mBin_eq (mBin_eq (mBi_eq (c1 rfl) rfl) rfl hmod) (mBin_eq rfl rfl hmk) rfl) rfl rfl) (c1 rfl))) (isiz (by simp)))))), ?_, by omega, by omega⟩
  cases g <;> simp <;> omega
abbrev s__law_cells : Stmt := topS 12
theorem sc__law_cells : FnScope [("_law_script" : Str), ("_law_top" : Str), ("_law_cells_here" : Str), ("_law_k" : Str), ("_law_cell" : Str), ("_law_at_so" : Str)] [("_law_script" : Str), ("_law_top" : Str)] (defScope s__law_cells) := ⟨rfl, rfl, rfl, by decide +kernel, rfl, by decide +kernel, by decide +kernel⟩
def spCells (K : PySem.W.Frag) : Sp := fun vs H Q _ => ∃ (a : Addr) (ns : List Int) (top : Nat), vs = [.ref a, .int top] ∧ SqL K H a (ns.map V.int) ∧ 1 ≤ top ∧ top ≤ 8 ∧ ns.length ≤ 63 ∧
  ∀ H' p (cs : List Int), Same H H' → H' p = some (.lst (cs.map V.int)) → 1 ≤ cs.length → cs.length ≤ 8 → Q (.ref p) H'
theorem cut_ints (ns : List Int) (lo hi : Option Int) : cutV (ns.map V.int) lo hi = ((ns.drop (HT.sIx ns.length 0 lo)).take (HT.sIx ns.length ns.length hi - HT.sIx ns.length 0 lo)).map V.int := by
  unfold cutV
  rw [List.length_map, List.map_take, List.map_drop]
theorem ok__law_cells {P : Program} {w : World} {K : PySem.W.Frag} {mg : Str → Option Value} {base : Heap} {f : Addr} {fd : FuncData} (F : Fun K ("_law_cells" : Str) ("_law_cells" : Str) s__law_cells f fd) (nl : mg ("list" : Str) = none) (ne : mg ("enumerate" : Str) = none) (ni : mg ("int" : Str) = none) :
    FnOk P w K mg base CX0 1 f fd [("_law_script" : Str), ("_law_top" : Str)] (spCells K) := by
  have nd := sc__law_cells.nd
  refine F.ok sc__law_cells (fun vs H Q E h => ?_) (fun cdv A outer s H vs Q E hr h => ?_)
  · obtain ⟨a, ns, top, rfl, _⟩ := h; rfl
  · obtain ⟨a, ns, top, rfl, hS, ht1, ht8, hl, q⟩ := h
    refine ⟨_, pss_cons (ps_set (i := 2) nd rfl (Or.inl rfl) (pe_orT (pe_callTy call_list_of (by rfl) nl (by decide +kernel) (pa_cons (pe_slice sl_list (pv 0) po_none (po_some (pv 1))) pa_nil)) (pe_one (pe_lst (pa_cons pe_int pa_nil)))))
      (pss_cons (ps_for PassesOwn.never rfl (pi_enum (by rfl) ne (pa_cons (pe_slice sl_list (pv 0) (po_some (pv 1)) (po_some pe_int)) pa_nil)) (pg_tup rfl (pgs_cons (pg_name (i := 3) nd rfl (Or.inl rfl)) (pgs_cons (pg_name (i := 4) nd rfl (Or.inl rfl)) pgs_nil)))
        (pss_cons (ps_set (i := 5) nd rfl (Or.inl rfl) (pe_op op_mod (pe_callTy call_int1 (by rfl) ni (by decide +kernel) (pa_cons (pv 3) pa_nil)) (pv 1)))
        (pss_one (ps_asg (pe_op op_add (pe_ix ix_list (pv 2) (pv 5) (fun _ _ => rfl)) (pe_op op_mul (pv 4) (pe_op op_add (pv 3) pe_int))) (pg_sub (pv 2) (pv 5) set_list)))))
      (pss_one (ps_ret (pv 2)))), ?_⟩
    -- what follows the first statement, for the list at p
    have rest : ∀ (H1 : Hp) (p : Addr) (cs : List Int), Same H H1 → H p = none → H1 p = some (.lst (cs.map V.int)) → 1 ≤ cs.length → cs.length ≤ 8 → (top < ns.length → cs.length = top) →
        tSeq (tFor (iEnum K (tCons (tSl (rSlL K) (tVar 0) (tPart (tVar 1)) (tPart (tC (.int 63)))) tNil)) (gTup K 2 (gCons (gName 3) (gCons (gName 4) gNil)))
          (tSeq (tAsg (tOp (rI (fun _ j => 0 < j) fun i j => .int (i % j)) (tCB (fun xs H Q => (∃ i, xs = [V.int i] ∧ Q (.int i) H) ∨ ∃ k, xs = [V.bl k] ∧ Q (.int (if k then 1 else 0)) H) (tCons (tVar 3) tNil)) (tVar 1)) (gName 5))
            (tAsg (tOp (rI0 fun i j => .int (i + j)) (tOp (rIxL K) (tVar 2) (tVar 5)) (tOp (rI CMul fun i j => .int (i * j)) (tVar 4) (tOp (rI0 fun i j => .int (i + j)) (tVar 3) (tC (.int 2))))) (gSub (tVar 2) (tVar 5) rSetL)))) (tRet (tVar 2))
          { nx := fun _ H' => Q .non H', rt := Q } [some (.ref a), some (.int top), some (.ref p), none, none, none] H1 := by
      intro H1 p cs s1 np ep c1 c8 ct
      refine ⟨_, rfl, _, rfl, (top : Int), rfl, 63, rfl, a, ns.map V.int, rfl, s1.seq hS, fun r nr => ?_⟩
      rw [cut_ints]
      obtain ⟨zs, hzs⟩ : ∃ zs, zs = (ns.drop (HT.sIx ns.length 0 (some (top : Int)))).take (HT.sIx ns.length ns.length (some 63) - HT.sIx ns.length 0 (some (top : Int))) := ⟨_, rfl⟩
      rw [← hzs]
      have hne : 0 < zs.length → top < ns.length := fun h => by
        rw [hzs, List.length_take, List.length_drop, HT.sIx_nat] at h
        omega
      have nrp : r ≠ p := fun e => by subst e; rw [ep] at nr; cases nr
      refine ⟨r, zs.map V.int, rfl, .of upd_same, ?_⟩
      refine ⟨fun i m σ H2 => ∃ (cs2 : List Int) (y3 y4 y5 : Option V), σ = [some (.ref a), some (.int top), some (.ref p), y3, y4, y5] ∧ i + m = zs.length ∧ Same H H2 ∧ H2 p = some (.lst (cs2.map V.int)) ∧ cs2.length = cs.length ∧ H2 r = some (.lst (zs.map V.int)),
        ⟨zs.length, cs, none, none, none, rfl, by omega, fun b o e => same_new nr b o (s1 b o e), by rw [upd_ne nrp.symm]; exact ep, rfl, upd_same⟩, fun i m σ H2 hW => ?_⟩
      obtain ⟨cs2, y3, y4, y5, rfl, em, s2, ep2, el, er⟩ := hW
      by_cases hi : i < zs.length
      · have g1 : (zs.map V.int)[i]? = some (.int zs[i]) := by rw [List.getElem?_map, List.getElem?_eq_getElem hi]; rfl
        refine .inr ⟨⟨_, _, .of er, g1⟩, fun σ' H' => ∃ (cs2 : List Int) (y3 y4 y5 : Option V), σ' = [some (.ref a), some (.int top), some (.ref p), y3, y4, y5] ∧ Same H H' ∧ H' p = some (.lst (cs2.map V.int)) ∧ cs2.length = cs.length ∧ H' r = some (.lst (zs.map V.int)),
          fun σ' H' ⟨z1, z2, z3, z4, e1, e2, e3, e4, e5⟩ => ⟨m - 1, by omega, z1, z2, z3, z4, e1, by omega, e2, e3, e4, e5⟩, fun x H3 hy => ?_⟩
        obtain ⟨T, x1, rfl, nT, rfl, f1⟩ := hy
        have ex1 : x1 = .int zs[i] := Option.some.inj ((f1 _ (.of er)).symm.trans g1)
        subst ex1
        have hlen : cs2.length = top := by rw [el]; exact ct (hne (by omega))
        have hTp : p ≠ T := ne_of_none ep2 nT
        have hTr : r ≠ T := ne_of_none er nT
        refine ⟨T, _, rfl, .of upd_same, rfl, _, _, rfl, _, _, rfl, rfl, ?_⟩
        have hmod0 : 0 ≤ (i : Int) % (top : Int) := Int.emod_nonneg _ (by omega)
        have hmod1 : (i : Int) % (top : Int) < top := Int.emod_lt_of_pos _ (by omega)
        obtain ⟨j, hj⟩ : ∃ j : Nat, (i : Int) % (top : Int) = j := ⟨((i : Int) % (top : Int)).toNat, by omega⟩
        have hjl : j < cs2.length := by omega
        have hitl : zs.length ≤ 63 := by rw [hzs, List.length_take, List.length_drop]; omega
        refine ⟨_, rfl, .inl ⟨(i : Int), rfl, _, rfl, (i : Int), (top : Int), rfl, rfl, by omega, ?_⟩⟩
        have ep3 : upd H2 T (.tup [.int i, .int zs[i]]) p = some (.lst (cs2.map V.int)) := by rw [upd_ne hTp]; exact ep2
        refine ⟨_, rfl, _, rfl, p, cs2.map V.int, (i : Int) % (top : Int), .int cs2[j], rfl, rfl, .of ep3, by rw [hj]; exact atI_nat (by rw [List.getElem?_map, List.getElem?_eq_getElem hjl]; rfl), ?_⟩
        refine ⟨_, rfl, _, rfl, (i : Int), 2, rfl, rfl, zs[i], (i : Int) + 2, rfl, rfl, .inr (by omega), cs2[j], zs[i] * ((i : Int) + 2), rfl, rfl, ?_⟩
        refine ⟨_, rfl, _, rfl, p, cs2.map V.int, (i : Int) % (top : Int), j, rfl, rfl, ep3, ?_, ?_⟩
        · rw [hj]
          unfold ixN
          rw [if_pos (by omega), if_pos (by rw [List.length_map]; omega)]
          rfl
        · refine ⟨cs2.set j (cs2[j] + zs[i] * ((i : Int) + 2)), _, _, _, rfl, fun b o e => ?_, ?_, by rw [List.length_set]; exact el, ?_⟩
          · rw [upd_ne (ne_of_none e np)]
            exact same_new nT b o (s2 b o e)
          · rw [upd_same, List.map_set]
          · rw [upd_ne nrp, upd_ne hTr]; exact er
      · refine .inl ⟨⟨_, .of er, by rw [List.length_map]; omega⟩, ?_⟩
        exact ⟨_, rfl, q H2 p cs2 s2 ep2 (by omega) (by omega)⟩
    -- cells_here = list(script[:top]) or [0]
    refine ⟨_, rfl, _, rfl, (top : Int), rfl, a, ns.map V.int, rfl, hS, fun r nr => ?_⟩
    rw [cut_ints, HT.sIx_none, HT.sIx_nat, List.drop_zero, Nat.sub_zero]
    refine ⟨r, _, rfl, .inl (.of upd_same), fun p np => ?_⟩
    have s1 : Same H (upd H r (.lst ((ns.take (min top ns.length)).map V.int))) := same_new nr
    have np0 : H p = none := s1.free np
    have s2 : Same H (upd (upd H r (.lst ((ns.take (min top ns.length)).map V.int))) p (.lst ((ns.take (min top ns.length)).map V.int))) := fun b o e => same_new np b o (s1 b o e)
    refine ⟨!((ns.take (min top ns.length)).map V.int).isEmpty, .inl ⟨_, .of upd_same, rfl⟩, ?_⟩
    cases hns : ns with
    | nil =>
      have e0 : (!((ns.take (min top ns.length)).map V.int).isEmpty) = false := by rw [hns, List.take_nil]; rfl
      rw [← hns, e0]
      refine iteF ⟨by decide, fun p2 np2 => ?_⟩
      have np20 : H p2 = none := s2.free np2
      exact rest _ p2 [0] (fun b o e => same_new np2 b o (s2 b o e)) np20 upd_same (by decide) (by decide) (fun h => by rw [hns] at h; simp at h)
    | cons n0 nr0 =>
      have hlen : (ns.take (min top ns.length)).length = min top ns.length := by rw [List.length_take]; omega
      have hn0 : 0 < ns.length := by rw [hns]; simp
      have : (!((ns.take (min top ns.length)).map V.int).isEmpty) = true := by
        cases hh : ns.take (min top ns.length) with
        | nil => rw [hh] at hlen; simp at hlen; omega
        | cons _ _ => rfl
      rw [← hns, this]
      exact iteT (rest _ p _ s2 np0 upd_same (by rw [hlen]; omega) (by rw [hlen]; omega) (fun h => by rw [hlen]; omega))
end Lw89
namespace Lw89
open PySem PySem.Spec PyProof.Rows L2 Dv
abbrev s_law : Stmt := topS 19
theorem sc_law : FnScope [("_law_script" : Str), ("_law_cells_here" : Str), ("_law_k" : Str)] [("_law_script" : Str)] (defScope s_law) := ⟨rfl, rfl, rfl, by decide +kernel, rfl, by decide +kernel, by decide +kernel⟩
def spLaw (K : PySem.W.Frag) : Sp := fun vs H Q _ => ∃ (a : Addr) (ns : List Int), vs = [.ref a] ∧ SqL K H a (ns.map V.int) ∧ ns.length ≤ 63 ∧ ∀ H', Q (.bl true) H'
theorem vint_reps {K : PySem.W.Frag} {G : Gx K} {ua : Option Addr} {B : Hp} (cs : List Int) : Reps G ua (cs.map D.int) (cs.map V.int) B := Reps.ints
theorem env_noN {K : PySem.W.Frag} {G : Gx K} {ua : Option Addr} {B H : Hp} {n : Nat} {σ : List (Option V)} (h : σ.length = n) : EnvOk G ua (List.replicate n Sl.no) σ B H := by
  have hno : ∀ (i : Nat) x, (List.replicate n Sl.no)[i]? = some x → x = Sl.no := fun i x e => by
    rw [List.getElem?_replicate] at e
    split at e
    · exact (Option.some.inj e).symm
    · cases e
  exact ⟨by rw [List.length_replicate, h], fun i d e => (by have := hno i _ e; cases this), fun i d e => (by have := hno i _ e; cases this), fun i j a b p e => (by have := hno i _ e; cases this)⟩
theorem ok_law {P : Program} {w : World} {K : PySem.W.Frag} {mg : Str → Option Value} {base : Heap} {G : Gx K} (T : Tx mg) {f : Addr} {fd : FuncData} (F : Fun K ("law" : Str) ("law" : Str) s_law f fd)
    {fc : Addr} {fdc : FuncData} (FC : FnOk P w K mg base CX0 1 fc fdc [("_law_script" : Str), ("_law_top" : Str)] (spCells K)) (mc : mg ("_law_cells" : Str) = some (.ref fc)) (kc : PySem.W.keepIn K (.ref fc) = true) (bc : Binds K fdc [("_law_script" : Str), ("_law_top" : Str)] [])
    (D_right : DefOk P w mg base G ("_law_right" : Str) 8 1 F__law_right) (D_box : DefOk P w mg base G ("_law_box" : Str) 8 2 F__law_box) : FnOk P w K mg base CX0 9 f fd [("_law_script" : Str)] (spLaw K) := by
  have nd := sc_law.nd
  obtain ⟨fr, fdr, psr, hfr, hmr, hkr, hbr⟩ := D_right
  refine F.ok sc_law (fun vs H Q E h => ?_) (fun cdv A outer s H vs Q E hr h => ?_)
  · obtain ⟨a, ns, rfl, _⟩ := h; rfl
  · obtain ⟨a, ns, rfl, hS, hl, q⟩ := h
    refine ⟨_, pss_cons (ps_set (i := 1) nd rfl (Or.inr rfl) (pe_call (FC.mono (k := 8) (by decide)) hr (by rfl) mc kc bc .nil pass0 (pa_cons (pv 0) (pa_cons pe_int pa_nil))))
      (pss_one (ps_ret (pe_callB (cr_all rfl) (by rfl) T.n_all (by decide +kernel) (pa_cons
        (pe_lc (own := [(("_law_k" : Str), 2)]) (g := gName 2) (tt := tYes) rfl nd (pi_range1 rfl T.n_range (pa_cons (pe_callB call_len_seq (by rfl) T.n_len PySem.boot_len (pa_cons (pv 1) pa_nil)) pa_nil))
          (blkOk_by (own := [(("_law_k" : Str), 2)]) (N := [("_law_script" : Str), ("_law_cells_here" : Str), ("_law_k" : Str)]) (sc := defScope s_law) (by decide +kernel))
          (fun _ _ _ _ _ => pg_name (i := 2) nd rfl (Or.inl rfl)) (fun _ _ _ _ _ => pts_nil)
          (fun _ _ _ _ _ => pe_call hfr hr (by rfl) hmr hkr hbr .nil pass0 (pa_cons (show PE _ _ (tEv (K := K) G (mCall 2 F__law_box (mCons (mVar 1) (mCons (mVar 2) mNil)))) from dv_call D_box hr rfl (dvs_cons (dv_var 1) (dvs_cons (dv_var 2) dvs_nil))) pa_nil))) pa_nil)))), ?_⟩
    refine ⟨_, rfl, a, ns, 3, rfl, hS, by decide, by decide, hl, fun H1 p cs s1 hp c1 c8 => ?_⟩
    have hp2 := hp
    obtain ⟨H2, eH2⟩ : ∃ H2, H2 = H1 := ⟨_, rfl⟩
    rw [← eH2] at hp2
    rw [← eH2]
    -- all over the cells
    refine ⟨_, rfl, p, _, rfl, .inl (.of hp2), (cs.length : Int), ?_, by omega, by omega, fun Dp hD => ?_⟩
    · rw [List.length_map]
    rw [Int.toNat_natCast]
    have hDp : Dp ≠ p := fun e => by rw [e, hp2] at hD; cases hD
    refine lc_range (lo := 0) (n := cs.length) (fun i H => H Dp = some (.lst (List.replicate i (V.bl true))) ∧ ∃ cs2 : List Int, cs2.length = cs.length ∧ H p = some (.lst (cs2.map V.int))) ⟨upd_same, cs, rfl, by rw [upd_ne hDp.symm]; exact hp2⟩ (fun i H3 hi hP => ?_) fun H3 hP => ?_
    · obtain ⟨e1, cs2, el, e2⟩ := hP
      refine ⟨rfl, ?_⟩
      unfold tYes
      dsimp only
      rw [if_pos rfl]
      -- the box
      obtain ⟨x, y, hbx, hx, hy1, hy2⟩ := box_ok (cs := cs2) (k := i) (u := ⟨0, 0, 0⟩) (by omega) (by omega)
      obtain ⟨Bp, hBp⟩ : ∃ Bp : Hp, Bp = upd (fun _ => none) p (.lst (cs2.map V.int)) := ⟨_, rfl⟩
      have wB : Wd none ⟨0, 0, 0⟩ Bp H3 := by
        refine ⟨fun b o e => ?_, fun _ z => by cases z⟩
        rw [hBp] at e
        by_cases z : b = p
        · rw [z, upd_same] at e; cases e; rw [z]; exact e2
        · rw [upd_ne z] at e; cases e
      have rC : Rep G none (.lst (cs2.map .int)) (.ref p) Bp := by unfold Rep; exact ⟨p, _, rfl, by rw [hBp]; exact upd_same, vint_reps cs2⟩
      have eE : EnvOk G none [.no, .pub (.lst (cs2.map .int)), .pub (.int (0 + i))] [none, some (V.ref p), some (V.int (0 + i))] Bp H3 :=
        ((env_noN (n := 3) (σ := [none, none, none]) rfl).set rC 1).set (d := .int (0 + i)) (v := V.int (0 + i)) rep_int 2
      have eE' : EnvOk G none [.no, .pub (.lst (cs2.map .int)), .pub (.int (0 + i))] [some (V.ref a), some (V.ref p), some (V.int (0 + i))] Bp H3 :=
        ((env_noN (n := 3) (σ := [some (V.ref a), none, none]) rfl).set rC 1).set (d := .int (0 + i)) (v := V.int (0 + i)) rep_int 2
      refine ⟨none, ⟨0, 0, 0⟩, Bp, _, _, _, eE', wB, mCall_eq (mCons_eq rfl (mCons_eq rfl mNil_eq)) rfl (by rw [Int.zero_add]; exact hbx), fun v H4 ha4 => ?_⟩
      obtain ⟨B4, g4, w4, r4⟩ := ha4
      obtain ⟨z, vs, rfl, hz, rz⟩ := r4.lst
      have evs : vs = [V.int x, V.int y, V.int 0] := rz.ints_of (xs := [x, y, 0])
      rw [evs] at hz
      have hz4 := w4.sub _ _ hz
      obtain ⟨u5, h5⟩ := right_ok (u := ⟨x, y, 0⟩) ⟨hx, ⟨hy1, hy2⟩, Int.le_refl 0, Int.le_refl 0⟩
      have eD4 : H4 Dp = some (.lst (List.replicate i (V.bl true))) := g4.keep _ _ e1 (fun z => by cases z)
      have zD : z ≠ Dp := fun e => by
        rcases g4.new z _ hz with q | q
        · rw [hBp, e, upd_ne hDp] at q; cases q
        · rw [e, e1] at q; cases q
      refine ⟨some z, ⟨x, y, 0⟩, fun _ => none, [.urn], .bl true, u5, .cons (by unfold Rep; exact ⟨z, rfl, rfl⟩) .nil, rfl, ⟨fun _ _ z => (by cases z), fun b e => by cases e; exact ⟨rfl, hz4⟩⟩, h5, fun v5 H5 ha5 => ?_⟩
      obtain ⟨B5, g5, w5, r5⟩ := ha5
      cases r5.bl
      have eD5 : H5 Dp = some (.lst (List.replicate i (V.bl true))) := g5.keep _ _ eD4 (fun e => zD (Option.some.inj e))
      refine ⟨_, eD5, by rw [List.length_replicate, line]; omega, by rw [upd_same, List.replicate_succ'], ?_⟩
      by_cases zp : z = p
      · -- the box is the cells' own list: three numbers all the same
        subst zp
        have e4 := g4.keep _ _ e2 (fun e => by cases e)
        rw [hz4] at e4
        have e5 : cs2.length = 3 := by
          have := congrArg (fun o => match o with | some (HO.lst xs) => xs.length | _ => 0) e4
          simp at this
          omega
        refine ⟨[u5.a, u5.b, u5.c], by rw [← el, e5]; rfl, ?_⟩
        rw [upd_ne hDp.symm]
        exact (w5.urn z rfl).2
      · refine ⟨cs2, el, ?_⟩
        rw [upd_ne hDp.symm]
        exact g5.keep _ _ (g4.keep _ _ e2 (fun e => by cases e)) (fun e => zp (Option.some.inj e))
    · obtain ⟨e1, cs2, el, e2⟩ := hP
      refine ⟨Dp, List.replicate cs.length true, rfl, .of (by rw [List.map_replicate]; exact e1), ?_⟩
      have : (List.replicate cs.length true).all id = true := by
        rw [List.all_eq_true]
        intro b hb
        rw [(List.mem_replicate.mp hb).2]; rfl
      rw [this]
      exact q _
end Lw89
namespace Lw89
open PySem PySem.Spec PyProof.Rows L2 Dv
theorem kit_sub {K : PySem.W.Frag} {C : Addr} {t : String} {b : Bool} (h : PySem.W.subIn K (.ref C) (.type t) = some b) (m : PySem.W.kitMeta t = true) : PySem.W.kitOne K (.ref C) (.type t) = some b := by
  unfold PySem.W.kitOne
  have e : (Value.ref C == Value.type t) = false := rfl
  rw [e, if_neg Bool.false_ne_true]
  show (if PySem.W.kitMeta t = true then _ else _) = _
  rw [if_pos m]
  exact h
theorem exm_self {K : PySem.W.Frag} {S : Addr} (h1 : PySem.W.subIn K (.ref S) (.type "BaseException") = some true) (h2 : PySem.W.isClsIn K S = true) (h3 : PySem.W.typeIn K (.ref S) = some (.type "type")) (h4 : PySem.W.subIn K (.ref S) (.ref S) = some true) : PySem.W.exmOne K (.ref S) (.ref S) = some true := by
  have e1 : (PySem.W.subIn K (.ref S) (.type "BaseException") == some true) = true := by rw [h1] <;> rfl
  have e2 : ((PySem.W.clsIn K S).isSome && PySem.W.typeIn K (.ref S) == some (.type "type")) = true := by
    have h2' : (PySem.W.clsIn K S).isSome = true := h2
    rw [h2', h3] <;> rfl
  show (if (PySem.W.subIn K (.ref S) (.type "BaseException") == some true) = true then (if ((PySem.W.clsIn K S).isSome && PySem.W.typeIn K (.ref S) == some (.type "type")) = true then PySem.W.subIn K (.ref S) (.ref S) else none) else none) = some true
  rw [if_pos e1, if_pos e2]
  exact h4
theorem all_mk {l : PySem.W.OpenLaw} {w : World} {K : PySem.W.Frag} {h : Heap} {mg : Str → Option Value} {fa : Addr} (X : K.In h) (G0 : h.Ns mainGlobals mg) (hfa : mg "law" = some (.ref fa))
    {f_is_name : Addr}
    {od_is_name an_is_name : Option Addr}
    {sl_is_name : Array (Option Value)}
    {oc_is_name kV_is_name dc_is_name pm_is_name cd_is_name ct_is_name : Value}
    (a_is_name : PySem.W.nsIn K mainGlobals ("is_name" : Str) = some (some (.ref f_is_name)))
    (l_is_name : K.lookup f_is_name = some ⟨oc_is_name, od_is_name, .func (PySem.W.fnOf ("is_name" : Str) ("is_name" : Str) (defArgs s_is_name) (defBody s_is_name) (defScope s_is_name) .none kV_is_name dc_is_name pm_is_name an_is_name cd_is_name ct_is_name), sl_is_name⟩)
    (c_is_name : PySem.W.codeIn K cd_is_name ("is_name" : Str) = true)
    (k_is_name : PySem.W.keepIn K (.ref f_is_name) = true)
    {f_line_text : Addr}
    {od_line_text an_line_text : Option Addr}
    {sl_line_text : Array (Option Value)}
    {oc_line_text kV_line_text dc_line_text pm_line_text cd_line_text ct_line_text : Value}
    (a_line_text : PySem.W.nsIn K mainGlobals ("line_text" : Str) = some (some (.ref f_line_text)))
    (l_line_text : K.lookup f_line_text = some ⟨oc_line_text, od_line_text, .func (PySem.W.fnOf ("line_text" : Str) ("line_text" : Str) (defArgs s_line_text) (defBody s_line_text) (defScope s_line_text) .none kV_line_text dc_line_text pm_line_text an_line_text cd_line_text ct_line_text), sl_line_text⟩)
    (c_line_text : PySem.W.codeIn K cd_line_text ("line_text" : Str) = true)
    (k_line_text : PySem.W.keepIn K (.ref f_line_text) = true)
    {f_line_in : Addr}
    {od_line_in an_line_in : Option Addr}
    {sl_line_in : Array (Option Value)}
    {oc_line_in kV_line_in dc_line_in pm_line_in cd_line_in ct_line_in : Value}
    (a_line_in : PySem.W.nsIn K mainGlobals ("line_in" : Str) = some (some (.ref f_line_in)))
    (l_line_in : K.lookup f_line_in = some ⟨oc_line_in, od_line_in, .func (PySem.W.fnOf ("line_in" : Str) ("line_in" : Str) (defArgs s_line_in) (defBody s_line_in) (defScope s_line_in) .none kV_line_in dc_line_in pm_line_in an_line_in cd_line_in ct_line_in), sl_line_in⟩)
    (c_line_in : PySem.W.codeIn K cd_line_in ("line_in" : Str) = true)
    (k_line_in : PySem.W.keepIn K (.ref f_line_in) = true)
    {f__law_box : Addr}
    {od__law_box an__law_box : Option Addr}
    {sl__law_box : Array (Option Value)}
    {oc__law_box kV__law_box dc__law_box pm__law_box cd__law_box ct__law_box : Value}
    (a__law_box : PySem.W.nsIn K mainGlobals ("_law_box" : Str) = some (some (.ref f__law_box)))
    (l__law_box : K.lookup f__law_box = some ⟨oc__law_box, od__law_box, .func (PySem.W.fnOf ("_law_box" : Str) ("_law_box" : Str) (defArgs s__law_box) (defBody s__law_box) (defScope s__law_box) .none kV__law_box dc__law_box pm__law_box an__law_box cd__law_box ct__law_box), sl__law_box⟩)
    (c__law_box : PySem.W.codeIn K cd__law_box ("_law_box" : Str) = true)
    (k__law_box : PySem.W.keepIn K (.ref f__law_box) = true)
    {f__law_take : Addr}
    {od__law_take an__law_take : Option Addr}
    {sl__law_take : Array (Option Value)}
    {oc__law_take kV__law_take dc__law_take pm__law_take cd__law_take ct__law_take : Value}
    (a__law_take : PySem.W.nsIn K mainGlobals ("_law_take" : Str) = some (some (.ref f__law_take)))
    (l__law_take : K.lookup f__law_take = some ⟨oc__law_take, od__law_take, .func (PySem.W.fnOf ("_law_take" : Str) ("_law_take" : Str) (defArgs s__law_take) (defBody s__law_take) (defScope s__law_take) .none kV__law_take dc__law_take pm__law_take an__law_take cd__law_take ct__law_take), sl__law_take⟩)
    (c__law_take : PySem.W.codeIn K cd__law_take ("_law_take" : Str) = true)
    (k__law_take : PySem.W.keepIn K (.ref f__law_take) = true)
    {f__law_of : Addr}
    {od__law_of an__law_of : Option Addr}
    {sl__law_of : Array (Option Value)}
    {oc__law_of kV__law_of dc__law_of pm__law_of cd__law_of ct__law_of : Value}
    (a__law_of : PySem.W.nsIn K mainGlobals ("_law_of" : Str) = some (some (.ref f__law_of)))
    (l__law_of : K.lookup f__law_of = some ⟨oc__law_of, od__law_of, .func (PySem.W.fnOf ("_law_of" : Str) ("_law_of" : Str) (defArgs s__law_of) (defBody s__law_of) (defScope s__law_of) .none kV__law_of dc__law_of pm__law_of an__law_of cd__law_of ct__law_of), sl__law_of⟩)
    (c__law_of : PySem.W.codeIn K cd__law_of ("_law_of" : Str) = true)
    (k__law_of : PySem.W.keepIn K (.ref f__law_of) = true)
    {f__law_same : Addr}
    {od__law_same an__law_same : Option Addr}
    {sl__law_same : Array (Option Value)}
    {oc__law_same kV__law_same dc__law_same pm__law_same cd__law_same ct__law_same : Value}
    (a__law_same : PySem.W.nsIn K mainGlobals ("_law_same" : Str) = some (some (.ref f__law_same)))
    (l__law_same : K.lookup f__law_same = some ⟨oc__law_same, od__law_same, .func (PySem.W.fnOf ("_law_same" : Str) ("_law_same" : Str) (defArgs s__law_same) (defBody s__law_same) (defScope s__law_same) .none kV__law_same dc__law_same pm__law_same an__law_same cd__law_same ct__law_same), sl__law_same⟩)
    (c__law_same : PySem.W.codeIn K cd__law_same ("_law_same" : Str) = true)
    (k__law_same : PySem.W.keepIn K (.ref f__law_same) = true)
    {f__law_heard : Addr}
    {od__law_heard an__law_heard : Option Addr}
    {sl__law_heard : Array (Option Value)}
    {oc__law_heard kV__law_heard dc__law_heard pm__law_heard cd__law_heard ct__law_heard : Value}
    (a__law_heard : PySem.W.nsIn K mainGlobals ("_law_heard" : Str) = some (some (.ref f__law_heard)))
    (l__law_heard : K.lookup f__law_heard = some ⟨oc__law_heard, od__law_heard, .func (PySem.W.fnOf ("_law_heard" : Str) ("_law_heard" : Str) (defArgs s__law_heard) (defBody s__law_heard) (defScope s__law_heard) .none kV__law_heard dc__law_heard pm__law_heard an__law_heard cd__law_heard ct__law_heard), sl__law_heard⟩)
    (c__law_heard : PySem.W.codeIn K cd__law_heard ("_law_heard" : Str) = true)
    (k__law_heard : PySem.W.keepIn K (.ref f__law_heard) = true)
    {f__law_by_hand_right : Addr}
    {od__law_by_hand_right an__law_by_hand_right : Option Addr}
    {sl__law_by_hand_right : Array (Option Value)}
    {oc__law_by_hand_right kV__law_by_hand_right dc__law_by_hand_right pm__law_by_hand_right cd__law_by_hand_right ct__law_by_hand_right : Value}
    (a__law_by_hand_right : PySem.W.nsIn K mainGlobals ("_law_by_hand_right" : Str) = some (some (.ref f__law_by_hand_right)))
    (l__law_by_hand_right : K.lookup f__law_by_hand_right = some ⟨oc__law_by_hand_right, od__law_by_hand_right, .func (PySem.W.fnOf ("_law_by_hand_right" : Str) ("_law_by_hand_right" : Str) (defArgs s__law_by_hand_right) (defBody s__law_by_hand_right) (defScope s__law_by_hand_right) .none kV__law_by_hand_right dc__law_by_hand_right pm__law_by_hand_right an__law_by_hand_right cd__law_by_hand_right ct__law_by_hand_right), sl__law_by_hand_right⟩)
    (c__law_by_hand_right : PySem.W.codeIn K cd__law_by_hand_right ("_law_by_hand_right" : Str) = true)
    (k__law_by_hand_right : PySem.W.keepIn K (.ref f__law_by_hand_right) = true)
    {f__law_read : Addr}
    {od__law_read an__law_read : Option Addr}
    {sl__law_read : Array (Option Value)}
    {oc__law_read kV__law_read dc__law_read pm__law_read cd__law_read ct__law_read : Value}
    (a__law_read : PySem.W.nsIn K mainGlobals ("_law_read" : Str) = some (some (.ref f__law_read)))
    (l__law_read : K.lookup f__law_read = some ⟨oc__law_read, od__law_read, .func (PySem.W.fnOf ("_law_read" : Str) ("_law_read" : Str) (defArgs s__law_read) (defBody s__law_read) (defScope s__law_read) .none kV__law_read dc__law_read pm__law_read an__law_read cd__law_read ct__law_read), sl__law_read⟩)
    (c__law_read : PySem.W.codeIn K cd__law_read ("_law_read" : Str) = true)
    (k__law_read : PySem.W.keepIn K (.ref f__law_read) = true)
    {f__law_right : Addr}
    {od__law_right an__law_right : Option Addr}
    {sl__law_right : Array (Option Value)}
    {oc__law_right kV__law_right dc__law_right pm__law_right cd__law_right ct__law_right : Value}
    (a__law_right : PySem.W.nsIn K mainGlobals ("_law_right" : Str) = some (some (.ref f__law_right)))
    (l__law_right : K.lookup f__law_right = some ⟨oc__law_right, od__law_right, .func (PySem.W.fnOf ("_law_right" : Str) ("_law_right" : Str) (defArgs s__law_right) (defBody s__law_right) (defScope s__law_right) .none kV__law_right dc__law_right pm__law_right an__law_right cd__law_right ct__law_right), sl__law_right⟩)
    (c__law_right : PySem.W.codeIn K cd__law_right ("_law_right" : Str) = true)
    (k__law_right : PySem.W.keepIn K (.ref f__law_right) = true)
    {f__law_cells : Addr}
    {od__law_cells an__law_cells : Option Addr}
    {sl__law_cells : Array (Option Value)}
    {oc__law_cells kV__law_cells dc__law_cells pm__law_cells cd__law_cells ct__law_cells : Value}
    (a__law_cells : PySem.W.nsIn K mainGlobals ("_law_cells" : Str) = some (some (.ref f__law_cells)))
    (l__law_cells : K.lookup f__law_cells = some ⟨oc__law_cells, od__law_cells, .func (PySem.W.fnOf ("_law_cells" : Str) ("_law_cells" : Str) (defArgs s__law_cells) (defBody s__law_cells) (defScope s__law_cells) .none kV__law_cells dc__law_cells pm__law_cells an__law_cells cd__law_cells ct__law_cells), sl__law_cells⟩)
    (c__law_cells : PySem.W.codeIn K cd__law_cells ("_law_cells" : Str) = true)
    (k__law_cells : PySem.W.keepIn K (.ref f__law_cells) = true)
    {od_law an_law : Option Addr}
    {sl_law : Array (Option Value)}
    {oc_law kV_law dc_law pm_law cd_law ct_law : Value}
    {f_law : Addr}
    (a_law : PySem.W.nsIn K mainGlobals ("law" : Str) = some (some (.ref f_law)))
    (l_law : K.lookup f_law = some ⟨oc_law, od_law, .func (PySem.W.fnOf "law" "law" (defArgs s_law) (defBody s_law) (defScope s_law) .none kV_law dc_law pm_law an_law cd_law ct_law), sl_law⟩)
    (c_law : PySem.W.codeIn K cd_law "law" = true)
    (k_law : PySem.W.keepIn K (.ref f_law) = true)
    (hn : PySem.W.specialIn K (.builtin "object.__class__") "__get__" = some (some (.builtin "getset_descriptor.__get__")))
    (htk : PySem.W.takesIn K (.builtin "object.__class__") = some true)
    {C_BadText : Addr}
    (a_BadText : PySem.W.nsIn K mainGlobals "BadText" = some (some (.ref C_BadText)))
    (ei_BadText : PySem.W.excIn K C_BadText [.type "ValueError", .type "Exception", .type "BaseException", .type "object"] "ValueError.__new__" = true)
    (ga_BadText : PySem.W.findIn K (.ref C_BadText) "__getattribute__" = some (some (.builtin "BaseException.__getattribute__")))
    (gg_BadText : PySem.W.findIn K (.ref C_BadText) "__getattr__" = some none)
    (kk_BadText : PySem.W.keepIn K (.ref C_BadText) = true)
    (eb_BadText : PySem.W.subIn K (.ref C_BadText) (.type "BaseException") = some true)
    (ty_BadText : PySem.W.typeIn K (.ref C_BadText) = some (.type "type"))
    (hd_BadText : PySem.W.hasDictIn K C_BadText = true)
    (is_BadText : PySem.W.isClsIn K C_BadText = true)
    (ss_BadText : PySem.W.subIn K (.ref C_BadText) (.ref C_BadText) = some true)
    (cl_BadText : PySem.W.findIn K (.ref C_BadText) "__class__" = some (some (.builtin "object.__class__")))
    (ob_BadText : PySem.W.mroIn K C_BadText (.type "object") = some true)
    (vu_BadText : PySem.W.subIn K (.ref C_BadText) (.type "ValueError") = some true)
    {t_DIGITS : Tok}
    (g_DIGITS : PySem.W.nsIn K mainGlobals ("DIGITS" : Str) = some (some (.str ("0123456789" : Str) t_DIGITS)))
    {t_LETTERS : Tok}
    (g_LETTERS : PySem.W.nsIn K mainGlobals ("LETTERS" : Str) = some (some (.str ("abcdefghijklmnopqrstuvwxyz" : Str) t_LETTERS)))
    (z_ValueError : PySem.W.nsIn K mainGlobals ("ValueError" : Str) = some none)
    (z_abs : PySem.W.nsIn K mainGlobals ("abs" : Str) = some none)
    (z_all : PySem.W.nsIn K mainGlobals ("all" : Str) = some none)
    (z_bool : PySem.W.nsIn K mainGlobals ("bool" : Str) = some none)
    (z_enumerate : PySem.W.nsIn K mainGlobals ("enumerate" : Str) = some none)
    (z_int : PySem.W.nsIn K mainGlobals ("int" : Str) = some none)
    (z_isinstance : PySem.W.nsIn K mainGlobals ("isinstance" : Str) = some none)
    (z_len : PySem.W.nsIn K mainGlobals ("len" : Str) = some none)
    (z_list : PySem.W.nsIn K mainGlobals ("list" : Str) = some none)
    (z_range : PySem.W.nsIn K mainGlobals ("range" : Str) = some none)
    (z_str : PySem.W.nsIn K mainGlobals ("str" : Str) = some none)
    (z_tuple : PySem.W.nsIn K mainGlobals ("tuple" : Str) = some none)
    (z_zip : PySem.W.nsIn K mainGlobals ("zip" : Str) = some none)
    : ∃ fd : FuncData, (∀ (s : Shared) (v : Value), BindsTo s fd ⟨[v], []⟩ [("_law_script", v)]) ∧ ∀ base : Heap, K.In base → base.Ns mainGlobals mg → FnOk l.prog w K mg base CX0 9 fa fd ["_law_script"] (spLaw K) := by
  have e := hfa.symm.trans (PySem.W.mg_of X G0 a_law)
  cases e
  have T : Tx mg := ⟨PySem.W.mg_none_of X G0 z_ValueError, PySem.W.mg_none_of X G0 z_abs, PySem.W.mg_none_of X G0 z_all, PySem.W.mg_none_of X G0 z_bool, PySem.W.mg_none_of X G0 z_enumerate, PySem.W.mg_none_of X G0 z_int, PySem.W.mg_none_of X G0 z_isinstance, PySem.W.mg_none_of X G0 z_len, PySem.W.mg_none_of X G0 z_list, PySem.W.mg_none_of X G0 z_range, PySem.W.mg_none_of X G0 z_str, PySem.W.mg_none_of X G0 z_tuple, PySem.W.mg_none_of X G0 z_zip, ⟨_, PySem.W.mg_of X G0 g_DIGITS⟩, ⟨_, PySem.W.mg_of X G0 g_LETTERS⟩⟩
  have F_is_name_ := fun_mk (st := s_is_name) l_is_name c_is_name k_is_name
  have b_is_name := F_is_name_.binds (ps := [("thing" : Str)]) fun _ _ _ _ _ _ us hl => match us, hl with | [_], _ => rfl
  have F_line_text_ := fun_mk (st := s_line_text) l_line_text c_line_text k_line_text
  have b_line_text := F_line_text_.binds (ps := [("line" : Str)]) fun _ _ _ _ _ _ us hl => match us, hl with | [_], _ => rfl
  have F_line_in_ := fun_mk (st := s_line_in) l_line_in c_line_in k_line_in
  have b_line_in := F_line_in_.binds (ps := [("text" : Str)]) fun _ _ _ _ _ _ us hl => match us, hl with | [_], _ => rfl
  have F__law_box_ := fun_mk (st := s__law_box) l__law_box c__law_box k__law_box
  have b__law_box := F__law_box_.binds (ps := [("_law_script" : Str), ("_law_k" : Str)]) fun _ _ _ _ _ _ us hl => match us, hl with | [_, _], _ => rfl
  have F__law_take_ := fun_mk (st := s__law_take) l__law_take c__law_take k__law_take
  have b__law_take := F__law_take_.binds (ps := [("_law_urn" : Str), ("_law_low_so" : Str)]) fun _ _ _ _ _ _ us hl => match us, hl with | [_, _], _ => rfl
  have F__law_of_ := fun_mk (st := s__law_of) l__law_of c__law_of k__law_of
  have b__law_of := F__law_of_.binds (ps := [("_law_urn" : Str), ("_law_some_so" : Str)]) fun _ _ _ _ _ _ us hl => match us, hl with | [_, _], _ => rfl
  have F__law_same_ := fun_mk (st := s__law_same) l__law_same c__law_same k__law_same
  have b__law_same := F__law_same_.binds (ps := [("_law_got" : Str), ("_law_goal" : Str)]) fun _ _ _ _ _ _ us hl => match us, hl with | [_, _], _ => rfl
  have F__law_heard_ := fun_mk (st := s__law_heard) l__law_heard c__law_heard k__law_heard
  have b__law_heard := F__law_heard_.binds (ps := [("_law_say_so" : Str)]) fun _ _ _ _ _ _ us hl => match us, hl with | [_], _ => rfl
  have F__law_by_hand_right_ := fun_mk (st := s__law_by_hand_right) l__law_by_hand_right c__law_by_hand_right k__law_by_hand_right
  have b__law_by_hand_right := F__law_by_hand_right_.binds (ps := []) fun _ _ _ _ _ _ us hl => match us, hl with | [], _ => rfl
  have F__law_read_ := fun_mk (st := s__law_read) l__law_read c__law_read k__law_read
  have b__law_read := F__law_read_.binds (ps := [("_law_say_so" : Str)]) fun _ _ _ _ _ _ us hl => match us, hl with | [_], _ => rfl
  have F__law_right_ := fun_mk (st := s__law_right) l__law_right c__law_right k__law_right
  have b__law_right := F__law_right_.binds (ps := [("_law_urn" : Str)]) fun _ _ _ _ _ _ us hl => match us, hl with | [_], _ => rfl
  have F__law_cells_ := fun_mk (st := s__law_cells) l__law_cells c__law_cells k__law_cells
  have b__law_cells := F__law_cells_.binds (ps := [("_law_script" : Str), ("_law_top" : Str)]) fun _ _ _ _ _ _ us hl => match us, hl with | [_, _], _ => rfl
  have F_law_ := fun_mk (st := s_law) l_law c_law k_law
  have EO_BadText : ErOk K C_BadText := ⟨⟨ga_BadText, gg_BadText, eb_BadText, hd_BadText, cl_BadText, hn, htk, ob_BadText⟩, ⟨ga_BadText, gg_BadText, eb_BadText, hd_BadText⟩, exm_self eb_BadText is_BadText ty_BadText ss_BadText⟩
  let G : Gx K := ⟨fun _ => none, fun c C2 h2 => (by cases h2), fun c => if c = ("BadText" : Str) then some C_BadText else none, fun c C2 h2 => (by
    split at h2
    · cases h2; exact EO_BadText
    · cases h2), fun y => none, some (l.prog, w)⟩
  have hG : G.pw = some (l.prog, w) := rfl
  have hGE_BadText : G.exc "BadText" = some C_BadText := by
    show (if ("BadText" : Str) = ("BadText" : Str) then some C_BadText else none) = some C_BadText
    rw [if_pos rfl]
  have mgo : ∀ {x : Str} {f : Addr}, PySem.W.nsIn K mainGlobals x = some (some (.ref f)) → mg x = some (.ref f) := fun h => PySem.W.mg_of X G0 h
  have HE_BadText : ∃ C, G.exc ("BadText" : Str) = some C ∧ mg ("BadText" : Str) = some (.ref C) := ⟨C_BadText, hGE_BadText, mgo a_BadText⟩
  have KI_BadText_ValueError : ∀ C, G.exc ("BadText" : Str) = some C → PySem.W.kitOne K (.ref C) (.type "ValueError") = some true := fun C2 h2 => by cases hGE_BadText.symm.trans h2; exact kit_sub vu_BadText (by decide +kernel)
  have E0_BadText : ErMk0 K mg G "BadText" := ⟨C_BadText, _, _, _, _, PySem.F.excBase_ValueError, ei_BadText, mgo a_BadText, kk_BadText, eb_BadText, ty_BadText, hGE_BadText⟩
  refine ⟨PySem.W.fnOf "law" "law" (defArgs s_law) (defBody s_law) (defScope s_law) .none kV_law dc_law pm_law an_law cd_law ct_law, fun s v => .of_eq rfl, fun base _ _ => ?_⟩
  have D_is_name : DefOk l.prog w mg base G "is_name" 1 1 F_is_name := ⟨_, _, _, ok_is_name T F_is_name_, mgo a_is_name, k_is_name, b_is_name⟩
  have D_line_text : DefOk l.prog w mg base G "line_text" 1 1 F_line_text := ⟨_, _, _, ok_line_text T F_line_text_, mgo a_line_text, k_line_text, b_line_text⟩
  have KP_line_text_0 : DefKp l.prog w mg base G "line_text" [("line" : Str)] [0] 1 F_line_text := ⟨_, _, _, ok_line_text T F_line_text_, mgo a_line_text, k_line_text, fun s ws _ hl => match ws, hl with | [_], _ => .of_eq rfl⟩
  have DX_line_in : DefOkX l.prog w mg base G "line_in" 2 1 F_line_in := ⟨_, _, _, ok_line_in T F_line_in_ D_is_name E0_BadText, mgo a_line_in, k_line_in, b_line_in⟩
  have KX_line_in : DefKX l.prog w mg base G "line_in" [("text" : Str)] 2 F_line_in := ⟨_, _, ok_line_in T F_line_in_ D_is_name E0_BadText, mgo a_line_in, k_line_in, fun s ws _ hl => match ws, hl with | [_], _ => .of_eq rfl⟩
  have D__law_box : DefOk l.prog w mg base G "_law_box" 1 2 F__law_box := ⟨_, _, _, ok__law_box T F__law_box_, mgo a__law_box, k__law_box, b__law_box⟩
  have D__law_take : DefOk l.prog w mg base G "_law_take" 1 2 F__law_take := ⟨_, _, _, ok__law_take T F__law_take_, mgo a__law_take, k__law_take, b__law_take⟩
  have D__law_of : DefOk l.prog w mg base G "_law_of" 2 2 F__law_of := ⟨_, _, _, ok__law_of T F__law_of_ D__law_take, mgo a__law_of, k__law_of, b__law_of⟩
  have D__law_same : DefOk l.prog w mg base G "_law_same" 6 2 (FR__law_same 6) := ⟨_, _, _, okR__law_same T F__law_same_ (mgo a__law_same) b__law_same 6, mgo a__law_same, k__law_same, b__law_same⟩
  have D__law_heard : DefOk l.prog w mg base G "_law_heard" 3 1 F__law_heard := ⟨_, _, _, ok__law_heard T F__law_heard_ HE_BadText KI_BadText_ValueError KX_line_in, mgo a__law_heard, k__law_heard, b__law_heard⟩
  have D__law_by_hand_right : DefOk l.prog w mg base G "_law_by_hand_right" 7 0 F__law_by_hand_right := ⟨_, _, _, ok__law_by_hand_right T F__law_by_hand_right_ D__law_heard D__law_same D_line_text KP_line_text_0, mgo a__law_by_hand_right, k__law_by_hand_right, b__law_by_hand_right⟩
  have D__law_read : DefOk l.prog w mg base G "_law_read" 1 1 F__law_read := ⟨_, _, _, ok__law_read T F__law_read_, mgo a__law_read, k__law_read, b__law_read⟩
  have D__law_right : DefOk l.prog w mg base G "_law_right" 8 1 F__law_right := ⟨_, _, _, ok__law_right T F__law_right_ D__law_by_hand_right D__law_heard D__law_of D__law_read D__law_same D__law_take D_line_text, mgo a__law_right, k__law_right, b__law_right⟩
  exact ok_law T F_law_ (ok__law_cells F__law_cells_ T.n_list T.n_enumerate T.n_int) (mgo a__law_cells) k__law_cells b__law_cells (D__law_right.mono (by decide)) (D__law_box.mono (by decide))
end Lw89
open PySem PySem.W PyProof.Rows
set_option maxHeartbeats 0 in
theorem PySem.Challenge.cw_lateshown_k89_lines_as_texts_holds : PySem.Challenge.rw_lateshown_k89_lines_as_texts.Holds := by
  w_on; o_law; k_head; (case hw => w_witness2)
  k_fill
  refine L2.walk_of (l := PySem.Challenge.rw_lateshown_k89_lines_as_texts) (n := 63) (k := 9) (x := "_law_script") (CX := fun _ => L2.CX0) (sp := fun w => Lw89.spLaw _) rfl (by decide) rfl ⟨rfl, by decide, by decide⟩ (fun w h Y => PySem.W.kIn_of Y) ?F (fun _ _ a ns hl _ hS => ⟨a, ns, rfl, hS, hl, fun _ => rfl⟩) (fun _ _ _ _ _ h => h)
  case F =>
    intro w mg fa h KX G hmg
    refine' Lw89.all_mk KX G hmg ?a_is_name ?l_is_name ?c_is_name ?k_is_name ?a_line_text ?l_line_text ?c_line_text ?k_line_text ?a_line_in ?l_line_in ?c_line_in ?k_line_in ?a__law_box ?l__law_box ?c__law_box ?k__law_box ?a__law_take ?l__law_take ?c__law_take ?k__law_take ?a__law_of ?l__law_of ?c__law_of ?k__law_of ?a__law_same ?l__law_same ?c__law_same ?k__law_same ?a__law_heard ?l__law_heard ?c__law_heard ?k__law_heard ?a__law_by_hand_right ?l__law_by_hand_right ?c__law_by_hand_right ?k__law_by_hand_right ?a__law_read ?l__law_read ?c__law_read ?k__law_read ?a__law_right ?l__law_right ?c__law_right ?k__law_right ?a__law_cells ?l__law_cells ?c__law_cells ?k__law_cells ?a_law ?l_law ?c_law ?k_law ?hn ?htk ?a_BadText ?ei_BadText ?ga_BadText ?gg_BadText ?kk_BadText ?eb_BadText ?ty_BadText ?hd_BadText ?is_BadText ?ss_BadText ?cl_BadText ?ob_BadText ?vu_BadText ?g_DIGITS ?g_LETTERS ?z_ValueError ?z_abs ?z_all ?z_bool ?z_enumerate ?z_int ?z_isinstance ?z_len ?z_list ?z_range ?z_str ?z_tuple ?z_zip
    (case a_is_name => k_is)
    (case l_is_name => k_is)
    (case c_is_name => k_is)
    (case k_is_name => k_is)
    (case a_line_text => k_is)
    (case l_line_text => k_is)
    (case c_line_text => k_is)
    (case k_line_text => k_is)
    (case a_line_in => k_is)
    (case l_line_in => k_is)
    (case c_line_in => k_is)
    (case k_line_in => k_is)
    (case a__law_box => k_is)
    (case l__law_box => k_is)
    (case c__law_box => k_is)
    (case k__law_box => k_is)
    (case a__law_take => k_is)
    (case l__law_take => k_is)
    (case c__law_take => k_is)
    (case k__law_take => k_is)
    (case a__law_of => k_is)
    (case l__law_of => k_is)
    (case c__law_of => k_is)
    (case k__law_of => k_is)
    (case a__law_same => k_is)
    (case l__law_same => k_is)
    (case c__law_same => k_is)
    (case k__law_same => k_is)
    (case a__law_heard => k_is)
    (case l__law_heard => k_is)
    (case c__law_heard => k_is)
    (case k__law_heard => k_is)
    (case a__law_by_hand_right => k_is)
    (case l__law_by_hand_right => k_is)
    (case c__law_by_hand_right => k_is)
    (case k__law_by_hand_right => k_is)
    (case a__law_read => k_is)
    (case l__law_read => k_is)
    (case c__law_read => k_is)
    (case k__law_read => k_is)
    (case a__law_right => k_is)
    (case l__law_right => k_is)
    (case c__law_right => k_is)
    (case k__law_right => k_is)
    (case a__law_cells => k_is)
    (case l__law_cells => k_is)
    (case c__law_cells => k_is)
    (case k__law_cells => k_is)
    (case a_law => k_is)
    (case l_law => k_is)
    (case c_law => k_is)
    (case k_law => k_is)
    (case hn => k_is)
    (case htk => k_is)
    (case a_BadText => k_is)
    (case ei_BadText => k_exc)
    (case ga_BadText => k_is)
    (case gg_BadText => k_is)
    (case kk_BadText => k_is)
    (case eb_BadText => k_is)
    (case ty_BadText => k_is)
    (case hd_BadText => k_is)
    (case is_BadText => k_is)
    (case ss_BadText => first | rfl | k_is)
    (case cl_BadText => k_is)
    (case ob_BadText => k_is)
    (case vu_BadText => k_is)
    (case g_DIGITS => k_is)
    (case g_LETTERS => k_is)
    (case z_ValueError => k_is)
    (case z_abs => k_is)
    (case z_all => k_is)
    (case z_bool => k_is)
    (case z_enumerate => k_is)
    (case z_int => k_is)
    (case z_isinstance => k_is)
    (case z_len => k_is)
    (case z_list => k_is)
    (case z_range => k_is)
    (case z_str => k_is)
    (case z_tuple => k_is)
    (case z_zip => k_is)
