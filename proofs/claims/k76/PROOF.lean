import PyProof.Rows.All
import Wide.All
import OpenK.AllK
import Wide.FinOn
import HandS.ForMost
import HandS.Flow
import HandS.IsInst
import HandS.Deep
import HandS.TupAny
import HandS.TupMul
import HandS.Zip
import HandS.Wide
import HandS.ForExc
import HandS.ExcInit
import HandS.ExcIs
import HandS.ExcField
import KE.KExcInit
import HandS.Defaults
import HandS.Property
import OpenK.KMeth
import OpenK.KOps
import PyProof.InstNe
import HandS.OwnEq
import HandS.Dict
import HandS.Iter
import KE.SortData
import HandS.SetFor
import HandS.Strs
import HandS.SortInts
import HandS.Sort
import KE.GoesMore
import HandS.Words
import HandS.WordsExc
import HandS.Style
import HandS.MakeKwOnly
import HandS.StrMore
import PyProof.StrOps2
import HandS.TryOnly
import HandS.DictComp
import HandS.Text
import HandS.DictTup
import PySem.Challenge.RW_lateshown_k76_flushes_that_can_be_left_o
set_option Elab.async false
set_option linter.all false
set_option maxRecDepth 100000
set_option maxHeartbeats 8000000
/-! Dv0: tuples as they are made, their objects told (without a dict). -/
namespace Dv
open PySem PySem.Spec PyProof.Rows L2
section
variable {X : Cx} {pins : List (Addr × Obj)} {σ : L2.St} {H : Hp} {s : Shared} {Q : VK}
/-- what a new tuple is asked for -/
def Tp (H : Hp) (xs : List V) (Q : VK) : Prop := ∀ (p : Addr) (o : Obj), H p = none → o.dict = none → Q (.ref p) (upd H p (.frz o (.tup xs)))
theorem tup_laid {its : List Value} {xs : List V} (I : Inv X pins σ H s) (r : Vals xs its) (z : xs.length ≤ sizeLine) (q : Tp H xs Q) : EP X pins σ Q (.ref s.heap.objs.size) { s with heap := s.heap.push { cls := .type "tuple", data := .seq its.toArray } } := by
  have hf : H s.heap.objs.size = none := I.hok.fresh (Nat.le_refl _)
  have new : ObjOk X.prog X.w (upd H s.heap.objs.size (.frz { cls := .type "tuple", data := .seq its.toArray } (.tup xs))) (s.heap.push { cls := .type "tuple", data := .seq its.toArray }) s.heap.objs.size (.frz { cls := .type "tuple", data := .seq its.toArray } (.tup xs)) :=
    ⟨Heap.get?_push_size _ rfl, z, its, r, IsTup.new _ _⟩
  exact ⟨.ref s.heap.objs.size, _, I.laid (t' := s.toks) (fun b u e => Heap.get?_push_of_some _ e) (Nat.le_refl _) new, rfl, q _ _ hf rfl⟩
end
section
variable {X : Cx} {es : List Expr} {t : TA} {pos : Pos}
def tTupF (t : TA) : TE := fun σ H Q => t σ H fun xs H1 => xs.length ≤ sizeLine ∧ Tp H1 xs Q
theorem pe_tupF {x1} (h : PA X es t) : PE X (.Tuple es x1 pos) (tTupF t) :=
  ⟨fun pins s σ H Q I hq => wpAny_Tuple_spliced (thn (h.run pos pins s σ H _ I hq) fun us s1 ⟨xs, H1, I1, r, z, q⟩ => ⟨by rw [← r.length]; exact z, tup_laid I1 r z q⟩)⟩
theorem call_tupF : CallR X (.type "tuple") (fun xs H Q => ∃ p ys, xs = [.ref p] ∧ ((SqL X.K H p ys ∧ Tp H ys Q) ∨ (SqT X.K H p ys ∧ Q (.ref p) H))) := by
  intro pins s σ H xs us Q I r h
  obtain ⟨p, ys, rfl, h⟩ := h
  obtain ⟨u, rfl, rx⟩ := vals1 r
  cases rx
  rcases h with ⟨hq, q⟩ | ⟨hq, q⟩
  · obtain ⟨its, rv, pl, hz⟩ := I.list hq
    have e := rv.length
    refine call_tuple_list pl.isList (fun h' kp => ?_) (by rw [List.size_toArray]; omega)
    have I1 : Inv X pins σ H { s with heap := h' } := I.kept (t' := s.toks) kp
    exact tup_laid I1 rv hz q
  · obtain ⟨its, _, pl, _⟩ := I.tuple hq
    exact call_tuple_same pl ⟨.ref p, H, I, rfl, q⟩
/-- t + u -/
def rCatF (K : PySem.W.Frag) : R2 := fun x y H Q => ∃ a b xs ys, x = .ref a ∧ y = .ref b ∧ SqT K H a xs ∧ SqT K H b ys ∧ xs.length + ys.length ≤ sizeLine ∧
  (xs = [] → Q (.ref b) H) ∧ (xs ≠ [] → ys = [] → Q (.ref a) H) ∧ (xs ≠ [] → ys ≠ [] → Tp H (xs ++ ys) Q)
theorem op_catF : OpR X (binaryOp .Add) (rCatF X.K) := by
  intro pins s σ H x y v u Q I rx ry h
  obtain ⟨a, b, xs, ys, rfl, rfl, ha, hb, hz, q0, q1, q2⟩ := h
  by_cases hx : xs = []
  · exact op_catA pins s σ H _ _ v u Q I rx ry ⟨a, b, xs, ys, rfl, rfl, ha, hb, hz, q0, q1, fun z => (z hx).elim⟩
  · cases rx
    cases ry
    obtain ⟨its, r1, p1, _⟩ := I.tuple ha
    obtain ⟨its2, r2, p2, _⟩ := I.tuple hb
    exact HT.cat_tup p1 p2 (fun z => hx (r1.nil_iff.mp z)) (fun z => ⟨.ref a, H, I, rfl, q1 hx (r2.nil_iff.mp z)⟩)
      (fun z => tup_laid I (r1.append r2) (by rw [List.length_append]; exact hz) (q2 hx fun w => z (r2.nil_iff.mpr w))) (by rw [← r1.length, ← r2.length]; exact hz)
/-- t[lo:hi] -/
def rSlF (K : PySem.W.Frag) : V → Option Int → Option Int → Hp → VK → Prop := fun x lo hi H Q => ∃ a xs, x = .ref a ∧ SqT K H a xs ∧
  (HT.sIx xs.length 0 lo = 0 ∧ HT.sIx xs.length xs.length hi = xs.length → Q (.ref a) H) ∧ (¬ (HT.sIx xs.length 0 lo = 0 ∧ HT.sIx xs.length xs.length hi = xs.length) → Tp H (cutV xs lo hi) Q)
theorem sl_tupF : SlR X (rSlF X.K) := by
  intro pins s σ H x v vl vu lo hi sl Q I rx hs pl pu h
  obtain ⟨a, xs, rfl, hx, q1, q2⟩ := h
  by_cases hw : HT.sIx xs.length 0 lo = 0 ∧ HT.sIx xs.length xs.length hi = xs.length
  · exact sl_tupA pins s σ H _ v vl vu lo hi sl Q I rx hs pl pu ⟨a, xs, rfl, hx, q1, fun z => (z hw).elim⟩
  · cases rx
    obtain ⟨its, r, ht, hz⟩ := I.tuple hx
    have e : its.toArray.size = xs.length := by rw [List.size_toArray]; exact r.length.symm
    refine ⟨"tuple", _, PyProof.Rows.slot_tuple_getitem.lookup, ht.typeIs, HT.getItem_tuple_cut ht hs pl pu (by rw [e]; exact hw) ?_ (by rw [e]; exact hz)⟩
    rw [e]
    exact tup_laid I ((r.drop (HT.sIx xs.length 0 lo)).take (HT.sIx xs.length xs.length hi - HT.sIx xs.length 0 lo)) (Nat.le_trans (cutV_length xs lo hi) hz) (q2 hw)
end
end Dv

/-! Xo: own error classes straight over any built-in one, with an own __init__ that stores one field. -/
namespace Dv
open PySem PySem.Spec PyProof.Rows L2
structure OxC (K : PySem.W.Frag) (C : Addr) (B newId initId : String) (bmB : List Value) : Prop where
  fb : ExcBaseFacts B newId initId bmB
  sf : StoreFacts B bmB "object.__setattr__" "object"
  row : ∃ nm q N bs sn sub ab col dd k0 k1 k2 k3 k5, K.lookup C = some (excClassObj nm q C N bs bmB true sn sub ab col dd k0 k1 k2 k3 k5 newId)
  put : PySem.W.findIn K (.ref C) "__setattr__" = some (some (.builtin "object.__setattr__"))
  isE : PySem.W.subIn K (.ref C) (.type "BaseException") = some true
  isT : PySem.W.typeIn K (.ref C) = some (.type "type")
  kp : PySem.W.keepIn K (.ref C) = true
section
open Builtin Builtin.ObjectAttr
variable {prog : Program} {w : World} {A : Around} {R : Result → Shared → Prop} {hp : Heap} {g : Array GenState} {d : Drawn} {t : Nat} {os : OsState}
variable {K : PySem.W.Frag} {B newId initId : String} {bmB : List Value} {C x : Addr} {f : Str} {tk : Tok} {v : Value} {fv : Array Value}
theorem first_store (T : OxC K C B newId initId bmB) (kin : K.In hp) (at_x : hp.get? x = some { cls := .ref C, data := .fields fv }) (hno : PySem.W.findIn K (.ref C) f = some none)
    (fin : ∀ (h2 : Heap) (tk2 : Nat) (dx : Addr), (∀ b o, b ≠ x → hp.get? b = some o → h2.get? b = some o) ∧ hp.objs.size ≤ dx ∧ dx ≠ x ∧ h2.get? x = some { cls := .ref C, dict := some dx, data := .fields fv } ∧ h2.Ns1 dx (fun y => if y = f then some v else none) →
      R (.ok (.ret .none)) ⟨h2, g, d, tk2, os⟩) :
    codeAny (model prog w) A (.call (.builtin "object.__setattr__") ⟨[.ref x, .str f tk, v], []⟩) R ⟨hp, g, d, t, os⟩ := by
  obtain ⟨nm, q, N, bs, sn, sub, ab, col, dd, k0, k1, k2, k3, k5, hC⟩ := T.row
  have cd : PySem.W.clsIn K C = some { name := nm, bases := bs, mro := .ref C :: bmB, ns := N, qualname := q, hasDict := true, slotNames := sn, subclasses := sub, abstract := ab, collection := col, hasDel := false } := by
    unfold PySem.W.clsIn; rw [hC] <;> rfl
  have J : PySem.W.InstAt hp x { cls := .ref C, data := .fields fv } C none := ⟨at_x, rfl, rfl, trivial⟩
  have far : x ≠ hp.objs.size := Nat.ne_of_lt (Heap.lt_size at_x)
  have S0 := F.store_object
  have obj : (Value.ref C :: bmB).contains (.type "object") = true := by rw [List.contains_cons, T.sf.hasOwner, Bool.or_true]
  have ty : PySem.W.Looks (model prog w) hp (isInstance (.ref x) (.type "object")) true := by
    refine J.type.andThen (PySem.W.looks_mroIn kin ?_)
    unfold PySem.W.mroIn
    rw [cd, Option.bind_some, if_neg (by simp)]
    exact congrArg some obj
  have L1 : PySem.W.Looks (model prog w) hp (mroOf (.ref C)) (.ref C :: bmB) := (PySem.W.looks_clsIn kin cd).andThen .now
  have L2' : PySem.W.Looks (model prog w) hp (storeTaker? none) none := .now
  have L3 := PySem.W.looks_clsIn (M := model prog w) kin cd
  refine codeAny_call_builtin S0.slot.plain S0.entry ?_
  refine @PySem.W.check_slot (model prog w) _ _ ⟨hp, g, d, t, os⟩ "object.__setattr__" "object" "__setattr__" (.ref x) [.str f tk, v] [] _ S0.kind S0.split ty (S0.args _ _ _) ?_
  rw [PySem.W.osa_eq, refuse_eq]
  refine wpAny_bind (wpAny_bind (J.type.at (wpAny_bind (L1.at ?_))))
  rw [refuseLoop_ref, T.sf.passes]
  refine wpAny_pure (wpAny_bind (J.type.at (wpAny_bind ?_)))
  refine (PySem.W.looks_findIn kin hno).at (wpAny_bind (L2'.at ?_))
  show wpAny _ _ (storeInOwnDict (.ref x) (.ref C) (.str f tk) f v false) _ _ _
  unfold storeInOwnDict ownDictForStores
  repeat (first | with_reducible refine PySem.HandSPX.store_in_new ?_ ?_ | with_reducible refine wpAny_loadPart_at at_x ?_ | with_reducible refine L3.at ?_ | wp_step)
  · exact ⟨_, #[], _, (Heap.get?_update_ne _ _ _ _ far.symm).trans (Heap.get?_push_at rfl rfl), rfl, fun e he => absurd he (by simp), fun _ => rfl⟩
  · intro h2 tk2 ns sb
    have x1 := Heap.get?_push_of_some (h := hp) { cls := .type "dict", data := .dict #[] } at_x
    refine fin h2 tk2 hp.objs.size ⟨fun b o nb hb => ?_, Nat.le_refl _, far.symm, (sb.2 x far).trans (Heap.get?_update_self _ x1 rfl), ns⟩
    have := sb.2 b (Nat.ne_of_lt (Heap.lt_size hb))
    rw [this, Heap.get?_update_ne _ _ _ _ nb]
    exact Heap.get?_push_of_some _ hb
end
section
variable {X : Cx} {pins : List (Addr × Obj)} {σ : L2.St} {H : Hp} {s : Shared} {a C : Addr} {f : Str} {y : V} {u : Value} {B newId initId : String} {bmB : List Value}
/-- self.f = y, on an error that has no dict yet -/
theorem store_first {Q : Unit → Shared → Prop} {E : Value → Shared → Prop} {A : Around} (T : OxC X.K C B newId initId bmB) (I : Inv X pins σ H s) (ha : H a = some (exo a C none)) (hno : PySem.W.findIn X.K (.ref C) f = some none) (ry : RelV y u)
    (fin : ∀ dx s', H dx = none → dx ≠ a → Inv X pins σ (upd (upd H dx (exd dx [(f, y)])) a (exo a C (some dx))) s' → Q () s') : wpAny (model X.prog X.w) A (setAttr (.ref a) f u) Q E s := by
  obtain ⟨t1, ho⟩ := exo_at I.hok ha
  obtain ⟨hp, g, d, t, os⟩ := s
  refine PySem.W.set_plain I.kIn (od := none) ⟨ho, rfl, rfl, trivial⟩ T.put (first_store T I.kIn ho hno fun h2 tk2 dx ⟨k, dn, da, hx, hn⟩ => ?_)
  have fresh : H dx = none := I.hok.fresh dn
  have old : ∀ {b : Addr} {o : Obj}, hp.get? b = some o → b ≠ dx := fun z => Nat.ne_of_lt (Nat.lt_of_lt_of_le (Heap.lt_size z) dn)
  have un_a : ∀ {b : Addr}, H b = none → b ≠ a := fun n z => by rw [z, ha] at n; cases n
  refine fin dx _ fresh da (I.un (t' := tk2) ⟨fun b o z n _ _ => k b o (un_a n) z, fun b o z n _ _ => ⟨o.slots, k b o (un_a n) z⟩, fun b o z n _ => ?_, fun b o z _ => ?_, fun b xs z => ?_, fun b o v z => ?_, fun b ps z => ⟨#[], ?_⟩⟩ fun b o z => ?_)
  · rw [upd_ne (un_a n), upd_ne (old z)]; exact n
  · by_cases hb : b = a
    · exact ⟨_, by rw [hb]; exact hx⟩
    · exact ⟨o, k b o hb z⟩
  · rw [upd_ne (at_ne ha z exo_tup), upd_ne (ne_of_none z fresh)]; exact z
  · rw [upd_ne (at_ne ha z exo_frz), upd_ne (ne_of_none z fresh)]; exact z
  · rw [upd_ne (at_ne ha z exo_tbl), upd_ne (ne_of_none z fresh), z]; simp
  · by_cases hb : b = a
    · subst hb
      rw [upd_same] at z; cases z
      exact exo_ok hx
    rw [upd_ne hb] at z
    by_cases hd : b = dx
    · subst hd
      rw [upd_same] at z; cases z
      exact exd_ok hn (relO_put (fs := []) ry fun _ => trivial)
    rw [upd_ne hd] at z
    refine (I.hok b o z).stay (fun c v hc z2 => k c v ?_ z2) (fun c hc => ?_) (fun c xs hc => ?_)
    · rcases hc with rfl | hc
      · exact hb
      · exact at_ne ha hc exo_own
    · rw [upd_ne (at_ne ha hc exo_own), upd_ne (ne_of_none hc fresh)]; exact hc
    · rw [upd_ne (at_ne ha hc exo_tup), upd_ne (ne_of_none hc fresh)]; exact hc
/-- the statement self.f = e in an error's __init__ -/
def tOx (a C : Addr) (f : Str) (te : TE) : TS := fun D σ H => te σ H fun y H1 => σ[0]? = some (some (.ref a)) ∧ H1 a = some (exo a C none) ∧ ∀ dx, H1 dx = none → dx ≠ a → D.nx σ (upd (upd H1 dx (exd dx [(f, y)])) a (exo a C (some dx)))
theorem ps_ox {e : Expr} {te : TE} {n : Str} {p' p1 pos : Pos} (T : OxC X.K C B newId initId bmB) (hno : PySem.W.findIn X.K (.ref C) f = some none) (hN : X.N[0]? = some n) (hv : Vis X.env.scope n) (hd : (n == ("__debug__" : Str)) = false) (hcd : (n == ("__classdict__" : Str)) = false) (he : PE X e te)
    (hs : swapsWith e (some (.Attribute (.Name n p1) f p')) pos.line X.env = pure false := by rfl) : PS X (.Assign [.Attribute (.Name n p1) f p'] e pos) (tOx a C f te) := by
  refine ⟨fun pins s σ H D I h => plainObj_wpAny_Assign_Attribute (thn (he.run pins s σ H _ I h) fun v s1 ⟨y, H1, I1, r1, hσ, ha, q⟩ => ?_) hs⟩
  refine thn ((pe_var (i := 0) hN hv hd hcd).run pins s1 σ H1 (fun x H2 => x = .ref a ∧ H2 = H1) I1 ⟨_, hσ, rfl, rfl⟩) fun u s2 ⟨x, H2, I2, r2, ex, eh⟩ => ?_
  subst ex eh
  cases r2
  exact store_first T I2 ha hno r1 fun dx s' n0 ne J => ⟨σ, _, J, q dx n0 ne⟩
/-- C(e), C an error class with an own __init__ -/
theorem pmk_ox {CX : CXT} {x : Str} {fI : Addr} {k : Nat} {fd : FuncData} {ps : List Str} {sp : Sp} {ta : TA} {e : Expr} {es : List Expr} {p pos : Pos} (T : OxC X.K C B newId initId bmB) (iC : PySem.W.findIn X.K (.ref C) "__init__" = some (some (.ref fI))) (tI : PySem.W.typeIn X.K (.ref fI) = some (.type "function"))
    (Fn : FnOk X.prog X.w X.K X.mg X.base CX k fI fd ps sp) (hr : Room (k + 1) X.A) (hb : Binds X.K fd ps []) (hx : Passes CX X (fun _ _ _ => False)) (hg : Gl X x) (hm : X.mg x = some (.ref C)) (ha : PA X (e :: es) ta)
    (hdb : (x == ("__debug__" : Str)) = false := by decide) (he : starEach (e :: es) X.env = (false, eval e X.env) :: starEach es X.env := by rfl) (hpl : (backTo pos (starEach es X.env)).any (·.1) = false := by rfl) :
    PMk X (.Call (.Name x p) (e :: es) [] pos) (tMkO C sp [] ta) := by
  intro pins s σ H Q I h
  obtain ⟨nm, q, N, bs, sn, sub, ab, col, dd, k0, k1, k2, k3, k5, hC⟩ := T.row
  refine wpAny_Call_Name_kw (ld_glob I hg hm (PySem.W.callWith_K (h₀ := X.base) I.ok.mod.kin T.kp (thn (ha.run pos pins s σ H _ I h) fun us s1 ⟨vs, H1, I1, r1, few, q1⟩ => ⟨I1.kIn, ?_⟩) he hpl) hdb)
  show wpAny _ _ (call (.ref C) us) _ _ _
  obtain ⟨hp, g, dr, tk, os⟩ := s1
  have fresh : H1 (hp.objs.size + 1) = none := I1.hok.fresh (Nat.le_succ _)
  have hq := q1 _ fresh
  let h2 := (hp.push (PySem.W.kdv_tup us)).push (PySem.HandSPX.excO C hp.objs.size)
  have kk : ∀ b o, hp.get? b = some o → h2.get? b = some o := fun b o z => Heap.get?_push_of_some _ (Heap.get?_push_of_some _ z)
  have there : h2.get? (hp.objs.size + 1) = some (PySem.HandSPX.excO C hp.objs.size) := by
    show ((hp.push (PySem.W.kdv_tup us)).push (PySem.HandSPX.excO C hp.objs.size)).get? (hp.objs.size + 1) = _
    heap_get
  have I2 : Inv X pins σ (upd H1 (hp.objs.size + 1) (exo (hp.objs.size + 1) C none)) ⟨h2, g, dr, tk, os⟩ := I1.laid (t' := tk) kk (Nat.le_succ _) (exo_ok there)
  rw [List.append_nil] at hq
  have r2 : Vals (V.ref (hp.objs.size + 1) :: vs) (Value.ref (hp.objs.size + 1) :: us) := .cons rfl r1
  have hl : (Value.ref (hp.objs.size + 1) :: us).length = ps.length := by rw [← r2.length]; exact Fn.len _ _ _ _ hq
  have room : us.length ≤ sizeLine := by
    have := Paired.length r1
    rw [sizeLine_eq]
    omega
  have bnd := hb ⟨h2, g, dr, tk, os⟩ (Value.ref (hp.objs.size + 1) :: us) I2.kIn (by rw [List.append_nil]; exact hl)
  rw [List.append_nil] at bnd
  have run := Fn.run _ X.stack _ _ ⟨Value.ref (hp.objs.size + 1) :: us, []⟩ _ _ _ (fun _ _ _ => False) (hr.make C us []) (I2.env0.make C us []) bnd r2 hq
  refine wpAny_call (PySem.HandSPX.call_own T.fb (fun _ => rfl) (I1.kIn _ _ hC) (PySem.W.looks_findIn I1.kIn iC) (fun self => PySem.W.bind_fn I1.kIn self tI) room (codeAny_mono run fun r s' hq' => ?_))
  cases r with
  | error er => exact hx pins σ _ _ er s' I2 hq'
  | ok fl =>
    cases fl with
    | ret z =>
      obtain ⟨v, H2, os2, bare2, un2, hok2, rv, rfl, d, fs, ea, ed, hd1, q2⟩ := hq'
      obtain ⟨h3, g3, d3, t3, os3⟩ := s'
      exact ⟨rv, mk_end (raises_own T.isE T.isT) I1 (Nat.le_succ _) kk un2 hok2 os2 bare2 ea ed hd1 q2⟩
    | next => exact False.elim hq'
    | brk => exact False.elim hq'
    | cont => exact False.elim hq'
end
end Dv

/-! Xh: a caught error, held as a value: try .. except .. as n with any suite, its field, isinstance of it. -/
namespace Dv
open PySem PySem.Spec PyProof.Rows L2
/-- a caught error at a, its class, its dict -/
def Hx (a C : Addr) (d : Option Addr) : HO := .ext fun h => ∃ (oe : Obj) (vs : Array Value), h.get? a = some oe ∧ Zc (.ref C) d oe ∧ oe.data = .fields vs
theorem hx_at {P : Program} {w : World} {H : Hp} {h : Heap} {a C : Addr} {d : Option Addr} (hok : HOk P w H h) (ha : H a = some (Hx a C d)) : ∃ (oe : Obj) (vs : Array Value), h.get? a = some oe ∧ Zc (.ref C) d oe ∧ oe.data = .fields vs := by
  have x : ObjOk P w H h a (.ext fun h => ∃ (oe : Obj) (vs : Array Value), h.get? a = some oe ∧ Zc (.ref C) d oe ∧ oe.data = .fields vs) := hok a _ ha
  exact x.1
section
variable {X : Cx} {pins : List (Addr × Obj)} {σ : L2.St} {H : Hp} {s : Shared} {a : Addr}
theorem shown {o : HO} (I : Inv X pins σ H s) (new : ObjOk X.prog X.w (upd H a o) s.heap a o) (na : H a = none) (n0 : X.s_0.heap.get? a = none) (nL : a ≠ X.env.locals) (nC : ∀ x c, X.env.cells.lookup x = some c → c ≠ a) (np : ∀ p ∈ X.pn ++ pins, p.1 ≠ a) : Inv X pins σ (upd H a o) s := by
  have nt : ∀ {b : Addr} {u : HO}, H b = some u → b ≠ a := fun z => ne_of_none z na
  refine ⟨I.ok, I.os, I.bare, ⟨I.base.keep, I.base.slot, fun b ob z n hx => ?_, I.base.there, fun b xs z => ?_, fun b ob u z => ?_, fun b ps z => ?_⟩, I.loc, I.cell, by rw [upd_ne (fun z => nL z.symm)]; exact I.free, fun x c z => by rw [upd_ne (nC x c z)]; exact I.freeC x c z, fun p hp => ?_, fun b u z => ?_, I.len⟩
  · rw [upd_ne (fun e => by rw [e, n0] at z; cases z)]; exact I.base.free b ob z n hx
  · have := I.base.tups b xs z; rw [upd_ne (nt this)]; exact this
  · have := I.base.frzs b ob u z; rw [upd_ne (nt this)]; exact this
  · obtain ⟨m, this⟩ := I.base.tbls b ps z
    exact ⟨m, by rw [upd_ne (nt this)]; exact this⟩
  · obtain ⟨p1, p2, p3⟩ := I.pin p hp
    exact ⟨p1, by rw [upd_ne (np p hp)]; exact p2, p3⟩
  · by_cases hb : b = a
    · subst hb; rw [upd_same] at z; cases z; exact new
    · rw [upd_ne hb] at z
      exact (I.hok b u z).stay (fun _ _ _ q => q) (fun c q => by rw [upd_ne (nt q)]; exact q) fun c xs q => by rw [upd_ne (nt q)]; exact q
theorem toSuite (I : Inv X pins σ H s) (a : Addr) : Inv (X.suite a (X.pn ++ pins)) [] σ H s :=
  ⟨I.ok.suite _ _, I.os, I.bare, I.base, I.loc, I.cell, I.free, I.freeC, fun p hp => I.pin p (by rw [List.append_nil] at hp; exact hp), I.hok, I.len⟩
theorem ofSuite {pn2 : List (Addr × Obj)} (I : Inv (X.suite a (X.pn ++ pins)) pn2 σ H s) (ok : X.Ok) : Inv X pins σ H s :=
  ⟨ok, I.os, I.bare, I.base, I.loc, I.cell, I.free, I.freeC, fun p hp => I.pin p (List.mem_append_left _ hp), I.hok, I.len⟩
end
/-- the wish of a try's body: an error of the class that the clause names is held, and the suite is gone through with it in slot i -/
def wHold (K : PySem.W.Frag) (c : Value) (i : Nat) (ts : TS) (D : Ends) : WX := fun cls d σ H => ∃ C, cls = .ref C ∧ PySem.W.exmOne K cls c = some true ∧
  ∀ a, H a = none → ts { nx := fun σ' H' => D.nx (σ'.set i none) H', rt := D.rt, bk := fun σ' H' => D.bk (σ'.set i none) H', ct := fun σ' H' => D.ct (σ'.set i none) H' } (σ.set i (some (.ref a))) (upd H a (Hx a C d))
section
variable {X : Cx} {x n : Str} {c : Value} {i : Nat} {body suite : List Stmt} {b₀ : Stmt} {np pos pos' : Pos} {tb : WX → TS} {ts : TS}
theorem ps_try_hold (hs : X.stack = X.env :: X.outer) (hf : X.env.frame = some X.env.locals) (hex : X.ex = []) (hN : X.N.Nodup) (hi : X.N[i]? = some n) (hln : X.env.kindOf n = some .local) (hc : Names X x c)
    (hb : ∀ (W : WX) (pn : List (Addr × Obj)) (xe : Value → Shared → Prop), Takes (X.tr pn xe) W → PassesOwn (model X.prog X.w) X.A X.env xe → PSs (X.tr pn xe) body (tb W))
    (hsu : ∀ (a : Addr) (pn : List (Addr × Obj)), PSs (X.suite a pn) (b₀ :: suite) ts) :
    PS X (.Try body [.ExceptHandler (some (.Name x np)) (some n) (b₀ :: suite) pos'] [] [] pos) (fun D σ H => tb (wHold X.K c i ts D) D σ H) := by
  refine ⟨fun pins s σ H D I h => wpAny_Try_except ?_⟩
  have ok := I.ok
  have hfr : X.A.frames = some (X.env :: X.outer) := by rw [ok.frames, hs]
  have clause : ∀ u s', XE (X.tr (X.pn ++ pins) fun e s₁ => wpAny (model X.prog X.w) X.A (noteFrame e X.env) (fun _ s₂ => wpAny (model X.prog X.w) X.A (setFlight e none) (fun _ s₃ =>
      wpAny (model X.prog X.w) X.A (handleBy e X.env [.ExceptHandler (some (.Name x np)) (some n) (b₀ :: suite) pos']) (SP X pins D) X.xe s₃) X.xe s₂) X.xe s₁) (wHold X.K c i ts D) u s' →
      wpAny (model X.prog X.w) X.A (noteFrame u X.env) (fun _ s₂ => wpAny (model X.prog X.w) X.A (setFlight u none) (fun _ s₃ =>
      wpAny (model X.prog X.w) X.A (handleBy u X.env [.ExceptHandler (some (.Name x np)) (some n) (b₀ :: suite) pos']) (SP X pins D) X.xe s₃) X.xe s₂) X.xe s' := by
    intro u s' air
    obtain ⟨a, B, sI, pins', σ', H', cls, d, rfl, J', nb, up, sky, na, os, ag, C, rfl, hit, go⟩ := air
    have J : Inv X pins σ' H' sI := J'.ofTry ok
    have sky2 : Sky B (X.env :: X.outer) a (Zc (.ref C) d) X.env.locals s'.heap := by rw [← hs]; exact sky
    refine Sky.land Zc.steady hfr hf sky2 fun h3 fl3 up3 => ?_
    have J3 : Inv X pins σ' H' { s' with heap := h3 } := J.landed nb fl3.1 (up.trans up3) os ag
    obtain ⟨oe3, vs3, he3, hz3, hd3⟩ := fl3.there
    have out : a ∉ frs (X.env :: X.outer) := fun hm => by
      obtain ⟨_, o', e', hnf⟩ := fl3.2.2.1.mem hm
      rw [he3] at e'
      cases e'
      exact hnf _ hd3
    have nL : a ≠ X.env.locals := fun z => out (List.mem_filterMap.mpr ⟨X.env, List.mem_cons_self, by rw [hf, z]⟩)
    have gone : sI.heap.get? a = none := by
      cases e : sI.heap.get? a with
      | none => rfl
      | some o =>
        have := nb a o e (by show a ∉ frs X.stack; rw [hs]; exact out)
        rw [fl3.2.1] at this
        cases this
    have n0 : X.s_0.heap.get? a = none := by
      cases e : X.s_0.heap.get? a with
      | none => rfl
      | some o =>
        obtain ⟨o', q⟩ := J.base.there a o e (by rw [hex]; simp)
        rw [gone] at q
        cases q
    have np' : ∀ p ∈ X.pn ++ pins, p.1 ≠ a := fun p hp z => by
      have := (J.pin p hp).1
      rw [z, gone] at this
      cases this
    have show_ : ∀ (h : Heap) (oe : Obj) (vs : Array Value), Inv X pins σ' H' { s' with heap := h } → h.get? a = some oe → Zc (.ref C) d oe → oe.data = .fields vs → Inv X pins σ' (upd H' a (Hx a C d)) { s' with heap := h } := fun h oe vs J2 he hz hd =>
      shown J2 ⟨⟨oe, vs, he, hz, hd⟩, ⟨oe, he⟩, fun _ _ ⟨o, v, q, r⟩ k => ⟨o, v, k o q, r⟩⟩ na n0 nL (fun y b e z => by
        obtain ⟨v, o, h1, h2⟩ := J2.cell y b e
        subst z
        rw [he] at h1
        cases h1
        rw [hd] at h2
        cases h2) np'
    have S3 := toSuite (show_ h3 oe3 vs3 J3 he3 hz3 hd3) a
    have LT : PySem.W.Looks (model X.prog X.w) h3 (typeOf (.ref a)) (.ref C) := fun A Q E s k q => wpAny_typeOf_ref (k _ _ he3) (by rw [hz3.1]; exact q)
    have LM := PySem.W.exm_one (M := model X.prog X.w) J3.kIn LT hit
    have asks : ∀ {Q : Value → Shared → Prop} {E : Value → Shared → Prop}, Q c { s' with heap := h3 } → wpAny (model X.prog X.w) (X.A.mark (some (.ref a))) (eval (.Name x np) X.env) Q E { s' with heap := h3 } := fun q => by
      obtain ⟨hg, hdb, hm | ⟨hm, hv, hnn⟩⟩ := hc
      · exact ld_glob (X := X.suite a (X.pn ++ pins)) S3 hg hm q hdb
      · exact ld_blt (X := X.suite a (X.pn ++ pins)) S3 hg hm hv q hnn hdb
    refine wpAny_handleBy_cons (codeAny_handlers_test (asks (LM.here ?_))) (by intro q; cases q)
    refine codeAny_handlers_suite_as (HandSPX.lands_againZ fl3 fun h4 fl4 up4 => ?_)
    obtain ⟨oe4, vs4, he4, hz4, hd4⟩ := fl4.there
    have S4 := toSuite (show_ h4 oe4 vs4 (J.landed nb fl4.1 ((up.trans up3).trans up4) os ag) he4 hz4 hd4) a
    refine store_ok (X := X.suite a (X.pn ++ pins)) (v := .ref a) S4 hN hi (.inl hln) rfl (fun s5 S5 => ?_) (.inr hln)
    have fin : ∀ {σ6 : L2.St} {H6 : Hp} {s6 : Shared} {Q : Shared → Prop}, Inv (X.suite a (X.pn ++ pins)) [] σ6 H6 s6 → (∀ s7, Inv X pins (σ6.set i none) H6 s7 → Q s7) →
        wpAny (model X.prog X.w) X.A (do bindName X.env n .none; unbindBehindTheSuite X.env n pos') (fun _ s7 => Q s7) X.xe s6 := fun S6 hq => gone_ok (ofSuite S6 ok) hN hi hln hq
    refine wpAny_mono ((hsu a (X.pn ++ pins)).run [] s5 _ _ _ S5 (go a na)) (fun fl s6 hsp => ?_) fun _ _ z => False.elim z
    cases fl with
    | next => obtain ⟨_, _, S6, q6⟩ := hsp; exact fin S6 fun s7 J7 => ⟨_, _, J7, q6⟩
    | brk => obtain ⟨_, _, S6, q6⟩ := hsp; exact fin S6 fun s7 J7 => ⟨_, _, J7, q6⟩
    | cont => obtain ⟨_, _, S6, q6⟩ := hsp; exact fin S6 fun s7 J7 => ⟨_, _, J7, q6⟩
    | ret u => obtain ⟨_, _, _, S6, r6, q6⟩ := hsp; exact fin S6 fun s7 J7 => ⟨_, _, _, J7, r6, q6⟩
  refine wpAny_mono ((hb _ (X.pn ++ pins) _ clause PassesOwn.looking).run [] s σ H D (I.toTry _) h) (fun fl s1 hsp => ?_) fun _ _ z => z
  cases fl with
  | next => obtain ⟨σ', H', J', q⟩ := hsp; exact wpAny_execs_nil ⟨σ', H', J'.ofTry ok, q⟩
  | brk => obtain ⟨σ', H', J', q⟩ := hsp; exact ⟨σ', H', J'.ofTry ok, q⟩
  | cont => obtain ⟨σ', H', J', q⟩ := hsp; exact ⟨σ', H', J'.ofTry ok, q⟩
  | ret u => obtain ⟨v, σ', H', J', r, q⟩ := hsp; exact ⟨v, σ', H', J'.ofTry ok, r, q⟩
end
/-! ### e.f, isinstance(e, T) -/
section
variable {X : Cx} {e : Expr} {te : TE} {f : Str} {pos : Pos}
theorem pe_hxf (he : PE X e te) (hb : attributeBase e f X.env (eval e X.env) = eval e X.env := by rfl) :
    PE X (.Attribute e f pos) (fun σ H Q => te σ H fun x H1 => ∃ (a C dd : Addr) (fs : List (Str × V)) (v : V), x = .ref a ∧ H1 a = some (Hx a C (some dd)) ∧ H1 dd = some (.xd fs) ∧ XfC X.K C ∧ PySem.W.findIn X.K (.ref C) f = some none ∧ fs.lookup f = some v ∧ Q v H1) := by
  refine ⟨fun pins s σ H Q I h => attr_of hb (thn (he.run pins s σ H _ I h) fun u s1 hh => ?_)⟩
  obtain ⟨x, H1, I1, rx, a, C, dd, fs, v, rfl, ha, hd, T, hno, l, q⟩ := hh
  cases rx
  obtain ⟨oe, vs, ho, hz, hdt⟩ := hx_at I1.hok ha
  obtain ⟨mA, hns, hr⟩ : ∃ mA, s1.heap.Ns1 dd mA ∧ ∀ f, RelO (fs.lookup f) (mA f) := I1.hok dd _ hd
  obtain ⟨od, hod, hl⟩ := lookIn_ns hns
  obtain ⟨w, hw, rw'⟩ := RelO.some_of (v := v) (o := mA f) (by rw [← l]; exact hr f)
  have J : PySem.W.InstAt s1.heap a oe C (some od) := ⟨ho, hz.1, by unfold PySem.W.notCls; rw [hdt] <;> rfl, by rw [hz.2]; exact hod⟩
  exact HandSPX.exc_get I1.kIn J T.ga T.gg T.exC (PySem.W.findObj_own T.hdC hno rfl (by rw [hl, hw])) (handed_of rw') ⟨v, H1, I1.tok _, rw', q⟩
end
section
open PySem.W PySem.Calls
variable {prog : Program} {w : World} {A : Around} {E : Value → Shared → Prop} {K : Frag} {x D : Addr} {ox : Obj} {od : Option Obj}
theorem hx_data {name : Str} {v g : Value} (hc : (clsIn K D).isSome = true) (ha : findIn K (.ref D) name = some (some v)) (hg : specialIn K v "__get__" = some (some g)) (ht : takesIn K v = some true) : findObj K D od name = some (.bind g v) := by
  obtain ⟨cd, hc⟩ := Option.isSome_iff_exists.mp hc
  unfold findObj
  rw [hc, Option.bind_some, ha, Option.bind_some]
  simp only [hg, ht, Option.bind_some]
theorem hx_class (T : L2.ExcC K D) {Q : Option Value → Shared → Prop} {s : Shared} (kin : K.In s.heap) (I : InstAt s.heap x ox D od) (h : Q (some (.ref D)) { s with toks := s.toks + 1 }) : wpAny (model prog w) A (getAttr? (.ref x) "__class__") Q E s := by
  have has : (clsIn K D).isSome = true := by
    obtain ⟨cd, hc, _⟩ := any_some T.hd
    rw [hc] <;> rfl
  obtain ⟨hp, g, d, t, os⟩ := s
  have ty := I.type (M := model prog w)
  have fnd := looks_find (M := model prog w) kin I (hx_data (od := od) has T.ha T.hn T.ht)
  have isE : Looks (model prog w) hp (isInstance (.ref x) (.type "BaseException")) true := ty.andThen (looks_subIn kin T.hs)
  have other : (Value.builtin "BaseException.__getattribute__" == Value.builtin "object.__getattribute__") = false := by decide +kernel
  unfold getAttr? getAttrBy? getAttrBy
  refine wpAny_bind (wpAny_mkText (wpAny_bind (wpAny_attempt (wpAny_holding (wpAny_bind (ty.at (wpAny_bind ((looks_findIn (M := model prog w) kin T.hg).at ?_))))))))
  show wpAny _ _ (if (onTheHeap (Value.ref D) && Value.builtin "BaseException.__getattribute__" == Value.builtin "object.__getattribute__") = true then _ else _) _ _ _
  rw [other, Bool.and_false, if_neg Bool.false_ne_true]
  unfold getAttrByItsOwn hookBefore
  refine wpAny_bind ?_
  rw [if_pos (show onTheHeap (Value.ref D) = true from rfl)]
  refine (looks_findIn (M := model prog w) kin T.hk).at (wpAny_bind (wpAny_attempt (wpAny_holding ?_)))
  unfold callGetattribute
  rw [Bool.false_and, if_neg Bool.false_ne_true]
  unfold boundAndCalled
  rw [F.excAttr_ValueError.ga.bind (.ref x)]
  refine wpAny_bind (wpAny_pure ?_)
  show wpAny _ _ (call (.builtin "BaseException.__getattribute__") [.ref x, .str "__class__" t]) _ _ _
  refine wpAny_call (codeAny_call_builtin F.excAttr_ValueError.ga.plain F.entry_bexc_ga (@check_slot (model prog w) _ _ ⟨hp, g, d, t + 1, os⟩ "BaseException.__getattribute__" "BaseException" "__getattribute__" (.ref x) [.str "__class__" t] [] _ (by decide +kernel) (by decide +kernel) isE (F.args_bexc_ga _ _) ?_))
  unfold Builtin.«object.__getattribute__»
  refine wpAny_bind (wpAny_of_eq (a := ((Value.ref x : Value), [Value.str "__class__" t])) (by first | rfl | (simp only [slotArgs]; rfl)) (wpAny_bind (wpAny_pure (wpAny_bind (ty.at (wpAny_bind (fnd.at ?_)))))))
  show wpAny _ _ (holding [Value.builtin "object.__class__"] (call (.builtin "getset_descriptor.__get__") [.builtin "object.__class__", .ref x, .ref D]) >>= ret) _ _ _
  refine wpAny_bind (wpAny_holding (wpAny_call (class_get (s := ⟨hp, g, d, t + 1, os⟩) (ox := ox) (od := od) kin I T.hm (wpAny_pure ?_))))
  show wpAny _ _ (handedOut (.ref D)) _ _ _
  rw [handedOut_of (v := .ref D) rfl]
  first
    | exact wpAny_pure (wpAny_pure h)
    | exact wpAny_pure h
    | exact wpAny_pure (wpAny_bind (wpAny_pure (wpAny_pure h)))
theorem hx_kit (T : L2.ExcC K D) : KitX K (.ref x) (.ref D) (fun h => InstAt h x ox D od) := by
  obtain ⟨cd, hc, _⟩ := any_some T.hd
  unfold clsIn at hc
  split at hc
  · rename_i c1 d1 cd1 sl1 ho
    refine ⟨fun _ _ _ I => I.type, fun _ _ kin _ => ?_, fun h tp dd its n sl kin htp => ?_, fun kin I k => hx_class T kin I k⟩
    · intro A' Q' E' s' k q
      unfold isType loadHead
      exact wpAny_bind (wpAny_loadPart (k _ _ (kin _ _ ho)) (wpAny_pure q))
    · refine Bool.eq_false_iff.mpr fun q => ?_
      have e := Value.ref.inj (beq_iff_eq.mp q)
      subst e
      have z := (kin _ _ ho).symm.trans htp
      cases z
  · cases hc
end
/-- isinstance(e, T) of a held error -/
theorem call_hx {X : Cx} : CallR X (.builtin "isinstance") (fun xs H Q => ∃ (a C : Addr) (d : Option Addr) (c : V) (cv : Value) (b : Bool), xs = [.ref a, c] ∧ H a = some (Hx a C d) ∧ (∀ dd, d = some dd → ∃ fs, H dd = some (.xd fs)) ∧ ExcC X.K C ∧ (∀ u, RelV c u → u = cv) ∧ PySem.W.kitOne X.K (.ref C) cv = some b ∧ Q (.bl b) H) := by
  intro pins s σ H xs us Q I r h
  obtain ⟨a, C, d, c, cv, b, rfl, ha, hd, T, hcv, e, q⟩ := h
  obtain ⟨oe, vs, ho, hz, hdt⟩ := hx_at I.hok ha
  cases r with
  | cons rx rr =>
    cases rr with
    | cons rt rr =>
      cases rr
      cases rx
      cases hcv _ rt
      have no : PySem.W.notCls oe = true := by unfold PySem.W.notCls; rw [hdt] <;> rfl
      obtain ⟨od, J⟩ : ∃ od, PySem.W.InstAt s.heap a oe C od := by
        cases d with
        | none => exact ⟨none, ho, hz.1, no, by rw [hz.2]; trivial⟩
        | some dd =>
          obtain ⟨fs, hf⟩ := hd dd rfl
          obtain ⟨mA, ⟨o, _, _, h1, _⟩, _⟩ : ∃ mA, s.heap.Ns1 dd mA ∧ ∀ f, RelO (fs.lookup f) (mA f) := I.hok dd _ hf
          exact ⟨some o, ho, hz.1, no, by rw [hz.2]; exact h1⟩
      exact PySem.W.kia_one (hx_kit T) I.kIn J e (fun z => nomatch z) fun tk => ⟨.bl b, H, I.kept (t' := tk) fun _ _ z => z, rfl, q⟩
end Dv

/-! Dv1: plain data, what stands for it in a heap, and how a heap may grow. -/
namespace Dv
open PySem PySem.Spec PyProof.Rows L2

/-- plain data; urn is the one mutable thing (three numbers), known by its place -/
inductive D where
  | non | bl (b : Bool) | int (i : Int) | str (x : Str) | lst (xs : List D) | tup (xs : List D) | pr (xs : List D) | ins (c : Str) (ns : List Str) (xs : List D) | exc (c : Str) (ns : List Str) (xs : List D) | fn (x : Str) | dct (ks : List Key) (xs : List D) | urn
structure U where
  a : Int
  b : Int
  c : Int
/-- what is fixed through a law -/
structure InsOk (K : PySem.W.Frag) (C : Addr) : Prop where
  cl : Cls K C
  ha : PySem.W.findIn K (.ref C) "__class__" = some (some (.builtin "object.__class__"))
  hn : PySem.W.specialIn K (.builtin "object.__class__") "__get__" = some (some (.builtin "getset_descriptor.__get__"))
  htk : PySem.W.takesIn K (.builtin "object.__class__") = some true
  hm : PySem.W.mroIn K C (.type "object") = some true
  kStr : PySem.W.kitOne K (.ref C) (.type "str") = some false
  kInt : PySem.W.kitOne K (.ref C) (.type "int") = some false
  kBool : PySem.W.kitOne K (.ref C) (.type "bool") = some false
  kList : PySem.W.kitOne K (.ref C) (.type "list") = some false
  kTup : PySem.W.kitOne K (.ref C) (.type "tuple") = some false
/-- an own error class that is caught and held -/
structure ErOk (K : PySem.W.Frag) (C : Addr) : Prop where
  isi : ExcC K C
  fld : XfC K C
  hit : PySem.W.exmOne K (.ref C) (.ref C) = some true
structure Gx (K : PySem.W.Frag) where
  cls : Str → Option Addr
  ok : ∀ c C, cls c = some C → InsOk K C
  exc : Str → Option Addr := fun _ => none
  eok : ∀ c C, exc c = some C → ErOk K C := by intro _ _ h; cases h
  fns : Str → Option Addr := fun _ => none
/-- an error's dict: none without fields -/
def ErD (H : Hp) (ns : List Str) (vs : List V) (d : Option Addr) : Prop := ns.length = vs.length ∧ ((ns = [] ∧ d = none) ∨ ∃ dd, d = some dd ∧ H dd = some (.xd (ns.zip vs)))
theorem ErD.mono {H H' : Hp} {ns : List Str} {vs : List V} {d : Option Addr} (h : ErD H ns vs d) (s : Same H H') : ErD H' ns vs d := by
  obtain ⟨h1, h2 | ⟨dd, h2, h3⟩⟩ := h
  · exact ⟨h1, .inl h2⟩
  · exact ⟨h1, .inr ⟨dd, h2, s _ _ h3⟩⟩

/-- a tuple whose object is told: it has no dict -/
def TupB (H : Hp) (a : Addr) (vs : List V) : Prop := ∃ o : Obj, o.dict = none ∧ H a = some (.frz o (.tup vs))
theorem TupB.mono {H H' : Hp} {a : Addr} {vs : List V} (h : TupB H a vs) (s : Same H H') : TupB H' a vs := ⟨h.choose, h.choose_spec.1, s _ _ h.choose_spec.2⟩
theorem TupB.sq {K : PySem.W.Frag} {H : Hp} {a : Addr} {vs : List V} (h : TupB H a vs) : SqT K H a vs := .inl (.inr ⟨h.choose, h.choose_spec.2⟩)
/-- a dict that is shown to all: it stands still from then on -/
def DctB (H : Hp) (a : Addr) (kvs : List (Key × V)) : Prop := ∃ o, H a = some (.frz o (.dK kvs))
theorem DctB.mono {H H' : Hp} {a : Addr} {kvs : List (Key × V)} (h : DctB H a kvs) (s : Same H H') : DctB H' a kvs := by
  obtain ⟨o, h⟩ := h
  exact ⟨o, s _ _ h⟩
mutual
def Rep {K : PySem.W.Frag} (G : Gx K) (ua : Option Addr) : D → V → Hp → Prop
  | .non, v, _ => v = .non
  | .bl b, v, _ => v = .bl b
  | .int i, v, _ => v = .int i
  | .str x, v, _ => v = .str x
  | .lst ds, v, H => ∃ a vs, v = .ref a ∧ H a = some (HO.lst vs) ∧ Reps G ua ds vs H
  | .tup ds, v, H => ∃ a vs, v = .ref a ∧ TupB H a vs ∧ Reps G ua ds vs H
  | .pr ds, v, H => ∃ a vs, v = .ref a ∧ H a = some (HO.tup vs) ∧ Reps G ua ds vs H
  | .ins c ns ds, v, H => ∃ a C dx vs, v = .ref a ∧ G.cls c = some C ∧ H a = some (HO.ins C dx (ns.zip vs)) ∧ ns.length = vs.length ∧ Reps G ua ds vs H
  | .exc c ns ds, v, H => ∃ a C d vs, v = .ref a ∧ G.exc c = some C ∧ H a = some (Hx a C d) ∧ ErD H ns vs d ∧ Reps G ua ds vs H
  | .fn x, v, _ => ∃ f, G.fns x = some f ∧ v = .ref f
  | .dct ks ds, v, H => ∃ a vs, v = .ref a ∧ DctB H a (ks.zip vs) ∧ ks.length = vs.length ∧ Reps G ua ds vs H
  | .urn, v, _ => ∃ a, ua = some a ∧ v = .ref a
def Reps {K : PySem.W.Frag} (G : Gx K) (ua : Option Addr) : List D → List V → Hp → Prop
  | [], vs, _ => vs = []
  | d :: ds, vs, H => ∃ v r, vs = v :: r ∧ Rep G ua d v H ∧ Reps G ua ds r H
end
theorem Same.seqT {K : PySem.W.Frag} {H H' : Hp} {a : Addr} {xs : List V} (e : Same H H') (h : SqT K H a xs) : SqT K H' a xs := by
  rcases h with (h | ⟨o, h⟩) | h
  · exact .inl (.inl (e _ _ h))
  · exact .inl (.inr ⟨o, e _ _ h⟩)
  · exact .inr h
section
variable {K : PySem.W.Frag} {G : Gx K} {ua : Option Addr}
mutual
theorem Rep.mono : ∀ (d : D) (v : V) {H H' : Hp}, Same H H' → Rep G ua d v H → Rep G ua d v H'
  | .non, v, H, H', s, h => by unfold Rep at h ⊢; exact h
  | .bl _, v, H, H', s, h => by unfold Rep at h ⊢; exact h
  | .int _, v, H, H', s, h => by unfold Rep at h ⊢; exact h
  | .str _, v, H, H', s, h => by unfold Rep at h ⊢; exact h
  | .lst ds, v, H, H', s, h => by
    unfold Rep at h ⊢
    obtain ⟨a, vs, e, q, r⟩ := h
    exact ⟨a, vs, e, s _ _ q, Reps.mono ds vs s r⟩
  | .tup ds, v, H, H', s, h => by
    unfold Rep at h ⊢
    obtain ⟨a, vs, e, q, r⟩ := h
    exact ⟨a, vs, e, q.mono s, Reps.mono ds vs s r⟩
  | .pr ds, v, H, H', s, h => by
    unfold Rep at h ⊢
    obtain ⟨a, vs, e, q, r⟩ := h
    exact ⟨a, vs, e, s _ _ q, Reps.mono ds vs s r⟩
  | .ins c ns ds, v, H, H', s, h => by
    unfold Rep at h ⊢
    obtain ⟨a, C, dx, vs, e, c1, q, l, r⟩ := h
    exact ⟨a, C, dx, vs, e, c1, s _ _ q, l, Reps.mono ds vs s r⟩
  | .exc c ns ds, v, H, H', s, h => by
    unfold Rep at h ⊢
    obtain ⟨a, C, d, vs, e, c1, q, l, r⟩ := h
    exact ⟨a, C, d, vs, e, c1, s _ _ q, l.mono s, Reps.mono ds vs s r⟩
  | .fn _, v, H, H', s, h => by unfold Rep at h ⊢; exact h
  | .dct ks ds, v, H, H', s, h => by
    unfold Rep at h ⊢
    obtain ⟨a, vs, e, q, l, r⟩ := h
    exact ⟨a, vs, e, q.mono s, l, Reps.mono ds vs s r⟩
  | .urn, v, H, H', s, h => by unfold Rep at h ⊢; exact h
theorem Reps.mono : ∀ (ds : List D) (vs : List V) {H H' : Hp}, Same H H' → Reps G ua ds vs H → Reps G ua ds vs H'
  | [], vs, H, H', s, h => by unfold Reps at h ⊢; exact h
  | d :: ds, vs, H, H', s, h => by
    unfold Reps at h ⊢
    obtain ⟨v, r, e, q, t⟩ := h
    exact ⟨v, r, e, Rep.mono d v s q, Reps.mono ds r s t⟩
end
variable {H H' : Hp} {ds es : List D} {vs ws : List V} {d : D} {v : V}
theorem Reps.nil : Reps G ua [] [] H := by unfold Reps; rfl
theorem Reps.cons (h : Rep G ua d v H) (t : Reps G ua ds vs H) : Reps G ua (d :: ds) (v :: vs) H := by unfold Reps; exact ⟨v, vs, rfl, h, t⟩
theorem Reps.of_nil (h : Reps G ua [] vs H) : vs = [] := by unfold Reps at h; exact h
theorem Reps.of_cons (h : Reps G ua (d :: ds) vs H) : ∃ v r, vs = v :: r ∧ Rep G ua d v H ∧ Reps G ua ds r H := by unfold Reps at h; exact h
theorem Reps.len : ∀ {ds : List D} {vs : List V}, Reps G ua ds vs H → ds.length = vs.length
  | [], vs, h => by rw [h.of_nil]; rfl
  | d :: ds, vs, h => by
    obtain ⟨v, r, rfl, _, t⟩ := h.of_cons
    rw [List.length_cons, List.length_cons, Reps.len t]
theorem Reps.append : ∀ {ds : List D} {vs : List V}, Reps G ua ds vs H → Reps G ua es ws H → Reps G ua (ds ++ es) (vs ++ ws) H
  | [], vs, h, g => by rw [h.of_nil]; exact g
  | d :: ds, vs, h, g => by
    obtain ⟨v, r, rfl, q, t⟩ := h.of_cons
    exact .cons q (Reps.append t g)
theorem Reps.get : ∀ {ds : List D} {vs : List V} {i : Nat} {d : D}, Reps G ua ds vs H → ds[i]? = some d → ∃ v, vs[i]? = some v ∧ Rep G ua d v H
  | [], vs, i, d, h, e => by simp at e
  | d :: ds, vs, 0, d', h, e => by
    obtain ⟨v, r, rfl, q, t⟩ := h.of_cons
    simp at e; subst e
    exact ⟨v, rfl, q⟩
  | d :: ds, vs, i + 1, d', h, e => by
    obtain ⟨v, r, rfl, q, t⟩ := h.of_cons
    exact Reps.get (i := i) t (by simpa using e)
theorem Reps.take : ∀ {ds : List D} {vs : List V} (n : Nat), Reps G ua ds vs H → Reps G ua (ds.take n) (vs.take n) H
  | _, _, 0, h => .nil
  | [], vs, n + 1, h => by rw [h.of_nil]; exact .nil
  | d :: ds, vs, n + 1, h => by
    obtain ⟨v, r, rfl, q, t⟩ := h.of_cons
    exact .cons q (Reps.take n t)
theorem Reps.drop : ∀ {ds : List D} {vs : List V} (n : Nat), Reps G ua ds vs H → Reps G ua (ds.drop n) (vs.drop n) H
  | _, _, 0, h => h
  | [], vs, n + 1, h => by rw [h.of_nil]; exact .nil
  | d :: ds, vs, n + 1, h => by
    obtain ⟨v, r, rfl, q, t⟩ := h.of_cons
    exact Reps.drop n t
theorem Reps.set : ∀ {ds : List D} {vs : List V} (n : Nat), Reps G ua ds vs H → Rep G ua d v H → Reps G ua (ds.set n d) (vs.set n v) H
  | [], vs, n, h, q => by rw [h.of_nil]; exact .nil
  | _ :: ds, vs, 0, h, q => by
    obtain ⟨_, r, rfl, _, t⟩ := h.of_cons
    exact .cons q t
  | _ :: ds, vs, n + 1, h, q => by
    obtain ⟨_, r, rfl, q', t⟩ := h.of_cons
    exact .cons q' (Reps.set n t q)
theorem Reps.replicate (n : Nat) (h : Reps G ua ds vs H) : Reps G ua (List.replicate n ds).flatten (List.replicate n vs).flatten H := by
  induction n with
  | zero => exact .nil
  | succ n ih => rw [List.replicate_succ, List.replicate_succ, List.flatten_cons, List.flatten_cons]; exact h.append ih
theorem Reps.ints : ∀ {ns : List Int}, Reps G ua (ns.map .int) (ns.map .int) H
  | [] => .nil
  | n :: ns => .cons (by unfold Rep; rfl) Reps.ints
theorem Reps.strs_of : ∀ {xs : List Str} {vs : List V}, Reps G ua (xs.map .str) vs H → vs = xs.map .str
  | [], vs, h => h.of_nil
  | x :: xs, vs, h => by
    obtain ⟨v, r, rfl, q, t⟩ := h.of_cons
    unfold Rep at q
    rw [q, Reps.strs_of t]; rfl
theorem Reps.strs : ∀ {xs : List Str}, Reps G ua (xs.map .str) (xs.map .str) H
  | [] => .nil
  | n :: ns => .cons (by unfold Rep; rfl) Reps.strs
theorem Reps.ints_of : ∀ {xs : List Int} {vs : List V}, Reps G ua (xs.map .int) vs H → vs = xs.map .int
  | [], vs, h => h.of_nil
  | x :: xs, vs, h => by
    obtain ⟨v, r, rfl, q, t⟩ := h.of_cons
    unfold Rep at q
    rw [q, Reps.ints_of t]; rfl
theorem Reps.bls_of : ∀ {xs : List Bool} {vs : List V}, Reps G ua (xs.map .bl) vs H → vs = xs.map .bl
  | [], vs, h => h.of_nil
  | x :: xs, vs, h => by
    obtain ⟨v, r, rfl, q, t⟩ := h.of_cons
    unfold Rep at q
    rw [q, Reps.bls_of t]; rfl
end

/-! ### states -/
/-- B: the part of the heap that plain data may name; the urn stands beside it -/
structure Wd (ua : Option Addr) (u : U) (B H : Hp) : Prop where
  sub : Same B H
  urn : ∀ a, ua = some a → B a = none ∧ H a = some (.lst [.int u.a, .int u.b, .int u.c])
structure Grow (ua : Option Addr) (B H B' H' : Hp) : Prop where
  keep : ∀ a o, H a = some o → ua ≠ some a → H' a = some o
  live : ∀ a, H' a = none → H a = none
  pub : Same B B'
  new : ∀ a o, B' a = some o → B a = some o ∨ H a = none
theorem Grow.refl {ua : Option Addr} {B H : Hp} : Grow ua B H B H := ⟨fun _ _ h _ => h, fun _ h => h, fun _ _ h => h, fun _ _ h => .inl h⟩
theorem Grow.trans {ua : Option Addr} {B H B1 H1 B2 H2 : Hp} (x : Grow ua B H B1 H1) (y : Grow ua B1 H1 B2 H2) : Grow ua B H B2 H2 :=
  ⟨fun a o h n => y.keep a o (x.keep a o h n) n, fun a h => x.live a (y.live a h), fun a o h => y.pub a o (x.pub a o h), fun a o h => by
    rcases y.new a o h with h | h
    · exact x.new a o h
    · exact .inr (x.live a h)⟩
theorem same_new {H : Hp} {p : Addr} {o : HO} (h : H p = none) : Same H (upd H p o) := fun b x e => by
  rw [upd_ne (ne_of_none e h)]
  exact e
section
variable {ua : Option Addr} {u : U} {B H : Hp} {p : Addr} {o : HO}
theorem Wd.none_of (w : Wd ua u B H) (h : H p = none) : B p = none := by
  cases e : B p with
  | none => rfl
  | some o => rw [w.sub p o e] at h; cases h
theorem Wd.ne_urn (w : Wd ua u B H) (h : H p = none) : ua ≠ some p := fun e => by
  rw [(w.urn p e).2] at h; cases h
/-- a new object that anyone may see -/
theorem Grow.new1 (w : Wd ua u B H) (h : H p = none) : Grow ua B H (upd B p o) (upd H p o) := by
  have hp := w.none_of h
  refine ⟨fun a x e _ => same_new h a x e, fun a e => ?_, same_new hp, fun a x e => ?_⟩
  · by_cases q : a = p
    · subst q; exact h
    · rw [upd_ne q] at e; exact e
  · by_cases q : a = p
    · subst q; exact .inr h
    · rw [upd_ne q] at e; exact .inl e
theorem Wd.new1 (w : Wd ua u B H) (h : H p = none) : Wd ua u (upd B p o) (upd H p o) := by
  refine ⟨fun a x e => ?_, fun a e => ?_⟩
  · by_cases q : a = p
    · subst q; rw [upd_same] at e ⊢; exact e
    · rw [upd_ne q] at e ⊢; exact w.sub a x e
  · have := w.urn a e
    have q : a ≠ p := fun z => by subst z; rw [this.2] at h; cases h
    rw [upd_ne q, upd_ne q]; exact this
/-- a new object of one's own -/
theorem Grow.own1 (w : Wd ua u B H) (h : H p = none) : Grow ua B H B (upd H p o) := by
  refine ⟨fun a x e _ => same_new h a x e, fun a e => ?_, fun _ _ e => e, fun a x e => .inl e⟩
  by_cases q : a = p
  · subst q; exact h
  · rw [upd_ne q] at e; exact e
theorem Wd.own1 (w : Wd ua u B H) (h : H p = none) : Wd ua u B (upd H p o) := by
  refine ⟨fun a x e => same_new h a x (w.sub a x e), fun a e => ?_⟩
  have := w.urn a e
  have q : a ≠ p := fun z => by subst z; rw [this.2] at h; cases h
  rw [upd_ne q]; exact this
/-- one's own object is changed -/
theorem Wd.put (w : Wd ua u B H) (h : B p = none) (n : ua ≠ some p) : Wd ua u B (upd H p o) := by
  refine ⟨fun a x e => ?_, fun a e => ?_⟩
  · rw [upd_ne (ne_of_none e h)]; exact w.sub a x e
  · have := w.urn a e
    rw [upd_ne (fun z => n (by rw [← z]; exact e))]; exact this
end

/-! ### the names' slots -/
/-- one's own things, that still change -/
inductive Oo where
  | lst (ds : List D) | dct (ks : List Key) (ds : List D)
def RepO {K : PySem.W.Frag} (G : Gx K) (ua : Option Addr) : Oo → HO → Hp → Prop
  | .lst ds, o, B => ∃ vs, o = .lst vs ∧ Reps G ua ds vs B
  | .dct ks ds, o, B => ∃ vs, o = .dK (ks.zip vs) ∧ ks.length = vs.length ∧ Reps G ua ds vs B ∧ ks.Nodup
theorem RepO.mono {K : PySem.W.Frag} {G : Gx K} {ua : Option Addr} {x : Oo} {o : HO} {B B' : Hp} (h : RepO G ua x o B) (s : Same B B') : RepO G ua x o B' := by
  cases x with
  | lst ds => obtain ⟨vs, e, r⟩ := h; exact ⟨vs, e, r.mono _ _ s⟩
  | dct ks ds => obtain ⟨vs, e, l, r, n⟩ := h; exact ⟨vs, e, l, r.mono _ _ s, n⟩
inductive Sl where
  | no | pub (d : D) | own (o : Oo)
structure EnvOk {K : PySem.W.Frag} (G : Gx K) (ua : Option Addr) (env : List Sl) (σ : List (Option V)) (B H : Hp) : Prop where
  len : env.length = σ.length
  pub : ∀ (i : Nat) d, env[i]? = some (Sl.pub d) → ∃ v, σ[i]? = some (some v) ∧ Rep G ua d v B
  own : ∀ (i : Nat) ds, env[i]? = some (Sl.own ds) → ∃ p ho, σ[i]? = some (some (V.ref p)) ∧ H p = some ho ∧ B p = none ∧ RepO G ua ds ho B ∧ ua ≠ some p
  inj : ∀ (i j : Nat) ds es p, env[i]? = some (Sl.own ds) → env[j]? = some (Sl.own es) → σ[i]? = some (some (V.ref p)) → σ[j]? = some (some (V.ref p)) → i = j
section
variable {K : PySem.W.Frag} {G : Gx K} {ua : Option Addr} {u : U} {env : List Sl} {σ : List (Option V)} {B H B' H' : Hp} {d : D} {v : V} {i : Nat}
theorem EnvOk.grow (e : EnvOk G ua env σ B H) (g : Grow ua B H B' H') : EnvOk G ua env σ B' H' := by
  refine ⟨e.len, fun i d h => ?_, fun i ds h => ?_, e.inj⟩
  · obtain ⟨v, h1, h2⟩ := e.pub i d h
    exact ⟨v, h1, h2.mono _ _ g.pub⟩
  · obtain ⟨p, vs, h1, h2, h3, h4, h5⟩ := e.own i ds h
    refine ⟨p, vs, h1, g.keep _ _ h2 h5, ?_, h4.mono g.pub, h5⟩
    cases q : B' p with
    | none => rfl
    | some o =>
      rcases g.new p o q with z | z
      · rw [z] at h3; cases h3
      · rw [z] at h2; cases h2
theorem get_set {α : Type} {l : List α} {i j : Nat} {a x : α} (h : (l.set i a)[j]? = some x) : (j = i ∧ x = a) ∨ (j ≠ i ∧ l[j]? = some x) := by
  by_cases q : i = j
  · subst q
    left
    by_cases hl : i < l.length
    · rw [List.getElem?_set_self hl] at h
      exact ⟨rfl, (Option.some.inj h).symm⟩
    · rw [List.getElem?_eq_none (by rw [List.length_set]; omega)] at h; cases h
  · rw [List.getElem?_set_ne q] at h
    exact .inr ⟨fun z => q z.symm, h⟩
theorem set_get {α : Type} {l : List α} {i : Nat} {a : α} (hl : i < l.length) : (l.set i a)[i]? = some a := by rw [List.getElem?_set_self hl]
theorem lt_of_get {α : Type} {l : List α} {i : Nat} {x : α} (h : l[i]? = some x) : i < l.length := (List.getElem?_eq_some_iff.mp h).1
theorem EnvOk.set (e : EnvOk G ua env σ B H) (r : Rep G ua d v B) (i : Nat) : EnvOk G ua (env.set i (Sl.pub d)) (σ.set i (some v)) B H := by
  refine ⟨by rw [List.length_set, List.length_set]; exact e.len, fun j d' h => ?_, fun j ds h => ?_, fun j k ds es p h1 h2 h3 h4 => ?_⟩
  · have hl := lt_of_get h
    rw [List.length_set, e.len] at hl
    rcases get_set h with ⟨rfl, q⟩ | ⟨q, h⟩
    · cases q; exact ⟨v, set_get hl, r⟩
    · rw [List.getElem?_set_ne (fun z => q z.symm)]; exact e.pub j d' h
  · rcases get_set h with ⟨rfl, q⟩ | ⟨q, h⟩
    · cases q
    · rw [List.getElem?_set_ne (fun z => q z.symm)]; exact e.own j ds h
  · rcases get_set h1 with ⟨rfl, q⟩ | ⟨q1, h1⟩
    · cases q
    · rcases get_set h2 with ⟨rfl, q⟩ | ⟨q2, h2⟩
      · cases q
      · rw [List.getElem?_set_ne (fun z => q1 z.symm)] at h3
        rw [List.getElem?_set_ne (fun z => q2 z.symm)] at h4
        exact e.inj j k ds es p h1 h2 h3 h4
theorem EnvOk.setOwn {p : Addr} {ds : Oo} {vs : HO} (e : EnvOk G ua env σ B H) (hp : H p = some vs) (np : B p = none) (r : RepO G ua ds vs B) (nu : ua ≠ some p)
    (far : ∀ (j : Nat) es q, env[j]? = some (Sl.own es) → σ[j]? = some (some (V.ref q)) → j ≠ i → q ≠ p) : EnvOk G ua (env.set i (Sl.own ds)) (σ.set i (some (V.ref p))) B H := by
  refine ⟨by rw [List.length_set, List.length_set]; exact e.len, fun j d' h => ?_, fun j ds' h => ?_, fun j k ds' es q h1 h2 h3 h4 => ?_⟩
  · rcases get_set h with ⟨rfl, q⟩ | ⟨q, h⟩
    · cases q
    · rw [List.getElem?_set_ne (fun z => q z.symm)]; exact e.pub j d' h
  · have hl := lt_of_get h
    rw [List.length_set, e.len] at hl
    rcases get_set h with ⟨rfl, q⟩ | ⟨q, h⟩
    · cases q; exact ⟨p, vs, set_get hl, hp, np, r, nu⟩
    · rw [List.getElem?_set_ne (fun z => q z.symm)]; exact e.own j ds' h
  · rcases get_set h1 with ⟨rfl, q1⟩ | ⟨q1, g1⟩
    · rcases get_set h2 with ⟨rfl, q2⟩ | ⟨q2, g2⟩
      · rfl
      · rw [List.getElem?_set_ne (fun z => q2 z.symm)] at h4
        have hl := lt_of_get h3
        rw [List.length_set] at hl
        rw [set_get hl] at h3
        cases h3
        exact absurd rfl (far k es p g2 h4 q2)
    · rcases get_set h2 with ⟨rfl, q2⟩ | ⟨q2, g2⟩
      · rw [List.getElem?_set_ne (fun z => q1 z.symm)] at h3
        have hl := lt_of_get h4
        rw [List.length_set] at hl
        rw [set_get hl] at h4
        cases h4
        exact absurd rfl (far j ds' p g1 h3 q1)
      · rw [List.getElem?_set_ne (fun z => q1 z.symm)] at h3
        rw [List.getElem?_set_ne (fun z => q2 z.symm)] at h4
        exact e.inj j k ds' es q g1 g2 h3 h4
/-- forgotten slots -/
def wipeE (env : List Sl) : List Nat → List Sl
  | [] => env
  | v :: vs => (wipeE env vs).set v Sl.no
theorem EnvOk.wipe1 (e : EnvOk G ua env σ B H) (i : Nat) (o : Option V) : EnvOk G ua (env.set i Sl.no) (σ.set i o) B H := by
  refine ⟨by rw [List.length_set, List.length_set]; exact e.len, fun j d' h => ?_, fun j ds h => ?_, fun j k ds es p h1 h2 h3 h4 => ?_⟩
  · rcases get_set h with ⟨rfl, q⟩ | ⟨q, h⟩
    · cases q
    · rw [List.getElem?_set_ne (fun z => q z.symm)]; exact e.pub j d' h
  · rcases get_set h with ⟨rfl, q⟩ | ⟨q, h⟩
    · cases q
    · rw [List.getElem?_set_ne (fun z => q z.symm)]; exact e.own j ds h
  · rcases get_set h1 with ⟨rfl, q⟩ | ⟨q1, h1⟩
    · cases q
    · rcases get_set h2 with ⟨rfl, q⟩ | ⟨q2, h2⟩
      · cases q
      · rw [List.getElem?_set_ne (fun z => q1 z.symm)] at h3
        rw [List.getElem?_set_ne (fun z => q2 z.symm)] at h4
        exact e.inj j k ds es p h1 h2 h3 h4
theorem EnvOk.wipe (e : EnvOk G ua env σ B H) : ∀ vs : List Nat, EnvOk G ua (wipeE env vs) (wipe σ vs) B H
  | [] => e
  | v :: vs => by unfold wipeE L2.wipe; exact (e.wipe vs).wipe1 v none
end
end Dv

/-! Dv2: operations on plain data, and that the machine does the same. -/
namespace Dv
open PySem PySem.Spec PyProof.Rows L2

def Aft {K : PySem.W.Frag} (G : Gx K) (ua : Option Addr) (B H : Hp) (u' : U) (d : D) : V → Hp → Prop := fun v H' => ∃ B', Grow ua B H B' H' ∧ Wd ua u' B' H' ∧ Rep G ua d v B'
theorem Aft.up {K : PySem.W.Frag} {G : Gx K} {ua : Option Addr} {B H B1 H1 H' : Hp} {u' : U} {d : D} {v : V} (g : Grow ua B H B1 H1) (a : Aft G ua B1 H1 u' d v H') : Aft G ua B H u' d v H' := by
  obtain ⟨B', g', w, r⟩ := a
  exact ⟨B', g.trans g', w, r⟩
theorem Aft.here {K : PySem.W.Frag} {G : Gx K} {ua : Option Addr} {B H : Hp} {u : U} {d : D} {v : V} (w : Wd ua u B H) (r : Rep G ua d v B) : Aft G ua B H u d v H := ⟨B, .refl, w, r⟩
theorem Aft.lst {K : PySem.W.Frag} {G : Gx K} {ua : Option Addr} {B H : Hp} {u : U} {ds : List D} {vs : List V} {p : Addr} (w : Wd ua u B H) (h : H p = none) (r : Reps G ua ds vs B) : Aft G ua B H u (.lst ds) (.ref p) (upd H p (.lst vs)) :=
  ⟨upd B p (.lst vs), .new1 w h, w.new1 h, by unfold Rep; exact ⟨p, vs, rfl, upd_same, r.mono _ _ (same_new (w.none_of h))⟩⟩
theorem Aft.tup {K : PySem.W.Frag} {G : Gx K} {ua : Option Addr} {B H : Hp} {u : U} {ds : List D} {vs : List V} {p : Addr} {o : Obj} (w : Wd ua u B H) (h : H p = none) (ho : o.dict = none) (r : Reps G ua ds vs B) : Aft G ua B H u (.tup ds) (.ref p) (upd H p (.frz o (.tup vs))) :=
  ⟨upd B p (.frz o (.tup vs)), .new1 w h, w.new1 h, by unfold Rep; exact ⟨p, vs, rfl, ⟨o, ho, upd_same⟩, r.mono _ _ (same_new (w.none_of h))⟩⟩
theorem Aft.pr {K : PySem.W.Frag} {G : Gx K} {ua : Option Addr} {B H : Hp} {u : U} {ds : List D} {vs : List V} {p : Addr} (w : Wd ua u B H) (h : H p = none) (r : Reps G ua ds vs B) : Aft G ua B H u (.pr ds) (.ref p) (upd H p (.tup vs)) :=
  ⟨upd B p (.tup vs), .new1 w h, w.new1 h, by unfold Rep; exact ⟨p, vs, rfl, upd_same, r.mono _ _ (same_new (w.none_of h))⟩⟩

section
variable {K : PySem.W.Frag} {G : Gx K} {ua : Option Addr} {B H : Hp} {v : V}
theorem Rep.int {i : Int} (r : Rep G ua (.int i) v B) : v = .int i := by unfold Rep at r; exact r
theorem Rep.bl {i : Bool} (r : Rep G ua (.bl i) v B) : v = .bl i := by unfold Rep at r; exact r
theorem Rep.str {i : Str} (r : Rep G ua (.str i) v B) : v = .str i := by unfold Rep at r; exact r
theorem Rep.non (r : Rep G ua .non v B) : v = .non := by unfold Rep at r; exact r
theorem Rep.lst {ds : List D} (r : Rep G ua (.lst ds) v B) : ∃ a vs, v = .ref a ∧ B a = some (.lst vs) ∧ Reps G ua ds vs B := by unfold Rep at r; exact r
theorem Rep.tup {ds : List D} (r : Rep G ua (.tup ds) v B) : ∃ a vs, v = .ref a ∧ TupB B a vs ∧ Reps G ua ds vs B := by unfold Rep at r; exact r
theorem Rep.pr {ds : List D} (r : Rep G ua (.pr ds) v B) : ∃ a vs, v = .ref a ∧ B a = some (.tup vs) ∧ Reps G ua ds vs B := by unfold Rep at r; exact r
theorem rep_int {i : Int} : Rep G ua (.int i) (.int i) B := by unfold Rep; rfl
theorem rep_bl {i : Bool} : Rep G ua (.bl i) (.bl i) B := by unfold Rep; rfl
theorem rep_str {i : Str} : Rep G ua (.str i) (.str i) B := by unfold Rep; rfl
theorem rep_non : Rep G ua .non .non B := by unfold Rep; rfl
end

/-! ### data for == -/
mutual
def toPy : D → Option PyData
  | .non => some .none
  | .bl b => some (.bool b)
  | .int i => some (.int i)
  | .str x => some (.str x)
  | .lst ds => (toPys ds).map .list
  | .tup ds => (toPys ds).map .tuple
  | .ins _ _ _ => none
  | .exc _ _ _ => none
  | .fn _ => none
  | .dct _ _ => none
  | .pr _ => none
  | .urn => none
def toPys : List D → Option (List PyData)
  | [] => some []
  | d :: ds => (toPy d).bind fun p => (toPys ds).map fun ps => p :: ps
end
section
variable {K : PySem.W.Frag} {G : Gx K} {ua : Option Addr} {B H : Hp}
mutual
theorem rep_dp (s : Same B H) : ∀ (d : D) (v : V) (p : PyData), toPy d = some p → Rep G ua d v B → Dp K H v p
  | .non, v, p, e, r => by
    unfold toPy at e; cases e; cases r.non; exact .non
  | .bl b, v, p, e, r => by
    unfold toPy at e; cases e; cases r.bl; exact .bl b
  | .int i, v, p, e, r => by
    unfold toPy at e; cases e; cases r.int; exact .int i
  | .str x, v, p, e, r => by
    unfold toPy at e; cases e; cases r.str; exact .str x
  | .lst ds, v, p, e, r => by
    unfold toPy at e
    obtain ⟨a, vs, rfl, h, rs⟩ := r.lst
    cases q : toPys ds with
    | none => rw [q] at e; cases e
    | some ps => rw [q] at e; cases e; exact .lst (.of (s _ _ h)) (reps_dp s ds vs ps q rs)
  | .tup ds, v, p, e, r => by
    unfold toPy at e
    obtain ⟨a, vs, rfl, h, rs⟩ := r.tup
    cases q : toPys ds with
    | none => rw [q] at e; cases e
    | some ps => rw [q] at e; cases e; exact .tup (h.mono s).sq (reps_dp s ds vs ps q rs)
  | .pr _, v, p, e, r => by unfold toPy at e; cases e
  | .ins _ _ _, v, p, e, r => by unfold toPy at e; cases e
  | .exc _ _ _, v, p, e, r => by unfold toPy at e; cases e
  | .fn _, v, p, e, r => by unfold toPy at e; cases e
  | .dct _ _, v, p, e, r => by unfold toPy at e; cases e
  | .urn, v, p, e, r => by unfold toPy at e; cases e
theorem reps_dp (s : Same B H) : ∀ (ds : List D) (vs : List V) (ps : List PyData), toPys ds = some ps → Reps G ua ds vs B → DpAll K H vs ps
  | [], vs, ps, e, r => by
    unfold toPys at e; cases e; rw [r.of_nil]; exact .nil
  | d :: ds, vs, ps, e, r => by
    unfold toPys at e
    obtain ⟨v, t, rfl, r1, r2⟩ := r.of_cons
    cases q : toPy d with
    | none => rw [q] at e; cases e
    | some p =>
      cases q2 : toPys ds with
      | none => rw [q, q2] at e; cases e
      | some ps' => rw [q, q2] at e; cases e; exact .cons (rep_dp s d v p q r1) (reps_dp s ds t ps' q2 r2)
end
end

/-! ### operators -/
def fAdd : D → D → Option D
  | .int i, .int j => some (.int (i + j))
  | .str a, .str b => if a.length + b.length ≤ sizeLine then some (.str (a ++ b)) else none
  | .lst a, .lst b => if a.length + b.length ≤ sizeLine then some (.lst (a ++ b)) else none
  | .tup a, .tup b => if a.length + b.length ≤ sizeLine then some (.tup (a ++ b)) else none
  | _, _ => none
def fSub : D → D → Option D
  | .int i, .int j => some (.int (i - j))
  | _, _ => none
def fMul : D → D → Option D
  | .int i, .int j => if (-(2 ^ 64) < i ∧ i < 2 ^ 64) ∨ (-(2 ^ 64) < j ∧ j < 2 ^ 64) then some (.int (i * j)) else none
  | .lst a, .int k => if -(2 ^ 63) ≤ k ∧ k < 2 ^ 63 ∧ a.length * k.toNat ≤ sizeLine then some (.lst (List.replicate k.toNat a).flatten) else none
  | _, _ => none
def fMod : D → D → Option D
  | .int i, .int j => if 0 < j then some (.int (i % j)) else none
  | _, _ => none
def fDiv : D → D → Option D
  | .int i, .int j => if 0 < j ∧ j < 1073741824 then some (.int (i / j)) else none
  | _, _ => none
def fPow : D → D → Option D
  | .int i, .int j => if 0 ≤ j ∧ j ≤ 1000000 ∧ i.natAbs < 2 ^ 64 then some (.int (i ^ j.toNat)) else none
  | _, _ => none
def BinOk {X : Cx} (G : Gx X.K) (F : Value → Value → Sem Value) (f : D → D → Option D) : Prop :=
  ∀ (ua : Option Addr) (u : U) (B H : Hp) (da db d : D) (va vb : V), f da db = some d → Rep G ua da va B → Rep G ua db vb B → Wd ua u B H → ∃ r : R2, OpR X F r ∧ r va vb H (Aft G ua B H u d)
section
variable {X : Cx} {G : Gx X.K}
theorem ok_add : BinOk G (binaryOp .Add) fAdd := by
  intro ua u B H da db d va vb e ra rb w
  unfold fAdd at e
  split at e
  · cases e; cases ra.int; cases rb.int
    exact ⟨_, op_add, _, _, rfl, rfl, .here w rep_int⟩
  · split at e
    · cases e; cases ra.str; cases rb.str
      exact ⟨_, op_add_str, _, _, rfl, rfl, ‹_›, .here w rep_str⟩
    · cases e
  · split at e
    · cases e
      obtain ⟨a, xs, rfl, h1, r1⟩ := ra.lst
      obtain ⟨b, ys, rfl, h2, r2⟩ := rb.lst
      refine ⟨_, op_cat, a, b, xs, ys, rfl, rfl, w.sub _ _ h1, w.sub _ _ h2, by rw [← r1.len, ← r2.len]; assumption, fun p hp => .lst w hp (r1.append r2)⟩
    · cases e
  · split at e
    · cases e
      have ra' := ra
      have rb' := rb
      obtain ⟨a, xs, rfl, h1, r1⟩ := ra.tup
      obtain ⟨b, ys, rfl, h2, r2⟩ := rb.tup
      refine ⟨_, op_catF, a, b, xs, ys, rfl, rfl, (h1.mono w.sub).sq, (h2.mono w.sub).sq, by rw [← r1.len, ← r2.len]; assumption, fun hx => ?_, fun _ hy => ?_, fun _ _ p o hp ho => .tup w hp ho (r1.append r2)⟩
      · subst hx
        have e1 := r1.len
        rw [List.length_nil] at e1
        rw [List.eq_nil_of_length_eq_zero e1]
        exact .here w rb'
      · subst hy
        have e1 := r2.len
        rw [List.length_nil] at e1
        rw [List.eq_nil_of_length_eq_zero e1, List.append_nil]
        exact .here w ra'
    · cases e
  · cases e
theorem ok_sub : BinOk G (binaryOp .Sub) fSub := by
  intro ua u B H da db d va vb e ra rb w
  unfold fSub at e
  split at e
  · cases e; cases ra.int; cases rb.int
    exact ⟨_, op_sub, _, _, rfl, rfl, .here w rep_int⟩
  · cases e
theorem ok_mul : BinOk G (binaryOp .Mult) fMul := by
  intro ua u B H da db d va vb e ra rb w
  unfold fMul at e
  split at e
  · split at e
    · cases e; cases ra.int; cases rb.int
      exact ⟨_, op_mul, _, _, rfl, rfl, ‹_›, .here w rep_int⟩
    · cases e
  · split at e
    · rename_i k hk
      cases e
      cases rb.int
      obtain ⟨a, xs, rfl, h1, r1⟩ := ra.lst
      exact ⟨_, op_rep, a, _, xs, rfl, rfl, w.sub _ _ h1, hk.1, hk.2.1, by rw [← r1.len]; exact hk.2.2, fun p hp => .lst w hp (r1.replicate _)⟩
    · cases e
  · cases e
theorem ok_mod : BinOk G (binaryOp .Mod) fMod := by
  intro ua u B H da db d va vb e ra rb w
  unfold fMod at e
  split at e
  · split at e
    · cases e; cases ra.int; cases rb.int
      exact ⟨_, op_mod, _, _, rfl, rfl, ‹_›, .here w rep_int⟩
    · cases e
  · cases e
theorem ok_div : BinOk G (binaryOp .FloorDiv) fDiv := by
  intro ua u B H da db d va vb e ra rb w
  unfold fDiv at e
  split at e
  · split at e
    · cases e; cases ra.int; cases rb.int
      exact ⟨_, op_fdiv, _, _, rfl, rfl, ‹_›, .here w rep_int⟩
    · cases e
  · cases e
theorem ok_pow : BinOk G (binaryOp .Pow) fPow := by
  intro ua u B H da db d va vb e ra rb w
  unfold fPow at e
  split at e
  · split at e
    · cases e; cases ra.int; cases rb.int
      exact ⟨_, op_pow, _, _, rfl, rfl, ‹_›, .here w rep_int⟩
    · cases e
  · cases e
end

/-! ### comparisons -/
def eqD (a b : D) : Option Bool :=
  match a, b with
  | .int i, .int j => some (decide (i = j))
  | .str i, .str j => some (decide (i = j))
  | .bl i, .bl j => some (decide (i = j))
  | .non, .non => some true
  | a, b => match toPy a, toPy b with
    | some x, some y => if SeqAt.shaped x = true ∧ SeqAt.shaped y = true then some (PyData.eqv x y) else none
    | _, _ => none
def cEq (a b : D) : Option D := (eqD a b).map .bl
def cNe (a b : D) : Option D := (eqD a b).map fun k => .bl (!k)
def cLt : D → D → Option D
  | .int i, .int j => some (.bl (decide (i < j)))
  | .str i, .str j => some (.bl (decide (i.cps.toList < j.cps.toList)))
  | _, _ => none
def cLe : D → D → Option D
  | .int i, .int j => some (.bl (decide (i ≤ j)))
  | _, _ => none
def cGt : D → D → Option D
  | .int i, .int j => some (.bl (decide (j < i)))
  | _, _ => none
def cGe : D → D → Option D
  | .int i, .int j => some (.bl (decide (j ≤ i)))
  | _, _ => none
def cIs : D → D → Option D
  | .non, .non => some (.bl true)
  | _, .non => some (.bl false)
  | _, _ => none
def cIsN : D → D → Option D
  | .non, .non => some (.bl false)
  | _, .non => some (.bl true)
  | _, _ => none
def inD (a : D) : D → Option Bool
  | .str z => match a with
    | .str c => match c.cps.toList with
      | [k] => some (decide (k ∈ z.cps.toList))
      | _ => none
    | _ => none
  | .lst ds => match toPy a, toPys ds with
    | some x, some ys => if SeqAt.shaped x = true ∧ SeqAt.shaped (.list ys) = true then some (ys.any fun z => PyData.eqv z x) else none
    | _, _ => none
  | .tup ds => match toPy a, toPys ds with
    | some x, some ys => if SeqAt.shaped x = true ∧ SeqAt.shaped (.tuple ys) = true then some (ys.any fun z => PyData.eqv z x) else none
    | _, _ => none
  | _ => none
def cIn (a b : D) : Option D := (inD a b).map .bl
def cNotIn (a b : D) : Option D := (inD a b).map fun k => .bl (!k)
section
variable {X : Cx} {G : Gx X.K}
theorem rep_eqD {ua : Option Addr} {u : U} {B H : Hp} {a b : D} {k : Bool} {va vb : V} (e : eqD a b = some k) (ra : Rep G ua a va B) (rb : Rep G ua b vb B) (w : Wd ua u B H) :
    (scal va vb = true ∧ k = decide (va = vb)) ∨ ∃ d e, Dp X.K H va d ∧ Dp X.K H vb e ∧ SeqAt.shaped d = true ∧ SeqAt.shaped e = true ∧ k = PyData.eqv d e := by
  unfold eqD at e
  split at e
  · cases e; cases ra.int; cases rb.int; exact .inl ⟨rfl, by simp⟩
  · cases e; cases ra.str; cases rb.str; exact .inl ⟨rfl, by simp⟩
  · cases e; cases ra.bl; cases rb.bl; exact .inl ⟨rfl, by simp⟩
  · cases e; cases ra.non; cases rb.non; exact .inl ⟨rfl, by simp⟩
  · split at e
    · rename_i x y h1 h2
      split at e
      · rename_i h
        cases e
        exact .inr ⟨x, y, rep_dp w.sub _ _ _ h1 ra, rep_dp w.sub _ _ _ h2 rb, h.1, h.2, rfl⟩
      · cases e
    · cases e
theorem op_orR {F : Value → Value → Sem Value} {r r' : R2} (h : OpR X F r) (h' : OpR X F r') : OpR X F (fun x y H Q => r x y H Q ∨ r' x y H Q) := by
  intro pins s σ H x y v u Q I rx ry q
  rcases q with q | q
  · exact h pins s σ H x y v u Q I rx ry q
  · exact h' pins s σ H x y v u Q I rx ry q
theorem ok_eq (hu : X.A.units + 64 < cLine) : BinOk G (compareOp .Eq) cEq := by
  intro ua u B H da db d va vb e ra rb w
  unfold cEq at e
  cases q : eqD da db with
  | none => rw [q] at e; cases e
  | some k =>
    rw [q] at e; cases e
    rcases rep_eqD q ra rb w with ⟨h1, rfl⟩ | ⟨x, y, h1, h2, h3, h4, rfl⟩
    · exact ⟨_, op_eq, h1, .here w rep_bl⟩
    · exact ⟨_, op_eqD hu, x, y, h1, h2, h3, h4, .here w rep_bl⟩
theorem ok_ne (hu : X.A.units + 64 < cLine) : BinOk G (compareOp .NotEq) cNe := by
  intro ua u B H da db d va vb e ra rb w
  unfold cNe at e
  cases q : eqD da db with
  | none => rw [q] at e; cases e
  | some k =>
    rw [q] at e; cases e
    rcases rep_eqD q ra rb w with ⟨h1, rfl⟩ | ⟨x, y, h1, h2, h3, h4, rfl⟩
    · exact ⟨_, op_ne, h1, .here w rep_bl⟩
    · exact ⟨_, op_neD hu, x, y, h1, h2, h3, h4, .here w rep_bl⟩
theorem ok_lt : BinOk G (compareOp .Lt) cLt := by
  intro ua u B H da db d va vb e ra rb w
  unfold cLt at e
  split at e
  · cases e; cases ra.int; cases rb.int
    exact ⟨_, op_lt, _, _, rfl, rfl, .here w rep_bl⟩
  · cases e; cases ra.str; cases rb.str
    exact ⟨_, op_lt_str, _, _, rfl, rfl, .here w rep_bl⟩
  · cases e
theorem ok_le : BinOk G (compareOp .LtE) cLe := by
  intro ua u B H da db d va vb e ra rb w
  unfold cLe at e
  split at e
  · cases e; cases ra.int; cases rb.int
    exact ⟨_, op_le, _, _, rfl, rfl, .here w rep_bl⟩
  · cases e
theorem ok_gt : BinOk G (compareOp .Gt) cGt := by
  intro ua u B H da db d va vb e ra rb w
  unfold cGt at e
  split at e
  · cases e; cases ra.int; cases rb.int
    exact ⟨_, op_gt, _, _, rfl, rfl, .here w rep_bl⟩
  · cases e
theorem ok_ge : BinOk G (compareOp .GtE) cGe := by
  intro ua u B H da db d va vb e ra rb w
  unfold cGe at e
  split at e
  · cases e; cases ra.int; cases rb.int
    exact ⟨_, op_ge, _, _, rfl, rfl, .here w rep_bl⟩
  · cases e
theorem rep_nn {ua : Option Addr} {B : Hp} {d : D} {v : V} (r : Rep G ua d v B) : v = .non ↔ d = .non := by
  cases d with
  | non => cases r.non; simp
  | bl b => cases r.bl; simp
  | int b => cases r.int; simp
  | str b => cases r.str; simp
  | lst b => obtain ⟨a, vs, rfl, _⟩ := r.lst; simp
  | tup b => obtain ⟨a, vs, rfl, _⟩ := r.tup; simp
  | pr b => obtain ⟨a, vs, rfl, _⟩ := r.pr; simp
  | ins c n x => unfold Rep at r; obtain ⟨a, C, dx, vs, rfl, _⟩ := r; simp
  | exc c n x => unfold Rep at r; obtain ⟨a, C, dx, vs, rfl, _⟩ := r; simp
  | fn x => unfold Rep at r; obtain ⟨a, _, rfl⟩ := r; simp
  | dct k x => unfold Rep at r; obtain ⟨a, vs, rfl, _⟩ := r; simp
  | urn => unfold Rep at r; obtain ⟨a, _, rfl⟩ := r; simp
theorem ok_is : BinOk G (compareOp .Is) cIs := by
  intro ua u B H da db d va vb e ra rb w
  unfold cIs at e
  split at e
  · cases e; cases ra.non; cases rb.non
    exact ⟨_, op_isN, rfl, .here w rep_bl⟩
  · rename_i hn
    cases e; cases rb.non
    refine ⟨_, op_isN, rfl, .here w ?_⟩
    rw [decide_eq_false (fun z => hn ((rep_nn ra).mp z))]
    exact rep_bl
  · cases e
theorem ok_isnot : BinOk G (compareOp .IsNot) cIsN := by
  intro ua u B H da db d va vb e ra rb w
  unfold cIsN at e
  split at e
  · cases e; cases ra.non; cases rb.non
    exact ⟨_, op_notN, rfl, .here w rep_bl⟩
  · rename_i hn
    cases e; cases rb.non
    refine ⟨_, op_notN, rfl, .here w ?_⟩
    rw [decide_eq_false (fun z => hn ((rep_nn ra).mp z))]
    exact rep_bl
  · cases e
def rInT (K : PySem.W.Frag) : R2 := fun x y H Q => ∃ d ds, Dp K H x d ∧ Dp K H y (.tuple ds) ∧ SeqAt.shaped d = true ∧ SeqAt.shaped (.tuple ds) = true ∧ Q (.bl (ds.any fun z => PyData.eqv z d)) H
def rNotInT (K : PySem.W.Frag) : R2 := fun x y H Q => ∃ d ds, Dp K H x d ∧ Dp K H y (.tuple ds) ∧ SeqAt.shaped d = true ∧ SeqAt.shaped (.tuple ds) = true ∧ Q (.bl (!ds.any fun z => PyData.eqv z d)) H
theorem op_inT (hu : X.A.units + 65 < cLine) : OpR X (compareOp .In) (rInT X.K) := by
  intro pins s σ H x y v u Q I rx ry h
  obtain ⟨d, ds, hd, he, sd, se, q⟩ := h
  obtain ⟨as, r1⟩ := Dp.reads I d x v hd rx
  obtain ⟨bs, r2⟩ := Dp.reads I (.tuple ds) y u he ry
  exact SeqAt.in_tuple_reads r2 r1 (SeqAt.canLay_of_shaped se) (SeqAt.canLay_of_shaped sd) (room_in_shaped sd hu) ⟨.bl _, H, I, rfl, q⟩
theorem op_notInT (hu : X.A.units + 65 < cLine) : OpR X (compareOp .NotIn) (rNotInT X.K) := by
  intro pins s σ H x y v u Q I rx ry h
  obtain ⟨d, ds, hd, he, sd, se, q⟩ := h
  obtain ⟨as, r1⟩ := Dp.reads I d x v hd rx
  obtain ⟨bs, r2⟩ := Dp.reads I (.tuple ds) y u he ry
  exact SeqAt.notIn_tuple_reads r2 r1 (SeqAt.canLay_of_shaped se) (SeqAt.canLay_of_shaped sd) (room_in_shaped sd hu) ⟨.bl _, H, I, rfl, q⟩
theorem rep_inD {ua : Option Addr} {u : U} {B H : Hp} {a b : D} {k : Bool} {va vb : V} (e : inD a b = some k) (ra : Rep G ua a va B) (rb : Rep G ua b vb B) (w : Wd ua u B H) :
    (∃ (c : Nat) (z : Str), va = .str ⟨#[c]⟩ ∧ vb = .str z ∧ k = decide (c ∈ z.cps.toList)) ∨
    (∃ d ds, Dp X.K H va d ∧ Dp X.K H vb (.list ds) ∧ SeqAt.shaped d = true ∧ SeqAt.shaped (.list ds) = true ∧ k = ds.any fun z => PyData.eqv z d) ∨
    (∃ d ds, Dp X.K H va d ∧ Dp X.K H vb (.tuple ds) ∧ SeqAt.shaped d = true ∧ SeqAt.shaped (.tuple ds) = true ∧ k = ds.any fun z => PyData.eqv z d) := by
  unfold inD at e
  split at e
  · split at e
    · split at e
      · rename_i c _ x hc
        cases e; cases ra.str; cases rb.str
        refine .inl ⟨x, _, ?_, rfl, rfl⟩
        obtain ⟨cp⟩ := c
        have : cp = #[x] := by
          have := congrArg List.toArray hc
          simpa using this
        rw [this]
      · cases e
    · cases e
  · split at e
    · rename_i ds _ _ x ys h1 h2
      split at e
      · rename_i h
        cases e
        refine .inr (.inl ⟨x, ys, rep_dp w.sub _ _ _ h1 ra, rep_dp w.sub (.lst ds) _ _ ?_ rb, h.1, h.2, rfl⟩)
        unfold toPy; rw [h2]; rfl
      · cases e
    · cases e
  · split at e
    · rename_i ds _ _ x ys h1 h2
      split at e
      · rename_i h
        cases e
        refine .inr (.inr ⟨x, ys, rep_dp w.sub _ _ _ h1 ra, rep_dp w.sub (.tup ds) _ _ ?_ rb, h.1, h.2, rfl⟩)
        unfold toPy; rw [h2]; rfl
      · cases e
    · cases e
  · cases e
theorem ok_in (hu : X.A.units + 65 < cLine) : BinOk G (compareOp .In) cIn := by
  intro ua u B H da db d va vb e ra rb w
  unfold cIn at e
  cases q : inD da db with
  | none => rw [q] at e; cases e
  | some k =>
    rw [q] at e; cases e
    rcases rep_inD q ra rb w with ⟨c, z, rfl, rfl, rfl⟩ | ⟨x, ys, h1, h2, h3, h4, rfl⟩ | ⟨x, ys, h1, h2, h3, h4, rfl⟩
    · exact ⟨_, op_in_sign, c, z, rfl, rfl, .here w rep_bl⟩
    · exact ⟨_, op_inD hu, x, ys, h1, h2, h3, h4, .here w rep_bl⟩
    · exact ⟨_, op_inT hu, x, ys, h1, h2, h3, h4, .here w rep_bl⟩
theorem ok_notin (hu : X.A.units + 65 < cLine) : BinOk G (compareOp .NotIn) cNotIn := by
  intro ua u B H da db d va vb e ra rb w
  unfold cNotIn at e
  cases q : inD da db with
  | none => rw [q] at e; cases e
  | some k =>
    rw [q] at e; cases e
    rcases rep_inD q ra rb w with ⟨c, z, rfl, rfl, rfl⟩ | ⟨x, ys, h1, h2, h3, h4, rfl⟩ | ⟨x, ys, h1, h2, h3, h4, rfl⟩
    · exact ⟨_, op_notIn_sign, c, z, rfl, rfl, .here w rep_bl⟩
    · exact ⟨_, op_notInD hu, x, ys, h1, h2, h3, h4, .here w rep_bl⟩
    · exact ⟨_, op_notInT hu, x, ys, h1, h2, h3, h4, .here w rep_bl⟩
end

/-! ### truth -/
def truD : D → Option Bool
  | .non => some false
  | .bl b => some b
  | .int i => some (i != 0)
  | .str x => if x.length ≤ sizeLine then some ((x.length : Int) != 0) else none
  | .lst ds => some (!ds.isEmpty)
  | .tup ds => some (!ds.isEmpty)
  | _ => none
theorem rep_tru {X : Cx} {G : Gx X.K} {ua : Option Addr} {u : U} {B H : Hp} {d : D} {k : Bool} {v : V} (e : truD d = some k) (r : Rep G ua d v B) (w : Wd ua u B H) : TruV X.K v H k := by
  cases d with
  | non => cases r.non; unfold truD at e; cases e; rfl
  | bl b => cases r.bl; unfold truD at e; cases e; rfl
  | int i => cases r.int; unfold truD at e; cases e; rfl
  | str x =>
    cases r.str
    simp only [truD] at e
    split at e
    · cases e; exact ⟨‹_›, rfl⟩
    · cases e
  | lst ds =>
    obtain ⟨a, vs, rfl, h, rs⟩ := r.lst
    unfold truD at e; cases e
    refine .inl ⟨vs, .of (w.sub _ _ h), ?_⟩
    have := rs.len
    cases ds <;> cases vs <;> simp_all
  | tup ds =>
    obtain ⟨a, vs, rfl, h, rs⟩ := r.tup
    unfold truD at e; cases e
    refine .inr (.inl ⟨vs, (h.mono w.sub).sq, ?_⟩)
    have := rs.len
    cases ds <;> cases vs <;> simp_all
  | pr ds => unfold truD at e; cases e
  | ins c n x => unfold truD at e; cases e
  | exc c n x => unfold truD at e; cases e
  | fn x => unfold truD at e; cases e
  | dct k x => unfold truD at e; cases e
  | urn => unfold truD at e; cases e
end Dv

/-! Dv3: expressions over plain data. -/
namespace Dv
open PySem PySem.Spec PyProof.Rows L2

abbrev M := List Sl → U → Option (D × U)
abbrev Ms := List Sl → U → Option (List D × U)
abbrev MB := List Sl → U → Option (Bool × U)
def bnd {α β : Type} (m : Option (α × U)) (k : α → U → Option β) : Option β := match m with
  | none => none
  | some (a, u) => k a u
theorem bnd_some {α β : Type} {m : Option (α × U)} {k : α → U → Option β} {b : β} (h : bnd m k = some b) : ∃ a u, m = some (a, u) ∧ k a u = some b := by
  unfold bnd at h
  split at h
  · cases h
  · exact ⟨_, _, rfl, h⟩
def lft {α : Type} (o : Option α) (u : U) : Option (α × U) := match o with
  | none => none
  | some a => some (a, u)
theorem lft_some {α : Type} {o : Option α} {u u' : U} {a : α} (h : lft o u = some (a, u')) : o = some a ∧ u' = u := by
  unfold lft at h
  split at h
  · cases h
  · cases h; exact ⟨rfl, rfl⟩

/-! ### weaker readings -/
theorem _root_.L2.PE.imp {X : Cx} {e : Expr} {t t' : TE} (h : PE X e t) (i : ∀ σ H Q, t' σ H Q → t σ H Q) : PE X e t' := ⟨fun pins s σ H Q I q => h.run pins s σ H Q I (i σ H Q q)⟩
theorem _root_.L2.PT.imp {X : Cx} {e : Expr} {t t' : TT} (h : PT X e t) (i : ∀ σ H Q, t' σ H Q → t σ H Q) : PT X e t' := ⟨fun pins s σ H Q I q => h.run pins s σ H Q I (i σ H Q q)⟩
theorem _root_.L2.PW.imp {X : Cx} {e : Expr} {t t' : TT} (h : PW X e t) (i : ∀ σ H Q, t' σ H Q → t σ H Q) : PW X e t' := ⟨fun wh pins s σ H Q I q => h.run wh pins s σ H Q I (i σ H Q q)⟩
theorem _root_.L2.PA.imp {X : Cx} {e : List Expr} {t t' : TA} (h : PA X e t) (i : ∀ σ H Q, t' σ H Q → t σ H Q) : PA X e t' := ⟨fun p pins s σ H Q I q => h.run p pins s σ H Q I (i σ H Q q)⟩
theorem _root_.L2.PI.imp {X : Cx} {g e : Expr} {t t' : TI} (h : PI X g e t) (i : ∀ σ H Q, t' σ H Q → t σ H Q) : PI X g e t' := ⟨fun pins s σ H Q I q => h.run pins s σ H Q I (i σ H Q q)⟩
theorem _root_.L2.PI.by {X : Cx} {g e : Expr} {t' : TI} (i : ∀ σ H Q, t' σ H Q → ∃ t, PI X g e t ∧ t σ H Q) : PI X g e t' := ⟨fun pins s σ H Q I q => by
  obtain ⟨t, h, q⟩ := i σ H Q q
  exact h.run pins s σ H Q I q⟩
theorem _root_.L2.PE.by {X : Cx} {e : Expr} {t' : TE} (i : ∀ σ H Q, t' σ H Q → ∃ t, PE X e t ∧ t σ H Q) : PE X e t' := ⟨fun pins s σ H Q I q => by
  obtain ⟨t, h, q⟩ := i σ H Q q
  exact h.run pins s σ H Q I q⟩

section
variable {K : PySem.W.Frag} (G : Gx K)
def tEv (m : M) : TE := fun σ H Q => ∃ ua u B env d u', EnvOk G ua env σ B H ∧ Wd ua u B H ∧ m env u = some (d, u') ∧ ∀ v H', Aft G ua B H u' d v H' → Q v H'
def Afts (ua : Option Addr) (B H : Hp) (u' : U) (ds : List D) : List V → Hp → Prop := fun vs H' => ∃ B', Grow ua B H B' H' ∧ Wd ua u' B' H' ∧ Reps G ua ds vs B'
def tEvs (m : Ms) : TA := fun σ H Q => ∃ ua u B env ds u', EnvOk G ua env σ B H ∧ Wd ua u B H ∧ m env u = some (ds, u') ∧ ∀ vs H', Afts G ua B H u' ds vs H' → Q vs H'
def AftB (ua : Option Addr) (B H : Hp) (u' : U) (H' : Hp) : Prop := ∃ B', Grow ua B H B' H' ∧ Wd ua u' B' H'
def tTst (m : MB) : TT := fun σ H Q => ∃ ua u B env b u', EnvOk G ua env σ B H ∧ Wd ua u B H ∧ m env u = some (b, u') ∧ ∀ H', AftB ua B H u' H' → Q b H'
end

section
variable {X : Cx} {G : Gx X.K} {a b c e : Expr} {es : List Expr} {ma mb mc : M} {ms : Ms} {pos : Pos}
/-! ### names, constants -/
def mVar (i : Nat) : M := fun env u => match env[i]? with
  | some (.pub d) => some (d, u)
  | _ => none
def mC (d : D) : M := fun _ u => some (d, u)
theorem dv_var (i : Nat) {x : Str} {pos : Pos} (hN : X.N[i]? = some x := by rfl) (hv : Vis X.env.scope x := by first | exact Or.inl rfl | exact Or.inr (Or.inl rfl) | exact Or.inr (Or.inr rfl)) (hd : (x == ("__debug__" : Str)) = false := by decide)
    (hcd : (x == ("__classdict__" : Str)) = false := by decide) : PE X (.Name x pos) (tEv G (mVar i)) := by
  refine (pe_var hN hv hd hcd).imp fun σ H Q h => ?_
  obtain ⟨ua, u, B, env, d, u', hE, hW, hm, q⟩ := h
  unfold mVar at hm
  split at hm
  · rename_i h
    cases hm
    obtain ⟨v, h1, h2⟩ := hE.pub _ _ h
    exact ⟨v, h1, q v H (.here hW h2)⟩
  · cases hm
/-- a constant's value stands for its data in any heap -/
theorem dv_c {t : TE} {v : V} {d : D} (h : PE X e (tC v)) (r : ∀ ua B, Rep G ua d v B) : PE X e (tEv G (mC d)) := by
  refine h.imp fun σ H Q h => ?_
  obtain ⟨ua, u, B, env, d', u', hE, hW, hm, q⟩ := h
  cases hm
  exact q v H (.here hW (r ua B))
theorem dv_int {i j} : PE X (.Constant (.int i) j pos) (tEv G (mC (.int i))) := dv_c (t := tC .non) pe_int fun _ _ => rep_int
theorem dv_bl {i j} : PE X (.Constant (.bool i) j pos) (tEv G (mC (.bl i))) := dv_c (t := tC .non) pe_bl fun _ _ => rep_bl
theorem dv_str {i j} : PE X (.Constant (.str i) j pos) (tEv G (mC (.str i))) := dv_c (t := tC .non) pe_str fun _ _ => rep_str
theorem dv_non {j} : PE X (.Constant .none j pos) (tEv G (mC .non)) := dv_c (t := tC .non) pe_non fun _ _ => rep_non
theorem dv_globS {x : Str} {z : Str} {t : Tok} {pos : Pos} (hg : Gl X x) (hm : X.mg x = some (.str z t)) (hd : (x == ("__debug__" : Str)) = false := by decide) : PE X (.Name x pos) (tEv G (mC (.str z))) :=
  dv_c (t := tC .non) (pe_glob (v := .str z) hg hm ⟨_, rfl⟩ hd) fun _ _ => rep_str
theorem dv_globI {x : Str} {z : Int} {t : Tok} {pos : Pos} (hg : Gl X x) (hm : X.mg x = some (.int z t)) (hd : (x == ("__debug__" : Str)) = false := by decide) : PE X (.Name x pos) (tEv G (mC (.int z))) :=
  dv_c (t := tC .non) (pe_glob (v := .int z) hg hm ⟨_, rfl⟩ hd) fun _ _ => rep_int

/-! ### lists of expressions -/
def mNil : Ms := fun _ u => some ([], u)
def mCons (m : M) (r : Ms) : Ms := fun env u => bnd (m env u) fun d u1 => bnd (r env u1) fun ds u2 => some (d :: ds, u2)
theorem dvs_nil : PA X [] (tEvs G mNil) := by
  refine pa_nil.imp fun σ H Q h => ?_
  obtain ⟨ua, u, B, env, ds, u', hE, hW, hm, q⟩ := h
  cases hm
  exact q [] H ⟨B, .refl, hW, .nil⟩
theorem dvs_cons (ha : PE X e (tEv G ma)) (hr : PA X es (tEvs G ms)) (hs : starEach (e :: es) X.env = (false, eval e X.env) :: starEach es X.env := by rfl) : PA X (e :: es) (tEvs G (mCons ma ms)) := by
  refine (pa_cons ha hr hs).imp fun σ H Q h => ?_
  obtain ⟨ua, u, B, env, ds, u', hE, hW, hm, q⟩ := h
  obtain ⟨d, u1, h1, h2⟩ := bnd_some hm
  obtain ⟨ds', u2, h2, h3⟩ := bnd_some h2
  cases h3
  refine ⟨ua, u, B, env, d, u1, hE, hW, h1, fun v H1 ⟨B1, g1, w1, r1⟩ => ⟨ua, u1, B1, env, ds', _, hE.grow g1, w1, h2, fun vs H2 ⟨B2, g2, w2, r2⟩ => q _ _ ⟨B2, g1.trans g2, w2, .cons (r1.mono _ _ g2.pub) r2⟩⟩⟩
def mLst (m : Ms) : M := fun env u => bnd (m env u) fun ds u1 => if ds.length ≤ sizeLine then some (.lst ds, u1) else none
def mTup (m : Ms) : M := fun env u => bnd (m env u) fun ds u1 => if ds.length ≤ sizeLine then some (.tup ds, u1) else none
theorem dv_lst (h : PA X es (tEvs G ms)) : PE X (.List es pos) (tEv G (mLst ms)) := by
  refine (pe_lst h).imp fun σ H Q h => ?_
  obtain ⟨ua, u, B, env, d, u', hE, hW, hm, q⟩ := h
  obtain ⟨ds, u1, h1, h2⟩ := bnd_some hm
  split at h2
  · cases h2
    refine ⟨ua, u, B, env, ds, _, hE, hW, h1, fun vs H1 ⟨B1, g1, w1, r1⟩ => ⟨by rw [← r1.len]; assumption, fun p hp => q _ _ (.up g1 (.lst w1 hp r1))⟩⟩
  · cases h2
theorem dv_tup {k : Nat} (h : PA X es (tEvs G ms)) : PE X (.Tuple es k pos) (tEv G (mTup ms)) := by
  refine (pe_tupF h).imp fun σ H Q h => ?_
  obtain ⟨ua, u, B, env, d, u', hE, hW, hm, q⟩ := h
  obtain ⟨ds, u1, h1, h2⟩ := bnd_some hm
  split at h2
  · cases h2
    refine ⟨ua, u, B, env, ds, _, hE, hW, h1, fun vs H1 ⟨B1, g1, w1, r1⟩ => ⟨by rw [← r1.len]; assumption, fun p o hp ho => q _ _ (.up g1 (.tup w1 hp ho r1))⟩⟩
  · cases h2

/-! ### operators -/
def rBin (G : Gx X.K) (f : D → D → Option D) : R2 := fun x y H Q => ∃ ua u B da db d, f da db = some d ∧ Rep G ua da x B ∧ Rep G ua db y B ∧ Wd ua u B H ∧ ∀ v H', Aft G ua B H u d v H' → Q v H'
theorem op_of {F : Value → Value → Sem Value} {f : D → D → Option D} (hf : BinOk G F f) : OpR X F (rBin G f) := by
  intro pins s σ H x y v u Q I rx ry h
  obtain ⟨ua, u0, B, da, db, d, e, ra, rb, w, q⟩ := h
  obtain ⟨r, ho, hr⟩ := hf ua u0 B H da db d x y e ra rb w
  exact thn (ho pins s σ H x y v u _ I rx ry hr) fun v s ⟨z, H', I', r', a⟩ => ⟨z, H', I', r', q _ _ a⟩
def mBin (f : D → D → Option D) (a b : M) : M := fun env u => bnd (a env u) fun x u1 => bnd (b env u1) fun y u2 => lft (f x y) u2
theorem bin_read {f : D → D → Option D} {σ : L2.St} {H : Hp} {Q : VK} (h : tEv G (mBin f ma mb) σ H Q) : tOp (rBin G f) (tEv G ma) (tEv G mb) σ H Q := by
  obtain ⟨ua, u, B, env, d, u', hE, hW, hm, q⟩ := h
  obtain ⟨x, u1, h1, h2⟩ := bnd_some hm
  obtain ⟨y, u2, h2, h3⟩ := bnd_some h2
  obtain ⟨l3, rfl⟩ := lft_some h3
  exact ⟨ua, u, B, env, x, u1, hE, hW, h1, fun v H1 ⟨B1, g1, w1, r1⟩ => ⟨ua, u1, B1, env, y, u', hE.grow g1, w1, h2, fun v2 H2 ⟨B2, g2, w2, r2⟩ =>
    ⟨ua, u', B2, x, y, d, l3, r1.mono _ _ g2.pub, r2, w2, fun v3 H3 a => q v3 H3 (.up g1 (.up g2 a))⟩⟩⟩
theorem dv_bin {op : Operator} {f : D → D → Option D} (hf : BinOk G (binaryOp op) f) (ha : PE X a (tEv G ma)) (hb : PE X b (tEv G mb)) : PE X (.BinOp a op b pos) (tEv G (mBin f ma mb)) :=
  (pe_op (op_of hf) ha hb).imp fun _ _ _ h => bin_read h
theorem dv_cmp {op : CmpOp} {f : D → D → Option D} (hf : BinOk G (compareOp op) f) (ha : PE X a (tEv G ma)) (hb : PE X b (tEv G mb)) (hm : behindInMarks op b = false := by rfl) : PE X (.Compare a [op] [b] pos) (tEv G (mBin f ma mb)) :=
  (pe_cmpR (op_of hf) ha hb hm).imp fun _ _ _ h => bin_read h
def mNeg (a : M) : M := fun env u => bnd (a env u) fun x u1 => match x with
  | .int i => some (.int (-i), u1)
  | _ => none
theorem dv_neg (ha : PE X a (tEv G ma)) : PE X (.UnaryOp .USub a pos) (tEv G (mNeg ma)) := by
  refine (pe_un un_neg ha).imp fun σ H Q h => ?_
  obtain ⟨ua, u, B, env, d, u', hE, hW, hm, q⟩ := h
  obtain ⟨x, u1, h1, h2⟩ := bnd_some hm
  split at h2
  · cases h2
    refine ⟨ua, u, B, env, _, _, hE, hW, h1, fun v H1 ⟨B1, g1, w1, r1⟩ => ?_⟩
    cases r1.int
    exact ⟨_, rfl, q _ _ ⟨B1, g1, w1, rep_int⟩⟩
  · cases h2
/-- what gives a bool -/
def BoolF (f : D → D → Option D) : Prop := ∀ x y d, f x y = some d → ∃ k, d = .bl k
theorem bf_eq : BoolF cEq := fun x y d h => by unfold cEq at h; cases q : eqD x y with | none => rw [q] at h; cases h | some k => rw [q] at h; cases h; exact ⟨_, rfl⟩
theorem bf_ne : BoolF cNe := fun x y d h => by unfold cNe at h; cases q : eqD x y with | none => rw [q] at h; cases h | some k => rw [q] at h; cases h; exact ⟨_, rfl⟩
theorem bf_in : BoolF cIn := fun x y d h => by unfold cIn at h; cases q : inD x y with | none => rw [q] at h; cases h | some k => rw [q] at h; cases h; exact ⟨_, rfl⟩
theorem bf_notin : BoolF cNotIn := fun x y d h => by unfold cNotIn at h; cases q : inD x y with | none => rw [q] at h; cases h | some k => rw [q] at h; cases h; exact ⟨_, rfl⟩
theorem bf_lt : BoolF cLt := fun x y d h => by unfold cLt at h; split at h <;> cases h <;> exact ⟨_, rfl⟩
theorem bf_le : BoolF cLe := fun x y d h => by unfold cLe at h; split at h <;> cases h <;> exact ⟨_, rfl⟩
theorem bf_gt : BoolF cGt := fun x y d h => by unfold cGt at h; split at h <;> cases h <;> exact ⟨_, rfl⟩
theorem bf_ge : BoolF cGe := fun x y d h => by unfold cGe at h; split at h <;> cases h <;> exact ⟨_, rfl⟩
theorem bf_is : BoolF cIs := fun x y d h => by unfold cIs at h; split at h <;> cases h <;> exact ⟨_, rfl⟩
theorem bf_isnot : BoolF cIsN := fun x y d h => by unfold cIsN at h; split at h <;> cases h <;> exact ⟨_, rfl⟩
/-- a op b op' c -/
def mChain (f g : D → D → Option D) (a b c : M) : M := fun env u => bnd (a env u) fun x u1 => bnd (b env u1) fun y u2 => match f x y with
  | some (.bl true) => bnd (c env u2) fun z u3 => lft (g y z) u3
  | some (.bl false) => some (.bl false, u2)
  | _ => none
theorem dv_chain {op op' : CmpOp} {f g : D → D → Option D} (hf : BinOk G (compareOp op) f) (hg : BinOk G (compareOp op') g) (ha : PE X a (tEv G ma)) (hb : PE X b (tEv G mb)) (hc : PE X c (tEv G mc))
    (hm : lastMarks [op, op'] [b, c] = false := by with_unfolding_all rfl) : PE X (.Compare a [op, op'] [b, c] pos) (tEv G (mChain f g ma mb mc)) := by
  refine (pe_chain (op_of hf) (op_of hg) ha hb hc hm).imp fun σ H Q h => ?_
  obtain ⟨ua, u, B, env, d, u', hE, hW, hm, q⟩ := h
  obtain ⟨x, u1, h1, h2⟩ := bnd_some hm
  obtain ⟨y, u2, h2, h3⟩ := bnd_some h2
  refine ⟨ua, u, B, env, x, u1, hE, hW, h1, fun v H1 ⟨B1, g1, w1, r1⟩ => ⟨ua, u1, B1, env, y, u2, hE.grow g1, w1, h2, fun v2 H2 ⟨B2, g2, w2, r2⟩ => ?_⟩⟩
  split at h3
  · rename_i hk
    obtain ⟨z, u3, h4, h5⟩ := bnd_some h3
    obtain ⟨l5, rfl⟩ := lft_some h5
    refine ⟨ua, u2, B2, x, y, _, hk, r1.mono _ _ g2.pub, r2, w2, fun v3 H3 a3 => ?_⟩
    obtain ⟨B3, g3, w3, r3⟩ := a3
    cases r3.bl
    refine ⟨true, rfl, ?_⟩
    rw [if_pos rfl]
    refine ⟨ua, u2, B3, env, z, u', (hE.grow (g1.trans g2)).grow g3, w3, h4, fun v4 H4 ⟨B4, g4, w4, r4⟩ => ?_⟩
    exact ⟨ua, u', B4, y, z, d, l5, (r2.mono _ _ g3.pub).mono _ _ g4.pub, r4, w4, fun v5 H5 a5 => q v5 H5 (.up g1 (.up g2 (.up g3 (.up g4 a5))))⟩
  · rename_i hk
    cases h3
    refine ⟨ua, _, B2, x, y, _, hk, r1.mono _ _ g2.pub, r2, w2, fun v3 H3 a3 => ?_⟩
    obtain ⟨B3, g3, w3, r3⟩ := a3
    cases r3.bl
    refine ⟨false, rfl, ?_⟩
    rw [if_neg Bool.false_ne_true]
    exact q _ _ ⟨B3, g1.trans (g2.trans g3), w3, rep_bl⟩
  · cases h3

/-! ### tests -/
def mTru (a : M) : MB := fun env u => bnd (a env u) fun x u1 => lft (truD x) u1
theorem dt_val (ha : PE X a (tEv G ma)) (he : ∀ whole, isTrue a X.env whole = (do let v ← whole; standAt a.pos; holding [v] (truthy v)) := by intro _; rfl) : PT X a (tTst G (mTru ma)) := by
  refine (pt_truth ha he).imp fun σ H Q h => ?_
  obtain ⟨ua, u, B, env, d, u', hE, hW, hm, q⟩ := h
  obtain ⟨x, u1, h1, h2⟩ := bnd_some hm
  obtain ⟨l2, rfl⟩ := lft_some h2
  exact ⟨ua, u, B, env, x, u', hE, hW, h1, fun v H1 ⟨B1, g1, w1, r1⟩ => ⟨d, rep_tru l2 r1 w1, q _ ⟨B1, g1, w1⟩⟩⟩
theorem dt_cmp {op : CmpOp} {f : D → D → Option D} (hf : BinOk G (compareOp op) f) (bf : BoolF f) (ha : PE X a (tEv G ma)) (hb : PE X b (tEv G mb)) (hm : behindInMarks op b = false := by rfl) : PT X (.Compare a [op] [b] pos) (tTst G (mTru (mBin f ma mb))) := by
  refine (pt_cmpR (op_of hf) ha hb hm).imp fun σ H Q h => ?_
  obtain ⟨ua, u, B, env, d, u', hE, hW, hm, q⟩ := h
  obtain ⟨x, u1, h1, h2⟩ := bnd_some hm
  obtain ⟨l2, rfl⟩ := lft_some h2
  obtain ⟨k, rfl⟩ : ∃ k, x = .bl k := by
    obtain ⟨x1, u3, h3, h4⟩ := bnd_some h1
    obtain ⟨x2, u4, h4, h5⟩ := bnd_some h4
    exact bf _ _ _ (lft_some h5).1
  unfold truD at l2; cases l2
  refine bin_read ⟨ua, u, B, env, _, u', hE, hW, h1, fun v H1 ⟨B1, g1, w1, r1⟩ => ?_⟩
  cases r1.bl
  exact ⟨_, rfl, q _ ⟨B1, g1, w1⟩⟩
theorem dt_chain {op op' : CmpOp} {f g : D → D → Option D} (hf : BinOk G (compareOp op) f) (hg : BinOk G (compareOp op') g) (bg : BoolF g) (ha : PE X a (tEv G ma)) (hb : PE X b (tEv G mb)) (hc : PE X c (tEv G mc))
    (hm : lastMarks [op, op'] [b, c] = false := by with_unfolding_all rfl) : PT X (.Compare a [op, op'] [b, c] pos) (tTst G (mTru (mChain f g ma mb mc))) := by
  refine (pt_chain (op_of hf) (op_of hg) ha hb hc hm).imp fun σ H Q h => ?_
  obtain ⟨ua, u, B, env, d, u', hE, hW, hm, q⟩ := h
  obtain ⟨x0, u0, h1, h2⟩ := bnd_some hm
  obtain ⟨h0, rfl⟩ := lft_some h2
  obtain ⟨x, u1, h1, h2⟩ := bnd_some h1
  obtain ⟨y, u2, h2, h3⟩ := bnd_some h2
  refine ⟨ua, u, B, env, x, u1, hE, hW, h1, fun v H1 ⟨B1, g1, w1, r1⟩ => ⟨ua, u1, B1, env, y, u2, hE.grow g1, w1, h2, fun v2 H2 ⟨B2, g2, w2, r2⟩ => ?_⟩⟩
  split at h3
  · rename_i hk
    obtain ⟨z, u3, h4, h5⟩ := bnd_some h3
    obtain ⟨l5, rfl⟩ := lft_some h5
    refine ⟨ua, u2, B2, x, y, _, hk, r1.mono _ _ g2.pub, r2, w2, fun v3 H3 a3 => ?_⟩
    obtain ⟨B3, g3, w3, r3⟩ := a3
    cases r3.bl
    refine ⟨true, rfl, ?_⟩
    rw [if_pos rfl]
    refine ⟨ua, u2, B3, env, z, u', (hE.grow (g1.trans g2)).grow g3, w3, h4, fun v4 H4 ⟨B4, g4, w4, r4⟩ => ?_⟩
    refine ⟨ua, u', B4, y, z, x0, l5, (r2.mono _ _ g3.pub).mono _ _ g4.pub, r4, w4, fun v5 H5 a5 => ?_⟩
    obtain ⟨k, rfl⟩ := bg _ _ _ l5
    unfold truD at h0; cases h0
    obtain ⟨B5, g5, w5, r5⟩ := a5
    cases r5.bl
    exact ⟨_, rfl, q _ ⟨B5, g1.trans (g2.trans (g3.trans (g4.trans g5))), w5⟩⟩
  · rename_i hk
    cases h3
    unfold truD at h0; cases h0
    refine ⟨ua, _, B2, x, y, _, hk, r1.mono _ _ g2.pub, r2, w2, fun v3 H3 a3 => ?_⟩
    obtain ⟨B3, g3, w3, r3⟩ := a3
    cases r3.bl
    refine ⟨false, rfl, ?_⟩
    rw [if_neg Bool.false_ne_true]
    exact ⟨false, rfl, q _ ⟨B3, g1.trans (g2.trans g3), w3⟩⟩
  · cases h3
variable {na nb : MB} {rest : List Expr}
def mNotB (a : MB) : MB := fun env u => bnd (a env u) fun k u1 => some (!k, u1)
def mAndB (a b : MB) : MB := fun env u => bnd (a env u) fun k u1 => if k = true then b env u1 else some (false, u1)
def mOrB (a b : MB) : MB := fun env u => bnd (a env u) fun k u1 => if k = true then some (true, u1) else b env u1
theorem dt_not (ha : PT X a (tTst G na)) : PT X (.UnaryOp .Not a pos) (tTst G (mNotB na)) := by
  refine (pt_not ha).imp fun σ H Q h => ?_
  obtain ⟨ua, u, B, env, d, u', hE, hW, hm, q⟩ := h
  obtain ⟨k, u1, h1, h2⟩ := bnd_some hm
  cases h2
  exact ⟨ua, u, B, env, k, _, hE, hW, h1, fun H1 g => q _ g⟩
theorem dw_and1 (ha : PT X a (tTst G na)) : PW X (.BoolOp .And [a] pos) (tTst G na) := pw_and1 ha
theorem dw_or1 (ha : PT X a (tTst G na)) : PW X (.BoolOp .Or [a] pos) (tTst G na) := pw_or1 ha
theorem dw_and (ha : PT X a (tTst G na)) (hb : PW X (.BoolOp .And (b :: rest) pos) (tTst G nb)) : PW X (.BoolOp .And (a :: b :: rest) pos) (tTst G (mAndB na nb)) := by
  refine (pw_and ha hb).imp fun σ H Q h => ?_
  obtain ⟨ua, u, B, env, d, u', hE, hW, hm, q⟩ := h
  obtain ⟨k, u1, h1, h2⟩ := bnd_some hm
  refine ⟨ua, u, B, env, k, _, hE, hW, h1, fun H1 ⟨B1, g1, w1⟩ => ?_⟩
  cases k with
  | true => rw [if_pos rfl] at h2 ⊢; exact ⟨ua, u1, B1, env, d, u', hE.grow g1, w1, h2, fun H2 ⟨B2, g2, w2⟩ => q _ ⟨B2, g1.trans g2, w2⟩⟩
  | false => rw [if_neg Bool.false_ne_true] at h2 ⊢; cases h2; exact q _ ⟨B1, g1, w1⟩
theorem dw_or (ha : PT X a (tTst G na)) (hb : PW X (.BoolOp .Or (b :: rest) pos) (tTst G nb)) : PW X (.BoolOp .Or (a :: b :: rest) pos) (tTst G (mOrB na nb)) := by
  refine (pw_or ha hb).imp fun σ H Q h => ?_
  obtain ⟨ua, u, B, env, d, u', hE, hW, hm, q⟩ := h
  obtain ⟨k, u1, h1, h2⟩ := bnd_some hm
  refine ⟨ua, u, B, env, k, _, hE, hW, h1, fun H1 ⟨B1, g1, w1⟩ => ?_⟩
  cases k with
  | false => rw [if_neg Bool.false_ne_true] at h2 ⊢; exact ⟨ua, u1, B1, env, d, u', hE.grow g1, w1, h2, fun H2 ⟨B2, g2, w2⟩ => q _ ⟨B2, g1.trans g2, w2⟩⟩
  | true => rw [if_pos rfl] at h2 ⊢; cases h2; exact q _ ⟨B1, g1, w1⟩
/-! ### not, and, or as values; a if t else b -/
def mNot (a : M) : M := fun env u => bnd (a env u) fun x u1 => bnd (lft (truD x) u1) fun k u2 => some (.bl (!k), u2)
def mAnd (a b : M) : M := fun env u => bnd (a env u) fun x u1 => bnd (lft (truD x) u1) fun k u2 => if k = true then b env u2 else some (x, u2)
def mOr (a b : M) : M := fun env u => bnd (a env u) fun x u1 => bnd (lft (truD x) u1) fun k u2 => if k = true then some (x, u2) else b env u2
theorem dv_not (ha : PE X a (tEv G ma)) : PE X (.UnaryOp .Not a pos) (tEv G (mNot ma)) := by
  refine (pe_notT ha).imp fun σ H Q h => ?_
  obtain ⟨ua, u, B, env, d, u', hE, hW, hm, q⟩ := h
  obtain ⟨x, u1, h1, h2⟩ := bnd_some hm
  obtain ⟨k, u2, h2, h3⟩ := bnd_some h2
  obtain ⟨l2, rfl⟩ := lft_some h2
  cases h3
  exact ⟨ua, u, B, env, x, _, hE, hW, h1, fun v H1 ⟨B1, g1, w1, r1⟩ => ⟨k, rep_tru l2 r1 w1, q _ _ ⟨B1, g1, w1, rep_bl⟩⟩⟩
theorem dv_one (op : PySem.BoolOp) (ha : PE X a (tEv G ma)) : PE X (.BoolOp op [a] pos) (tEv G ma) := pe_one ha
theorem dv_and (ha : PE X a (tEv G ma)) (hb : PE X (.BoolOp .And (b :: rest) pos) (tEv G mb)) : PE X (.BoolOp .And (a :: b :: rest) pos) (tEv G (mAnd ma mb)) := by
  refine (pe_andT ha hb).imp fun σ H Q h => ?_
  obtain ⟨ua, u, B, env, d, u', hE, hW, hm, q⟩ := h
  obtain ⟨x, u1, h1, h2⟩ := bnd_some hm
  obtain ⟨k, u2, h2, h3⟩ := bnd_some h2
  obtain ⟨l2, rfl⟩ := lft_some h2
  refine ⟨ua, u, B, env, x, _, hE, hW, h1, fun v H1 ⟨B1, g1, w1, r1⟩ => ⟨k, rep_tru l2 r1 w1, ?_⟩⟩
  cases k with
  | true => rw [if_pos rfl] at h3 ⊢; exact ⟨ua, _, B1, env, d, u', hE.grow g1, w1, h3, fun v2 H2 a2 => q _ _ (.up g1 a2)⟩
  | false => rw [if_neg Bool.false_ne_true] at h3 ⊢; cases h3; exact q _ _ ⟨B1, g1, w1, r1⟩
theorem dv_or (ha : PE X a (tEv G ma)) (hb : PE X (.BoolOp .Or (b :: rest) pos) (tEv G mb)) : PE X (.BoolOp .Or (a :: b :: rest) pos) (tEv G (mOr ma mb)) := by
  refine (pe_orT ha hb).imp fun σ H Q h => ?_
  obtain ⟨ua, u, B, env, d, u', hE, hW, hm, q⟩ := h
  obtain ⟨x, u1, h1, h2⟩ := bnd_some hm
  obtain ⟨k, u2, h2, h3⟩ := bnd_some h2
  obtain ⟨l2, rfl⟩ := lft_some h2
  refine ⟨ua, u, B, env, x, _, hE, hW, h1, fun v H1 ⟨B1, g1, w1, r1⟩ => ⟨k, rep_tru l2 r1 w1, ?_⟩⟩
  cases k with
  | false => rw [if_neg Bool.false_ne_true] at h3 ⊢; exact ⟨ua, _, B1, env, d, u', hE.grow g1, w1, h3, fun v2 H2 a2 => q _ _ (.up g1 a2)⟩
  | true => rw [if_pos rfl] at h3 ⊢; cases h3; exact q _ _ ⟨B1, g1, w1, r1⟩
def mIte (c : MB) (a b : M) : M := fun env u => bnd (c env u) fun k u1 => if k = true then a env u1 else b env u1
theorem dv_ite (hc : PT X c (tTst G na)) (ha : PE X a (tEv G ma)) (hb : PE X b (tEv G mb)) : PE X (.IfExp c a b pos) (tEv G (mIte na ma mb)) := by
  refine (pe_ifExp hc ha hb).imp fun σ H Q h => ?_
  obtain ⟨ua, u, B, env, d, u', hE, hW, hm, q⟩ := h
  obtain ⟨k, u1, h1, h2⟩ := bnd_some hm
  refine ⟨ua, u, B, env, k, _, hE, hW, h1, fun H1 ⟨B1, g1, w1⟩ => ?_⟩
  cases k with
  | true => rw [if_pos rfl] at h2 ⊢; exact ⟨ua, u1, B1, env, d, u', hE.grow g1, w1, h2, fun v2 H2 a2 => q _ _ (.up g1 a2)⟩
  | false => rw [if_neg Bool.false_ne_true] at h2 ⊢; exact ⟨ua, u1, B1, env, d, u', hE.grow g1, w1, h2, fun v2 H2 a2 => q _ _ (.up g1 a2)⟩
end
end Dv

/-! Dv4: calls, built-ins, subscripts, texts. -/
namespace Dv
open PySem PySem.Spec PyProof.Rows L2

/-! ### defs -/
def spF {K : PySem.W.Frag} (G : Gx K) (F : List D → U → Option (D × U)) (n : Nat) : Sp := fun vs H Q _ => ∃ ua u B ds d u', Reps G ua ds vs B ∧ ds.length = n ∧ Wd ua u B H ∧ F ds u = some (d, u') ∧ ∀ v H', Aft G ua B H u' d v H' → Q v H'
/-- the def x of the module, called by place, does F -/
def DefOk (P : Program) (w : World) {K : PySem.W.Frag} (mg : Str → Option Value) (base : Heap) (G : Gx K) (x : Str) (k n : Nat) (F : List D → U → Option (D × U)) : Prop :=
  ∃ f fd ps, FnOk P w K mg base CX0 k f fd ps (spF G F n) ∧ mg x = some (.ref f) ∧ PySem.W.keepIn K (.ref f) = true ∧ Binds K fd ps []
theorem DefOk.mono {P : Program} {w : World} {K : PySem.W.Frag} {mg : Str → Option Value} {base : Heap} {G : Gx K} {x : Str} {j k n : Nat} {F : List D → U → Option (D × U)} (h : DefOk P w mg base G x j n F) (l : j ≤ k) : DefOk P w mg base G x k n F := by
  obtain ⟨f, fd, ps, h1, h2⟩ := h
  exact ⟨f, fd, ps, h1.mono l, h2⟩
def mCall (n : Nat) (F : List D → U → Option (D × U)) (m : Ms) : M := fun env u => bnd (m env u) fun ds u1 => if ds.length = n then F ds u1 else none
section
variable {X : Cx} {G : Gx X.K} {a b c e : Expr} {es : List Expr} {ma mb mc : M} {ms : Ms} {pos p : Pos}
theorem dv_call {x : Str} {k n : Nat} {F : List D → U → Option (D × U)} (D0 : DefOk X.prog X.w X.mg X.base G x k n F) (hr : Room k X.A) (hg : Gl X x) (ha : PA X (e :: es) (tEvs G ms))
    (hdb : (x == ("__debug__" : Str)) = false := by decide) (he : starEach (e :: es) X.env = (false, eval e X.env) :: starEach es X.env := by rfl) (hpl : (backTo pos (starEach es X.env)).any (·.1) = false := by rfl) :
    PE X (.Call (.Name x p) (e :: es) [] pos) (tEv G (mCall n F ms)) := by
  obtain ⟨f, fd, ps, hf, hm, hk, hb⟩ := D0
  refine (pe_call hf hr hg hm hk hb .nil pass0 ha hdb he hpl).imp fun σ H Q h => ?_
  obtain ⟨ua, u, B, env, d, u', hE, hW, hm, q⟩ := h
  obtain ⟨ds, u1, h1, h2⟩ := bnd_some hm
  split at h2
  · refine ⟨ua, u, B, env, ds, u1, hE, hW, h1, fun vs H1 ⟨B1, g1, w1, r1⟩ => ?_⟩
    show spF G F n (vs ++ []) H1 Q E0
    rw [List.append_nil]
    exact ⟨ua, u1, B1, ds, d, u', r1, ‹_›, w1, h2, fun v H2 a => q _ _ (.up g1 a)⟩
  · cases h2
theorem dv_call0 {x : Str} {k : Nat} {F : List D → U → Option (D × U)} (D0 : DefOk X.prog X.w X.mg X.base G x k 0 F) (hr : Room k X.A) (hg : Gl X x)
    (hdb : (x == ("__debug__" : Str)) = false := by decide) : PE X (.Call (.Name x p) [] [] pos) (tEv G (mCall 0 F mNil)) := by
  obtain ⟨f, fd, ps, hf, hm, hk, hb⟩ := D0
  refine (pe_call0 hf hr hg hm hk hb .nil pass0 hdb).imp fun σ H Q h => ?_
  obtain ⟨ua, u, B, env, d, u', hE, hW, hm, q⟩ := h
  obtain ⟨ds, u1, h1, h2⟩ := bnd_some hm
  cases h1
  have h2 : F [] u = some (d, u') := h2
  exact ⟨ua, u, B, [], d, u', .nil, rfl, hW, h2, fun v H2 a => q _ _ a⟩

/-! ### built-ins -/
def BiOk {X : Cx} (G : Gx X.K) (f : Value) (sem : List D → Option D) : Prop := ∀ (ua : Option Addr) (u : U) (B H : Hp) (ds : List D) (d : D) (vs : List V), sem ds = some d → Reps G ua ds vs B → Wd ua u B H →
  ∃ r, CallR X f r ∧ r vs H (Aft G ua B H u d)
def rBi (G : Gx X.K) (sem : List D → Option D) : List V → Hp → VK → Prop := fun vs H Q => ∃ ua u B ds d, sem ds = some d ∧ Reps G ua ds vs B ∧ Wd ua u B H ∧ ∀ v H', Aft G ua B H u d v H' → Q v H'
theorem call_of {f : Value} {sem : List D → Option D} (hf : BiOk G f sem) : CallR X f (rBi G sem) := by
  intro pins s σ H xs us Q I r h
  obtain ⟨ua, u0, B, ds, d, e, rs, w, q⟩ := h
  obtain ⟨r', hr, hc⟩ := hf ua u0 B H ds d xs e rs w
  exact thn (hr pins s σ H xs us _ I r hc) fun v s ⟨z, H', I', r', a⟩ => ⟨z, H', I', r', q _ _ a⟩
def mBi (sem : List D → Option D) (m : Ms) : M := fun env u => bnd (m env u) fun ds u1 => lft (sem ds) u1
theorem bi_read {sem : List D → Option D} {σ : L2.St} {H : Hp} {Q : VK} (h : tEv G (mBi sem ms) σ H Q) : tCB (rBi G sem) (tEvs G ms) σ H Q := by
  obtain ⟨ua, u, B, env, d, u', hE, hW, hm, q⟩ := h
  obtain ⟨ds, u1, h1, h2⟩ := bnd_some hm
  obtain ⟨l2, rfl⟩ := lft_some h2
  exact ⟨ua, u, B, env, ds, u', hE, hW, h1, fun vs H1 ⟨B1, g1, w1, r1⟩ => ⟨ua, u', B1, ds, d, l2, r1, w1, fun v H2 a => q _ _ (.up g1 a)⟩⟩
theorem dv_bi {x : Str} {id : String} {sem : List D → Option D} (hc : BiOk G (.builtin id) sem) (hg : Gl X x) (hm : X.mg x = none) (hv : bootBuiltins x = some (.builtin id)) (ha : PA X (e :: es) (tEvs G ms)) (hn : x ≠ "__name__" := by decide) (hdb : (x == ("__debug__" : Str)) = false := by decide)
    (he : starEach (e :: es) X.env = (false, eval e X.env) :: starEach es X.env := by rfl) (hpl : (backTo pos (starEach es X.env)).any (·.1) = false := by rfl) : PE X (.Call (.Name x p) (e :: es) [] pos) (tEv G (mBi sem ms)) :=
  (pe_callB (call_of hc) hg hm hv ha hn hdb he hpl).imp fun _ _ _ h => bi_read h
theorem dv_ty {x : Str} {T : String} {sem : List D → Option D} (hc : BiOk G (.type T) sem) (hg : Gl X x) (hm : X.mg x = none) (hv : bootBuiltins x = some (.type T)) (ha : PA X (e :: es) (tEvs G ms)) (hn : x ≠ "__name__" := by decide) (hdb : (x == ("__debug__" : Str)) = false := by decide)
    (he : starEach (e :: es) X.env = (false, eval e X.env) :: starEach es X.env := by rfl) (hpl : (backTo pos (starEach es X.env)).any (·.1) = false := by rfl) : PE X (.Call (.Name x p) (e :: es) [] pos) (tEv G (mBi sem ms)) :=
  (pe_callTy (call_of hc) hg hm hv ha hn hdb he hpl).imp fun _ _ _ h => bi_read h

def bLen : List D → Option D
  | [.lst ds] => some (.int ds.length)
  | [.tup ds] => some (.int ds.length)
  | [.str x] => if x.length ≤ sizeLine then some (.int x.length) else none
  | _ => none
def bAbs : List D → Option D
  | [.int i] => some (.int (if i < 0 then -i else i))
  | _ => none
def bInt : List D → Option D
  | [.int i] => some (.int i)
  | [.bl k] => some (.int (if k then 1 else 0))
  | _ => none
def bMax2 : List D → Option D
  | [.int i, .int j] => some (.int (if j > i then j else i))
  | _ => none
def blsOf : List D → Option (List Bool)
  | [] => some []
  | .bl b :: r => (blsOf r).map fun bs => b :: bs
  | _ :: _ => none
def strsOf : List D → Option (List Str)
  | [] => some []
  | .str b :: r => (strsOf r).map fun bs => b :: bs
  | _ :: _ => none
theorem blsOf_eq : ∀ {ds : List D} {bs : List Bool}, blsOf ds = some bs → ds = bs.map .bl
  | [], bs, h => by unfold blsOf at h; cases h; rfl
  | d :: ds, bs, h => by
    cases d with
    | bl b =>
      unfold blsOf at h
      cases q : blsOf ds with
      | none => rw [q] at h; cases h
      | some r => rw [q] at h; cases h; rw [blsOf_eq q]; rfl
    | _ => unfold blsOf at h; cases h
theorem strsOf_eq : ∀ {ds : List D} {bs : List Str}, strsOf ds = some bs → ds = bs.map .str
  | [], bs, h => by unfold strsOf at h; cases h; rfl
  | d :: ds, bs, h => by
    cases d with
    | str b =>
      unfold strsOf at h
      cases q : strsOf ds with
      | none => rw [q] at h; cases h
      | some r => rw [q] at h; cases h; rw [strsOf_eq q]; rfl
    | _ => unfold strsOf at h; cases h
def bAll : List D → Option D
  | [.lst ds] => (blsOf ds).map fun bs => .bl (bs.all id)
  | _ => none
def bList : List D → Option D
  | [.lst ds] => some (.lst ds)
  | [.tup ds] => some (.lst ds)
  | _ => none
def bTuple : List D → Option D
  | [.lst ds] => some (.tup ds)
  | [.tup ds] => some (.tup ds)
  | _ => none
/-- insertion by the texts' order -/
def insS (x : Str) : List Str → List Str
  | [] => [x]
  | y :: r => if y.cps.toList < x.cps.toList then y :: insS x r else x :: y :: r
def sortS : List Str → List Str
  | [] => []
  | x :: r => insS x (sortS r)
def leS (a b : Str) : Prop := a.cps.toList ≤ b.cps.toList
theorem leS_refl (a : Str) : leS a a := List.not_lt.mp (List.lt_irrefl _)
theorem leS_anti {a b : Str} (h : leS a b) (h' : leS b a) : a = b := by
  have e : a.cps.toList = b.cps.toList := List.le_antisymm h h'
  obtain ⟨⟨x⟩⟩ := a
  obtain ⟨⟨y⟩⟩ := b
  have e' : x = y := e
  rw [e']
theorem insS_perm (x : Str) : ∀ l : List Str, (insS x l).Perm (x :: l)
  | [] => .refl _
  | y :: r => by
    unfold insS
    split
    · exact ((insS_perm x r).cons y).trans (.swap x y r)
    · exact .refl _
theorem sortS_perm : ∀ l : List Str, (sortS l).Perm l
  | [] => .refl _
  | x :: r => (insS_perm x _).trans ((sortS_perm r).cons x)
theorem insS_sorted (x : Str) : ∀ l : List Str, l.Pairwise leS → (insS x l).Pairwise leS
  | [], _ => by unfold insS; exact List.pairwise_singleton _ _
  | y :: r, h => by
    have h1 := List.pairwise_cons.mp h
    unfold insS
    split
    · rename_i hl
      refine List.pairwise_cons.mpr ⟨fun z hz => ?_, insS_sorted x r h1.2⟩
      rcases List.mem_cons.mp ((insS_perm x r).subset hz) with rfl | hz
      · exact List.not_lt.mp (fun q => List.lt_irrefl _ (List.lt_trans hl q))
      · exact h1.1 z hz
    · rename_i hl
      have hxy : leS x y := List.not_lt.mp hl
      refine List.pairwise_cons.mpr ⟨fun z hz => ?_, h⟩
      rcases List.mem_cons.mp hz with rfl | hz
      · exact hxy
      · exact List.le_trans hxy (h1.1 z hz)
theorem sortS_sorted : ∀ l : List Str, (sortS l).Pairwise leS
  | [] => .nil
  | x :: r => insS_sorted x _ (sortS_sorted r)
theorem rising_pw : ∀ (p : Str) (l : List Str), risingS p l = true → (p :: l).Pairwise leS
  | p, [], _ => List.pairwise_singleton _ _
  | p, x :: r, h => by
    unfold risingS at h
    simp only [Bool.and_eq_true, Bool.not_eq_true'] at h
    have h1 : leS p x := by
      have := h.1
      rw [ltCps_eq] at this
      exact List.not_lt.mp (of_decide_eq_false this)
    have h2 := rising_pw x r h.2
    refine List.pairwise_cons.mpr ⟨fun z hz => ?_, h2⟩
    rcases List.mem_cons.mp hz with rfl | hz
    · exact h1
    · exact List.le_trans h1 ((List.pairwise_cons.mp h2).1 z hz)
theorem sorted_pw (l : List Str) (h : sortedS l = true) : l.Pairwise leS := by
  cases l with
  | nil => exact .nil
  | cons x r => exact rising_pw x r h
theorem sortS_uniq {xs ys : List Str} (p : ys.Perm xs) (h : sortedS ys = true) : ys = sortS xs :=
  List.Perm.eq_of_pairwise (fun _ _ _ _ h1 h2 => leS_anti h1 h2) (sorted_pw _ h) (sortS_sorted xs) (p.trans (sortS_perm xs).symm)
def bSorted : List D → Option D
  | [.lst ds] => (strsOf ds).bind fun xs => if xs.length < 64 then some (.lst ((sortS xs).map .str)) else none
  | _ => none
theorem ok_len : BiOk G (.builtin "len") bLen := by
  intro ua u B H ds d vs e rs w
  unfold bLen at e
  split at e
  · cases e
    obtain ⟨v, t, rfl, r1, r2⟩ := rs.of_cons
    rw [r2.of_nil]
    obtain ⟨a, ys, rfl, h, r3⟩ := r1.lst
    exact ⟨_, call_len_seq, a, ys, rfl, .inl (.of (w.sub _ _ h)), .here w (by rw [← r3.len]; exact rep_int)⟩
  · cases e
    obtain ⟨v, t, rfl, r1, r2⟩ := rs.of_cons
    rw [r2.of_nil]
    obtain ⟨a, ys, rfl, h, r3⟩ := r1.tup
    exact ⟨_, call_len_seq, a, ys, rfl, .inr (h.mono w.sub).sq, .here w (by rw [← r3.len]; exact rep_int)⟩
  · split at e
    · cases e
      obtain ⟨v, t, rfl, r1, r2⟩ := rs.of_cons
      rw [r2.of_nil]
      cases r1.str
      exact ⟨_, call_len_str, _, rfl, ‹_›, .here w rep_int⟩
    · cases e
  · cases e
theorem ok_abs : BiOk G (.builtin "abs") bAbs := by
  intro ua u B H ds d vs e rs w
  unfold bAbs at e
  split at e
  · cases e
    obtain ⟨v, t, rfl, r1, r2⟩ := rs.of_cons
    rw [r2.of_nil]
    cases r1.int
    exact ⟨_, call_abs, _, rfl, .here w rep_int⟩
  · cases e
theorem ok_int : BiOk G (.type "int") bInt := by
  intro ua u B H ds d vs e rs w
  unfold bInt at e
  split at e
  · cases e
    obtain ⟨v, t, rfl, r1, r2⟩ := rs.of_cons
    rw [r2.of_nil]
    cases r1.int
    exact ⟨_, call_int1, .inl ⟨_, rfl, .here w rep_int⟩⟩
  · cases e
    obtain ⟨v, t, rfl, r1, r2⟩ := rs.of_cons
    rw [r2.of_nil]
    cases r1.bl
    exact ⟨_, call_int1, .inr ⟨_, rfl, .here w rep_int⟩⟩
  · cases e
theorem ok_max2 (hc : X.calm = true) : BiOk G (.builtin "max") bMax2 := by
  intro ua u B H ds d vs e rs w
  unfold bMax2 at e
  split at e
  · cases e
    obtain ⟨v, t, rfl, r1, r2⟩ := rs.of_cons
    obtain ⟨v2, t, rfl, r2, r3⟩ := r2.of_cons
    rw [r3.of_nil]
    cases r1.int
    cases r2.int
    exact ⟨_, call_max2 hc, _, _, rfl, .here w rep_int⟩
  · cases e
theorem ok_all (hc : X.calm = true) : BiOk G (.builtin "all") bAll := by
  intro ua u B H ds d vs e rs w
  unfold bAll at e
  split at e
  · rename_i ds
    cases q : blsOf ds with
    | none => rw [q] at e; cases e
    | some bs =>
      rw [q] at e; cases e
      obtain ⟨v, t, rfl, r1, r2⟩ := rs.of_cons
      rw [r2.of_nil]
      obtain ⟨a, ys, rfl, h, r3⟩ := r1.lst
      rw [blsOf_eq q] at r3
      rw [r3.bls_of] at h
      exact ⟨_, cr_all hc, a, bs, rfl, .of (w.sub _ _ h), .here w rep_bl⟩
  · cases e
theorem ok_list : BiOk G (.type "list") bList := by
  intro ua u B H ds d vs e rs w
  unfold bList at e
  split at e
  · cases e
    obtain ⟨v, t, rfl, r1, r2⟩ := rs.of_cons
    rw [r2.of_nil]
    obtain ⟨a, ys, rfl, h, r3⟩ := r1.lst
    exact ⟨_, call_list_of, a, ys, rfl, .inl (.of (w.sub _ _ h)), fun l hl => .lst w hl r3⟩
  · cases e
    obtain ⟨v, t, rfl, r1, r2⟩ := rs.of_cons
    rw [r2.of_nil]
    obtain ⟨a, ys, rfl, h, r3⟩ := r1.tup
    exact ⟨_, call_list_of, a, ys, rfl, .inr (h.mono w.sub).sq, fun l hl => .lst w hl r3⟩
  · cases e
theorem ok_tuple : BiOk G (.type "tuple") bTuple := by
  intro ua u B H ds d vs e rs w
  unfold bTuple at e
  split at e
  · cases e
    obtain ⟨v, t, rfl, r1, r2⟩ := rs.of_cons
    rw [r2.of_nil]
    obtain ⟨a, ys, rfl, h, r3⟩ := r1.lst
    exact ⟨_, call_tupF, a, ys, rfl, .inl ⟨.of (w.sub _ _ h), fun l o hl ho => .tup w hl ho r3⟩⟩
  · cases e
    obtain ⟨v, t, rfl, r1, r2⟩ := rs.of_cons
    rw [r2.of_nil]
    have r1' := r1
    obtain ⟨a, ys, rfl, h, r3⟩ := r1.tup
    exact ⟨_, call_tupF, a, ys, rfl, .inr ⟨(h.mono w.sub).sq, .here w r1'⟩⟩
  · cases e
theorem ok_sorted : BiOk G (.builtin "sorted") bSorted := by
  intro ua u B H ds d vs e rs w
  unfold bSorted at e
  split at e
  · rename_i ds
    cases q : strsOf ds with
    | none => rw [q] at e; cases e
    | some xs =>
      rw [q] at e
      simp only [Option.bind_some] at e
      split at e
      · cases e
        obtain ⟨v, t, rfl, r1, r2⟩ := rs.of_cons
        rw [r2.of_nil]
        obtain ⟨a, ys, rfl, h, r3⟩ := r1.lst
        rw [strsOf_eq q] at r3
        rw [r3.strs_of] at h
        refine ⟨_, cr_sortedS, a, xs, rfl, .of (w.sub _ _ h), ‹_›, fun ys p hp hs hn => ?_⟩
        rw [sortS_uniq hp hs]
        exact .lst w hn Reps.strs
      · cases e
  · cases e

/-! ### isinstance -/
def tyN : D → Option String
  | .non => some "NoneType"
  | .bl _ => some "bool"
  | .int _ => some "int"
  | .str _ => some "str"
  | .lst _ => some "list"
  | .tup _ => some "tuple"
  | _ => none
def kitAnyB (t : String) : List String → Option Bool
  | [] => some false
  | n :: r => match kitB t n with
    | some true => some true
    | some false => kitAnyB t r
    | none => none
def plainTys : List String := ["str", "int", "bool", "list", "tuple"]
def isiD (d : D) (ts : List String) : Option Bool := match d with
  | .ins _ _ _ => if ts.all (plainTys.contains ·) then some false else none
  | d => (tyN d).bind fun t => kitAnyB t ts
theorem kitAny_of {K : PySem.W.Frag} {t : String} : ∀ {ts : List String} {b : Bool}, kitAnyB t ts = some b → PySem.W.kitAny K (.type t) (ts.map Value.type) = some b
  | [], b, h => by unfold kitAnyB at h; cases h; rfl
  | n :: r, b, h => by
    unfold kitAnyB at h
    show PySem.W.kitAny K (.type t) (.type n :: r.map Value.type) = some b
    split at h
    · rename_i q; cases h; exact kitAny_cons (kit_ty q) (fun z => nomatch z) (fun _ => rfl)
    · rename_i q; exact kitAny_cons (kit_ty q) (fun _ => kitAny_of h) (fun z => nomatch z)
    · cases h
theorem InsOk.one {K : PySem.W.Frag} {C : Addr} (h : InsOk K C) {n : String} (hn : plainTys.contains n = true) : PySem.W.kitOne K (.ref C) (.type n) = some false := by
  simp only [plainTys, List.contains_cons, List.contains_nil, Bool.or_eq_true, beq_iff_eq, Bool.or_false] at hn
  rcases hn with rfl | rfl | rfl | rfl | rfl
  · exact h.kStr
  · exact h.kInt
  · exact h.kBool
  · exact h.kList
  · exact h.kTup
theorem InsOk.any {K : PySem.W.Frag} {C : Addr} (h : InsOk K C) : ∀ {ts : List String}, ts.all (plainTys.contains ·) = true → PySem.W.kitAny K (.ref C) (ts.map Value.type) = some false
  | [], _ => rfl
  | n :: r, hn => by
    simp only [List.all_cons, Bool.and_eq_true] at hn
    exact kitAny_cons (h.one hn.1) (fun _ => InsOk.any h hn.2) (fun z => nomatch z)
theorem rep_isi {ua : Option Addr} {u : U} {B H : Hp} {d : D} {v : V} {ts : List String} {k : Bool} (e : isiD d ts = some k) (r : Rep G ua d v B) (w : Wd ua u B H) : ∃ t, TyX X.K H v t ∧ PySem.W.kitAny X.K t (ts.map Value.type) = some k := by
  unfold isiD at e
  cases d with
  | non => cases r.non; exact ⟨_, .base .non, kitAny_of e⟩
  | bl b => cases r.bl; exact ⟨_, .base (.bl b), kitAny_of e⟩
  | int b => cases r.int; exact ⟨_, .base (.int b), kitAny_of e⟩
  | str b => cases r.str; exact ⟨_, .base (.str b), kitAny_of e⟩
  | lst b => obtain ⟨a, vs, rfl, h, _⟩ := r.lst; exact ⟨_, .base (.lst (w.sub _ _ h)), kitAny_of e⟩
  | tup b => obtain ⟨a, vs, rfl, ⟨o, _, h⟩, _⟩ := r.tup; exact ⟨_, .fTuple (w.sub _ _ h), kitAny_of e⟩
  | pr b => exact absurd e (by simp [tyN])
  | ins c ns xs =>
    unfold Rep at r
    obtain ⟨a, C, dx, vs, rfl, hc, h, _⟩ := r
    have i := G.ok c C hc
    dsimp only at e
    split at e
    · cases e; exact ⟨_, .base (.ins (w.sub _ _ h) i.cl i.ha i.hn i.htk i.hm), i.any ‹_›⟩
    · cases e
  | exc c ns xs => exact absurd e (by simp [tyN])
  | fn x => exact absurd e (by simp [tyN])
  | dct k x => exact absurd e (by simp [tyN])
  | urn => exact absurd e (by simp [tyN])
def mIsi (ts : List String) (a : M) : M := fun env u => bnd (a env u) fun x u1 => lft ((isiD x ts).map .bl) u1
theorem map_some {α β : Type} {o : Option α} {f : α → β} {b : β} (h : o.map f = some b) : ∃ a, o = some a ∧ f a = b := by
  cases o with
  | none => cases h
  | some a => exact ⟨a, rfl, Option.some.inj h⟩
/-- isinstance(e, T) -/
theorem dv_isi {T : Str} {n : String} {pT : Pos} (hg : Gl X "isinstance") (hm : X.mg "isinstance" = none) (ha : PE X a (tEv G ma)) (hgT : Gl X T) (hmT : X.mg T = none) (hvT : bootBuiltins T = some (.type n)) (hnT : T ≠ "__name__" := by decide) (hdT : (T == ("__debug__" : Str)) = false := by decide)
    (hs : starEach (a :: [.Name T pT]) X.env = (false, eval a X.env) :: starEach [.Name T pT] X.env := by rfl) : PE X (.Call (.Name "isinstance" p) [a, .Name T pT] [] pos) (tEv G (mIsi [n] ma)) := by
  refine (pe_callB call_isi hg hm (by decide +kernel) (pa_cons ha (pa_cons (pe_bltn (v := .ty n) hgT hmT hvT rfl hnT hdT) pa_nil) hs) (he := hs)).imp fun σ H Q h => ?_
  obtain ⟨ua, u, B, env, d, u', hE, hW, hm, q⟩ := h
  obtain ⟨x, u1, h1, h2⟩ := bnd_some hm
  obtain ⟨l2, rfl⟩ := lft_some h2
  obtain ⟨k, e, rfl⟩ := map_some l2
  refine ⟨ua, u, B, env, x, u', hE, hW, h1, fun v H1 ⟨B1, g1, w1, r1⟩ => ?_⟩
  obtain ⟨t, ty, kk⟩ := rep_isi e r1 w1
  refine ⟨v, .ty n, t, .type n, k, rfl, .ty n, ty, ?_, q _ _ ⟨B1, g1, w1, rep_bl⟩⟩
  have kk : PySem.W.kitAny X.K t [Value.type n] = some k := kk
  unfold PySem.W.kitAny at kk
  split at kk
  · rename_i z; cases kk; exact z
  · rename_i z; cases kk; exact z
  · cases kk
theorem dv_isi2 {T T2 : Str} {n n2 : String} {pT pT2 pt : Pos} {kt : Nat} (hg : Gl X "isinstance") (hm : X.mg "isinstance" = none) (ha : PE X a (tEv G ma)) (hgT : Gl X T) (hmT : X.mg T = none) (hvT : bootBuiltins T = some (.type n)) (hgT2 : Gl X T2) (hmT2 : X.mg T2 = none) (hvT2 : bootBuiltins T2 = some (.type n2))
    (hnT : T ≠ "__name__" := by decide) (hdT : (T == ("__debug__" : Str)) = false := by decide) (hnT2 : T2 ≠ "__name__" := by decide) (hdT2 : (T2 == ("__debug__" : Str)) = false := by decide)
    (hs : starEach (a :: [.Tuple [.Name T pT, .Name T2 pT2] kt pt]) X.env = (false, eval a X.env) :: starEach [.Tuple [.Name T pT, .Name T2 pT2] kt pt] X.env := by rfl) :
    PE X (.Call (.Name "isinstance" p) [a, .Tuple [.Name T pT, .Name T2 pT2] kt pt] [] pos) (tEv G (mIsi [n, n2] ma)) := by
  refine (pe_callB call_isiT hg hm (by decide +kernel) (pa_cons ha (pa_cons (pe_tup (pa_cons (pe_bltn (v := .ty n) hgT hmT hvT rfl hnT hdT) (pa_cons (pe_bltn (v := .ty n2) hgT2 hmT2 hvT2 rfl hnT2 hdT2) pa_nil))) pa_nil) hs) (he := hs)).imp fun σ H Q h => ?_
  obtain ⟨ua, u, B, env, d, u', hE, hW, hm, q⟩ := h
  obtain ⟨x, u1, h1, h2⟩ := bnd_some hm
  obtain ⟨l2, rfl⟩ := lft_some h2
  obtain ⟨k, e, rfl⟩ := map_some l2
  refine ⟨ua, u, B, env, x, u', hE, hW, h1, fun v H1 ⟨B1, g1, w1, r1⟩ => ?_⟩
  refine ⟨by show 2 ≤ sizeLine; decide, fun tp htp => ?_⟩
  have w2 : Wd ua u' (upd B1 tp (.tup [.ty n, .ty n2])) (upd H1 tp (.tup [.ty n, .ty n2])) := w1.new1 htp
  have g2 : Grow ua B1 H1 (upd B1 tp (.tup [.ty n, .ty n2])) (upd H1 tp (.tup [.ty n, .ty n2])) := .new1 w1 htp
  obtain ⟨t, ty, kk⟩ := rep_isi e (r1.mono _ _ g2.pub) w2
  exact ⟨v, tp, [.ty n, .ty n2], t, [.type n, .type n2], k, rfl, upd_same, .cons (.ty n) (.cons (.ty n2) .nil), ty, kk, q _ _ ⟨_, g1.trans g2, w2, rep_bl⟩⟩

/-! ### subscripts, slices -/
def ixD : D → D → Option D
  | .lst ds, .int i => atI ds i
  | .tup ds, .int i => atI ds i
  | .str z, .int i => if z.length ≤ sizeLine then (atI z.cps.toList i).map fun c => .str ⟨#[c]⟩ else none
  | _, _ => none
theorem Reps.at {ua : Option Addr} {B : Hp} {ds : List D} {vs : List V} {i : Int} {d : D} (r : Reps G ua ds vs B) (e : atI ds i = some d) : ∃ v, atI vs i = some v ∧ Rep G ua d v B := by
  unfold atI at e ⊢
  rw [← r.len]
  cases q : ixN ds.length i with
  | none => rw [q] at e; cases e
  | some j => rw [q] at e; exact r.get e
theorem dv_ix (ha : PE X a (tEv G ma)) (hb : PE X b (tEv G mb)) (hs : PlainIx b := by exact fun _ _ => rfl) : PE X (.Subscript a b pos) (tEv G (mBin ixD ma mb)) := by
  refine (pe_ix ix_seq ha hb hs).imp fun σ H Q h => ?_
  obtain ⟨ua, u, B, env, d, u', hE, hW, hm, q⟩ := h
  obtain ⟨x, u1, h1, h2⟩ := bnd_some hm
  obtain ⟨y, u2, h2, h3⟩ := bnd_some h2
  obtain ⟨l3, rfl⟩ := lft_some h3
  refine ⟨ua, u, B, env, x, u1, hE, hW, h1, fun v H1 ⟨B1, g1, w1, r1⟩ => ⟨ua, u1, B1, env, y, u', hE.grow g1, w1, h2, fun v2 H2 ⟨B2, g2, w2, r2⟩ => ?_⟩⟩
  have r1 := r1.mono _ _ g2.pub
  unfold ixD at l3
  split at l3
  · obtain ⟨p, xs, rfl, h, r3⟩ := r1.lst
    cases r2.int
    obtain ⟨z, e, r4⟩ := r3.at l3
    exact .inl ⟨p, xs, _, z, rfl, rfl, .of (w2.sub _ _ h), e, q _ _ ⟨B2, g1.trans g2, w2, r4⟩⟩
  · obtain ⟨p, xs, rfl, h, r3⟩ := r1.tup
    cases r2.int
    obtain ⟨z, e, r4⟩ := r3.at l3
    exact .inr (.inl ⟨p, xs, _, z, rfl, rfl, (h.mono w2.sub).sq, e, q _ _ ⟨B2, g1.trans g2, w2, r4⟩⟩)
  · split at l3
    · cases r1.str
      cases r2.int
      obtain ⟨c, e, rfl⟩ := map_some l3
      exact .inr (.inr ⟨_, _, c, rfl, rfl, ‹_›, e, q _ _ ⟨B2, g1.trans g2, w2, rep_str⟩⟩)
    · cases l3
  · cases l3
abbrev MO := List Sl → U → Option (Option Int × U)
def tEvO (G : Gx X.K) (m : MO) : TO := fun σ H Q => ∃ ua u B env o u', EnvOk G ua env σ B H ∧ Wd ua u B H ∧ m env u = some (o, u') ∧ ∀ H', AftB ua B H u' H' → Q o H'
def moNo : MO := fun _ u => some (none, u)
def moAt (m : M) : MO := fun env u => bnd (m env u) fun d u1 => match d with
  | .int i => some (some i, u1)
  | _ => none
theorem _root_.L2.PO.imp {X : Cx} {e : Option Expr} {t t' : TO} (h : PO X e t) (i : ∀ σ H Q, t' σ H Q → t σ H Q) : PO X e t' := ⟨fun pins s σ H Q I q => h.run pins s σ H Q I (i σ H Q q)⟩
theorem do_no : PO X none (tEvO G moNo) := po_none.imp fun σ H Q h => by
  obtain ⟨ua, u, B, env, d, u', hE, hW, hm, q⟩ := h
  cases hm
  exact q _ ⟨B, .refl, hW⟩
theorem do_at (ha : PE X a (tEv G ma)) : PO X (some a) (tEvO G (moAt ma)) := (po_some ha).imp fun σ H Q h => by
  obtain ⟨ua, u, B, env, d, u', hE, hW, hm, q⟩ := h
  obtain ⟨x, u1, h1, h2⟩ := bnd_some hm
  split at h2
  · cases h2
    refine ⟨ua, u, B, env, _, _, hE, hW, h1, fun v H1 ⟨B1, g1, w1, r1⟩ => ?_⟩
    cases r1.int
    exact ⟨_, rfl, q _ ⟨B1, g1, w1⟩⟩
  · cases h2
def cutD (xs : List D) (lo hi : Option Int) : List D := (xs.drop (HT.sIx xs.length 0 lo)).take (HT.sIx xs.length xs.length hi - HT.sIx xs.length 0 lo)
def slD : D → Option Int → Option Int → Option D
  | .lst ds, lo, hi => some (.lst (cutD ds lo hi))
  | .tup ds, lo, hi => some (.tup (cutD ds lo hi))
  | .str z, lo, hi => if z.length ≤ sizeLine then some (.str (cutS z lo hi)) else none
  | _, _, _ => none
def mSl (a : M) (lo hi : MO) : M := fun env u => bnd (a env u) fun x u1 => bnd (lo env u1) fun l u2 => bnd (hi env u2) fun h u3 => lft (slD x l h) u3
theorem Reps.cut {ua : Option Addr} {B : Hp} {ds : List D} {vs : List V} (r : Reps G ua ds vs B) (lo hi : Option Int) : Reps G ua (cutD ds lo hi) (cutV vs lo hi) B := by
  unfold cutD cutV
  rw [← r.len]
  exact (r.drop _).take _
theorem dv_sl {lo hi : Option Expr} {ml mh : MO} {p2 : Pos} (ha : PE X a (tEv G ma)) (hl : PO X lo (tEvO G ml)) (hh : PO X hi (tEvO G mh)) : PE X (.Subscript a (.Slice lo hi none p2) pos) (tEv G (mSl ma ml mh)) := by
  refine (pe_slice (sl_list.or (sl_tupF.or sl_str)) ha hl hh).imp fun σ H Q h => ?_
  obtain ⟨ua, u, B, env, d, u', hE, hW, hm, q⟩ := h
  obtain ⟨x, u1, h1, h2⟩ := bnd_some hm
  obtain ⟨l, u2, h2, h3⟩ := bnd_some h2
  obtain ⟨h, u3, h3, h4⟩ := bnd_some h3
  obtain ⟨l4, rfl⟩ := lft_some h4
  refine ⟨ua, u, B, env, x, u1, hE, hW, h1, fun v H1 ⟨B1, g1, w1, r1⟩ => ⟨ua, u1, B1, env, l, u2, hE.grow g1, w1, h2, fun H2 ⟨B2, g2, w2⟩ => ⟨ua, u2, B2, env, h, u', (hE.grow g1).grow g2, w2, h3, fun H3 ⟨B3, g3, w3⟩ => ?_⟩⟩⟩
  have r1 := (r1.mono _ _ g2.pub).mono _ _ g3.pub
  have gg := g1.trans (g2.trans g3)
  unfold slD at l4
  split at l4
  · cases l4
    obtain ⟨p, xs, rfl, h, r3⟩ := r1.lst
    exact .inl ⟨p, xs, rfl, .of (w3.sub _ _ h), fun p hp => q _ _ (.up gg (.lst w3 hp (r3.cut _ _)))⟩
  · cases l4
    have r1' := r1
    obtain ⟨p, xs, rfl, h, r3⟩ := r1.tup
    refine .inr (.inl ⟨p, xs, rfl, (h.mono w3.sub).sq, fun hw => q _ _ ⟨B3, gg, w3, ?_⟩, fun _ p o hp ho => q _ _ (.up gg (.tup w3 hp ho (r3.cut _ _)))⟩)
    unfold cutD
    rw [r3.len, hw.1, hw.2, List.drop_zero, Nat.sub_zero, ← r3.len, List.take_length]
    exact r1'
  · split at l4
    · cases l4
      cases r1.str
      exact .inr (.inr ⟨_, rfl, ‹_›, q _ _ ⟨B3, gg, w3, rep_str⟩⟩)
    · cases l4
  · cases l4

/-! ### sep.join(list of texts) -/
def joinD : D → D → Option D
  | .str a, .lst ds => (strsOf ds).bind fun ys => if (ys.map (·.length)).sum + ys.length * a.length ≤ 16777216 then some (.str (Txt.join a ys)) else none
  | _, _ => none
theorem joinD_inv {x y d : D} (h : joinD x y = some d) : ∃ z ds ys, x = .str z ∧ y = .lst ds ∧ strsOf ds = some ys ∧ (ys.map (·.length)).sum + ys.length * z.length ≤ 16777216 ∧ d = .str (Txt.join z ys) := by
  unfold joinD at h
  split at h
  · rename_i z ds
    cases q2 : strsOf ds with
    | none => rw [q2] at h; cases h
    | some ys =>
      rw [q2] at h
      simp only [Option.bind_some] at h
      split at h
      · cases h; exact ⟨z, ds, ys, rfl, rfl, q2, ‹_›, rfl⟩
      · cases h
  · cases h
theorem dv_join {apos : Pos} (ha : PE X a (tEv G ma)) (hb : PE X b (tEv G mb)) (hs : starEach [b] X.env = [(false, eval b X.env)] := by rfl) (hbase : attributeBase a "join" X.env (eval a X.env) = eval a X.env := by rfl) (hline : (apos.endLine == pos.line) = true := by rfl) :
    PE X (.Call (.Attribute a "join" apos) [b] [] pos) (tEv G (mBin joinD ma mb)) := by
  refine (pe_join ha hb hs hbase hline).imp fun σ H Q h => ?_
  obtain ⟨ua, u, B, env, d, u', hE, hW, hm, q⟩ := h
  obtain ⟨x, u1, h1, h2⟩ := bnd_some hm
  obtain ⟨y, u2, h4, h3⟩ := bnd_some h2
  obtain ⟨l3, rfl⟩ := lft_some h3
  refine ⟨ua, u, B, env, x, u1, hE, hW, h1, fun v H1 ⟨B1, g1, w1, r1⟩ => ?_⟩
  obtain ⟨z, ds, ys, rfl, rfl, q2, hz, rfl⟩ := joinD_inv l3
  cases r1.str
  refine ⟨⟨_, rfl⟩, ua, u1, B1, env, _, u', hE.grow g1, w1, h4, fun v2 H2 ⟨B2, g2, w2, r2⟩ => ?_⟩
  obtain ⟨p, xs, rfl, h, r3⟩ := r2.lst
  rw [strsOf_eq q2] at r3
  rw [r3.strs_of] at h
  exact ⟨_, p, ys, rfl, rfl, .inl (.of (w2.sub _ _ h)), hz, q _ _ ⟨B2, g1.trans g2, w2, rep_str⟩⟩
end
end Dv

/-! Dv5: walks, comprehensions, statements, defs. -/
namespace Dv
open PySem PySem.Spec PyProof.Rows L2 RZ

/-! ### what is walked -/
def Wk {K : PySem.W.Frag} (G : Gx K) (ua : Option Addr) (J : It) (B0 : Hp) (ds : List D) : Prop := ∀ (i : Nat) (B H : Hp) (u : U), Same B0 B → Wd ua u B H →
  (∀ d, ds[i]? = some d → J.go i H ∧ ∀ x H', J.yld i H x H' → Aft G ua B H u d x H') ∧ (ds[i]? = none → J.stop i H)
abbrev MI := List Sl → U → Option (List D × U)
def tIt {K : PySem.W.Frag} (G : Gx K) (m : MI) : TI := fun σ H R => ∃ ua u B env ds u', EnvOk G ua env σ B H ∧ Wd ua u B H ∧ m env u = some (ds, u') ∧ ∀ J B' H', Grow ua B H B' H' → Wd ua u' B' H' → Wk G ua J B' ds → R J H'
def itemsD : D → Option (List D)
  | .lst ds => some ds
  | .tup ds => some ds
  | .str x => some (x.cps.toList.map fun c => .str ⟨#[c]⟩)
  | _ => none
def mItems (m : M) : MI := fun env u => bnd (m env u) fun d u1 => lft (itemsD d) u1
section
variable {X : Cx} {G : Gx X.K} {ua : Option Addr} {B H : Hp} {ds es : List D} {vs ws : List V}
theorem Reps.none {ua : Option Addr} {i : Nat} (r : Reps G ua ds vs B) (h : ds[i]? = none) : vs[i]? = none := by
  rw [List.getElem?_eq_none_iff] at h ⊢
  rw [← r.len]; exact h
theorem wk_lst {a : Addr} (h : B a = some (.lst vs)) (r : Reps G ua ds vs B) : Wk G ua (Itl X.K a) B ds := fun i B' H' u s w => by
  have hq : SqL X.K H' a vs := .of (w.sub _ _ (s _ _ h))
  refine ⟨fun d hd => ?_, fun hn => ⟨vs, hq, List.getElem?_eq_none_iff.mp (r.none hn)⟩⟩
  obtain ⟨v, hv, rv⟩ := r.get hd
  refine ⟨⟨vs, v, hq, hv⟩, fun x H2 y => ?_⟩
  obtain ⟨rfl, y⟩ := y
  have := y vs hq
  rw [hv] at this; cases this
  exact .here w (rv.mono _ _ s)
theorem wk_tup {a : Addr} (h : TupB B a vs) (r : Reps G ua ds vs B) : Wk G ua (Itt X.K a) B ds := fun i B' H' u s w => by
  have hq : SqT X.K H' a vs := ((h.mono s).mono w.sub).sq
  refine ⟨fun d hd => ?_, fun hn => ⟨vs, hq, List.getElem?_eq_none_iff.mp (r.none hn)⟩⟩
  obtain ⟨v, hv, rv⟩ := r.get hd
  refine ⟨⟨vs, v, hq, hv⟩, fun x H2 y => ?_⟩
  obtain ⟨rfl, y⟩ := y
  have := y vs hq
  rw [hv] at this; cases this
  exact .here w (rv.mono _ _ s)
theorem wk_str {x : Str} : Wk G ua (Its x) B (x.cps.toList.map fun c => .str ⟨#[c]⟩) := fun i B' H' u s w => by
  refine ⟨fun d hd => ?_, fun hn => ?_⟩
  · rw [List.getElem?_map] at hd
    obtain ⟨c, hc, rfl⟩ := map_some hd
    have hc' : x.cps[i]? = some c := by rw [← Array.getElem?_toList]; exact hc
    refine ⟨(Array.getElem?_eq_some_iff.mp hc').1, fun v H2 y => ?_⟩
    obtain ⟨rfl, c2, h2, rfl⟩ := y
    rw [hc'] at h2; cases h2
    exact .here w rep_str
  · rw [List.getElem?_eq_none_iff, List.length_map, Array.length_toList] at hn
    exact hn
theorem di_items {tg e : Expr} {m : M} (he : PE X e (tEv G m)) : PI X tg e (tIt G (mItems m)) := by
  refine PI.by fun σ H R h => ?_
  obtain ⟨ua, u, B, env, ds, u', hE, hW, hm, q⟩ := h
  obtain ⟨d, u1, h1, h2⟩ := bnd_some hm
  obtain ⟨l2, rfl⟩ := lft_some h2
  cases d with
  | lst xs =>
    cases l2
    refine ⟨_, pi_list he, ua, u, B, env, _, u', hE, hW, h1, fun v H1 ⟨B1, g1, w1, r1⟩ => ?_⟩
    obtain ⟨a, vs, rfl, h, rs⟩ := r1.lst
    exact ⟨a, rfl, ⟨vs, .of (w1.sub _ _ h)⟩, q _ _ _ g1 w1 (wk_lst h rs)⟩
  | tup xs =>
    cases l2
    refine ⟨_, pi_tup he, ua, u, B, env, _, u', hE, hW, h1, fun v H1 ⟨B1, g1, w1, r1⟩ => ?_⟩
    obtain ⟨a, vs, rfl, h, rs⟩ := r1.tup
    exact ⟨a, rfl, ⟨vs, (h.mono w1.sub).sq⟩, q _ _ _ g1 w1 (wk_tup h rs)⟩
  | str x =>
    cases l2
    refine ⟨_, pi_str he, ua, u, B, env, _, u', hE, hW, h1, fun v H1 ⟨B1, g1, w1, r1⟩ => ?_⟩
    cases r1.str
    exact ⟨_, rfl, q _ _ _ g1 w1 wk_str⟩
  | _ => cases l2
def rangeD (lo : Int) (n : Nat) : List D := (List.range n).map fun i => .int (lo + (i : Nat))
theorem wk_range {lo : Int} {n : Nat} : Wk G ua (Itr lo n) B (rangeD lo n) := fun i B' H' u s w => by
  unfold rangeD
  refine ⟨fun d hd => ?_, fun hn => ?_⟩
  · rw [List.getElem?_map] at hd
    obtain ⟨c, hc, rfl⟩ := map_some hd
    obtain ⟨hi, e⟩ := List.getElem?_eq_some_iff.mp hc
    rw [List.getElem_range] at e
    rw [List.length_range] at hi
    subst e
    refine ⟨hi, fun v H2 y => ?_⟩
    obtain ⟨rfl, rfl⟩ := y
    exact .here w rep_int
  · rw [List.getElem?_eq_none_iff, List.length_map, List.length_range] at hn
    exact hn
def mRange1 (m : M) : MI := fun env u => bnd (m env u) fun d u1 => match d with
  | .int j => if -(2 ^ 62) ≤ j ∧ j < 2 ^ 62 then some (rangeD 0 j.toNat, u1) else none
  | _ => none
def mRange2 (m m2 : M) : MI := fun env u => bnd (m env u) fun d u1 => bnd (m2 env u1) fun e u2 => match d, e with
  | .int i, .int j => if -(2 ^ 62) ≤ i ∧ i < 2 ^ 62 ∧ -(2 ^ 62) ≤ j ∧ j < 2 ^ 62 then some (rangeD i (j - i).toNat, u2) else none
  | _, _ => none
theorem di_range1 {tg a : Expr} {m : M} {p pos : Pos} (hg : Gl X "range") (hm : X.mg "range" = none) (ha : PE X a (tEv G m)) (hs : starEach [a] X.env = [(false, eval a X.env)] := by rfl) : PI X tg (.Call (.Name "range" p) [a] [] pos) (tIt G (mRange1 m)) := by
  refine (pi_range1 hg hm (pa_cons ha pa_nil hs) hs).imp fun σ H R h => ?_
  obtain ⟨ua, u, B, env, ds, u', hE, hW, hm, q⟩ := h
  obtain ⟨d, u1, h1, h2⟩ := bnd_some hm
  refine ⟨ua, u, B, env, d, u1, hE, hW, h1, fun v H1 ⟨B1, g1, w1, r1⟩ => ?_⟩
  split at h2
  · split at h2
    · rename_i hj
      cases h2
      cases r1.int
      exact ⟨_, rfl, hj.1, hj.2, q _ _ _ g1 w1 wk_range⟩
    · cases h2
  · cases h2
theorem di_range2 {tg a b : Expr} {m m2 : M} {p pos : Pos} (hg : Gl X "range") (hm : X.mg "range" = none) (ha : PE X a (tEv G m)) (hb : PE X b (tEv G m2)) (hs : starEach [a, b] X.env = (false, eval a X.env) :: starEach [b] X.env := by rfl) (hs2 : starEach [b] X.env = [(false, eval b X.env)] := by rfl) :
    PI X tg (.Call (.Name "range" p) [a, b] [] pos) (tIt G (mRange2 m m2)) := by
  refine (pi_range2 hg hm (pa_cons ha (pa_cons hb pa_nil hs2) hs) (by rw [hs, hs2]) hs2).imp fun σ H R h => ?_
  obtain ⟨ua, u, B, env, ds, u', hE, hW, hm, q⟩ := h
  obtain ⟨d, u1, h1, h2⟩ := bnd_some hm
  obtain ⟨d2, u2, h3, h2⟩ := bnd_some h2
  refine ⟨ua, u, B, env, d, u1, hE, hW, h1, fun v H1 ⟨B1, g1, w1, r1⟩ => ⟨ua, u1, B1, env, d2, u2, hE.grow g1, w1, h3, fun v2 H2 ⟨B2, g2, w2, r2⟩ => ?_⟩⟩
  split at h2
  · split at h2
    · rename_i hj
      cases h2
      cases r1.int
      cases r2.int
      exact ⟨_, _, rfl, hj, q _ _ _ (g1.trans g2) w2 wk_range⟩
    · cases h2
  · cases h2
/-- enumerate of a list -/
def enumD : Nat → List D → List D
  | _, [] => []
  | n, d :: r => .pr [.int n, d] :: enumD (n + 1) r
theorem enumD_get : ∀ (ds : List D) (n i : Nat), (enumD n ds)[i]? = (ds[i]?).map fun d => .pr [.int ((n + i : Nat) : Int), d]
  | [], n, i => by unfold enumD; simp
  | d :: r, n, 0 => by unfold enumD; simp
  | d :: r, n, i + 1 => by
    unfold enumD
    rw [List.getElem?_cons_succ, List.getElem?_cons_succ, enumD_get r (n + 1) i, show n + 1 + i = n + (i + 1) by omega]
theorem wk_enum {a : Addr} (h : B a = some (.lst vs)) (r : Reps G ua ds vs B) : Wk G ua (Ite X.K a) B (enumD 0 ds) := fun i B' H' u s w => by
  have hq : SqL X.K H' a vs := .of (w.sub _ _ (s _ _ h))
  rw [enumD_get]
  refine ⟨fun d hd => ?_, fun hn => ⟨vs, hq, List.getElem?_eq_none_iff.mp (r.none (Option.map_eq_none_iff.mp hn))⟩⟩
  obtain ⟨d', hd', rfl⟩ := map_some hd
  obtain ⟨v, hv, rv⟩ := r.get hd'
  refine ⟨⟨vs, v, hq, hv⟩, fun x H2 y => ?_⟩
  obtain ⟨T, x, rfl, hT, rfl, y⟩ := y
  have := y vs hq
  rw [hv] at this; cases this
  rw [Nat.zero_add]
  exact .pr w hT (.cons rep_int (.cons (rv.mono _ _ s) .nil))
def mEnum (m : M) : MI := fun env u => bnd (m env u) fun d u1 => match d with
  | .lst ds => some (enumD 0 ds, u1)
  | _ => none
theorem di_enum {a : Expr} {m : M} {p pos tpos : Pos} {elts : List Expr} {kk : Nat} (hg : Gl X "enumerate") (hm : X.mg "enumerate" = none) (ha : PE X a (tEv G m)) (hs : starEach [a] X.env = [(false, eval a X.env)] := by rfl) :
    PI X (.Tuple elts kk tpos) (.Call (.Name "enumerate" p) [a] [] pos) (tIt G (mEnum m)) := by
  refine (pi_enum hg hm (pa_cons ha pa_nil hs) hs).imp fun σ H R h => ?_
  obtain ⟨ua, u, B, env, ds, u', hE, hW, hm, q⟩ := h
  obtain ⟨d, u1, h1, h2⟩ := bnd_some hm
  refine ⟨ua, u, B, env, d, u1, hE, hW, h1, fun v H1 ⟨B1, g1, w1, r1⟩ => ?_⟩
  split at h2
  · cases h2
    obtain ⟨a, vs, rfl, h, rs⟩ := r1.lst
    exact ⟨a, vs, rfl, .of (w1.sub _ _ h), q _ _ _ g1 w1 (wk_enum h rs)⟩
  · cases h2
/-- zip of two lists, of two tuples -/
def zipD (ds es : List D) : List D := List.zipWith (fun x y => .pr [x, y]) ds es
theorem zipD_get (ds es : List D) (i : Nat) : (zipD ds es)[i]? = match ds[i]?, es[i]? with | some x, some y => some (.pr [x, y]) | _, _ => none := by
  unfold zipD; rw [List.getElem?_zipWith]; cases ds[i]? <;> cases es[i]? <;> rfl
theorem wk_zipL {a b : Addr} (h : B a = some (.lst vs)) (r : Reps G ua ds vs B) (h2 : B b = some (.lst ws)) (r2 : Reps G ua es ws B) : Wk G ua (Itz X.K a b) B (zipD ds es) := fun i B' H' u s w => by
  have hq : SqL X.K H' a vs := .of (w.sub _ _ (s _ _ h))
  have hq2 : SqL X.K H' b ws := .of (w.sub _ _ (s _ _ h2))
  rw [zipD_get]
  refine ⟨fun d hd => ?_, fun hn => ⟨vs, ws, hq, hq2, ?_⟩⟩
  · split at hd
    · rename_i x y hx hy
      cases hd
      obtain ⟨v, hv, rv⟩ := r.get hx
      obtain ⟨v2, hv2, rv2⟩ := r2.get hy
      refine ⟨⟨vs, ws, v, v2, hq, hq2, hv, hv2⟩, fun x H2 y => ?_⟩
      obtain ⟨T, x, y, rfl, hT, rfl, y1, y2⟩ := y
      have e1 := y1 vs hq
      have e2 := y2 ws hq2
      rw [hv] at e1; cases e1
      rw [hv2] at e2; cases e2
      exact .pr w hT (.cons (rv.mono _ _ s) (.cons (rv2.mono _ _ s) .nil))
    · cases hd
  · cases q1 : ds[i]? with
    | none => exact .inl (List.getElem?_eq_none_iff.mp (r.none q1))
    | some x =>
      cases q2 : es[i]? with
      | none => exact .inr (List.getElem?_eq_none_iff.mp (r2.none q2))
      | some y => rw [q1, q2] at hn; cases hn
theorem wk_zipT {a b : Addr} (h : TupB B a vs) (r : Reps G ua ds vs B) (h2 : TupB B b ws) (r2 : Reps G ua es ws B) : Wk G ua (ItzT X.K a b) B (zipD ds es) := fun i B' H' u s w => by
  have hq : SqT X.K H' a vs := ((h.mono s).mono w.sub).sq
  have hq2 : SqT X.K H' b ws := ((h2.mono s).mono w.sub).sq
  rw [zipD_get]
  refine ⟨fun d hd => ?_, fun hn => ⟨vs, ws, hq, hq2, ?_⟩⟩
  · split at hd
    · rename_i x y hx hy
      cases hd
      obtain ⟨v, hv, rv⟩ := r.get hx
      obtain ⟨v2, hv2, rv2⟩ := r2.get hy
      refine ⟨⟨vs, ws, v, v2, hq, hq2, hv, hv2⟩, fun x H2 y => ?_⟩
      obtain ⟨T, x, y, rfl, hT, rfl, y1, y2⟩ := y
      have e1 := y1 vs hq
      have e2 := y2 ws hq2
      rw [hv] at e1; cases e1
      rw [hv2] at e2; cases e2
      exact .pr w hT (.cons (rv.mono _ _ s) (.cons (rv2.mono _ _ s) .nil))
    · cases hd
  · cases q1 : ds[i]? with
    | none => exact .inl (List.getElem?_eq_none_iff.mp (r.none q1))
    | some x =>
      cases q2 : es[i]? with
      | none => exact .inr (List.getElem?_eq_none_iff.mp (r2.none q2))
      | some y => rw [q1, q2] at hn; cases hn
def mZip (m m2 : M) : MI := fun env u => bnd (m env u) fun d u1 => bnd (m2 env u1) fun e u2 => match d, e with
  | .lst ds, .lst es => some (zipD ds es, u2)
  | .tup ds, .tup es => some (zipD ds es, u2)
  | _, _ => none
theorem di_zip {a b : Expr} {m m2 : M} {p pos tpos : Pos} {elts : List Expr} {kk : Nat} (hg : Gl X "zip") (hm : X.mg "zip" = none) (ha : PE X a (tEv G m)) (hb : PE X b (tEv G m2))
    (hs : starEach [a, b] X.env = (false, eval a X.env) :: starEach [b] X.env := by rfl) (hs2 : starEach [b] X.env = (false, eval b X.env) :: starEach [] X.env := by rfl) (hpl : (backTo pos (starEach [b] X.env)).any (·.1) = false := by rfl) :
    PI X (.Tuple elts kk tpos) (.Call (.Name "zip" p) [a, b] [] pos) (tIt G (mZip m m2)) := by
  refine (pi_zipA hg hm (pa_cons ha (pa_cons hb pa_nil hs2) hs) hs hpl).imp fun σ H R h => ?_
  obtain ⟨ua, u, B, env, ds, u', hE, hW, hm, q⟩ := h
  obtain ⟨d, u1, h1, h2⟩ := bnd_some hm
  obtain ⟨d2, u2, h3, h2⟩ := bnd_some h2
  refine ⟨ua, u, B, env, d, u1, hE, hW, h1, fun v H1 ⟨B1, g1, w1, r1⟩ => ⟨ua, u1, B1, env, d2, u2, hE.grow g1, w1, h3, fun v2 H2 ⟨B2, g2, w2, r2⟩ => ?_⟩⟩
  have r1 := r1.mono _ _ g2.pub
  split at h2
  · cases h2
    obtain ⟨a, vs, rfl, h, rs⟩ := r1.lst
    obtain ⟨b, ws, rfl, h', rs'⟩ := r2.lst
    exact ⟨a, b, vs, ws, rfl, .inl ⟨.of (w2.sub _ _ h), .of (w2.sub _ _ h'), q _ _ _ (g1.trans g2) w2 (wk_zipL h rs h' rs')⟩⟩
  · cases h2
    obtain ⟨a, vs, rfl, h, rs⟩ := r1.tup
    obtain ⟨b, ws, rfl, h', rs'⟩ := r2.tup
    exact ⟨a, b, vs, ws, rfl, .inr ⟨(h.mono w2.sub).sq, (h'.mono w2.sub).sq, q _ _ _ (g1.trans g2) w2 (wk_zipT h rs h' rs')⟩⟩
  · cases h2
end

/-! ### targets -/
inductive Tgt where
  | one (i : Nat) | many (is : List Nat) | tree (ts : List (Nat ⊕ List Nat))
def treeIds : List (Nat ⊕ List Nat) → List Nat
  | [] => []
  | .inl i :: r => i :: treeIds r
  | .inr is :: r => is ++ treeIds r
def Tgt.ids : Tgt → List Nat
  | .one i => [i]
  | .many is => is
  | .tree ts => treeIds ts
def gNames : List Nat → TGs
  | [] => gNil
  | i :: r => gCons (gName i) (gNames r)
def gTrees (K : PySem.W.Frag) : List (Nat ⊕ List Nat) → TGs
  | [] => gNil
  | .inl i :: r => gCons (gName i) (gTrees K r)
  | .inr is :: r => gCons (gTup K is.length (gNames is)) (gTrees K r)
def gOf (K : PySem.W.Frag) : Tgt → TG
  | .one i => gName i
  | .many is => gTup K is.length (gNames is)
  | .tree ts => gTup K ts.length (gTrees K ts)
def setE : List Sl → List Nat → List D → List Sl
  | env, i :: is, d :: ds => setE (env.set i (Sl.pub d)) is ds
  | env, _, _ => env
def setV : List (Option V) → List Nat → List V → List (Option V)
  | σ, i :: is, v :: vs => setV (σ.set i (some v)) is vs
  | σ, _, _ => σ
theorem gNames_ok : ∀ (is : List Nat) (vs : List V) (σ : L2.St) (H : Hp) (Q : L2.St → Hp → Prop), vs.length = is.length → Q (setV σ is vs) H → gNames is vs σ H Q
  | [], [], σ, H, Q, _, q => ⟨rfl, q⟩
  | [], _ :: _, _, _, _, h, _ => by cases h
  | _ :: _, [], _, _, _, h, _ => by cases h
  | i :: is, v :: vs, σ, H, Q, h, q => ⟨v, vs, rfl, gNames_ok is vs _ H Q (by simpa using h) q⟩
section
variable {K : PySem.W.Frag} {G : Gx K} {ua : Option Addr} {B H : Hp}
theorem setE_ok : ∀ (is : List Nat) (ds : List D) (vs : List V) (env : List Sl) (σ : List (Option V)), EnvOk G ua env σ B H → Reps G ua ds vs B → EnvOk G ua (setE env is ds) (setV σ is vs) B H
  | [], ds, vs, env, σ, e, r => e
  | i :: is, [], vs, env, σ, e, r => by rw [r.of_nil]; exact e
  | i :: is, d :: ds, vs, env, σ, e, r => by
    obtain ⟨v, t, rfl, r1, r2⟩ := r.of_cons
    exact setE_ok is ds t _ _ (e.set r1 i) r2
end
theorem wipe_get (σ : List (Option V)) : ∀ (vs : List Nat) (j : Nat), (wipe σ vs)[j]? = if j ∈ vs then (σ[j]?).map (fun _ => none) else σ[j]?
  | [], j => by unfold wipe; simp
  | v :: vs, j => by
    unfold wipe
    by_cases h : v = j
    · subst h
      rw [if_pos List.mem_cons_self]
      by_cases hl : v < σ.length
      · rw [List.getElem?_set_self (by rw [wipe_length]; exact hl), List.getElem?_eq_getElem hl]; rfl
      · rw [List.getElem?_eq_none (by rw [List.length_set, wipe_length]; omega), List.getElem?_eq_none (by omega)]; rfl
    · rw [List.getElem?_set_ne h, wipe_get σ vs j]
      by_cases hj : j ∈ vs
      · rw [if_pos hj, if_pos (List.mem_cons_of_mem _ hj)]
      · rw [if_neg hj, if_neg (fun z => by rcases List.mem_cons.mp z with z | z; exact h z.symm; exact hj z)]
theorem wipe_set {σ : List (Option V)} {vs : List Nat} {i : Nat} {x : Option V} (h : i ∈ vs) : wipe (σ.set i x) vs = wipe σ vs := by
  apply List.ext_getElem?
  intro j
  rw [wipe_get, wipe_get]
  by_cases hj : j ∈ vs
  · rw [if_pos hj, if_pos hj]
    by_cases e : i = j
    · subst e
      by_cases hl : i < σ.length
      · rw [List.getElem?_set_self hl, List.getElem?_eq_getElem hl]; rfl
      · rw [List.getElem?_eq_none (by rw [List.length_set]; omega), List.getElem?_eq_none (by omega)]
    · rw [List.getElem?_set_ne e]
  · rw [if_neg hj, if_neg hj, List.getElem?_set_ne (fun z => hj (by rw [← z]; exact h))]
theorem wipe_wipe {σ : List (Option V)} {vs : List Nat} : wipe (wipe σ vs) vs = wipe σ vs := by
  apply List.ext_getElem?
  intro j
  rw [wipe_get, wipe_get]
  by_cases hj : j ∈ vs
  · rw [if_pos hj, if_pos hj]; cases σ[j]? <;> rfl
  · rw [if_neg hj, if_neg hj]
theorem wipe_setV {vs : List Nat} : ∀ {is : List Nat} {xs : List V} {σ : List (Option V)}, (∀ i ∈ is, i ∈ vs) → wipe (setV σ is xs) vs = wipe σ vs
  | [], _, _, _ => rfl
  | _ :: _, [], _, _ => rfl
  | i :: is, x :: xs, σ, h => by
    show wipe (setV (σ.set i (some x)) is xs) vs = _
    rw [wipe_setV fun j hj => h j (List.mem_cons_of_mem _ hj), wipe_set (h i List.mem_cons_self)]
theorem setV_keep : ∀ {is : List Nat} {vs : List V} {σ : List (Option V)} (j : Nat) (x : V), (setV σ is vs)[j]? = some (some x) → j ∉ is → σ[j]? = some (some x)
  | [], _, _, _, _, h, _ => h
  | _ :: _, [], _, _, _, h, _ => h
  | i :: is, v :: vs, σ, j, x, h, hj => by
    have := setV_keep (is := is) (vs := vs) (σ := σ.set i (some v)) j x h (fun z => hj (List.mem_cons_of_mem _ z))
    rw [List.getElem?_set_ne (fun z => hj (by rw [z]; exact List.mem_cons_self))] at this
    exact this
def flatN (n : Nat) : D → Option (List D)
  | .tup ds => if ds.length = n then some ds else none
  | .pr ds => if ds.length = n then some ds else none
  | _ => none
theorem flatN_ok {K : PySem.W.Frag} {G : Gx K} {ua : Option Addr} {u : U} {B H : Hp} {n : Nat} {d : D} {v : V} {ds : List D} (w : Wd ua u B H) (r : Rep G ua d v B) (h : flatN n d = some ds) : ∃ a vs, v = .ref a ∧ SqT K H a vs ∧ vs.length = n ∧ Reps G ua ds vs B := by
  cases d with
  | tup xs =>
    dsimp only [flatN] at h
    split at h
    · rename_i hl
      cases h
      obtain ⟨a, vs, rfl, h, rs⟩ := r.tup
      exact ⟨a, vs, rfl, (h.mono w.sub).sq, by rw [← rs.len]; exact hl, rs⟩
    · cases h
  | pr xs =>
    dsimp only [flatN] at h
    split at h
    · rename_i hl
      cases h
      obtain ⟨a, vs, rfl, h, rs⟩ := r.pr
      exact ⟨a, vs, rfl, .of (w.sub _ _ h), by rw [← rs.len]; exact hl, rs⟩
    · cases h
  | _ => cases h
def setT : List Sl → List (Nat ⊕ List Nat) → List D → Option (List Sl)
  | env, [], [] => some env
  | env, .inl i :: r, d :: ds => setT (env.set i (Sl.pub d)) r ds
  | env, .inr is :: r, d :: ds => match flatN is.length d with
    | some xs => setT (setE env is xs) r ds
    | none => none
  | _, _, _ => none
theorem tree_ok {K : PySem.W.Frag} {G : Gx K} {ua : Option Addr} {u : U} {B H : Hp} (w : Wd ua u B H) : ∀ (ts : List (Nat ⊕ List Nat)) (ds : List D) (vs : List V) (env env' : List Sl) (σ : List (Option V)) (Q : L2.St → Hp → Prop), EnvOk G ua env σ B H → Reps G ua ds vs B → setT env ts ds = some env' →
    (∀ σ' : List (Option V), EnvOk G ua env' σ' B H → (∀ vs, (∀ i ∈ treeIds ts, i ∈ vs) → wipe σ' vs = wipe σ vs) → (∀ (j : Nat) x, σ'[j]? = some (some x) → j ∉ treeIds ts → σ[j]? = some (some x)) → Q σ' H) → gTrees K ts vs σ H Q
  | [], [], vs, env, env', σ, Q, e, r, h, q => by
    cases h
    rw [r.of_nil]
    exact ⟨rfl, q σ e (fun _ _ => rfl) fun _ _ h _ => h⟩
  | [], _ :: _, vs, env, env', σ, Q, e, r, h, q => by cases h
  | .inl i :: ts, [], vs, env, env', σ, Q, e, r, h, q => by cases h
  | .inr is :: ts, [], vs, env, env', σ, Q, e, r, h, q => by cases h
  | .inl i :: ts, d :: ds, vs, env, env', σ, Q, e, r, h, q => by
    obtain ⟨v, t, rfl, r1, r2⟩ := r.of_cons
    refine ⟨v, t, rfl, ?_⟩
    refine tree_ok w ts ds t (env.set i (Sl.pub d)) env' (σ.set i (some v)) Q (e.set r1 i) r2 h fun σ' e' hw hk => q σ' e' (fun vs hv => ?_) fun j x hx hj => ?_
    · rw [hw vs (fun j hj => hv j (List.mem_cons_of_mem _ hj)), wipe_set (hv i List.mem_cons_self)]
    · have := hk j x hx (fun z => hj (List.mem_cons_of_mem _ z))
      rw [List.getElem?_set_ne (fun z => hj (by rw [z]; exact List.mem_cons_self))] at this
      exact this
  | .inr is :: ts, d :: ds, vs, env, env', σ, Q, e, r, h, q => by
    obtain ⟨v, t, rfl, r1, r2⟩ := r.of_cons
    have h : (match flatN is.length d with | some xs => setT (setE env is xs) ts ds | none => none) = some env' := h
    split at h
    · rename_i xs hf
      obtain ⟨a, ws, rfl, hs, hl, rs⟩ := flatN_ok w r1 hf
      refine ⟨_, t, rfl, a, ws, rfl, hs, hl, gNames_ok is ws σ H _ hl ?_⟩
      refine tree_ok w ts ds t (setE env is xs) env' (setV σ is ws) Q (setE_ok is xs ws env σ e rs) r2 h fun σ' e' hw hk => q σ' e' (fun vs hv => ?_) fun j x hx hj => ?_
      · rw [hw vs (fun j hj => hv j (List.mem_append_right _ hj)), wipe_setV fun j hj => hv j (List.mem_append_left _ hj)]
      · exact setV_keep j x (hk j x hx (fun z => hj (List.mem_append_right _ z))) fun z => hj (List.mem_append_left _ z)
    · cases h
def bindT : Tgt → D → List Sl → Option (List Sl)
  | .one i, d, env => some (env.set i (Sl.pub d))
  | .many is, .tup ds, env => if ds.length = is.length then some (setE env is ds) else none
  | .many is, .pr ds, env => if ds.length = is.length then some (setE env is ds) else none
  | .tree ts, d, env => match flatN ts.length d with
    | some ds => setT env ts ds
    | none => none
  | _, _, _ => none
theorem bindT_ok {K : PySem.W.Frag} {G : Gx K} {ua : Option Addr} {u : U} {B H : Hp} {t : Tgt} {d : D} {v : V} {env env' : List Sl} {σ : List (Option V)} {Q : L2.St → Hp → Prop} (e : EnvOk G ua env σ B H) (w : Wd ua u B H) (r : Rep G ua d v B) (b : bindT t d env = some env')
    (q : ∀ σ' : List (Option V), EnvOk G ua env' σ' B H → (∀ vs, (∀ i ∈ t.ids, i ∈ vs) → wipe σ' vs = wipe σ vs) → (∀ (j : Nat) x, σ'[j]? = some (some x) → j ∉ t.ids → σ[j]? = some (some x)) → Q σ' H) : gOf K t v σ H Q := by
  cases t with
  | one i =>
    unfold bindT at b; cases b
    refine q (σ.set i (some v)) (e.set r i) (fun vs h => wipe_set (h i (by simp [Tgt.ids]))) fun j x hx hj => ?_
    rw [List.getElem?_set_ne (fun z => hj (by simp [Tgt.ids, z]))] at hx
    exact hx
  | many is =>
    cases d with
    | tup ds =>
      dsimp only [bindT] at b
      split at b
      · rename_i hl
        cases b
        obtain ⟨a, vs, rfl, h, rs⟩ := r.tup
        have hlv : vs.length = is.length := by rw [← rs.len]; exact hl
        refine ⟨a, vs, rfl, (h.mono w.sub).sq, hlv, gNames_ok is vs σ H Q hlv (q _ (setE_ok is ds vs env σ e rs) (fun ws h => wipe_setV h) ?_)⟩
        clear q e hl hlv h rs
        induction is generalizing σ vs with
        | nil => intro j x hx _; exact hx
        | cons i is ih =>
          intro j x hx hj
          cases vs with
          | nil => exact hx
          | cons v vs =>
            have hj' : j ∉ i :: is := hj
            have := ih (σ := σ.set i (some v)) (vs := vs) j x hx (fun z => hj' (List.mem_cons_of_mem _ z))
            rw [List.getElem?_set_ne (fun z => hj' (by rw [z]; exact List.mem_cons_self))] at this
            exact this
      · cases b
    | pr ds =>
      dsimp only [bindT] at b
      split at b
      · rename_i hl
        cases b
        obtain ⟨a, vs, rfl, h, rs⟩ := r.pr
        have hlv : vs.length = is.length := by rw [← rs.len]; exact hl
        refine ⟨a, vs, rfl, .of (w.sub _ _ h), hlv, gNames_ok is vs σ H Q hlv (q _ (setE_ok is ds vs env σ e rs) (fun ws h => wipe_setV h) ?_)⟩
        clear q e hl hlv h rs
        induction is generalizing σ vs with
        | nil => intro j x hx _; exact hx
        | cons i is ih =>
          intro j x hx hj
          cases vs with
          | nil => exact hx
          | cons v vs =>
            have hj' : j ∉ i :: is := hj
            have := ih (σ := σ.set i (some v)) (vs := vs) j x hx (fun z => hj' (List.mem_cons_of_mem _ z))
            rw [List.getElem?_set_ne (fun z => hj' (by rw [z]; exact List.mem_cons_self))] at this
            exact this
      · cases b
    | _ => cases b
  | tree ts =>
    unfold bindT at b
    dsimp only at b
    split at b
    · rename_i ds hf
      obtain ⟨a, vs, rfl, hs, hl, rs⟩ := flatN_ok w r hf
      exact ⟨a, vs, rfl, hs, hl, tree_ok w ts ds vs env env' σ Q e rs b q⟩
    · cases b
end Dv

/-! Dv6: comprehensions, statements, defs. -/
namespace Dv
open PySem PySem.Spec PyProof.Rows L2

/-! ### comprehensions -/
def compL (f : D → U → Option (Option D × U)) : List D → U → Option (List D × U)
  | [], u => some ([], u)
  | d :: ds, u => bnd (f d u) fun o u1 => bnd (compL f ds u1) fun r u2 => some (match o with | some x => x :: r | none => r, u2)
def turnL (t : Tgt) (own : List Nat) (env : List Sl) (mc : MB) (me : M) : D → U → Option (Option D × U) := fun d u => match bindT t d (wipeE env own) with
  | none => none
  | some env' => bnd (mc env' u) fun b u1 => if b = true then bnd (me env' u1) fun x u2 => some (some x, u2) else some (none, u1)
def mLc (t : Tgt) (own : List Nat) (mi : MI) (mc : MB) (me : M) : M := fun env u => bnd (mi env u) fun ds u1 => bnd (compL (turnL t own env mc me) ds u1) fun r u2 => if r.length ≤ sizeLine then some (.lst r, u2) else none
def mYes : MB := fun _ u => some (true, u)
theorem Grow.put {ua : Option Addr} {B H B' H' : Hp} {p : Addr} {o : HO} (g : Grow ua B H B' H') (h : H p = none) : Grow ua B H B' (upd H' p o) := by
  refine ⟨fun a x e n => ?_, fun a e => ?_, g.pub, g.new⟩
  · rw [upd_ne (ne_of_none e h)]; exact g.keep a x e n
  · by_cases q : a = p
    · subst q; exact h
    · rw [upd_ne q] at e; exact g.live a e
/-- one's own object is shown to all -/
theorem Grow.show {ua : Option Addr} {B H B' H' : Hp} {p : Addr} {o : HO} (g : Grow ua B H B' H') (h : H p = none) (hb : B' p = none) : Grow ua B H (upd B' p o) H' := by
  refine ⟨g.keep, g.live, fun a x e => same_new hb a x (g.pub a x e), fun a x e => ?_⟩
  by_cases q : a = p
  · subst q; exact .inr h
  · rw [upd_ne q] at e; exact g.new a x e
theorem Wd.show {ua : Option Addr} {u : U} {B H : Hp} {p : Addr} {o : HO} (w : Wd ua u B H) (h : H p = some o) (n : ua ≠ some p) : Wd ua u (upd B p o) H := by
  refine ⟨fun a x e => ?_, fun a e => ?_⟩
  · by_cases q : a = p
    · subst q; rw [upd_same] at e; cases e; exact h
    · rw [upd_ne q] at e; exact w.sub a x e
  · rw [upd_ne (fun z => n (by rw [← z]; exact e))]; exact w.urn a e
theorem Grow.none_of {ua : Option Addr} {B H B' H' : Hp} {p : Addr} {o : HO} (g : Grow ua B H B' H') (h : H p = some o) (hb : B p = none) : B' p = none := by
  cases q : B' p with
  | none => rfl
  | some x =>
    rcases g.new p x q with z | z
    · rw [z] at hb; cases hb
    · rw [z] at h; cases h
section
variable {X : Cx} {G : Gx X.K} {mi : MI} {mc : MB} {me : M}
theorem lc_inner {t : Tgt} {own : List Nat} {σ : L2.St} {Q : VK} {ua : Option Addr} {u1 u' : U} {B1 H1 : Hp} {env : List Sl} {J : It} {ds r : List D} (ht : ∀ i ∈ t.ids, i ∈ own) (hE1 : EnvOk G ua env σ B1 H1) (w1 : Wd ua u1 B1 H1) (wk : Wk G ua J B1 ds)
    (h3 : compL (turnL t own env mc me) ds u1 = some (r, u')) (hr : r.length ≤ sizeLine) (q : ∀ v H', Aft G ua B1 H1 u' (.lst r) v H' → Q v H') :
    ∀ D, H1 D = none → ∃ W : Nat → Nat → Hp → Prop, (∃ m, W 0 m (upd H1 D (.lst []))) ∧ ∀ i m H, W i m H →
  (J.stop i H ∧ Q (.ref D) H) ∨ (J.go i H ∧ ∃ Nx : Hp → Prop, (∀ H', Nx H' → ∃ m', m' < m ∧ W (i + 1) m' H') ∧ ∀ x H', J.yld i H x H' → gOf X.K t x (wipe σ own) H' fun σ2 H2 => wipe σ2 own = wipe σ own ∧ tTst G mc σ2 H2 fun b H3 =>
    if b = true then tEv G me σ2 H3 fun y H4 => ∃ acc, H4 D = some (.lst acc) ∧ acc.length < sizeLine ∧ Nx (upd H4 D (.lst (acc ++ [y]))) else Nx H3) := by
  intro Dp hD
  refine ⟨fun i m H' => m = ds.length - i ∧ i ≤ ds.length ∧ ∃ B' uu done vs rest, Grow ua B1 H1 B' H' ∧ Wd ua uu B' H' ∧ H' Dp = some (.lst vs) ∧ B' Dp = none ∧ Reps G ua done vs B' ∧ compL (turnL t own env mc me) (ds.drop i) uu = some (rest, u') ∧ done ++ rest = r,
    ⟨ds.length, by omega, by omega, B1, u1, [], [], r, .own1 w1 hD, w1.own1 hD, upd_same, w1.none_of hD, .nil, h3, rfl⟩, ?_⟩
  rintro i m H' ⟨rfl, hi, B', uu, done, vs, rest, g2, w2, hv, hb, rs, hc, hcat⟩
  have sB : Same B1 B' := g2.pub
  have nu : ua ≠ some Dp := w1.ne_urn hD
  have hk := wk i B' H' uu sB w2
  by_cases hlt : i < ds.length
  · have hd : ds[i]? = some ds[i] := List.getElem?_eq_getElem hlt
    obtain ⟨hgo, hy⟩ := hk.1 _ hd
    rw [List.drop_eq_getElem_cons hlt] at hc
    obtain ⟨o, u3, c1, c2⟩ := bnd_some (show bnd (turnL t own env mc me ds[i] uu) _ = _ from hc)
    obtain ⟨rest', u4, c3, c4⟩ := bnd_some c2
    refine .inr ⟨hgo, fun H2 => ∃ B' uu done vs rest, Grow ua B1 H1 B' H2 ∧ Wd ua uu B' H2 ∧ H2 Dp = some (.lst vs) ∧ B' Dp = none ∧ Reps G ua done vs B' ∧ compL (turnL t own env mc me) (ds.drop (i + 1)) uu = some (rest, u') ∧ done ++ rest = r,
      fun H2 h2 => ⟨ds.length - (i + 1), by omega, rfl, hlt, h2⟩, fun x H2 y => ?_⟩
    obtain ⟨B2, g3, w3, r3⟩ := hy x H2 y
    have hv2 : H2 Dp = some (.lst vs) := g3.keep _ _ hv nu
    have hb2 : B2 Dp = none := g3.none_of hv hb
    have rs2 := rs.mono _ _ g3.pub
    have hE2 : EnvOk G ua (wipeE env own) (wipe σ own) B2 H2 := ((hE1.wipe own).grow g2).grow g3
    unfold turnL at c1
    split at c1
    · cases c1
    · rename_i env' hbt
      refine bindT_ok hE2 w3 r3 hbt fun σ' hE3 hwp hback => ⟨by rw [hwp own ht, wipe_wipe], ?_⟩
      obtain ⟨b, u5, c5, c6⟩ := bnd_some c1
      refine ⟨ua, uu, B2, env', b, u5, hE3, w3, c5, fun H3 ⟨B3, g4, w4⟩ => ?_⟩
      have hv3 : H3 Dp = some (.lst vs) := g4.keep _ _ hv2 nu
      have hb3 : B3 Dp = none := g4.none_of hv2 hb2
      have rs3 := rs2.mono _ _ g4.pub
      have gg := g2.trans (g3.trans g4)
      cases b with
      | true =>
        rw [if_pos rfl] at c6
        refine iteT ?_
        obtain ⟨x', u6, c7, c8⟩ := bnd_some c6
        cases c8
        cases c4
        refine ⟨ua, u5, B3, env', x', u3, hE3.grow g4, w4, c7, fun yv H4 ⟨B4, g5, w5, r5⟩ => ?_⟩
        have hv4 : H4 Dp = some (.lst vs) := g5.keep _ _ hv3 nu
        have hb4 : B4 Dp = none := g5.none_of hv3 hb3
        have rs4 := rs3.mono _ _ g5.pub
        refine ⟨vs, hv4, ?_, B4, u3, done ++ [x'], vs ++ [yv], rest', (gg.trans g5).put hD, w5.put hb4 nu, upd_same, hb4, rs4.append (.cons r5 .nil), c3, by rw [← hcat]; simp⟩
        have := congrArg List.length hcat
        rw [List.length_append, List.length_cons] at this
        rw [← rs4.len]
        omega
      | false =>
        rw [if_neg Bool.false_ne_true] at c6
        refine iteF ?_
        cases c6
        cases c4
        exact ⟨B3, _, done, vs, rest', gg, w4, hv3, hb3, rs3, c3, hcat⟩
  · have e : i = ds.length := by omega
    subst e
    rw [List.drop_length] at hc
    cases hc
    rw [List.append_nil] at hcat
    subst hcat
    refine .inl ⟨hk.2 (List.getElem?_eq_none (Nat.le_refl _)), q _ _ ⟨upd B' Dp (.lst vs), g2.show hD hb, w2.show hv nu, ?_⟩⟩
    unfold Rep
    exact ⟨Dp, vs, rfl, upd_same, rs.mono _ _ (same_new hb)⟩
theorem lc_innerD {t : Tgt} {own : List Nat} {σ : L2.St} {Qd : Hp → Prop} {ua : Option Addr} {u1 u' : U} {B1 H1 : Hp} {env : List Sl} {J : It} {ds r : List D} {Dp : Addr} (ht : ∀ i ∈ t.ids, i ∈ own) (hE1 : EnvOk G ua env σ B1 H1) (w1 : Wd ua u1 B1 H1) (wk : Wk G ua J B1 ds)
    (h3 : compL (turnL t own env mc me) ds u1 = some (r, u')) (hr : r.length ≤ sizeLine) (hD : H1 Dp = none) (q : ∀ H', Aft G ua B1 H1 u' (.lst r) (.ref Dp) H' → Qd H') :
    ∃ W : Nat → Nat → Hp → Prop, (∃ m, W 0 m (upd H1 Dp (.lst []))) ∧ ∀ i m H, W i m H →
  (J.stop i H ∧ Qd H) ∨ (J.go i H ∧ ∃ Nx : Hp → Prop, (∀ H', Nx H' → ∃ m', m' < m ∧ W (i + 1) m' H') ∧ ∀ x H', J.yld i H x H' → gOf X.K t x (wipe σ own) H' fun σ2 H2 => wipe σ2 own = wipe σ own ∧ tTst G mc σ2 H2 fun b H3 =>
    if b = true then tEv G me σ2 H3 fun y H4 => ∃ acc, H4 Dp = some (.lst acc) ∧ acc.length < sizeLine ∧ Nx (upd H4 Dp (.lst (acc ++ [y]))) else Nx H3) := by
  obtain ⟨W, h0, h⟩ := lc_inner (Q := fun v H => v = .ref Dp → Qd H) ht hE1 w1 wk h3 hr (fun v H' a e => q H' (by rw [← e]; exact a)) Dp hD
  refine ⟨W, h0, fun i m H w => ?_⟩
  rcases h i m H w with ⟨a, b⟩ | c
  · exact .inl ⟨a, b rfl⟩
  · exact .inr c
theorem lc_read {t : Tgt} {own : List Nat} {σ : L2.St} {H : Hp} {Q : VK} (ht : ∀ i ∈ t.ids, i ∈ own) (h : tEv G (mLc t own mi mc me) σ H Q) : tLc (tIt G mi) (gOf X.K t) (tTst G mc) (tEv G me) own σ H Q := by
  obtain ⟨ua, u, B, env, d, u', hE, hW, hm, q⟩ := h
  obtain ⟨ds, u1, h1, h2⟩ := bnd_some hm
  obtain ⟨r, u2, h3, h4⟩ := bnd_some h2
  split at h4
  · cases h4
    exact ⟨ua, u, B, env, ds, u1, hE, hW, h1, fun J B1 H1 g1 w1 wk => lc_inner ht (hE.grow g1) w1 wk h3 ‹_› fun v H' a => q v H' (.up g1 a)⟩
  · cases h4
theorem dts_no : PTs X [] (tTst G mYes) := ⟨fun pins s σ H Q I h => by
  obtain ⟨ua, u, B, env, b, u', hE, hW, hm, q⟩ := h
  cases hm
  exact pts_nil.run pins s σ H Q I (q _ ⟨B, .refl, hW⟩)⟩
theorem dts_one {c : Expr} (h : PT X c (tTst G mc)) : PTs X [c] (tTst G mc) := pts_one h
variable {elt tg iter : Expr} {ifs : List Expr} {scope : Scope} {own : List (Str × Nat)} {pos : Pos}
theorem dv_lc (t : Tgt) (ids : List Nat) (hc : X.calm = true) (hN : X.N.Nodup) (hi : PI X tg iter (tIt G mi)) (ok : BlkOk X.N X.env.scope scope own) (hid : own.map (·.2) = ids) (ht : ∀ i ∈ t.ids, i ∈ ids)
    (hg : ∀ (s : Shared) (H : Hp) (C : Addr) (cl : List (Str × Addr)) (fp : List Addr), PG (X.blk s H scope (compEnvC scope cl C X.env) fp) tg (gOf X.K t)) (hq : ∀ (s : Shared) (H : Hp) (C : Addr) (cl : List (Str × Addr)) (fp : List Addr), PTs (X.blk s H scope (compEnvC scope cl C X.env) fp) ifs (tTst (K := X.K) G mc))
    (he : ∀ (s : Shared) (H : Hp) (C : Addr) (cl : List (Str × Addr)) (fp : List Addr), PE (X.blk s H scope (compEnvC scope cl C X.env) fp) elt (tEv (K := X.K) G me)) (hs : ∀ x, foldedSetIterable iter X.env x = pure x := by intro _; rfl) :
    PE X (.ListComp elt [⟨tg, iter, ifs, 0⟩] scope pos) (tEv G (mLc t ids mi mc me)) := by
  subst hid
  exact (pe_lc hc hN hi ok hg hq he hs).imp fun _ _ _ h => lc_read ht h
end

/-! ### statements -/
inductive Fl where
  | nx (env : List Sl) | rt (d : D) | er (env : List Sl) (c : Str) (ns : List Str) (xs : List D)
/-- an error in the air: its class, its dict, its fields -/
def ErR {K : PySem.W.Frag} (G : Gx K) (ua : Option Addr) (c : Str) (ns : List Str) (xs : List D) (cls : Value) (d : Option Addr) (B : Hp) : Prop := ∃ C vs, G.exc c = some C ∧ cls = .ref C ∧ ErD B ns vs d ∧ Reps G ua xs vs B
theorem ErR.mono {K : PySem.W.Frag} {G : Gx K} {ua : Option Addr} {c : Str} {ns : List Str} {xs : List D} {cls : Value} {d : Option Addr} {B B' : Hp} (h : ErR G ua c ns xs cls d B) (s : Same B B') : ErR G ua c ns xs cls d B' := by
  obtain ⟨C, vs, h1, h2, h3, h4⟩ := h
  exact ⟨C, vs, h1, h2, h3.mono s, h4.mono _ _ s⟩
abbrev MS := List Sl → U → Option (Fl × U)
def OwnNew (env : List Sl) (σ : List (Option V)) (H0 : Hp) : Prop := ∀ (i : Nat) ds p, env[i]? = some (Sl.own ds) → σ[i]? = some (some (V.ref p)) → H0 p = none
theorem OwnNew.set {env : List Sl} {σ : List (Option V)} {H0 : Hp} (h : OwnNew env σ H0) (i : Nat) (d : D) (v : V) : OwnNew (env.set i (Sl.pub d)) (σ.set i (some v)) H0 := fun j ds p h1 h2 => by
  rcases get_set h1 with ⟨rfl, q⟩ | ⟨q, h1⟩
  · cases q
  · rw [List.getElem?_set_ne (fun z => q z.symm)] at h2
    exact h j ds p h1 h2
def tSt {K : PySem.W.Frag} (G : Gx K) (W : WX) (m : MS) : TS := fun Dn σ H => ∃ ua u B env fl u' B0 H0, Grow ua B0 H0 B H ∧ OwnNew env σ H0 ∧ EnvOk G ua env σ B H ∧ Wd ua u B H ∧ m env u = some (fl, u') ∧ match fl with
  | .nx env' => ∀ (σ' : List (Option V)) B' H', Grow ua B0 H0 B' H' → OwnNew env' σ' H0 → EnvOk G ua env' σ' B' H' → Wd ua u' B' H' → Dn.nx σ' H'
  | .rt d => ∀ v B' H', Grow ua B0 H0 B' H' → Wd ua u' B' H' → Rep G ua d v B' → Dn.rt v H'
  | .er env' c ns xs => ∀ (σ' : List (Option V)) B' H' cls d, Grow ua B0 H0 B' H' → OwnNew env' σ' H0 → EnvOk G ua env' σ' B' H' → Wd ua u' B' H' → ErR G ua c ns xs cls d B' → W cls d σ' H'
theorem _root_.L2.PS.imp {X : Cx} {st : Stmt} {t t' : TS} (h : PS X st t) (i : ∀ Dn σ H, t' Dn σ H → t Dn σ H) : PS X st t' := ⟨fun pins s σ H Q I q => h.run pins s σ H Q I (i Q σ H q)⟩
theorem _root_.L2.PSs.imp {X : Cx} {st : List Stmt} {t t' : TS} (h : PSs X st t) (i : ∀ Dn σ H, t' Dn σ H → t Dn σ H) : PSs X st t' := ⟨fun pins s σ H Q I q => h.run pins s σ H Q I (i Q σ H q)⟩
section
variable {X : Cx} {G : Gx X.K} {W : WX} {a b e : Expr} {me ma mb : M} {mc : MB} {pos : Pos} {st : Stmt} {sts : List Stmt} {m1 m2 : MS}
def sNil : MS := fun env u => some (.nx env, u)
def sCons (a b : MS) : MS := fun env u => bnd (a env u) fun fl u1 => match fl with
  | .nx env' => b env' u1
  | fl => some (fl, u1)
theorem dss_nil : PSs X [] (tSt G W sNil) := pss_nil.imp fun Dn σ H h => by
  obtain ⟨ua, u, B, env, fl, u', B0, H0, hg, hO, hE, hW, hm, q⟩ := h
  cases hm
  exact q σ B H hg hO hE hW
theorem dss_cons (h1 : PS X st (tSt G W m1)) (h2 : PSs X sts (tSt G W m2)) : PSs X (st :: sts) (tSt G W (sCons m1 m2)) := (pss_cons h1 h2).imp fun Dn σ H h => by
  obtain ⟨ua, u, B, env, fl, u', B0, H0, hg, hO, hE, hW, hm, q⟩ := h
  obtain ⟨f1, u1, c1, c2⟩ := bnd_some hm
  refine ⟨ua, u, B, env, f1, u1, B0, H0, hg, hO, hE, hW, c1, ?_⟩
  cases f1 with
  | nx env' => exact fun σ' B' H' g o e w => ⟨ua, u1, B', env', fl, u', B0, H0, g, o, e, w, c2, q⟩
  | rt d => cases c2; exact q
  | er env' c ns xs => cases c2; exact q
theorem dss_one (h1 : PS X st (tSt G W m1)) : PSs X [st] (tSt G W m1) := pss_one h1
def sSet (i : Nat) (m : M) : MS := fun env u => bnd (m env u) fun d u1 => some (.nx (env.set i (Sl.pub d)), u1)
theorem ds_set (i : Nat) {x : Str} {pos' : Pos} (hN : X.N.Nodup) (he : PE X e (tEv G me)) (hi : X.N[i]? = some x := by rfl) (hx : Loc X.env.scope x := by first | exact Or.inl rfl | exact Or.inr rfl) (hs : swapsWith e (some (.Name x pos')) pos.line X.env = pure false := by rfl)
    (hf : X.fn x = true ∨ X.env.scope.names.lookup x = some .local := by first | exact .inl rfl | exact .inr rfl | assumption) : PS X (.Assign [.Name x pos'] e pos) (tSt G W (sSet i me)) := (ps_set hN hi hx he hs hf).imp fun Dn σ H h => by
  obtain ⟨ua, u, B, env, fl, u', B0, H0, hg, hO, hE, hW, hm, q⟩ := h
  obtain ⟨d, u1, c1, c2⟩ := bnd_some hm
  cases c2
  exact ⟨ua, u, B, env, d, _, hE, hW, c1, fun v H1 ⟨B1, g1, w1, r1⟩ => q _ B1 H1 (hg.trans g1) (hO.set i d v) ((hE.grow g1).set r1 i) w1⟩
theorem ds_setLc (i : Nat) {y : Str} {py : Pos} {elt tg iter : Expr} {ifs : List Expr} {scope : Scope} {own : List (Str × Nat)} {spos : Pos} {mi : MI} (t : Tgt) (ids : List Nat) (hc : X.calm = true) (hN : X.N.Nodup)
    (hsw : swapsWith (.ListComp elt [⟨tg, iter, ifs, 0⟩] scope pos) (some (.Name y py)) spos.line X.env = pure true) (hi : PI X tg iter (tIt G mi)) (ok : BlkOk X.N X.env.scope scope own) (hid : own.map (·.2) = ids) (ht : ∀ i ∈ t.ids, i ∈ ids)
    (hg : ∀ (s : Shared) (H : Hp) (C : Addr) (cl : List (Str × Addr)) (fp : List Addr), PG (X.blk s H scope (compEnvC scope cl C X.env) fp) tg (gOf X.K t)) (hq : ∀ (s : Shared) (H : Hp) (C : Addr) (cl : List (Str × Addr)) (fp : List Addr), PTs (X.blk s H scope (compEnvC scope cl C X.env) fp) ifs (tTst (K := X.K) G mc))
    (he : ∀ (s : Shared) (H : Hp) (C : Addr) (cl : List (Str × Addr)) (fp : List Addr), PE (X.blk s H scope (compEnvC scope cl C X.env) fp) elt (tEv (K := X.K) G me)) (hy : X.N[i]? = some y := by rfl) (hyl : X.env.scope.names.lookup y = some .local := by rfl) (hs : ∀ x, foldedSetIterable iter X.env x = pure x := by intro _; rfl) :
    PS X (.Assign [.Name y py] (.ListComp elt [⟨tg, iter, ifs, 0⟩] scope pos) spos) (tSt G W (sSet i (mLc t ids mi mc me))) := by
  subst hid
  refine (ps_setLc hc hN hy hyl hsw hi ok hg hq he hs).imp fun Dn σ H h => ?_
  obtain ⟨ua, u, B, env, fl, u', B0, H0, hg, hO, hE, hW, hm, q⟩ := h
  obtain ⟨d, u1, c1, c2⟩ := bnd_some hm
  cases c2
  exact lc_read ht ⟨ua, u, B, env, d, _, hE, hW, c1, fun v H1 ⟨B1, g1, w1, r1⟩ => q _ B1 H1 (hg.trans g1) (hO.set i d v) ((hE.grow g1).set r1 i) w1⟩
/-- a, b = a tuple -/
def sTgt (t : Tgt) (m : M) : MS := fun env u => bnd (m env u) fun d u1 => match bindT t d env with
  | some env' => some (.nx env', u1)
  | none => none
theorem setE_own : ∀ {is : List Nat} {xs : List D} {env : List Sl} (j : Nat) (ds : Oo), (setE env is xs)[j]? = some (Sl.own ds) → xs.length = is.length → env[j]? = some (Sl.own ds) ∧ j ∉ is
  | [], _, _, _, _, h, _ => ⟨h, by simp⟩
  | _ :: _, [], _, _, _, _, hl => by cases hl
  | i :: is, x :: xs, env, j, ds, h, hl => by
    obtain ⟨h1, h2⟩ := setE_own (is := is) (xs := xs) (env := env.set i (Sl.pub x)) j ds h (by simpa using hl)
    rcases get_set h1 with ⟨rfl, q⟩ | ⟨q, h3⟩
    · cases q
    · exact ⟨h3, fun z => by rcases List.mem_cons.mp z with z | z; exact q z; exact h2 z⟩
theorem flatN_len {n : Nat} {d : D} {xs : List D} (h : flatN n d = some xs) : xs.length = n := by
  cases d with
  | tup ys => dsimp only [flatN] at h; split at h; (cases h; assumption); cases h
  | pr ys => dsimp only [flatN] at h; split at h; (cases h; assumption); cases h
  | _ => cases h
theorem setT_own : ∀ {ts : List (Nat ⊕ List Nat)} {xs : List D} {env env' : List Sl} (j : Nat) (ds : Oo), setT env ts xs = some env' → env'[j]? = some (Sl.own ds) → env[j]? = some (Sl.own ds) ∧ j ∉ treeIds ts
  | [], [], _, _, _, _, b, h => by cases b; exact ⟨h, by simp [treeIds]⟩
  | [], _ :: _, _, _, _, _, b, _ => by cases b
  | .inl _ :: _, [], _, _, _, _, b, _ => by cases b
  | .inr _ :: _, [], _, _, _, _, b, _ => by cases b
  | .inl i :: ts, x :: xs, env, env', j, ds, b, h => by
    obtain ⟨h1, h2⟩ := setT_own (ts := ts) (xs := xs) (env := env.set i (Sl.pub x)) j ds b h
    rcases get_set h1 with ⟨rfl, q⟩ | ⟨q, h3⟩
    · cases q
    · exact ⟨h3, fun z => by rcases List.mem_cons.mp z with z | z; exact q z; exact h2 z⟩
  | .inr is :: ts, x :: xs, env, env', j, ds, b, h => by
    have b : (match flatN is.length x with | some ys => setT (setE env is ys) ts xs | none => none) = some env' := b
    split at b
    · rename_i ys hf
      obtain ⟨h1, h2⟩ := setT_own (ts := ts) (xs := xs) (env := setE env is ys) j ds b h
      obtain ⟨h3, h4⟩ := setE_own j ds h1 (flatN_len hf)
      exact ⟨h3, fun z => (List.mem_append.mp z).elim h4 h2⟩
    · cases b
theorem bindT_own {t : Tgt} {d : D} {env env' : List Sl} (b : bindT t d env = some env') (j : Nat) (ds : Oo) (h : env'[j]? = some (Sl.own ds)) : env[j]? = some (Sl.own ds) ∧ j ∉ t.ids := by
  cases t with
  | one i =>
    unfold bindT at b; cases b
    rcases get_set h with ⟨rfl, q⟩ | ⟨q, h⟩
    · cases q
    · exact ⟨h, by simp [Tgt.ids, q]⟩
  | many is =>
    cases d with
    | tup xs =>
      dsimp only [bindT] at b
      split at b
      · rename_i hl
        cases b
        show env[j]? = some (Sl.own ds) ∧ j ∉ is
        induction is generalizing env xs with
        | nil => exact ⟨h, by simp⟩
        | cons i is ih =>
          cases xs with
          | nil => cases hl
          | cons x xs =>
            obtain ⟨h1, h2⟩ := ih (env := env.set i (Sl.pub x)) xs (by simpa using hl) h
            rcases get_set h1 with ⟨rfl, q⟩ | ⟨q, h3⟩
            · cases q
            · exact ⟨h3, fun z => by rcases List.mem_cons.mp z with z | z; exact q z; exact h2 z⟩
      · cases b
    | pr xs =>
      dsimp only [bindT] at b
      split at b
      · rename_i hl
        cases b
        show env[j]? = some (Sl.own ds) ∧ j ∉ is
        induction is generalizing env xs with
        | nil => exact ⟨h, by simp⟩
        | cons i is ih =>
          cases xs with
          | nil => cases hl
          | cons x xs =>
            obtain ⟨h1, h2⟩ := ih (env := env.set i (Sl.pub x)) xs (by simpa using hl) h
            rcases get_set h1 with ⟨rfl, q⟩ | ⟨q, h3⟩
            · cases q
            · exact ⟨h3, fun z => by rcases List.mem_cons.mp z with z | z; exact q z; exact h2 z⟩
      · cases b
    | _ => cases b
  | tree ts =>
    unfold bindT at b
    dsimp only at b
    split at b
    · exact setT_own j ds b h
    · cases b
theorem ds_tgt (t : Tgt) {tg : Expr} (he : PE X e (tEv G me)) (hg : PG X tg (gOf X.K t)) (hs : swapsWithSole [tg] e pos.line X.env = pure false := by rfl) (hw : swappedStores [tg] e X.env = pure none := by rfl)
    (h1 : (assignEach [tg] X.env).map (·.2) = [assign tg X.env] := by rfl) : PS X (.Assign [tg] e pos) (tSt G W (sTgt t me)) := (ps_asg he hg hs hw h1).imp fun Dn σ H h => by
  obtain ⟨ua, u, B, env, fl, u', B0, H0, hg, hO, hE, hW, hm, q⟩ := h
  obtain ⟨d, u1, c1, c2⟩ := bnd_some hm
  split at c2
  · rename_i env' hb
    cases c2
    refine ⟨ua, u, B, env, d, _, hE, hW, c1, fun v H1 ⟨B1, g1, w1, r1⟩ => bindT_ok (hE.grow g1) w1 r1 hb fun σ' e' _ hk => q _ B1 H1 (hg.trans g1) (fun j ds p z1 z2 => ?_) e' w1⟩
    obtain ⟨z3, z4⟩ := bindT_own hb j ds z1
    exact hO j ds p z3 (hk j _ z2 z4)
  · cases c2
/-- a, b = x, y -/
def sPar (i j : Nat) (a b : M) : MS := fun env u => bnd (a env u) fun d u1 => bnd (b env u1) fun d2 u2 => some (.nx ((env.set i (Sl.pub d)).set j (Sl.pub d2)), u2)
theorem ds_par (i j : Nat) {x y : Str} {px py pt pt2 : Pos} {kt k2 : Nat} (ha : PE X a (tEv G ma)) (hb : PE X b (tEv G mb)) (h : ∀ {ta : TA}, PA X [a, b] ta → PS X (.Assign [.Tuple [.Name x px, .Name y py] kt pt] (.Tuple [a, b] k2 pt2) pos) (tPar i j ta))
    (hs : starEach (a :: [b]) X.env = (false, eval a X.env) :: starEach [b] X.env := by rfl) (hs2 : starEach (b :: []) X.env = (false, eval b X.env) :: starEach [] X.env := by rfl) :
    PS X (.Assign [.Tuple [.Name x px, .Name y py] kt pt] (.Tuple [a, b] k2 pt2) pos) (tSt G W (sPar i j ma mb)) := (h (pa_cons ha (pa_cons hb pa_nil hs2) hs)).imp fun Dn σ H h => by
  obtain ⟨ua, u, B, env, fl, u', B0, H0, hg, hO, hE, hW, hm, q⟩ := h
  obtain ⟨d, u1, c1, c2⟩ := bnd_some hm
  obtain ⟨d2, u2, c3, c4⟩ := bnd_some c2
  cases c4
  refine ⟨ua, u, B, env, d, u1, hE, hW, c1, fun v H1 ⟨B1, g1, w1, r1⟩ => ⟨ua, u1, B1, env, d2, _, hE.grow g1, w1, c3, fun v2 H2 ⟨B2, g2, w2, r2⟩ => ?_⟩⟩
  exact ⟨v, v2, rfl, q _ B2 H2 (hg.trans (g1.trans g2)) ((hO.set i d v).set j d2 v2) ((((hE.grow g1).grow g2).set (r1.mono _ _ g2.pub) i).set r2 j) w2⟩
def sRet (m : M) : MS := fun env u => bnd (m env u) fun d u1 => some (.rt d, u1)
theorem ds_ret (he : PE X e (tEv G me)) : PS X (.Return (some e) pos) (tSt G W (sRet me)) := (ps_ret he).imp fun Dn σ H h => by
  obtain ⟨ua, u, B, env, fl, u', B0, H0, hg, hO, hE, hW, hm, q⟩ := h
  obtain ⟨d, u1, c1, c2⟩ := bnd_some hm
  cases c2
  exact ⟨ua, u, B, env, d, _, hE, hW, c1, fun v H1 ⟨B1, g1, w1, r1⟩ => q v B1 H1 (hg.trans g1) w1 r1⟩
def sIf (c : MB) (a b : MS) : MS := fun env u => bnd (c env u) fun k u1 => if k = true then a env u1 else b env u1
theorem ds_if {c : Expr} {x y : List Stmt} (hc : PT X c (tTst G mc)) (ha : PSs X x (tSt G W m1)) (hb : PSs X y (tSt G W m2)) : PS X (.If c x y pos) (tSt G W (sIf mc m1 m2)) := (ps_if hc ha hb).imp fun Dn σ H h => by
  obtain ⟨ua, u, B, env, fl, u', B0, H0, hg, hO, hE, hW, hm, q⟩ := h
  obtain ⟨k, u1, c1, c2⟩ := bnd_some hm
  refine ⟨ua, u, B, env, k, u1, hE, hW, c1, fun H1 ⟨B1, g1, w1⟩ => ?_⟩
  cases k with
  | true => rw [if_pos rfl] at c2 ⊢; exact ⟨ua, u1, B1, env, fl, u', B0, H0, hg.trans g1, hO, hE.grow g1, w1, c2, q⟩
  | false => rw [if_neg Bool.false_ne_true] at c2 ⊢; exact ⟨ua, u1, B1, env, fl, u', B0, H0, hg.trans g1, hO, hE.grow g1, w1, c2, q⟩
def sDrop (m : M) : MS := fun env u => bnd (m env u) fun _ u1 => some (.nx env, u1)
theorem ds_drop (he : PE X e (tEv G me)) (hs : swapsWith e none pos.line X.env = pure false := by rfl) : PS X (.Expr e pos) (tSt G W (sDrop me)) := (ps_expr he hs).imp fun Dn σ H h => by
  obtain ⟨ua, u, B, env, fl, u', B0, H0, hg, hO, hE, hW, hm, q⟩ := h
  obtain ⟨d, u1, c1, c2⟩ := bnd_some hm
  cases c2
  exact ⟨ua, u, B, _, d, _, hE, hW, c1, fun v H1 ⟨B1, g1, w1, r1⟩ => q σ B1 H1 (hg.trans g1) hO (hE.grow g1) w1⟩
/-- a loop; no break, no continue -/
def forL (t : Tgt) (f : MS) : List D → List Sl → U → Option (Fl × U)
  | [], env, u => some (.nx env, u)
  | d :: ds, env, u => match bindT t d env with
    | none => none
    | some env1 => bnd (f env1 u) fun fl u1 => match fl with
      | .nx env2 => forL t f ds env2 u1
      | fl => some (fl, u1)
def sFor (t : Tgt) (mi : MI) (f : MS) : MS := fun env u => bnd (mi env u) fun ds u1 => forL t f ds env u1
theorem Grow.mid {ua : Option Addr} {B0 H0 B1 B2 H1 H2 : Hp} (g1 : Grow ua B0 H0 B1 H1) (g2 : Grow ua B0 H0 B2 H2) (s : Same B1 B2) : Grow ua B1 H0 B2 H2 :=
  ⟨g2.keep, g2.live, s, fun a o h => by
    rcases g2.new a o h with z | z
    · exact .inl (by
        have z1 := g1.pub a o z
        exact z1)
    · exact .inr z⟩
theorem Grow.unmid {ua : Option Addr} {B0 H0 B1 B2 H1 H2 : Hp} (g1 : Grow ua B0 H0 B1 H1) (g2 : Grow ua B1 H0 B2 H2) : Grow ua B0 H0 B2 H2 :=
  ⟨g2.keep, g2.live, fun a o h => g2.pub a o (g1.pub a o h), fun a o h => by
    rcases g2.new a o h with z | z
    · exact g1.new a o z
    · exact .inr z⟩
theorem for_read {t : Tgt} {mi : MI} {Dn : Ends} {σ : L2.St} {H : Hp} (h : tSt G W (sFor t mi m1) Dn σ H) : tFor (tIt G mi) (gOf X.K t) (tSt G W m1) Dn σ H := by
  obtain ⟨ua, u, B, env, fl, u', B0, H0, hg, hO, hE, hW, hm, q⟩ := h
  obtain ⟨ds, u1, c1, c2⟩ := bnd_some hm
  refine ⟨ua, u, B, env, ds, u1, hE, hW, c1, fun J B1 H1 g1 w1 wk => ?_⟩
  have g01 : Grow ua B0 H0 B1 H1 := hg.trans g1
  refine ⟨fun i m σ2 H2 => m = ds.length - i ∧ i ≤ ds.length ∧ ∃ B2 u2 env2, Grow ua B1 H0 B2 H2 ∧ OwnNew env2 σ2 H0 ∧ EnvOk G ua env2 σ2 B2 H2 ∧ Wd ua u2 B2 H2 ∧ forL t m1 (ds.drop i) env2 u2 = some (fl, u'),
    ⟨ds.length, by omega, by omega, B1, u1, env, g01.mid g01 (fun _ _ z => z), hO, hE.grow g1, w1, c2⟩, ?_⟩
  rintro i m σ2 H2 ⟨rfl, hi, B2, u2, env2, g2, o2, e2, w2, hf⟩
  have hk := wk i B2 H2 u2 g2.pub w2
  by_cases hlt : i < ds.length
  · have hd : ds[i]? = some ds[i] := List.getElem?_eq_getElem hlt
    obtain ⟨hgo, hy⟩ := hk.1 _ hd
    rw [List.drop_eq_getElem_cons hlt] at hf
    refine .inr ⟨hgo, fun σ3 H3 => ∃ B3 u3 env3, Grow ua B1 H0 B3 H3 ∧ OwnNew env3 σ3 H0 ∧ EnvOk G ua env3 σ3 B3 H3 ∧ Wd ua u3 B3 H3 ∧ forL t m1 (ds.drop (i + 1)) env3 u3 = some (fl, u'),
      fun σ3 H3 z => ⟨ds.length - (i + 1), by omega, rfl, hlt, z⟩, fun x H3 y => ?_⟩
    obtain ⟨B3, g3, w3, r3⟩ := hy x H3 y
    unfold forL at hf
    split at hf
    · cases hf
    · rename_i env3 hb
      refine bindT_ok (e2.grow g3) w3 r3 hb fun σ3 e3 _ hkk => ?_
      obtain ⟨f1, u3, c3, c4⟩ := bnd_some hf
      have o3 : OwnNew env3 σ3 H0 := fun j es p z1 z2 => by
        obtain ⟨z3, z4⟩ := bindT_own hb j es z1
        exact o2 j es p z3 (hkk j _ z2 z4)
      refine ⟨ua, u2, B3, env3, f1, u3, B1, H0, g2.trans g3, o3, e3, w3, c3, ?_⟩
      cases f1 with
      | nx env4 => exact fun σ4 B4 H4 z1 z2 z3 z4 => ⟨B4, u3, env4, z1, z2, z3, z4, c4⟩
      | rt x =>
        cases c4
        exact fun v B4 H4 z1 z2 z3 => q v B4 H4 (g01.unmid z1) z2 z3
      | er env4 c ns xs =>
        cases c4
        exact fun σ4 B4 H4 cls d z1 z2 z3 z4 z5 => q σ4 B4 H4 cls d (g01.unmid z1) z2 z3 z4 z5
  · have e : i = ds.length := by omega
    subst e
    rw [List.drop_length] at hf
    cases hf
    exact .inl ⟨hk.2 (List.getElem?_eq_none (Nat.le_refl _)), q σ2 B2 H2 (g01.unmid g2) o2 e2 w2⟩
theorem ds_for (t : Tgt) {mi : MI} {tg it : Expr} {body : List Stmt} (hp : PassesOwn (model X.prog X.w) X.A X.env X.xe) (hc : X.calm = true) (hi : PI X tg it (tIt G mi)) (hg : PG X tg (gOf X.K t)) (hb : PSs X body (tSt G W m1)) (hs : ∀ x, foldedSetIterable it X.env x = pure x := by intro _; rfl) :
    PS X (.For tg it body [] pos) (tSt G W (sFor t mi m1)) := (ps_for hp hc hi hg hb hs).imp fun _ _ _ h => for_read h
end

/-! ### a def by its body -/
def runB (m : MS) (L : Nat) (ds : List D) (u : U) : Option (D × U) := match m (ds.map Sl.pub ++ List.replicate (L - ds.length) Sl.no) u with
  | some (.rt d, u') => some (d, u')
  | some (.nx _, u') => some (.non, u')
  | _ => none
theorem start_ok {K : PySem.W.Frag} {G : Gx K} {ua : Option Addr} {B H : Hp} {ds : List D} {vs : List V} {N : List Str} (r : Reps G ua ds vs B) : EnvOk G ua (ds.map Sl.pub ++ List.replicate (N.length - ds.length) Sl.no) (L2.start N vs) B H := by
  have hpub : ∀ (i : Nat) x, (ds.map Sl.pub ++ List.replicate (N.length - ds.length) Sl.no)[i]? = some x → (∃ d, ds[i]? = some d ∧ x = Sl.pub d) ∨ x = Sl.no := fun i x h => by
    by_cases hi : i < ds.length
    · rw [List.getElem?_append_left (by rw [List.length_map]; exact hi), List.getElem?_map] at h
      obtain ⟨d, h1, h2⟩ := map_some h
      exact .inl ⟨d, h1, h2.symm⟩
    · rw [List.getElem?_append_right (by rw [List.length_map]; omega), List.getElem?_replicate] at h
      split at h
      · exact .inr (Option.some.inj h).symm
      · cases h
  refine ⟨?_, fun i d h => ?_, fun i es h => ?_, fun i j es fs p h => ?_⟩
  · unfold L2.start
    rw [List.length_append, List.length_append, List.length_map, List.length_map, List.length_replicate, List.length_replicate, r.len]
  · rcases hpub i _ h with ⟨d', h1, h2⟩ | h2
    · cases h2
      obtain ⟨v, h3, h4⟩ := r.get h1
      refine ⟨v, ?_, h4⟩
      unfold L2.start
      rw [List.getElem?_append_left (by rw [List.length_map]; exact lt_of_get h3), List.getElem?_map, h3]; rfl
    · cases h2
  · rcases hpub i _ h with ⟨d', h1, h2⟩ | h2 <;> cases h2
  · rcases hpub i _ h with ⟨d', h1, h2⟩ | h2 <;> cases h2
/-- no error is wished for -/
def W0 : WX := fun _ _ _ _ => False
theorem def_ok {P : Program} {w : World} {K : PySem.W.Frag} {mg : Str → Option Value} {base : Heap} {G : Gx K} {x qual : Str} {st : Stmt} {f : Addr} {fd : FuncData} {N ps : List Str} {k n : Nat} {m : MS} (F : Fun K x qual st f fd) (S : FnScope N ps (defScope st)) (hn : ps.length = n)
    (hb : ∀ (cdv : Value) (A : Around) (outer : List Env) (s : Shared) (H : Hp) (E : XK), Room k (A.deeper (envOfC qual (defScope st) s.heap.objs.size f cdv)) → PSs (cxOf CX0 P w K mg base N qual (defScope st) f cdv A outer s H E).nox (defBody st) (tSt G W0 m)) :
    FnOk P w K mg base CX0 (k + 1) f fd ps (spF G (runB m N.length) n) := by
  refine F.ok S (fun vs H Q E h => ?_) (fun cdv A outer s H vs Q E hr h => ⟨_, hb cdv A outer s H E hr, ?_⟩)
  · obtain ⟨ua, u, B, ds, d, u', r, hl, _⟩ := h
    rw [← r.len, hl, hn]
  · obtain ⟨ua, u, B, ds, d, u', r, hl, hw, hf, q⟩ := h
    unfold runB at hf
    split at hf
    · rename_i d0 u0 hm
      cases hf
      refine ⟨ua, u, B, _, _, _, B, H, .refl, fun i es p z _ => ?_, start_ok r, hw, hm, fun v B' H' g w' r' => q v H' ⟨B', g, w', r'⟩⟩
      obtain ⟨_, _, h1, _⟩ := (start_ok (N := N) (H := H) r).own i es z
      have z2 := (start_ok (N := N) (H := H) r).own i es z
      exfalso
      by_cases hi : i < ds.length
      · rw [List.getElem?_append_left (by rw [List.length_map]; exact hi), List.getElem?_map] at z
        obtain ⟨_, _, h2⟩ := map_some z
        cases h2
      · rw [List.getElem?_append_right (by rw [List.length_map]; omega), List.getElem?_replicate] at z
        split at z <;> cases z
    · rename_i e0 u0 hm
      cases hf
      refine ⟨ua, u, B, _, _, _, B, H, .refl, fun i es p z _ => ?_, start_ok r, hw, hm, fun σ' B' H' g o e w' => q _ H' ⟨B', g, w', rep_non⟩⟩
      exfalso
      by_cases hi : i < ds.length
      · rw [List.getElem?_append_left (by rw [List.length_map]; exact hi), List.getElem?_map] at z
        obtain ⟨_, _, h2⟩ := map_some z
        cases h2
      · rw [List.getElem?_append_right (by rw [List.length_map]; omega), List.getElem?_replicate] at z
        split at z <;> cases z
    · cases hf
end Dv

/-! Dv7: the urn, calls by keywords, recursion, classes. -/
namespace Dv
open PySem PySem.Spec PyProof.Rows L2

theorem hU64 {A : Around} {k : Nat} (hr : Room k A) : A.units + 64 < cLine := hr.units
theorem hU65 {A : Around} {k : Nat} (hr : Room k A) : A.units + 65 < cLine := by have := hr.un; omega

section
variable {X : Cx} {G : Gx X.K} {W : WX} {e : Expr} {me : M} {pos : Pos}
/-! ### the urn: three numbers at a place of its own -/
def isUrn (env : List Sl) (i : Nat) : Bool := match env[i]? with
  | some (.pub .urn) => true
  | _ => false
theorem isUrn_pub {env : List Sl} {i : Nat} (h : isUrn env i = true) : env[i]? = some (.pub .urn) := by
  unfold isUrn at h
  split at h
  · assumption
  · cases h
def mUrn0 (i : Nat) : M := fun env u => if isUrn env i = true then some (.int u.a, u) else none
def mUrn1 (i : Nat) : M := fun env u => if isUrn env i = true then some (.int u.b, u) else none
def mUrn2 (i : Nat) : M := fun env u => if isUrn env i = true then some (.int u.c, u) else none
def sUrn0 (i : Nat) (m : M) : MS := fun env u => bnd (m env u) fun d u1 => match d with
  | .int z => if isUrn env i = true then some (.nx env, { u1 with a := z }) else none
  | _ => none
def sUrn1 (i : Nat) (m : M) : MS := fun env u => bnd (m env u) fun d u1 => match d with
  | .int z => if isUrn env i = true then some (.nx env, { u1 with b := z }) else none
  | _ => none
def sUrn2 (i : Nat) (m : M) : MS := fun env u => bnd (m env u) fun d u1 => match d with
  | .int z => if isUrn env i = true then some (.nx env, { u1 with c := z }) else none
  | _ => none
theorem urn_read {j : Nat} {z : U → Int} {i : Nat} {σ : L2.St} {H : Hp} {Q : VK} (hj : ∀ u : U, ([V.int u.a, .int u.b, .int u.c] : List V)[j]? = some (.int (z u))) (h : tEv G (fun env u => if isUrn env i = true then some (D.int (z u), u) else none) σ H Q) :
    tOp (rIx X.K) (tVar i) (tC (.int (j : Nat))) σ H Q := by
  obtain ⟨ua, u, B, env, d, u', hE, hW, hm, q⟩ := h
  dsimp only at hm
  split at hm
  · rename_i hi
    cases hm
    obtain ⟨v, hv, r⟩ := hE.pub _ _ (isUrn_pub hi)
    unfold Rep at r
    obtain ⟨p, e1, rfl⟩ := r
    have hw := hW.urn p e1
    exact ⟨_, hv, .inl ⟨p, _, _, _, rfl, rfl, .of hw.2, atI_nat (hj u), q _ _ ⟨B, .refl, hW, rep_int⟩⟩⟩
  · cases hm
section
variable {x : Str} {px pc : Pos} {k : Nat}
theorem dv_urn0 (i : Nat) (hN : X.N[i]? = some x := by rfl) (hv : Vis X.env.scope x := by first | exact Or.inl rfl | exact Or.inr (Or.inl rfl) | exact Or.inr (Or.inr rfl)) (hd : (x == ("__debug__" : Str)) = false := by decide)
    (hcd : (x == ("__classdict__" : Str)) = false := by decide) : PE X (.Subscript (.Name x px) (.Constant (.int 0) k pc) pos) (tEv G (mUrn0 i)) := (pe_ix ix_seq (pe_var hN hv hd hcd) pe_int fun _ _ => rfl).imp fun _ _ _ h => urn_read (j := 0) (z := fun u => u.a) (fun _ => rfl) h
theorem dv_urn1 (i : Nat) (hN : X.N[i]? = some x := by rfl) (hv : Vis X.env.scope x := by first | exact Or.inl rfl | exact Or.inr (Or.inl rfl) | exact Or.inr (Or.inr rfl)) (hd : (x == ("__debug__" : Str)) = false := by decide)
    (hcd : (x == ("__classdict__" : Str)) = false := by decide) : PE X (.Subscript (.Name x px) (.Constant (.int 1) k pc) pos) (tEv G (mUrn1 i)) := (pe_ix ix_seq (pe_var hN hv hd hcd) pe_int fun _ _ => rfl).imp fun _ _ _ h => urn_read (j := 1) (z := fun u => u.b) (fun _ => rfl) h
theorem dv_urn2 (i : Nat) (hN : X.N[i]? = some x := by rfl) (hv : Vis X.env.scope x := by first | exact Or.inl rfl | exact Or.inr (Or.inl rfl) | exact Or.inr (Or.inr rfl)) (hd : (x == ("__debug__" : Str)) = false := by decide)
    (hcd : (x == ("__classdict__" : Str)) = false := by decide) : PE X (.Subscript (.Name x px) (.Constant (.int 2) k pc) pos) (tEv G (mUrn2 i)) := (pe_ix ix_seq (pe_var hN hv hd hcd) pe_int fun _ _ => rfl).imp fun _ _ _ h => urn_read (j := 2) (z := fun u => u.c) (fun _ => rfl) h
theorem urn_put {j : Nat} {i : Nat} {f : U → Int → U} {Dn : Ends} {σ : L2.St} {H : Hp} (hj : ∀ (u : U) (z : Int), ([V.int u.a, .int u.b, .int u.c] : List V).set j (.int z) = [V.int (f u z).a, .int (f u z).b, .int (f u z).c]) (hj3 : j < 3)
    (h : tSt G W (fun env u => bnd (me env u) fun d u1 => match d with | .int z => if isUrn env i = true then some (.nx env, f u1 z) else none | _ => none) Dn σ H) :
    tAsg (tEv G me) (gSub (tVar i) (tC (.int (j : Nat))) rSetL) Dn σ H := by
  obtain ⟨ua, u, B, env, fl, u', B0, H0, hg, hO, hE, hW, hm, q⟩ := h
  obtain ⟨d, u1, c1, c2⟩ := bnd_some hm
  refine ⟨ua, u, B, env, d, u1, hE, hW, c1, fun v H1 ⟨B1, g1, w1, r1⟩ => ?_⟩
  split at c2
  · split at c2
    · rename_i z hi
      cases c2
      cases r1.int
      have hE1 := hE.grow g1
      obtain ⟨v, hv, r⟩ := hE1.pub _ _ (isUrn_pub hi)
      unfold Rep at r
      obtain ⟨p, e1, rfl⟩ := r
      have hw := w1.urn p e1
      refine ⟨_, hv, p, _, _, j, rfl, rfl, hw.2, ?_, ?_⟩
      · unfold ixN
        rw [if_pos (by omega), if_pos (by show (j : Int) < ((3 : Nat) : Int); omega)]
        rfl
      · rw [hj]
        have gg := hg.trans g1
        refine q σ B1 _ ⟨fun a o h n => ?_, fun a h => ?_, gg.pub, gg.new⟩ hO ⟨hE1.len, hE1.pub, fun k ds hk => ?_, hE1.inj⟩ ⟨fun a o h => ?_, fun a ha => ?_⟩
        · rw [upd_ne (fun z => n (by rw [z]; exact e1))]; exact gg.keep a o h n
        · refine gg.live a ?_
          by_cases z : a = p
          · subst z; rw [upd_same] at h; cases h
          · rw [upd_ne z] at h; exact h
        · obtain ⟨p2, vs, h1, h2, h3, h4, h5⟩ := hE1.own k ds hk
          refine ⟨p2, vs, h1, ?_, h3, h4, h5⟩
          rw [upd_ne (fun z => h5 (by rw [z]; exact e1))]; exact h2
        · rw [upd_ne (ne_of_none h hw.1)]; exact w1.sub a o h
        · rw [e1] at ha
          cases ha
          exact ⟨hw.1, upd_same⟩
    · cases c2
  · cases c2
theorem ds_urn0 (i : Nat) (he : PE X e (tEv G me)) (hN : X.N[i]? = some x := by rfl) (hv : Vis X.env.scope x := by first | exact Or.inl rfl | exact Or.inr (Or.inl rfl) | exact Or.inr (Or.inr rfl)) (hd : (x == ("__debug__" : Str)) = false := by decide) (hcd : (x == ("__classdict__" : Str)) = false := by decide)
    (hs : swapsWithSole [.Subscript (.Name x px) (.Constant (.int 0) k pc) pos] e pos.line X.env = pure false := by rfl) {pos2 : Pos} (hs : swapsWithSole [.Subscript (.Name x px) (.Constant (.int 0) k pc) pos] e pos2.line X.env = pure false := by rfl) (hw : swappedStores [.Subscript (.Name x px) (.Constant (.int 0) k pc) pos] e X.env = pure none := by rfl) :
    PS X (.Assign [.Subscript (.Name x px) (.Constant (.int 0) k pc) pos] e pos2) (tSt G W (sUrn0 i me)) := (ps_asg he (pg_sub (pe_var hN hv hd hcd) pe_int set_list) hs hw).imp fun _ _ _ h => urn_put (j := 0) (f := fun u z => { u with a := z }) (fun _ _ => rfl) (by decide) h
theorem ds_urn1 (i : Nat) (he : PE X e (tEv G me)) (hN : X.N[i]? = some x := by rfl) (hv : Vis X.env.scope x := by first | exact Or.inl rfl | exact Or.inr (Or.inl rfl) | exact Or.inr (Or.inr rfl)) (hd : (x == ("__debug__" : Str)) = false := by decide) (hcd : (x == ("__classdict__" : Str)) = false := by decide)
    {pos2 : Pos} (hs : swapsWithSole [.Subscript (.Name x px) (.Constant (.int 1) k pc) pos] e pos2.line X.env = pure false := by rfl) (hw : swappedStores [.Subscript (.Name x px) (.Constant (.int 1) k pc) pos] e X.env = pure none := by rfl) :
    PS X (.Assign [.Subscript (.Name x px) (.Constant (.int 1) k pc) pos] e pos2) (tSt G W (sUrn1 i me)) := (ps_asg he (pg_sub (pe_var hN hv hd hcd) pe_int set_list) hs hw).imp fun _ _ _ h => urn_put (j := 1) (f := fun u z => { u with b := z }) (fun _ _ => rfl) (by decide) h
theorem ds_urn2 (i : Nat) (he : PE X e (tEv G me)) (hN : X.N[i]? = some x := by rfl) (hv : Vis X.env.scope x := by first | exact Or.inl rfl | exact Or.inr (Or.inl rfl) | exact Or.inr (Or.inr rfl)) (hd : (x == ("__debug__" : Str)) = false := by decide) (hcd : (x == ("__classdict__" : Str)) = false := by decide)
    {pos2 : Pos} (hs : swapsWithSole [.Subscript (.Name x px) (.Constant (.int 2) k pc) pos] e pos2.line X.env = pure false := by rfl) (hw : swappedStores [.Subscript (.Name x px) (.Constant (.int 2) k pc) pos] e X.env = pure none := by rfl) :
    PS X (.Assign [.Subscript (.Name x px) (.Constant (.int 2) k pc) pos] e pos2) (tSt G W (sUrn2 i me)) := (ps_asg he (pg_sub (pe_var hN hv hd hcd) pe_int set_list) hs hw).imp fun _ _ _ h => urn_put (j := 2) (f := fun u z => { u with c := z }) (fun _ _ => rfl) (by decide) h
end

/-! ### calls by keywords alone, in the parameters' order -/
def DefK (P : Program) (w : World) {K : PySem.W.Frag} (mg : Str → Option Value) (base : Heap) (G : Gx K) (x : Str) (ks : List Str) (k : Nat) (F : List D → U → Option (D × U)) : Prop :=
  ∃ f fd, FnOk P w K mg base CX0 k f fd ks (spF G F ks.length) ∧ mg x = some (.ref f) ∧ PySem.W.keepIn K (.ref f) = true ∧ ∀ (s : Shared) (ws : List Value), K.In s.heap → ws.length = ks.length → BindsTo s fd ⟨[], ks.zip ws⟩ (ks.zip ws)
theorem DefK.mono {P : Program} {w : World} {K : PySem.W.Frag} {mg : Str → Option Value} {base : Heap} {G : Gx K} {x : Str} {ks : List Str} {j k : Nat} {F : List D → U → Option (D × U)} (h : DefK P w mg base G x ks j F) (l : j ≤ k) : DefK P w mg base G x ks k F := by
  obtain ⟨f, fd, h1, h2⟩ := h
  exact ⟨f, fd, h1.mono l, h2⟩
variable {kws : List Keyword} {ms : Ms} {kpos p : Pos} {nm : Option Str}
theorem dks_nil : PK X [] (tEvs G mNil) := ⟨fun pos pins s σ H Q I h => by
  obtain ⟨ua, u, B, env, ds, u', hE, hW, hm, q⟩ := h
  cases hm
  exact pk_nil.run pos pins s σ H Q I (q [] H ⟨B, .refl, hW, .nil⟩)⟩
theorem dks_cons (ha : PE X e (tEv G me)) (hr : PK X kws (tEvs G ms)) : PK X (⟨nm, e, kpos⟩ :: kws) (tEvs G (mCons me ms)) := ⟨fun pos pins s σ H Q I h => by
  obtain ⟨ua, u, B, env, ds, u', hE, hW, hm, q⟩ := h
  obtain ⟨d, u1, h1, h2⟩ := bnd_some hm
  obtain ⟨ds', u2, h4, h3⟩ := bnd_some h2
  cases h3
  refine (pk_cons ha hr).run pos pins s σ H Q I ⟨ua, u, B, env, d, u1, hE, hW, h1, fun v H1 ⟨B1, g1, w1, r1⟩ => ⟨ua, u1, B1, env, ds', _, hE.grow g1, w1, h4, fun vs H2 ⟨B2, g2, w2, r2⟩ => q _ _ ⟨B2, g1.trans g2, w2, .cons (r1.mono _ _ g2.pub) r2⟩⟩⟩⟩
theorem dv_callK {x : Str} {k n : Nat} {ks : List Str} {F : List D → U → Option (D × U)} (D0 : DefK X.prog X.w X.mg X.base G x ks k F) (hr : Room k X.A) (hg : Gl X x) (hn : ks.length = n) (ha : PK X kws (tEvs G ms))
    (hall : (backToKw pos (keywordEach kws X.env)).all (·.1.isSome) = true := by rfl) (hks : (backToKw pos (keywordEach kws X.env)).filterMap (·.1) = ks := by rfl) (hdb : (x == ("__debug__" : Str)) = false := by decide)
    (hpl : ((backTo pos (starEach [] X.env)).any (·.1) || (backToKw pos (keywordEach kws X.env)).any (·.1.isNone)) = false := by rfl) :
    PE X (.Call (.Name x p) [] kws pos) (tEv G (mCall n F ms)) := by
  subst hn
  obtain ⟨f, fd, hf, hm, hk, hb⟩ := D0
  refine ⟨fun pins s σ H Q I h => ?_⟩
  obtain ⟨ua, u, B, env, d, u', hE, hW, hm2, q⟩ := h
  obtain ⟨ds, u1, h1, h2⟩ := bnd_some hm2
  split at h2
  · rename_i hl
    refine wpAny_Call_Name_kw (ld_glob I hg hm ?_ hdb)
    refine PySem.W.callWith_KW0 (h₀ := X.base) I.ok.mod.kin hk hall (thn (ha.run pos pins s σ H _ I ⟨ua, u, B, env, ds, u1, hE, hW, h1, fun _ _ z => z⟩) fun ws s2 ⟨zs, H2, I2, rz, B2, g2, w2, r2⟩ => ⟨I2.kIn, ?_⟩) hpl
    rw [hks]
    have lw : ws.length = ks.length := by rw [← rz.length, ← r2.len]; exact hl
    refine wpAny_call (codeAny_mono (hf.run X.A X.stack s2 H2 ⟨[] ++ [], ks.zip ws⟩ ws zs Q E0 hr I2.env0 (hb s2 ws I2.kIn lw) rz ⟨ua, u1, B2, ds, d, u', r2, hl, w2, h2, fun v H3 a => q v H3 (.up g2 a)⟩) fun r s' hq => ?_)
    cases r with
    | error e => exact hq.elim
    | ok fl =>
      cases fl with
      | ret u => exact I2.after hq
      | next => exact False.elim hq
      | brk => exact False.elim hq
      | cont => exact False.elim hq
  · cases h2

/-! ### a class made by its __init__ -/
/-- C(d): a new instance with the fields that mk tells -/
def MakeOk (P : Program) (w : World) {K : PySem.W.Frag} (mg : Str → Option Value) (base : Heap) (G : Gx K) (x : Str) (k n : Nat) (F : List D → U → Option (D × U)) : Prop :=
  ∃ C f fd ps sp ds dvs, Mk K C f ∧ FnOk P w K mg base CX0 k f fd ps sp ∧ mg x = some (.ref C) ∧ Binds K fd ps ds ∧ Vals dvs ds ∧
    ∀ (ua : Option Addr) (u u' : U) (B H : Hp) (as : List D) (vs : List V) (d : D), as.length = n → F as u = some (d, u') → Reps G ua as vs B → Wd ua u B H → ∀ (y dx : Addr), H y = none → H dx = none → dx ≠ y →
      ∀ Q : VK, (∀ H', Aft G ua B H u' d (.ref y) H' → Q (.ref y) H') → sp (.ref y :: (vs ++ dvs)) (upd (upd H dx (.own y)) y (.ins C dx [])) (fun v H2 => v = .non ∧ Q (.ref y) H2) E0
theorem MakeOk.mono {P : Program} {w : World} {K : PySem.W.Frag} {mg : Str → Option Value} {base : Heap} {G : Gx K} {x : Str} {j k n : Nat} {F : List D → U → Option (D × U)} (h : MakeOk P w mg base G x j n F) (l : j ≤ k) : MakeOk P w mg base G x k n F := by
  obtain ⟨C, f, fd, ps, sp, ds, dvs, h1, h2, h3⟩ := h
  exact ⟨C, f, fd, ps, sp, ds, dvs, h1, h2.mono l, h3⟩
theorem dv_make {es : List Expr} {x : Str} {k n : Nat} {F : List D → U → Option (D × U)} (D0 : MakeOk X.prog X.w X.mg X.base G x k n F) (hr : Room (k + 1) X.A) (hg : Gl X x) (ha : PA X (e :: es) (tEvs G ms))
    (hdb : (x == ("__debug__" : Str)) = false := by decide) (he : starEach (e :: es) X.env = (false, eval e X.env) :: starEach es X.env := by rfl) (hpl : (backTo pos (starEach es X.env)).any (·.1) = false := by rfl) :
    PE X (.Call (.Name x p) (e :: es) [] pos) (tEv G (mCall n F ms)) := by
  obtain ⟨C, f, fd, ps, sp, dds, dvs, hM, hf, hm, hb, hd, hsp⟩ := D0
  refine (pe_make hM hf hr hg hm hb hd pass0 ha hdb he hpl).imp fun σ H Q h => ?_
  obtain ⟨ua, u, B, env, d, u', hE, hW, hm, q⟩ := h
  obtain ⟨ds, u1, h1, h2⟩ := bnd_some hm
  split at h2
  · refine ⟨ua, u, B, env, ds, u1, hE, hW, h1, fun vs H1 ⟨B1, g1, w1, r1⟩ => fun y dx hy hdx hne => ?_⟩
    exact hsp ua u1 u' B1 H1 ds vs d ‹_› h2 r1 w1 y dx hy hdx hne Q fun H' a => q _ _ (.up g1 a)
  · cases h2
end
end Dv
namespace Dv
open PySem PySem.Spec PyProof.Rows L2
section
variable {X : Cx} {G : Gx X.K} {W : WX}
theorem dv_gS {x : Str} {z : Str} {pos : Pos} (hg : Gl X x) (hm : ∃ t, X.mg x = some (.str z t)) (hd : (x == ("__debug__" : Str)) = false := by decide) : PE X (.Name x pos) (tEv G (mC (.str z))) := by
  obtain ⟨t, hm⟩ := hm
  exact dv_globS hg hm hd
theorem dv_gI {x : Str} {z : Int} {pos : Pos} (hg : Gl X x) (hm : ∃ t, X.mg x = some (.int z t)) (hd : (x == ("__debug__" : Str)) = false := by decide) : PE X (.Name x pos) (tEv G (mC (.int z))) := by
  obtain ⟨t, hm⟩ := hm
  exact dv_globI hg hm hd
end
end Dv

/-! Dv8: the equations of the meanings, one a construct. -/
namespace Dv
open PySem PySem.Spec PyProof.Rows L2
section
variable {env env' : List Sl} {u u1 u2 u3 : U} {m a b : M} {ms : Ms} {mi : MI} {mc na nb : MB} {me : M} {p q : MS} {d x y z : D} {ds r : List D} {i n : Nat} {fl : Fl} {k : Bool}
theorem runB_rt {m : MS} {L : Nat} (h : m (ds.map Sl.pub ++ List.replicate (L - ds.length) Sl.no) u = some (.rt d, u1)) : runB m L ds u = some (d, u1) := by
  unfold runB; rw [h]
theorem sc_nx (h : p env u = some (.nx env', u1)) (h2 : q env' u1 = some (fl, u2)) : sCons p q env u = some (fl, u2) := by
  unfold sCons; rw [h]; exact h2
theorem sc_rt (h : p env u = some (.rt d, u1)) : sCons p q env u = some (.rt d, u1) := by
  unfold sCons; rw [h]; rfl
theorem sSet_eq (h : m env u = some (d, u1)) : sSet i m env u = some (.nx (env.set i (Sl.pub d)), u1) := by
  unfold sSet; rw [h]; rfl
theorem sTgt_eq {t : Tgt} (h : m env u = some (d, u1)) (h2 : bindT t d env = some env') : sTgt t m env u = some (.nx env', u1) := by
  unfold sTgt; rw [h]; show (match bindT t d env with | some env' => some (Fl.nx env', u1) | none => none) = _; rw [h2]
theorem sPar_eq {j : Nat} (h : a env u = some (x, u1)) (h2 : b env u1 = some (y, u2)) : sPar i j a b env u = some (.nx ((env.set i (Sl.pub x)).set j (Sl.pub y)), u2) := by
  unfold sPar; rw [h]; show bnd (b env u1) _ = _; rw [h2]; rfl
theorem sRet_eq (h : m env u = some (d, u1)) : sRet m env u = some (.rt d, u1) := by
  unfold sRet; rw [h]; rfl
theorem sIf_t (h : mc env u = some (true, u1)) (h2 : p env u1 = some (fl, u2)) : sIf mc p q env u = some (fl, u2) := by
  unfold sIf; rw [h]; exact h2
theorem sIf_f (h : mc env u = some (false, u1)) (h2 : q env u1 = some (fl, u2)) : sIf mc p q env u = some (fl, u2) := by
  unfold sIf; rw [h]; exact h2
theorem mVar_eq (h : env[i]? = some (Sl.pub d)) : mVar i env u = some (d, u) := by
  unfold mVar; rw [h]
theorem mCons_eq (h : m env u = some (x, u1)) (h2 : ms env u1 = some (ds, u2)) : mCons m ms env u = some (x :: ds, u2) := by
  unfold mCons; rw [h]; show bnd (ms env u1) _ = _; rw [h2]; rfl
theorem mNil_eq : mNil env u = some ([], u) := rfl
theorem mC_eq : mC d env u = some (d, u) := rfl
theorem mLst_eq (h : ms env u = some (ds, u1)) (hl : ds.length ≤ sizeLine) : mLst ms env u = some (.lst ds, u1) := by
  unfold mLst; rw [h]; exact if_pos hl
theorem mTup_eq (h : ms env u = some (ds, u1)) (hl : ds.length ≤ sizeLine) : mTup ms env u = some (.tup ds, u1) := by
  unfold mTup; rw [h]; exact if_pos hl
theorem mBin_eq {f : D → D → Option D} (h : a env u = some (x, u1)) (h2 : b env u1 = some (y, u2)) (h3 : f x y = some z) : mBin f a b env u = some (z, u2) := by
  unfold mBin; rw [h]; show bnd (b env u1) _ = _; rw [h2]; show lft (f x y) u2 = _; rw [h3]; rfl
theorem mBi_eq {f : List D → Option D} (h : ms env u = some (ds, u1)) (h2 : f ds = some d) : mBi f ms env u = some (d, u1) := by
  unfold mBi; rw [h]; show lft (f ds) u1 = _; rw [h2]; rfl
theorem mCall_eq {F : List D → U → Option (D × U)} (h : ms env u = some (ds, u1)) (hl : ds.length = n) (h2 : F ds u1 = some (d, u2)) : mCall n F ms env u = some (d, u2) := by
  unfold mCall; rw [h]; show (if ds.length = n then F ds u1 else none) = _; rw [if_pos hl]; exact h2
theorem mTru_eq (h : a env u = some (x, u1)) (h2 : truD x = some k) : mTru a env u = some (k, u1) := by
  unfold mTru; rw [h]; show lft (truD x) u1 = _; rw [h2]; rfl
theorem mNotB_eq (h : na env u = some (k, u1)) : mNotB na env u = some (!k, u1) := by
  unfold mNotB; rw [h]; rfl
theorem mAndB_t (h : na env u = some (true, u1)) (h2 : nb env u1 = some (k, u2)) : mAndB na nb env u = some (k, u2) := by
  unfold mAndB; rw [h]; exact h2
theorem mAndB_f (h : na env u = some (false, u1)) : mAndB na nb env u = some (false, u1) := by
  unfold mAndB; rw [h]; rfl
theorem mOrB_t (h : na env u = some (true, u1)) : mOrB na nb env u = some (true, u1) := by
  unfold mOrB; rw [h]; rfl
theorem mOrB_f (h : na env u = some (false, u1)) (h2 : nb env u1 = some (k, u2)) : mOrB na nb env u = some (k, u2) := by
  unfold mOrB; rw [h]; exact h2
theorem mAnd_t (h : a env u = some (x, u1)) (ht : truD x = some true) (h2 : b env u1 = some (y, u2)) : mAnd a b env u = some (y, u2) := by
  unfold mAnd; rw [h]; show bnd (lft (truD x) u1) _ = _; rw [ht]; exact h2
theorem mAnd_f (h : a env u = some (x, u1)) (ht : truD x = some false) : mAnd a b env u = some (x, u1) := by
  unfold mAnd; rw [h]; show bnd (lft (truD x) u1) _ = _; rw [ht]; rfl
theorem mOr_t (h : a env u = some (x, u1)) (ht : truD x = some true) : mOr a b env u = some (x, u1) := by
  unfold mOr; rw [h]; show bnd (lft (truD x) u1) _ = _; rw [ht]; rfl
theorem mOr_f (h : a env u = some (x, u1)) (ht : truD x = some false) (h2 : b env u1 = some (y, u2)) : mOr a b env u = some (y, u2) := by
  unfold mOr; rw [h]; show bnd (lft (truD x) u1) _ = _; rw [ht]; exact h2
theorem mNot_eq (h : a env u = some (x, u1)) (ht : truD x = some k) : mNot a env u = some (.bl (!k), u1) := by
  unfold mNot; rw [h]; show bnd (lft (truD x) u1) _ = _; rw [ht]; rfl
theorem mIte_t (h : na env u = some (true, u1)) (h2 : a env u1 = some (d, u2)) : mIte na a b env u = some (d, u2) := by
  unfold mIte; rw [h]; exact h2
theorem mIte_f (h : na env u = some (false, u1)) (h2 : b env u1 = some (d, u2)) : mIte na a b env u = some (d, u2) := by
  unfold mIte; rw [h]; exact h2
theorem mSl_eq {lo hi : MO} {l h' : Option Int} (h : a env u = some (x, u1)) (h2 : lo env u1 = some (l, u2)) (h3 : hi env u2 = some (h', u3)) (h4 : slD x l h' = some z) : mSl a lo hi env u = some (z, u3) := by
  unfold mSl; rw [h]; show bnd (lo env u1) _ = _; rw [h2]; show bnd (hi env u2) _ = _; rw [h3]; show lft (slD x l h') u3 = _; rw [h4]; rfl
theorem moAt_eq {i : Int} (h : a env u = some (.int i, u1)) : moAt a env u = some (some i, u1) := by
  unfold moAt; rw [h]; rfl
theorem mIsi_eq {ts : List String} (h : a env u = some (x, u1)) (h2 : isiD x ts = some k) : mIsi ts a env u = some (.bl k, u1) := by
  unfold mIsi; rw [h]; show lft ((isiD x ts).map D.bl) u1 = _; rw [h2]; rfl
theorem mLc_eq {t : Tgt} {own : List Nat} (h : mi env u = some (ds, u1)) (h2 : compL (turnL t own env mc me) ds u1 = some (r, u2)) (hl : r.length ≤ sizeLine) : mLc t own mi mc me env u = some (.lst r, u2) := by
  unfold mLc; rw [h]; show bnd (compL (turnL t own env mc me) ds u1) _ = _; rw [h2]; exact if_pos hl
theorem mItems_eq (h : a env u = some (x, u1)) (h2 : itemsD x = some ds) : mItems a env u = some (ds, u1) := by
  unfold mItems; rw [h]; show lft (itemsD x) u1 = _; rw [h2]; rfl
theorem mRange1_eq {j : Int} (h : a env u = some (.int j, u1)) (h2 : -(2 ^ 62) ≤ j ∧ j < 2 ^ 62) : mRange1 a env u = some (rangeD 0 j.toNat, u1) := by
  unfold mRange1; rw [h]; exact if_pos h2
theorem turnL_eq {t : Tgt} {own : List Nat} (h : bindT t d (wipeE env own) = some env') (h2 : me env' u = some (x, u1)) : turnL t own env mYes me d u = some (some x, u1) := by
  unfold turnL; rw [h]; show bnd (me env' u) _ = _; rw [h2]; rfl
theorem turnL_c {t : Tgt} {own : List Nat} (h : bindT t d (wipeE env own) = some env') (hc : mc env' u = some (true, u1)) (h2 : me env' u1 = some (x, u2)) : turnL t own env mc me d u = some (some x, u2) := by
  unfold turnL; rw [h]; show bnd (mc env' u) _ = _; rw [hc]; show bnd (me env' u1) _ = _; rw [h2]; rfl
theorem turnL_n {t : Tgt} {own : List Nat} (h : bindT t d (wipeE env own) = some env') (hc : mc env' u = some (false, u1)) : turnL t own env mc me d u = some (none, u1) := by
  unfold turnL; rw [h]; show bnd (mc env' u) _ = _; rw [hc]; rfl
theorem sFor_eq {t : Tgt} (h : mi env u = some (ds, u1)) (h2 : forL t p ds env u1 = some (fl, u2)) : sFor t mi p env u = some (fl, u2) := by
  unfold sFor; rw [h]; exact h2
theorem mem_rangeD {lo : Int} (h : d ∈ rangeD lo n) : ∃ i : Nat, i < n ∧ d = .int (lo + i) := by
  unfold rangeD at h
  obtain ⟨i, hi, rfl⟩ := List.mem_map.mp h
  exact ⟨i, List.mem_range.mp hi, rfl⟩
theorem rangeD_len {lo : Int} : (rangeD lo n).length = n := by unfold rangeD; rw [List.length_map, List.length_range]
end
end Dv

/-! Nu: what numbered gives: each text with how often it has come, itself included. -/
namespace Dv
open PySem PySem.Spec PyProof.Rows L2
def cntS (x : Str) : List Str → Nat
  | [] => 0
  | y :: r => if y = x then cntS x r + 1 else cntS x r
/-- seen: what came before, the latest first -/
def numG (seen : List Str) : List Str → List D
  | [] => []
  | x :: r => .tup [.str x, .int ((cntS x seen : Nat) + 1 : Int)] :: numG (x :: seen) r
def revOn : List Str → List Str → List Str
  | [], a => a
  | x :: r, a => revOn r (x :: a)
theorem numG_snoc (y : Str) : ∀ (xs seen : List Str), numG seen (xs ++ [y]) = numG seen xs ++ [.tup [.str y, .int ((cntS y (revOn xs seen) : Nat) + 1 : Int)]]
  | [], seen => rfl
  | x :: r, seen => by
    show _ :: numG (x :: seen) (r ++ [y]) = _
    rw [numG_snoc y r (x :: seen)]; rfl
theorem revOn_snoc (y : Str) : ∀ (xs seen : List Str), revOn (xs ++ [y]) seen = y :: revOn xs seen
  | [], seen => rfl
  | x :: r, seen => revOn_snoc y r (x :: seen)
theorem numG_len : ∀ (xs seen : List Str), (numG seen xs).length = xs.length
  | [], _ => rfl
  | x :: r, seen => by show (numG (x :: seen) r).length + 1 = r.length + 1; rw [numG_len r]
def numF : List D → U → Option (D × U) := fun ds u => match ds with
  | [.tup ds] => match strsOf ds with
    | some xs => if xs.length ≤ sizeLine then some (.tup (numG [] xs), u) else none
    | none => none
  | _ => none
/-- a dict of texts and numbers: what it holds -/
structure Tally (seen : List Str) (kvs : List (Key × V)) : Prop where
  val : ∀ x : Str, valV kvs (Sum.inr x) = if cntS x seen = 0 then none else some (.int (cntS x seen))
  len : kvs.length ≤ seen.length
theorem Tally.nil : Tally [] [] := ⟨fun _ => rfl, Nat.le_refl _⟩
theorem Tally.getD {seen : List Str} {kvs : List (Key × V)} (t : Tally seen kvs) (x : Str) : (valV kvs (Sum.inr x)).getD (.int 0) = .int (cntS x seen) := by
  rw [t.val]
  by_cases h : cntS x seen = 0
  · rw [if_pos h, h]; rfl
  · rw [if_neg h]; rfl
theorem Tally.put {seen : List Str} {kvs : List (Key × V)} (t : Tally seen kvs) (x : Str) : Tally (x :: seen) (putK kvs (Sum.inr x) (.int ((cntS x seen : Nat) + 1 : Int))) := by
  refine ⟨fun y => ?_, Nat.le_trans (length_putK _ _ _) (Nat.add_le_add_right t.len 1)⟩
  rw [valV_put]
  by_cases e : y = x
  · subst e
    rw [if_pos rfl]
    have : cntS y (y :: seen) = cntS y seen + 1 := if_pos rfl
    rw [this, if_neg (Nat.succ_ne_zero _)]; rfl
  · have h1 : ¬ (Sum.inr y : Key) = Sum.inr x := fun z => e (Sum.inr.inj z)
    have h2 : cntS y (x :: seen) = cntS y seen := if_neg fun z => e z.symm
    rw [if_neg h1, h2, t.val]
theorem revOn_len : ∀ (xs seen : List Str), (revOn xs seen).length = xs.length + seen.length
  | [], seen => by rw [List.length_nil, Nat.zero_add]; rfl
  | x :: r, seen => by
    show (revOn r (x :: seen)).length = _
    rw [revOn_len r, List.length_cons, List.length_cons]; omega
theorem take_snoc {xs : List Str} {i : Nat} {x : Str} (h : xs[i]? = some x) : xs.take (i + 1) = xs.take i ++ [x] := by
  rw [List.take_add_one, h]; rfl
theorem Grow.putOwn {ua : Option Addr} {B H B2 H2 : Hp} {p : Addr} {o : HO} (g : Grow ua B H B2 H2) (hp : H p = none) : Grow ua B H B2 (upd H2 p o) := by
  refine ⟨fun b x e n => ?_, fun b e => ?_, g.pub, g.new⟩
  · rw [upd_ne (ne_of_none e hp)]; exact g.keep b x e n
  · by_cases q : b = p
    · subst q; exact hp
    · rw [upd_ne q] at e; exact g.live b e
end Dv

/-! Pr: fields and properties of instances. -/
namespace Dv
open PySem PySem.Spec PyProof.Rows L2
def fldD (c f : Str) : D → Option D
  | .ins c' ns xs => if c' = c then (ns.zip xs).lookup f else none
  | _ => none
theorem Reps.fld {K : PySem.W.Frag} {G : Gx K} {ua : Option Addr} {f : Str} {d : D} {B : Hp} : ∀ {ns : List Str} {ds : List D} {vs : List V}, Reps G ua ds vs B → (ns.zip ds).lookup f = some d → ∃ v, (ns.zip vs).lookup f = some v ∧ Rep G ua d v B
  | [], ds, vs, r, h => by cases h
  | n :: ns, [], vs, r, h => by cases h
  | n :: ns, x :: ds, vs, r, h => by
    obtain ⟨v, t, rfl, q, t'⟩ := r.of_cons
    rw [List.zip_cons_cons, List.lookup_cons] at h ⊢
    cases e : f == n with
    | true => rw [e] at h; cases h; exact ⟨v, rfl, q⟩
    | false => rw [e] at h; exact Reps.fld t' h
/-- the class's instances keep f in their own dict, and the class has no f -/
def FldOk {K : PySem.W.Frag} (G : Gx K) (c f : Str) : Prop := ∀ C, G.cls c = some C → Cls K C ∧ NoAttr K C f
def mFld (c f : Str) (m : M) : M := fun env u => bnd (m env u) fun d u1 => lft (fldD c f d) u1
def mPrp (c : Str) (F : List D → U → Option (D × U)) (m : M) : M := fun env u => bnd (m env u) fun d u1 => match d with
  | .ins c' ns xs => if c' = c then F [.ins c' ns xs] u1 else none
  | _ => none
/-- the property f of the class c does F -/
def PrpOk (P : Program) (w : World) {K : PySem.W.Frag} (mg : Str → Option Value) (base : Heap) (G : Gx K) (c f : Str) (k : Nat) (F : List D → U → Option (D × U)) : Prop :=
  ∃ C p g fd ps, G.cls c = some C ∧ Cls K C ∧ PropOf K C f p g ∧ FnOk P w K mg base CX0 k g fd ps (spF G F 1) ∧ Binds K fd ps []
theorem PrpOk.mono {P : Program} {w : World} {K : PySem.W.Frag} {mg : Str → Option Value} {base : Heap} {G : Gx K} {c f : Str} {j k : Nat} {F : List D → U → Option (D × U)} (h : PrpOk P w mg base G c f j F) (l : j ≤ k) : PrpOk P w mg base G c f k F := by
  obtain ⟨C, p, g, fd, ps, h1, h2, h3, h4, h5⟩ := h
  exact ⟨C, p, g, fd, ps, h1, h2, h3, h4.mono l, h5⟩
section
variable {X : Cx} {G : Gx X.K} {e : Expr} {me : M} {pos : Pos} {c f : Str} {k : Nat} {F : List D → U → Option (D × U)}
theorem dv_fld (ho : FldOk G c f) (he : PE X e (tEv G me)) (hab : attributeBase e f X.env (eval e X.env) = eval e X.env := by rfl) : PE X (.Attribute e f pos) (tEv G (mFld c f me)) :=
  (pe_fld he hab).imp fun σ H Q h => by
    obtain ⟨ua, u, B, env, d, u', hE, hW, hm, q⟩ := h
    obtain ⟨d0, u1, h1, h2⟩ := bnd_some hm
    obtain ⟨h3, rfl⟩ := lft_some h2
    clear h2
    refine ⟨ua, u, B, env, d0, u', hE, hW, h1, fun v H1 ⟨B1, g1, w1, r1⟩ => ?_⟩
    unfold fldD at h3
    split at h3
    · split at h3
      · rename_i hc
        subst hc
        unfold Rep at r1
        obtain ⟨a, C, dx, vs, rfl, hC, hB, hl, rs⟩ := r1
        obtain ⟨v, l, r⟩ := rs.fld h3
        exact ⟨a, C, dx, _, v, rfl, w1.sub _ _ hB, (ho C hC).1, (ho C hC).2, l, q _ _ ⟨B1, g1, w1, r⟩⟩
      · cases h3
    · cases h3
theorem dv_prp (h0 : PrpOk X.prog X.w X.mg X.base G c f k F) (hr : Room (k + 1) X.A) (he : PE X e (tEv G me)) (hab : attributeBase e f X.env (eval e X.env) = eval e X.env := by rfl) : PE X (.Attribute e f pos) (tEv G (mPrp c F me)) := by
  obtain ⟨C, p, g, fd, ps, hC, cl, hp, hf, hb⟩ := h0
  refine (pe_prop he cl hp hf hr hb .nil pass0 hab).imp fun σ H Q h => ?_
  obtain ⟨ua, u, B, env, d, u', hE, hW, hm, q⟩ := h
  obtain ⟨d0, u1, h1, h2⟩ := bnd_some hm
  refine ⟨ua, u, B, env, d0, u1, hE, hW, h1, fun v H1 ⟨B1, g1, w1, r1⟩ => ?_⟩
  split at h2
  · split at h2
    · rename_i hc
      subst hc
      have r2 := r1
      unfold Rep at r1
      obtain ⟨a, C', dx, vs, rfl, hC', hB, hl, rs⟩ := r1
      rw [hC] at hC'
      cases hC'
      exact ⟨a, dx, _, rfl, w1.sub _ _ hB, ua, u1, B1, _, d, u', .cons r2 .nil, rfl, w1, h2, fun v H2 a => q _ _ (.up g1 a)⟩
    · cases h2
  · cases h2
end
end Dv

/-! Ow: in, not in, [], len, == by the text's own special methods. -/
namespace Dv
open PySem PySem.Spec PyProof.Rows L2
/-- the special method of the class c does F -/
def SpcOk (P : Program) (w : World) {K : PySem.W.Frag} (mg : Str → Option Value) (base : Heap) (G : Gx K) (c name : Str) (k n : Nat) (F : List D → U → Option (D × U)) : Prop :=
  ∃ C f fd ps, G.cls c = some C ∧ PySem.W.findIn K (.ref C) name = some (some (.ref f)) ∧ PySem.W.isFn K (.ref f) = true ∧ PySem.W.fnIn K f = true ∧ FnOk P w K mg base CX0 k f fd ps (spF G F n) ∧ Binds K fd ps []
theorem SpcOk.mono {P : Program} {w : World} {K : PySem.W.Frag} {mg : Str → Option Value} {base : Heap} {G : Gx K} {c name : Str} {j k n : Nat} {F : List D → U → Option (D × U)} (h : SpcOk P w mg base G c name j n F) (l : j ≤ k) : SpcOk P w mg base G c name k n F := by
  obtain ⟨C, f, fd, ps, h1, h2, h3, h4, h5, h6⟩ := h
  exact ⟨C, f, fd, ps, h1, h2, h3, h4, h5.mono l, h6⟩
section
variable {X : Cx} {G : Gx X.K}
theorem call_fnA {A : Around} {pins : List (Addr × Obj)} {s : Shared} {σ : L2.St} {H : Hp} {f : Addr} {fd : FuncData} {ps : List Str} {sp : Sp} {k : Nat} {vs : List V} {us : List Value} {Q : VK} {E : Value → Shared → Prop}
    (hf : FnOk X.prog X.w X.K X.mg X.base CX0 k f fd ps sp) (hb : Binds X.K fd ps []) (hr : Room k A) (hA : A.frames = X.A.frames) (I : Inv X pins σ H s) (rv : Vals vs us) (hs : sp vs H Q E0) :
    wpAny (model X.prog X.w) A (call (.ref f) us) (EP X pins σ Q) E s := by
  have e0 : Env0 X.prog X.w X.K X.mg X.base A X.stack s H := by
    have e := I.env0
    exact ⟨by rw [hA]; exact e.frames, e.mod, e.bs, e.bsz, e.funs, e.frf, e.hok, e.bare⟩
  have hl := hf.len _ _ _ _ hs
  have hu : us.length = ps.length := by rw [← rv.length]; exact hl
  refine wpAny_call (codeAny_mono (hf.run A X.stack s H ⟨us, []⟩ us vs Q E0 hr e0 ?_ rv hs) fun r s' hq => ?_)
  · have := hb s us I.kIn (by rw [List.append_nil]; exact hu)
    rw [List.append_nil] at this
    exact this
  · cases r with
    | error e => exact hq.elim
    | ok fl =>
      cases fl with
      | ret w => exact I.after hq
      | next => exact False.elim hq
      | brk => exact False.elim hq
      | cont => exact False.elim hq
/-- what the method is asked, what is made of its answer -/
def rSpc (G : Gx X.K) (c : Str) (F : List D → U → Option (D × U)) (as : List V) (H : Hp) (Q : VK) : Prop := ∃ ua u B ns xs ds d u' a, as.head? = some (V.ref a) ∧ Reps G ua (D.ins c ns xs :: ds) as B ∧ Wd ua u B H ∧ F (.ins c ns xs :: ds) u = some (d, u') ∧ ∀ v H', Aft G ua B H u' d v H' → Q v H'
/-- == and the like with a state -/
def BinUOk (G : Gx X.K) (F : Value → Value → Sem Value) (f : D → D → U → Option (D × U)) : Prop :=
  ∀ (ua : Option Addr) (u u' : U) (B H : Hp) (da db d : D) (va vb : V), f da db u = some (d, u') → Rep G ua da va B → Rep G ua db vb B → Wd ua u B H → ∃ r : R2, OpR X F r ∧ r va vb H (Aft G ua B H u' d)
def rBinU (G : Gx X.K) (f : D → D → U → Option (D × U)) : R2 := fun x y H Q => ∃ ua u u' B da db d, f da db u = some (d, u') ∧ Rep G ua da x B ∧ Rep G ua db y B ∧ Wd ua u B H ∧ ∀ v H', Aft G ua B H u' d v H' → Q v H'
theorem opU_of {F : Value → Value → Sem Value} {f : D → D → U → Option (D × U)} (hf : BinUOk G F f) : OpR X F (rBinU G f) := by
  intro pins s σ H x y v u Q I rx ry h
  obtain ⟨ua, u0, u', B, da, db, d, e, ra, rb, w, q⟩ := h
  obtain ⟨r, ho, hr⟩ := hf ua u0 u' B H da db d x y e ra rb w
  exact thn (ho pins s σ H x y v u _ I rx ry hr) fun v s ⟨z, H', I', r', a⟩ => ⟨z, H', I', r', q _ _ a⟩
def mBinU (f : D → D → U → Option (D × U)) (a b : M) : M := fun env u => bnd (a env u) fun x u1 => bnd (b env u1) fun y u2 => f x y u2
variable {a b e : Expr} {ma mb : M} {pos : Pos}
theorem binU_read {f : D → D → U → Option (D × U)} {σ : L2.St} {H : Hp} {Q : VK} (h : tEv G (mBinU f ma mb) σ H Q) : tOp (rBinU G f) (tEv G ma) (tEv G mb) σ H Q := by
  obtain ⟨ua, u, B, env, d, u', hE, hW, hm, q⟩ := h
  obtain ⟨x, u1, h1, h2⟩ := bnd_some hm
  obtain ⟨y, u2, h2, h3⟩ := bnd_some h2
  exact ⟨ua, u, B, env, x, u1, hE, hW, h1, fun v H1 ⟨B1, g1, w1, r1⟩ => ⟨ua, u1, B1, env, y, u2, hE.grow g1, w1, h2, fun v2 H2 ⟨B2, g2, w2, r2⟩ =>
    ⟨ua, u2, u', B2, x, y, d, h3, r1.mono _ _ g2.pub, r2, w2, fun v3 H3 a => q v3 H3 (.up g1 (.up g2 a))⟩⟩⟩
theorem dv_cmpU {op : CmpOp} {f : D → D → U → Option (D × U)} (hf : BinUOk G (compareOp op) f) (ha : PE X a (tEv G ma)) (hb : PE X b (tEv G mb)) (hm : behindInMarks op b = false := by rfl) : PE X (.Compare a [op] [b] pos) (tEv G (mBinU f ma mb)) :=
  (pe_cmpR (opU_of hf) ha hb hm).imp fun _ _ _ h => binU_read h
theorem binOk_u {F : Value → Value → Sem Value} {f : D → D → Option D} (h : BinOk G F f) : BinUOk G F (fun x y u => lft (f x y) u) := fun ua u u' B H da db d va vb e ra rb w => by
  obtain ⟨e2, rfl⟩ := lft_some e
  exact h ua _ B H da db d va vb e2 ra rb w

def blO (r : Option (D × U)) (n : Bool) : Option (D × U) := match r with
  | some (.bl b, u) => some (.bl (if n then !b else b), u)
  | _ => none
theorem blO_some {r : Option (D × U)} {n : Bool} {d : D} {u : U} (h : blO r n = some (d, u)) : ∃ b, r = some (.bl b, u) ∧ d = .bl (if n then !b else b) := by
  unfold blO at h
  split at h
  · cases h; exact ⟨_, rfl, rfl⟩
  · cases h
/-- x in y -/
def inO (c : Str) (F : List D → U → Option (D × U)) (f : D → D → Option D) (n : Bool) (x y : D) (u : U) : Option (D × U) := match y with
  | .ins c' ns xs => if c' = c then blO (F [.ins c' ns xs, x] u) n else none
  | y => lft (f x y) u
theorem ok_inU {c : Str} {k : Nat} {F : List D → U → Option (D × U)} (h0 : SpcOk X.prog X.w X.mg X.base G c ("__contains__" : Str) k 2 F) (hr : Room k X.A) {f : D → D → Option D} (hf : BinOk G (compareOp .In) f) : BinUOk G (compareOp .In) (inO c F f false) := by
  intro ua u u' B H da db d va vb e ra rb w
  unfold inO at e
  split at e
  · rename_i c' ns xs
    split at e
    · rename_i hc
      subst hc
      obtain ⟨k0, e1, rfl⟩ := blO_some e
      obtain ⟨C, f0, fd, ps, hC, hs, hfn, hfi, hfo, hb⟩ := h0
      have rb0 := rb
      unfold Rep at rb
      obtain ⟨y, C', dx, vs, rfl, hC', hB, hl, rs⟩ := rb
      rw [hC] at hC'
      cases hC'
      refine ⟨fun x y' H2 Q => x = va ∧ y' = V.ref y ∧ H2 = H ∧ ∀ v H', Aft G ua B H u' (.bl k0) v H' → Q v H', ?_, rfl, rfl, rfl, fun _ _ z => z⟩
      intro pins s σ H2 x y' v u2 Q I rx ry hq
      obtain ⟨rfl, rfl, rfl, q⟩ := hq
      cases ry
      obtain ⟨mA, J, _⟩ := ins_get I.hok (w.sub _ _ hB)
      obtain ⟨od, J, _⟩ := J.look
      obtain ⟨m, hF⟩ := I.fr
      refine PySem.W.in_K hF I.ok.mod.kin J hs hfn ?_
      refine wpAny_mono (call_fnA hfo hb hr rfl I (.cons (show RelV (V.ref y) (Value.ref y) from rfl) (.cons rx .nil)) ⟨ua, u, B, _, _, u', .cons rb0 (.cons ra .nil), rfl, w, e1, fun v H' a => (⟨a, rfl⟩ : Aft G ua B H2 u' (.bl k0) v H' ∧ v = v)⟩) (fun r s' hv => ?_) fun _ _ z => z
      obtain ⟨z, H', I', rz, ⟨a, _⟩⟩ := hv
      obtain ⟨B1, g1, w1, r1⟩ := id a
      cases r1.bl
      cases rz
      exact wpAny_truthy_bool ⟨.bl k0, H', I', rfl, q _ _ a⟩
    · cases e
  · obtain ⟨e2, rfl⟩ := lft_some e
    exact hf ua _ B H da _ d va vb e2 ra rb w
theorem ok_notinU {c : Str} {k : Nat} {F : List D → U → Option (D × U)} (h0 : SpcOk X.prog X.w X.mg X.base G c ("__contains__" : Str) k 2 F) (hr : Room k X.A) {f : D → D → Option D} (hf : BinOk G (compareOp .NotIn) f) : BinUOk G (compareOp .NotIn) (inO c F f true) := by
  intro ua u u' B H da db d va vb e ra rb w
  unfold inO at e
  split at e
  · rename_i c' ns xs
    split at e
    · rename_i hc
      subst hc
      obtain ⟨k0, e1, rfl⟩ := blO_some e
      obtain ⟨C, f0, fd, ps, hC, hs, hfn, hfi, hfo, hb⟩ := h0
      have rb0 := rb
      unfold Rep at rb
      obtain ⟨y, C', dx, vs, rfl, hC', hB, hl, rs⟩ := rb
      rw [hC] at hC'
      cases hC'
      refine ⟨fun x y' H2 Q => x = va ∧ y' = V.ref y ∧ H2 = H ∧ ∀ v H', Aft G ua B H u' (.bl (!k0)) v H' → Q v H', ?_, rfl, rfl, rfl, fun _ _ z => z⟩
      intro pins s σ H2 x y' v u2 Q I rx ry hq
      obtain ⟨rfl, rfl, rfl, q⟩ := hq
      cases ry
      obtain ⟨mA, J, _⟩ := ins_get I.hok (w.sub _ _ hB)
      obtain ⟨od, J, _⟩ := J.look
      obtain ⟨m, hF⟩ := I.fr
      refine PySem.W.notIn_K hF I.ok.mod.kin J hs hfn ?_
      refine wpAny_mono (call_fnA hfo hb hr rfl I (.cons (show RelV (V.ref y) (Value.ref y) from rfl) (.cons rx .nil)) ⟨ua, u, B, _, _, u', .cons rb0 (.cons ra .nil), rfl, w, e1, fun v H' a => (⟨a, rfl⟩ : Aft G ua B H2 u' (.bl k0) v H' ∧ v = v)⟩) (fun r s' hv => ?_) fun _ _ z => z
      obtain ⟨z, H', I', rz, ⟨a, _⟩⟩ := hv
      obtain ⟨B1, g1, w1, r1⟩ := id a
      cases r1.bl
      cases rz
      exact wpAny_truthy_bool ⟨.bl (!k0), H', I', rfl, q _ _ (show Aft G ua B H2 u' (.bl (!k0)) (.bl (!k0)) H' from ⟨B1, g1, w1, rep_bl⟩)⟩
    · cases e
  · obtain ⟨e2, rfl⟩ := lft_some e
    exact hf ua _ B H da _ d va vb e2 ra rb w

/-! ### x[i] -/
def ixO (c : Str) (F : List D → U → Option (D × U)) (x y : D) (u : U) : Option (D × U) := match x with
  | .ins c' ns xs => if c' = c then F [.ins c' ns xs, y] u else none
  | x => lft (ixD x y) u
theorem rep_ix {x y d : D} {u : U} {ua : Option Addr} {B H : Hp} {v v2 : V} (l3 : ixD x y = some d) (r1 : Rep G ua x v B) (r2 : Rep G ua y v2 B) (w2 : Wd ua u B H) : rIx X.K v v2 H (Aft G ua B H u d) := by
  unfold ixD at l3
  split at l3
  · obtain ⟨p, xs, rfl, h, r3⟩ := r1.lst
    cases r2.int
    obtain ⟨z, e, r4⟩ := r3.at l3
    exact .inl ⟨p, xs, _, z, rfl, rfl, .of (w2.sub _ _ h), e, ⟨B, .refl, w2, r4⟩⟩
  · obtain ⟨p, xs, rfl, h, r3⟩ := r1.tup
    cases r2.int
    obtain ⟨z, e, r4⟩ := r3.at l3
    exact .inr (.inl ⟨p, xs, _, z, rfl, rfl, (h.mono w2.sub).sq, e, ⟨B, .refl, w2, r4⟩⟩)
  · split at l3
    · cases r1.str
      cases r2.int
      obtain ⟨c, e, rfl⟩ := map_some l3
      exact .inr (.inr ⟨_, _, c, rfl, rfl, ‹_›, e, ⟨B, .refl, w2, rep_str⟩⟩)
    · cases l3
  · cases l3
theorem rIx_mono {K : PySem.W.Frag} {x y : V} {H : Hp} {Q Q' : VK} (h : rIx K x y H Q) (q : ∀ v H', Q v H' → Q' v H') : rIx K x y H Q' := by
  rcases h with ⟨p, xs, i, v, h1, h2, h3, h4, h5⟩ | ⟨p, xs, i, v, h1, h2, h3, h4, h5⟩ | ⟨z, i, c, h1, h2, h3, h4, h5⟩
  · exact .inl ⟨p, xs, i, v, h1, h2, h3, h4, q _ _ h5⟩
  · exact .inr (.inl ⟨p, xs, i, v, h1, h2, h3, h4, q _ _ h5⟩)
  · exact .inr (.inr ⟨z, i, c, h1, h2, h3, h4, q _ _ h5⟩)
def PlainIx2 (b : Expr) : Prop := ∀ o i, subscripted b true o i = runValue (.builtin "lifetime.subscript" ⟨[o, i], []⟩)
theorem pe_ixO {a b : Expr} {ta tb : TE} {pos : Pos} {C f : Addr} {fd : FuncData} {ps : List Str} {sp : Sp} {k : Nat} (hf : FnOk X.prog X.w X.K X.mg X.base CX0 k f fd ps sp) (hbd : Binds X.K fd ps []) (hr : Room (k + 1) X.A) (hfi : PySem.W.fnIn X.K f = true)
    (hs0 : PySem.W.findIn X.K (.ref C) "__getitem__" = some (some (.ref f))) (hfn : PySem.W.isFn X.K (.ref f) = true) (ha : PE X a ta) (hb : PE X b tb) (hs : PlainIx b) (hs2 : PlainIx2 b) :
    PE X (.Subscript a b pos) (tOp (fun x y H Q => rIx X.K x y H Q ∨ ∃ a dx fs, x = .ref a ∧ H a = some (.ins C dx fs) ∧ sp [x, y] H Q E0) ta tb) := by
  refine ⟨fun pins s σ H Q I h => ?_⟩
  refine Subscript_ (binT ha hb I h fun v u s2 x y H2 I2 rx ry q => ?_)
  rcases q with q | ⟨p, dx, fs, rfl, ea, q⟩
  · exact ix_seq a b pins s2 σ H2 x y v u Q I2 rx ry q (hs _ _)
  · cases rx
    obtain ⟨mA, J, _⟩ := ins_get I2.hok ea
    obtain ⟨od, J, _⟩ := J.look
    obtain ⟨m, hF⟩ := I2.fr
    exact PySem.W.sub_K hF I2.ok.mod.kin J hs0 hfi hfn (call_fnA hf hbd hr.in1 rfl I2 (.cons (show RelV (V.ref p) (Value.ref p) from rfl) (.cons ry .nil)) q) (hs2 _ _)
theorem dv_ixU {c : Str} {k : Nat} {F : List D → U → Option (D × U)} (h0 : SpcOk X.prog X.w X.mg X.base G c ("__getitem__" : Str) k 2 F) (hr : Room (k + 1) X.A) (ha : PE X a (tEv G ma)) (hb : PE X b (tEv G mb)) (hs : PlainIx b := by exact fun _ _ => rfl) (hs2 : PlainIx2 b := by exact fun _ _ => rfl) :
    PE X (.Subscript a b pos) (tEv G (mBinU (ixO c F) ma mb)) := by
  obtain ⟨C, f0, fd, ps, hC, hs0, hfn, hfi, hfo, hbd⟩ := h0
  refine (pe_ixO hfo hbd hr hfi hs0 hfn ha hb hs hs2).imp fun σ H Q h => ?_
  obtain ⟨ua, u, B, env, d, u', hE, hW, hm, q⟩ := h
  obtain ⟨x, u1, h1, h2⟩ := bnd_some hm
  obtain ⟨y, u2, h3, h4⟩ := bnd_some h2
  refine ⟨ua, u, B, env, x, u1, hE, hW, h1, fun v H1 ⟨B1, g1, w1, r1⟩ => ⟨ua, u1, B1, env, y, u2, hE.grow g1, w1, h3, fun v2 H2 ⟨B2, g2, w2, r2⟩ => ?_⟩⟩
  have r1 := r1.mono _ _ g2.pub
  unfold ixO at h4
  split at h4
  · split at h4
    · rename_i hc
      subst hc
      have r0 := r1
      unfold Rep at r1
      obtain ⟨p, C', dx, vs, rfl, hC', hB, hl, rs⟩ := r1
      rw [hC] at hC'
      cases hC'
      exact .inr ⟨p, dx, _, rfl, w2.sub _ _ hB, ua, u2, B2, _, d, u', .cons r0 (.cons r2 .nil), rfl, w2, h4, fun v H3 a => q _ _ (.up g1 (.up g2 a))⟩
    · cases h4
  · obtain ⟨h5, rfl⟩ := lft_some h4
    refine .inl (rIx_mono (rep_ix h5 r1 r2 w2) fun v H3 a => q _ _ (.up g1 (.up g2 a)))
end
end Dv

/-! Ow2: len and == by the text's own special methods. -/
namespace Dv
open PySem PySem.Spec PyProof.Rows L2
section
variable {X : Cx} {G : Gx X.K} {e : Expr} {es : List Expr} {ms : Ms} {pos p : Pos}
def BiUOk (G : Gx X.K) (f : Value) (sem : List D → U → Option (D × U)) : Prop := ∀ (ua : Option Addr) (u u' : U) (B H : Hp) (ds : List D) (d : D) (vs : List V), sem ds u = some (d, u') → Reps G ua ds vs B → Wd ua u B H →
  ∃ r, CallR X f r ∧ r vs H (Aft G ua B H u' d)
def rBiU (G : Gx X.K) (sem : List D → U → Option (D × U)) : List V → Hp → VK → Prop := fun vs H Q => ∃ ua u u' B ds d, sem ds u = some (d, u') ∧ Reps G ua ds vs B ∧ Wd ua u B H ∧ ∀ v H', Aft G ua B H u' d v H' → Q v H'
theorem callU_of {f : Value} {sem : List D → U → Option (D × U)} (hf : BiUOk G f sem) : CallR X f (rBiU G sem) := by
  intro pins s σ H xs us Q I r h
  obtain ⟨ua, u0, u', B, ds, d, e, rs, w, q⟩ := h
  obtain ⟨r', hr, hc⟩ := hf ua u0 u' B H ds d xs e rs w
  exact thn (hr pins s σ H xs us _ I r hc) fun v s ⟨z, H', I', r', a⟩ => ⟨z, H', I', r', q _ _ a⟩
def mBiU (sem : List D → U → Option (D × U)) (m : Ms) : M := fun env u => bnd (m env u) fun ds u1 => sem ds u1
theorem biU_read {sem : List D → U → Option (D × U)} {σ : L2.St} {H : Hp} {Q : VK} (h : tEv G (mBiU sem ms) σ H Q) : tCB (rBiU G sem) (tEvs G ms) σ H Q := by
  obtain ⟨ua, u, B, env, d, u', hE, hW, hm, q⟩ := h
  obtain ⟨ds, u1, h1, h2⟩ := bnd_some hm
  exact ⟨ua, u, B, env, ds, u1, hE, hW, h1, fun vs H1 ⟨B1, g1, w1, r1⟩ => ⟨ua, u1, u', B1, ds, d, h2, r1, w1, fun v H2 a => q _ _ (.up g1 a)⟩⟩
theorem dv_biU {x : Str} {id : String} {sem : List D → U → Option (D × U)} (hc : BiUOk G (.builtin id) sem) (hg : Gl X x) (hm : X.mg x = none) (hv : bootBuiltins x = some (.builtin id)) (ha : PA X (e :: es) (tEvs G ms)) (hn : x ≠ "__name__" := by decide) (hdb : (x == ("__debug__" : Str)) = false := by decide)
    (he : starEach (e :: es) X.env = (false, eval e X.env) :: starEach es X.env := by rfl) (hpl : (backTo pos (starEach es X.env)).any (·.1) = false := by rfl) : PE X (.Call (.Name x p) (e :: es) [] pos) (tEv G (mBiU sem ms)) :=
  (pe_callB (callU_of hc) hg hm hv ha hn hdb he hpl).imp fun _ _ _ h => biU_read h
def intO (r : Option (D × U)) : Option (D × U) := match r with
  | some (.int n, u) => if 0 ≤ n ∧ n < 2 ^ 63 then some (.int n, u) else none
  | _ => none
theorem intO_some {r : Option (D × U)} {d : D} {u : U} (h : intO r = some (d, u)) : ∃ n : Int, r = some (.int n, u) ∧ d = .int n ∧ 0 ≤ n ∧ n < 2 ^ 63 := by
  unfold intO at h
  split at h
  · split at h
    · cases h; exact ⟨_, rfl, rfl, ‹_›⟩
    · cases h
  · cases h
def lenO (c : Str) (F : List D → U → Option (D × U)) (ds : List D) (u : U) : Option (D × U) := match ds with
  | [.ins c' ns xs] => if c' = c then intO (F [.ins c' ns xs] u) else none
  | ds => lft (bLen ds) u
theorem ok_lenU {c : Str} {k : Nat} {F : List D → U → Option (D × U)} (h0 : SpcOk X.prog X.w X.mg X.base G c ("__len__" : Str) k 1 F) (hr : Room (k + 1) X.A) (hl0 : BiOk G (.builtin "len") bLen) : BiUOk G (.builtin "len") (lenO c F) := by
  intro ua u u' B H ds d vs e rs w
  unfold lenO at e
  split at e
  · split at e
    · rename_i hc
      subst hc
      obtain ⟨n, e1, rfl, n0, n1⟩ := intO_some e
      obtain ⟨C, f0, fd, ps, hC, hs, hfn, hfi, hfo, hb⟩ := h0
      have rs0 := rs
      obtain ⟨v, t, rfl, r1, r2⟩ := rs.of_cons
      have ht := r2.of_nil
      subst ht
      unfold Rep at r1
      obtain ⟨y, C', dx, vs, rfl, hC', hB, hl, rs⟩ := r1
      rw [hC] at hC'
      cases hC'
      refine ⟨fun zs H2 Q => zs = [V.ref y] ∧ H2 = H ∧ ∀ v H', Aft G ua B H u' (.int n) v H' → Q v H', ?_, rfl, rfl, fun _ _ z => z⟩
      intro pins s σ H2 zs us Q I rx hq
      obtain ⟨rfl, rfl, q⟩ := hq
      obtain ⟨u1, rfl, ru⟩ := vals1 rx
      cases ru
      obtain ⟨mA, J, _⟩ := ins_get I.hok (w.sub _ _ hB)
      obtain ⟨od, J, _⟩ := J.look
      obtain ⟨m, hF⟩ := I.fr
      refine PySem.W.len_K hF I.ok.mod.kin J hs hfn ?_
      refine wpAny_mono (call_fnA hfo hb hr.in1 rfl I (.cons (show RelV (V.ref y) (Value.ref y) from rfl) .nil) ⟨ua, u, B, _, _, u', rs0, rfl, w, e1, fun v H' a => a⟩) (fun r s' hv => ?_) fun _ _ z => z
      obtain ⟨z, H', I', rz, a⟩ := hv
      obtain ⟨B1, g1, w1, r1⟩ := id a
      cases r1.int
      obtain ⟨t, rfl⟩ := (show ∃ t, r = Value.int n t from rz)
      exact ⟨⟨n0, n1⟩, .int n, H', I'.tok _, ⟨_, rfl⟩, q _ _ a⟩
    · cases e
  · obtain ⟨e2, rfl⟩ := lft_some e
    exact hl0 ua _ B H _ d vs e2 rs w

end
end Dv

/-! Eqt: == and != by the text's own __eq__. -/
namespace Dv
open PySem PySem.Spec PyProof.Rows L2
theorem noref (C : Addr) : ∀ l : List String, (l.map Value.type).contains (Value.ref C) = false
  | [] => rfl
  | a :: r => by
    rw [List.map_cons, List.contains_cons, noref C r]
    rfl
theorem nf_type {K : PySem.W.Frag} {C : Addr} {T : String} (h : (PySem.fastBuiltinMro T).isSome = true) : PySem.W.notFirst K C (.type T) = true := by
  unfold PySem.W.notFirst PySem.W.subIn
  show ((Value.type T == Value.ref C) || (Option.map (fun x => x.contains (Value.ref C)) (PySem.fastBuiltinMro T) == some false)) = true
  unfold PySem.fastBuiltinMro at h ⊢
  cases e : PySem.fastFind? T with
  | none => rw [e] at h; cases h
  | some a =>
    rw [Option.map_some, Option.map_some, noref]
    exact Bool.or_true _
theorem looks_ty {M : Model} {h : Heap} {p : Addr} {o : Obj} {t : Value} (ho : h.get? p = some o) (hc : o.cls = t) : PySem.W.Looks M h (typeOf (.ref p)) t := (PySem.W.Looks.ld ho).andThen (by rw [hc]; exact .now)
/-- no urn, no error -/
def noUrn : D → Bool
  | .urn => false
  | .exc _ _ _ => false
  | .fn _ => false
  | .dct _ _ => false
  | _ => true
/-- what == may be asked with on the other side -/
theorem other_ty {X : Cx} {G : Gx X.K} {pins : List (Addr × Obj)} {s : Shared} {σ : L2.St} {H B : Hp} {ua : Option Addr} {d : D} {v : V} {u : Value} {C : Addr} (hG : ∀ c C', G.cls c = some C' → PySem.W.notFirst X.K C (.ref C') = true) (I : Inv X pins σ H s) (r : Rep G ua d v B) (hs : Same B H) (ru : RelV v u) (hd : noUrn d = true) :
    ∃ tb, PySem.W.Looks (model X.prog X.w) s.heap (typeOf u) tb ∧ PySem.W.notFirst X.K C tb = true := by
  cases d with
  | non => cases r.non; cases ru; exact ⟨_, .of_pure rfl, nf_type (by kernel_rfl)⟩
  | bl b => cases r.bl; cases ru; exact ⟨_, .of_pure rfl, nf_type (by kernel_rfl)⟩
  | int i => cases r.int; obtain ⟨t, rfl⟩ := (show ∃ t, u = Value.int i t from ru); exact ⟨_, .of_pure rfl, nf_type (by kernel_rfl)⟩
  | str i => cases r.str; obtain ⟨t, rfl⟩ := (show ∃ t, u = Value.str i t from ru); exact ⟨_, .of_pure rfl, nf_type (by kernel_rfl)⟩
  | lst ds =>
    obtain ⟨a, xs, rfl, ha, _⟩ := r.lst
    cases ru
    obtain ⟨its, n, _, e, _⟩ := I.lst (hs _ _ ha)
    exact ⟨_, looks_ty e rfl, nf_type (by kernel_rfl)⟩
  | tup ds =>
    obtain ⟨a, xs, rfl, ha, _⟩ := r.tup
    cases ru
    obtain ⟨its, _, ⟨o, e, hc, _⟩, _⟩ := I.tuple (ha.mono hs).sq
    exact ⟨_, looks_ty e hc, nf_type (by kernel_rfl)⟩
  | pr ds =>
    obtain ⟨a, xs, rfl, ha, _⟩ := r.pr
    cases ru
    obtain ⟨its, _, ⟨o, e, hc, _⟩, _⟩ := I.tuple (SqT.of (hs _ _ ha))
    exact ⟨_, looks_ty e hc, nf_type (by kernel_rfl)⟩
  | ins c ns ds =>
    unfold Rep at r
    obtain ⟨y, C', dx, vs, rfl, hC', hB, hl, rs⟩ := r
    cases ru
    obtain ⟨mA, J, _⟩ := ins_get I.hok (hs _ _ hB)
    obtain ⟨od, J, _⟩ := J.look
    exact ⟨_, J.type, hG _ _ hC'⟩
  | exc c ns ds => cases hd
  | fn x => cases hd
  | dct k x => cases hd
  | urn => cases hd
def ClsNF {K : PySem.W.Frag} (G : Gx K) (c : Str) : Prop := ∀ C, G.cls c = some C → ∀ c' C', G.cls c' = some C' → PySem.W.notFirst K C (.ref C') = true
def isIns : D → Bool
  | .ins _ _ _ => true
  | _ => false
/-- x == y -/
def eqO (c : Str) (F : List D → U → Option (D × U)) (f : D → D → Option D) (x y : D) (u : U) : Option (D × U) := match x with
  | .ins c' ns xs => if c' = c ∧ noUrn y = true then blO (F [.ins c' ns xs, y] u) false else none
  | x => if isIns y = true then none else lft (f x y) u
section
variable {X : Cx} {G : Gx X.K}
theorem ok_eqU {c : Str} {k : Nat} {F : List D → U → Option (D × U)} (h0 : SpcOk X.prog X.w X.mg X.base G c ("__eq__" : Str) k 2 F) (hn : ClsNF G c) (hr : Room k X.A) {f : D → D → Option D} (hf : BinOk G (compareOp .Eq) f) : BinUOk G (compareOp .Eq) (eqO c F f) := by
  intro ua u u' B H da db d va vb e ra rb w
  unfold eqO at e
  split at e
  · rename_i c' ns xs
    split at e
    · rename_i hc
      obtain ⟨rfl, hu⟩ := hc
      obtain ⟨k0, e1, rfl⟩ := blO_some e
      obtain ⟨C, f0, fd, ps, hC, hs, hfn, hfi, hfo, hb⟩ := h0
      have ra0 := ra
      unfold Rep at ra
      obtain ⟨y, C', dx, vs, rfl, hC', hB, hl, rs⟩ := ra
      rw [hC] at hC'
      cases hC'
      refine ⟨fun x y' H2 Q => x = V.ref y ∧ y' = vb ∧ H2 = H ∧ ∀ v H', Aft G ua B H u' (.bl k0) v H' → Q v H', ?_, rfl, rfl, rfl, fun _ _ z => z⟩
      intro pins s σ H2 x y' v u2 Q I rx ry hq
      obtain ⟨rfl, rfl, rfl, q⟩ := hq
      cases rx
      obtain ⟨mA, J, _⟩ := ins_get I.hok (w.sub _ _ hB)
      obtain ⟨od, J, _⟩ := J.look
      obtain ⟨m, hF⟩ := I.fr
      obtain ⟨tb, l1, l2⟩ := other_ty (C := C) (fun c2 C2 h2 => hn C hC c2 C2 h2) I rb w.sub ry hu
      show wpAny _ _ (richCompare .Eq _ _) _ _ _
      refine PySem.W.cmp_K (op := .Eq) hr.units0 hF I.ok.mod.kin J l1 l2 hs hfn ?_
      refine wpAny_mono (call_fnA hfo hb hr rfl I (.cons (show RelV (V.ref y) (Value.ref y) from rfl) (.cons ry .nil)) ⟨ua, u, B, _, _, u', .cons ra0 (.cons rb .nil), rfl, w, e1, fun v H' a => a⟩) (fun r s' hv => ?_) fun _ _ z => z
      obtain ⟨z, H', I', rz, a⟩ := hv
      obtain ⟨B1, g1, w1, r1⟩ := id a
      cases r1.bl
      cases rz
      exact ⟨.bl k0, H', I', rfl, q _ _ a⟩
    · cases e
  · split at e
    · cases e
    · obtain ⟨e2, rfl⟩ := lft_some e
      exact hf ua _ B H _ db d va vb e2 ra rb w
end
end Dv

/-! Net: != by the text's own __eq__ (object's __ne__). -/
namespace Dv
open PySem PySem.Spec PyProof.Rows L2
section
variable {prog : Program} {w : World} {A : Around} {E : Value → Shared → Prop} {s : Shared} {K : PySem.W.Frag} {x C L f : Addr} {h₀ : Heap} {m : Str → Option Value} {ox : Obj} {od : Option Obj} {b tb : Value}
theorem ne_run {Q : Value → Shared → Prop} (X : K.In s.heap) (I : PySem.W.InstAt s.heap x ox C od) (hm : PySem.W.mroIn K C (.type "object") = some true) (hs : PySem.W.findIn K (.ref C) "__eq__" = some (some (.ref f))) (hf : PySem.W.isFn K (.ref f) = true) (hu : A.in1.units < cLine)
    (h : wpAny (model prog w) A.in1 (call (.ref f) [.ref x, b]) (fun v s' => ∃ k, v = .bool k ∧ Q (.bool (!k)) s') E s) : wpAny (model prog w) A (call (.builtin "object.__ne__") [.ref x, b]) Q E s := by
  have inst : PySem.W.Looks (model prog w) s.heap (isInstance (.ref x) (.type "object")) true := I.type.andThen (PySem.W.looks_mroIn X hm)
  refine wpAny_call (codeAny_call_builtin F.cmp_object.ne.plain F.cmpEntry_ne (@PySem.W.check_slot (model prog w) _ _ _ "object.__ne__" "object" "__ne__" (.ref x) [b] [] _ (by decide +kernel) (by decide +kernel) inst (F.cmpArgs_ne _ _) ?_))
  unfold Builtin.«object.__ne__»
  repeat (first
    | with_reducible refine wpAny_cRoomFor hu ?_
    | (refine wpAny_bind (m := callSpecialIfBound? (.ref x) (Str.ofString "__eq__") [b])
        (PySem.W.ifBound_K X I hs hf (wpAny_mono h (fun r s' hr => by
          obtain ⟨k, rfl, hq⟩ := hr
          repeat (first | exact hq | exact wpAny_pure hq | exact wpAny_truthy_bool hq | (refine wpAny_bind (m := truthy (.bool _)) (wpAny_truthy_bool ?_)) | wp_step)) fun _ _ e => e)))
    | wp_step)
theorem ne_K {Q : Value → Shared → Prop} (hu0 : A.units < cLine) (hu : A.in1.units < cLine) (F0 : Fr h₀ L s.heap m) (X₀ : K.In h₀) (I : PySem.W.InstAt s.heap x ox C od) (hb : PySem.W.Looks (model prog w) s.heap (typeOf b) tb) (hn : PySem.W.notFirst K C tb = true)
    (hm : PySem.W.mroIn K C (.type "object") = some true) (hne : PySem.W.findIn K (.ref C) "__ne__" = some (some (.builtin "object.__ne__"))) (hs : PySem.W.findIn K (.ref C) "__eq__" = some (some (.ref f))) (hf : PySem.W.isFn K (.ref f) = true)
    (h : wpAny (model prog w) A.in1 (call (.ref f) [.ref x, b]) (fun v s' => ∃ k, v = .bool k ∧ Q (.bool (!k)) s') E s) : wpAny (model prog w) A (richCompare .NotEq (.ref x) b) Q E s := by
  have X := X₀.keeps F0.keep
  have one : wpAny (model prog w) A (tryCompare (.ref x) (cmpInfo .NotEq).2.1 b) (fun r s' => ∃ v, r = some v ∧ Q v s') E s := by
    show wpAny (model prog w) A (tryCompare (.ref x) "__ne__" b) _ E s
    unfold tryCompare
    refine wpAny_bind ?_
    simp only [callSpecialIfBound?, bindSpecialIfBound?]
    refine wpAny_holding (wpAny_bind (wpAny_bind (wpAny_bind (I.type.here ((PySem.W.looks_findIn X hne).here ?_)))))
    simp only [F.cmp_object.ne.bind]
    refine wpAny_bind (wpAny_askSetting (wpAny_ite ?_))
    have fin : wpAny (model prog w) A (call (.builtin "object.__ne__") ([.ref x] ++ [b]) >>= fun v => pure (some v)) (fun a s' => wpAny (model prog w) A (match a with | some .notImplemented | none => pure none | some v => pure (some v)) (fun r s' => ∃ v, r = some v ∧ Q v s') E s') E s :=
      wpAny_bind (ne_run X I hm hs hf hu (wpAny_mono h (fun v s' ⟨k, e, q⟩ => ⟨k, e, wpAny_pure (wpAny_pure ⟨_, rfl, q⟩)⟩) fun _ _ e => e))
    split
    · exact wpAny_bind (wpAny_pure (wpAny_pure fin))
    · exact wpAny_tryCatch (wpAny_bind (wpAny_pure (wpAny_pure fin)))
  unfold richCompare
  simp only [oneThing_ref]
  refine wpAny_holding (wpAny_bind (wpAny_cRoomFor hu0 ?_))
  refine wpAny_bind (I.type.here (wpAny_bind (hb.here ?_)))
  split
  · rename_i q
    have e : PySem.W.subIn K tb (.ref C) = some false := by
      rcases Bool.or_eq_true_iff.mp hn with e | e
      · rw [beq_iff_eq.mp e] at q; simp at q
      · exact beq_iff_eq.mp e
    refine wpAny_bind ((PySem.W.looks_subIn X e).here ?_)
    simp only [Bool.false_eq_true, if_false]
    refine wpAny_bind (wpAny_mono one (fun r s' z => ?_) fun _ _ e => e)
    obtain ⟨v, rfl, hq⟩ := z
    exact wpAny_pure hq
  · refine wpAny_bind (wpAny_pure ?_)
    simp only [Bool.false_eq_true, if_false]
    refine wpAny_bind (wpAny_mono one (fun r s' z => ?_) fun _ _ e => e)
    obtain ⟨v, rfl, hq⟩ := z
    exact wpAny_pure hq
end
def NeObj {K : PySem.W.Frag} (G : Gx K) (c : Str) : Prop := ∀ C, G.cls c = some C → PySem.W.findIn K (.ref C) "__ne__" = some (some (.builtin "object.__ne__"))
/-- x != y -/
def neO (c : Str) (F : List D → U → Option (D × U)) (f : D → D → Option D) (x y : D) (u : U) : Option (D × U) := match x with
  | .ins c' ns xs => if c' = c ∧ noUrn y = true then blO (F [.ins c' ns xs, y] u) true else none
  | x => if isIns y = true then none else lft (f x y) u
section
variable {X : Cx} {G : Gx X.K}
theorem ok_neU {c : Str} {k : Nat} {F : List D → U → Option (D × U)} (h0 : SpcOk X.prog X.w X.mg X.base G c ("__eq__" : Str) k 2 F) (hn : ClsNF G c) (ho : NeObj G c) (hr : Room (k + 1) X.A) {f : D → D → Option D} (hf : BinOk G (compareOp .NotEq) f) : BinUOk G (compareOp .NotEq) (neO c F f) := by
  intro ua u u' B H da db d va vb e ra rb w
  unfold neO at e
  split at e
  · rename_i c' ns xs
    split at e
    · rename_i hc
      obtain ⟨rfl, hu⟩ := hc
      obtain ⟨k0, e1, rfl⟩ := blO_some e
      obtain ⟨C, f0, fd, ps, hC, hs, hfn, hfi, hfo, hb⟩ := h0
      have ra0 := ra
      unfold Rep at ra
      obtain ⟨y, C', dx, vs, rfl, hC', hB, hl, rs⟩ := ra
      rw [hC] at hC'
      cases hC'
      refine ⟨fun x y' H2 Q => x = V.ref y ∧ y' = vb ∧ H2 = H ∧ ∀ v H', Aft G ua B H u' (.bl (!k0)) v H' → Q v H', ?_, rfl, rfl, rfl, fun _ _ z => z⟩
      intro pins s σ H2 x y' v u2 Q I rx ry hq
      obtain ⟨rfl, rfl, rfl, q⟩ := hq
      cases rx
      obtain ⟨mA, J, _⟩ := ins_get I.hok (w.sub _ _ hB)
      obtain ⟨od, J, _⟩ := J.look
      obtain ⟨m, hF⟩ := I.fr
      obtain ⟨tb, l1, l2⟩ := other_ty (C := C) (fun c2 C2 h2 => hn C hC c2 C2 h2) I rb w.sub ry hu
      show wpAny _ _ (richCompare .NotEq _ _) _ _ _
      refine ne_K hr.units0 hr.in1.units0 hF I.ok.mod.kin J l1 l2 (G.ok _ _ hC).hm (ho C hC) hs hfn ?_
      refine wpAny_mono (call_fnA hfo hb hr.in1 rfl I (.cons (show RelV (V.ref y) (Value.ref y) from rfl) (.cons ry .nil)) ⟨ua, u, B, _, _, u', .cons ra0 (.cons rb .nil), rfl, w, e1, fun v H' a => a⟩) (fun r s' hv => ?_) fun _ _ z => z
      obtain ⟨z, H', I', rz, a⟩ := hv
      obtain ⟨B1, g1, w1, r1⟩ := id a
      cases r1.bl
      cases rz
      exact ⟨k0, rfl, .bl (!k0), H', I', rfl, q _ _ ⟨B1, g1, w1, rep_bl⟩⟩
    · cases e
  · split at e
    · cases e
    · obtain ⟨e2, rfl⟩ := lft_some e
      exact hf ua _ B H _ db d va vb e2 ra rb w
end
end Dv

/-! Rfl: a list == an instance: the instance's own __eq__ is asked. -/
namespace Dv
open PySem PySem.Spec PyProof.Rows L2
section
variable {prog : Program} {w : World} {A : Around} {E : Value → Shared → Prop} {s : Shared} {K : PySem.W.Frag} {x l C L f : Addr} {h₀ : Heap} {m : Str → Option Value} {ox : Obj} {od : Option Obj}
theorem list_declines {Q : Value → Shared → Prop} {its : Array Value} {n : Nat} (X : K.In s.heap) (I : PySem.W.InstAt s.heap x ox C od) (hl : s.heap.get? l = some { cls := .type "list", data := .seq its n }) (hq : PySem.W.subIn K (.ref C) (.type "list") = some false)
    (h : Q .notImplemented s) : wpAny (model prog w) A (call (.builtin "list.__eq__") [.ref l, .ref x]) Q E s := by
  have inst : PySem.W.Looks (model prog w) s.heap (isInstance (.ref x) (.type "list")) false := I.type.andThen (PySem.W.looks_subIn X hq)
  refine GQ.call_here F.slot_list_eq ⟨_, hl, rfl⟩ F.entry_list_eq (F.args_list_eq_2 _ _) ?_
  show wpAny _ _ (isInstance (.ref x) (.type "list") >>= _) _ _ s
  refine wpAny_bind (inst.here ?_)
  exact wpAny_pure h
theorem eq_refl_K {Q : Value → Shared → Prop} {its : Array Value} {n : Nat} (hu : A.units < cLine) (F0 : Fr h₀ L s.heap m) (X₀ : K.In h₀) (I : PySem.W.InstAt s.heap x ox C od) (hl : s.heap.get? l = some { cls := .type "list", data := .seq its n }) (hq : PySem.W.subIn K (.ref C) (.type "list") = some false)
    (hs : PySem.W.findIn K (.ref C) "__eq__" = some (some (.ref f))) (hf : PySem.W.isFn K (.ref f) = true)
    (h : wpAny (model prog w) A (call (.ref f) [.ref x, .ref l]) (PySem.W.CmpBack Q) E s) : wpAny (model prog w) A (richCompare .Eq (.ref l) (.ref x)) Q E s := by
  have X := X₀.keeps F0.keep
  have tl : s.TypeIs (.ref l) "list" := ⟨_, hl, rfl⟩
  have two : wpAny (model prog w) A (tryCompare (.ref x) "__eq__" (.ref l)) (fun r s' => ∃ v, r = some v ∧ Q v s') E s := by
    unfold tryCompare
    refine wpAny_bind (PySem.W.ifBound_K X I hs hf (wpAny_mono h (fun v s' hv => ?_) fun _ _ e => e))
    cases v <;> first | exact hv.elim | exact wpAny_pure ⟨_, rfl, hv⟩
  have one : wpAny (model prog w) A (tryCompare (.ref l) "__eq__" (.ref x)) (fun r s' => r = none ∧ s' = s) E s := by
    unfold tryCompare
    refine wpAny_bind ?_
    simp only [callSpecialIfBound?, bindSpecialIfBound?]
    refine wpAny_holding (wpAny_bind (wpAny_bind (wpAny_specialOf tl F.slot_list_eq.lookup ?_)))
    simp only [F.slot_list_eq.bind]
    refine wpAny_bind (wpAny_askSetting (wpAny_ite ?_))
    have fin : wpAny (model prog w) A (call (.builtin "list.__eq__") ([.ref l] ++ [.ref x]) >>= fun v => pure (some v)) (fun a s' => wpAny (model prog w) A (match a with | some .notImplemented | none => pure none | some v => pure (some v)) (fun r s2 => r = none ∧ s2 = s) E s') E s :=
      wpAny_bind (list_declines X I hl hq (wpAny_pure (wpAny_pure ⟨rfl, rfl⟩)))
    split
    · exact wpAny_bind (wpAny_pure (wpAny_pure fin))
    · exact wpAny_tryCatch (wpAny_bind (wpAny_pure (wpAny_pure fin)))
  unfold richCompare
  simp only [oneThing_ref]
  refine wpAny_holding (wpAny_bind (wpAny_cRoomFor hu ?_))
  refine wpAny_bind (wpAny_typeOf tl (wpAny_bind (I.type.here ?_)))
  split
  · refine wpAny_bind ((PySem.W.looks_subIn X hq).here ?_)
    simp only [Bool.false_eq_true, if_false]
    refine wpAny_bind (wpAny_mono one (fun r s' z => ?_) fun _ _ e => e)
    obtain ⟨rfl, rfl⟩ := z
    dsimp only
    simp only [Bool.not_false, if_true]
    refine wpAny_bind (wpAny_mono two (fun r s' z => ?_) fun _ _ e => e)
    obtain ⟨v, rfl, hq⟩ := z
    exact wpAny_pure hq
  · rename_i q
    exact absurd (show (Value.type "list" != Value.ref C) = true from rfl) q
end
def SubL {K : PySem.W.Frag} (G : Gx K) (c : Str) : Prop := ∀ C, G.cls c = some C → PySem.W.subIn K (.ref C) (.type "list") = some false
/-- x == y, y asked where x is a list and y an instance -/
def eqL (c : Str) (F : List D → U → Option (D × U)) (f : D → D → Option D) (x y : D) (u : U) : Option (D × U) := match x, y with
  | .lst ds, .ins c' ns xs => if c' = c then blO (F [.ins c' ns xs, .lst ds] u) false else none
  | x, y => eqO c F f x y u
section
variable {X : Cx} {G : Gx X.K}
theorem ok_eqL {c : Str} {k : Nat} {F : List D → U → Option (D × U)} (h0 : SpcOk X.prog X.w X.mg X.base G c ("__eq__" : Str) k 2 F) (hn : ClsNF G c) (hq : SubL G c) (hr : Room k X.A) {f : D → D → Option D} (hf : BinOk G (compareOp .Eq) f) : BinUOk G (compareOp .Eq) (eqL c F f) := by
  intro ua u u' B H da db d va vb e ra rb w
  unfold eqL at e
  split at e
  · rename_i ds c' ns xs
    split at e
    · rename_i hc
      subst hc
      obtain ⟨k0, e1, rfl⟩ := blO_some e
      obtain ⟨C, f0, fd, ps, hC, hs, hfn, hfi, hfo, hb⟩ := h0
      have ra0 := ra
      have rb0 := rb
      obtain ⟨l, vl, rfl, hl, _⟩ := ra.lst
      unfold Rep at rb
      obtain ⟨y, C', dx, vs, rfl, hC', hB, hlen, rs⟩ := rb
      rw [hC] at hC'
      cases hC'
      refine ⟨fun x y' H2 Q => x = V.ref l ∧ y' = V.ref y ∧ H2 = H ∧ ∀ v H', Aft G ua B H u' (.bl k0) v H' → Q v H', ?_, rfl, rfl, rfl, fun _ _ z => z⟩
      intro pins s σ H2 x y' v u2 Q I rx ry hq2
      obtain ⟨rfl, rfl, rfl, q⟩ := hq2
      cases rx
      cases ry
      obtain ⟨mA, J, _⟩ := ins_get I.hok (w.sub _ _ hB)
      obtain ⟨od, J, _⟩ := J.look
      obtain ⟨m, hF⟩ := I.fr
      obtain ⟨its, n, _, el, _⟩ := I.lst (w.sub _ _ hl)
      show wpAny _ _ (richCompare .Eq _ _) _ _ _
      refine eq_refl_K hr.units0 hF I.ok.mod.kin J el (hq C hC) hs hfn ?_
      refine wpAny_mono (call_fnA hfo hb hr rfl I (.cons (show RelV (V.ref y) (Value.ref y) from rfl) (.cons (show RelV (V.ref l) (Value.ref l) from rfl) .nil)) ⟨ua, u, B, _, _, u', .cons rb0 (.cons ra0 .nil), rfl, w, e1, fun v H' a => a⟩) (fun r s' hv => ?_) fun _ _ z => z
      obtain ⟨z, H', I', rz, a⟩ := hv
      obtain ⟨B1, g1, w1, r1⟩ := id a
      cases r1.bl
      cases rz
      exact ⟨.bl k0, H', I', rfl, q _ _ a⟩
    · cases e
  · exact ok_eqU h0 hn hr hf ua u u' B H _ _ d va vb e ra rb w
end
end Dv

/-! Mo: tuple.count, isinstance of a class of the text, statements that are not reached, lists of one's own. -/
namespace Dv
open PySem PySem.Spec PyProof.Rows L2
section
variable {X : Cx} {G : Gx X.K}
def rCntT (K : PySem.W.Frag) : V → List V → Hp → VK → Prop := fun x xs H Q => ∃ (p : Addr) (y : V) (d : PyData) (ds : List PyData), x = .ref p ∧ xs = [y] ∧ Dp K H (.ref p) (.tuple ds) ∧ Dp K H y d ∧ SeqAt.shaped (.tuple ds) = true ∧ SeqAt.shaped d = true ∧ Q (.int (ds.countP (fun z => PyData.eqv z d) : Nat)) H
theorem mt_tcount (hu : X.A.units + 65 < cLine) : MtR X "tuple.count" (rCntT X.K) := by
  intro pins s σ H x xs v us Q I rx rxs h
  obtain ⟨p, y, d, ds, rfl, rfl, hl, hy, sl, sd, q⟩ := h
  cases rx
  obtain ⟨uy, rfl, ry⟩ := rxs.one
  obtain ⟨bs, rb⟩ := Dp.reads I d y uy hy ry
  have hxs : PyData.canLayAll0 ds = true := SeqAt.canLay_of_shaped sl
  cases hl with
  | tup hs ha =>
    obtain ⟨its, rv, ⟨o, eo, ec, n, ed⟩, _⟩ := I.tuple hs
    obtain ⟨as, ra⟩ := Dp.readsAll I ds _ its ha rv
    have em : its.map (SeqAt.readOf s.heap) = ds := SeqAt.readsAll_map ds its as hxs ra
    obtain ⟨oc, odi, oda, osl⟩ := o
    dsimp only at ec ed
    subst ec
    subst ed
    refine call_meets PySem.F.slot_tuple_count ⟨_, eo, rfl⟩ PySem.F.entry_tuple_count (PySem.F.args_tuple_count_2 _ _)
      (SeqAt.tuple_countAt p its.toArray n _ _ uy fun z => PyData.eqv (SeqAt.readOf s.heap z) d) ⟨eo, SeqAt.items_eqAt (vs := its.toArray) (by simpa using ra) rb hxs (SeqAt.canLay_of_shaped sd) (room_in_shaped sd hu), ?_⟩
    refine ⟨.int (ds.countP (fun z => PyData.eqv z d) : Nat), H, I.tok _, ⟨s.toks, ?_⟩, q⟩
    show Value.int ((its.toArray.toList.countP (fun z => PyData.eqv (SeqAt.readOf s.heap z) d) : Nat) : Int) s.toks = _
    rw [← em, List.countP_map]
    rfl
end
/-- isinstance(e, C), C a class of the text -/
def isC (c : Str) : D → Option Bool
  | .exc _ _ _ => none
  | .fn _ => none
  | .dct _ _ => none
  | .ins c' _ _ => if c' = c then some true else none
  | .urn => none
  | _ => some false
def mIsC (c : Str) (a : M) : M := fun env u => bnd (a env u) fun x u1 => lft ((isC c x).map .bl) u1
def TyC {K : PySem.W.Frag} (G : Gx K) (c : Str) : Prop := ∀ C, G.cls c = some C → (PySem.W.clsIn K C).isSome = true ∧ PySem.W.typeIn K (.ref C) = some (.type "type")
theorem kit_noC {K : PySem.W.Frag} {C : Addr} {T : String} (h1 : (PySem.W.clsIn K C).isSome = true) (h2 : PySem.W.typeIn K (.ref C) = some (.type "type")) (h : (PySem.fastBuiltinMro T).isSome = true) : PySem.W.kitOne K (.type T) (.ref C) = some false := by
  unfold PySem.W.kitOne
  rw [if_neg (show ¬ (Value.type T == Value.ref C) = true from Bool.false_ne_true)]
  show (if ((PySem.W.clsIn K C).isSome && PySem.W.typeIn K (.ref C) == some (.type "type")) = true then _ else _) = _
  rw [h1, h2, if_pos (by decide +kernel)]
  show Option.map (fun x => x.contains (Value.ref C)) (PySem.fastBuiltinMro T) = _
  unfold PySem.fastBuiltinMro at h ⊢
  cases e : PySem.fastFind? T with
  | none => rw [e] at h; cases h
  | some a => rw [Option.map_some, Option.map_some, noref]
section
variable {X : Cx} {G : Gx X.K} {a : Expr} {ma : M} {p pos pT : Pos}
theorem rep_isC {c : Str} {C : Addr} {ua : Option Addr} {u : U} {B H : Hp} {d : D} {v : V} {k : Bool} (hC : G.cls c = some C) (hT : TyC G c) (e : isC c d = some k) (r : Rep G ua d v B) (w : Wd ua u B H) : ∃ t, TyX X.K H v t ∧ PySem.W.kitOne X.K t (.ref C) = some k := by
  obtain ⟨t1, t2⟩ := hT C hC
  unfold isC at e
  cases d with
  | non => cases e; cases r.non; exact ⟨_, .base .non, kit_noC t1 t2 (by kernel_rfl)⟩
  | bl b => cases e; cases r.bl; exact ⟨_, .base (.bl b), kit_noC t1 t2 (by kernel_rfl)⟩
  | int b => cases e; cases r.int; exact ⟨_, .base (.int b), kit_noC t1 t2 (by kernel_rfl)⟩
  | str b => cases e; cases r.str; exact ⟨_, .base (.str b), kit_noC t1 t2 (by kernel_rfl)⟩
  | lst b => cases e; obtain ⟨a, vs, rfl, h, _⟩ := r.lst; exact ⟨_, .base (.lst (w.sub _ _ h)), kit_noC t1 t2 (by kernel_rfl)⟩
  | tup b => cases e; obtain ⟨a, vs, rfl, ⟨o, _, h⟩, _⟩ := r.tup; exact ⟨_, .fTuple (w.sub _ _ h), kit_noC t1 t2 (by kernel_rfl)⟩
  | pr b => cases e; obtain ⟨a, vs, rfl, h, _⟩ := r.pr; exact ⟨_, .base (.tup (w.sub _ _ h)), kit_noC t1 t2 (by kernel_rfl)⟩
  | ins c' ns xs =>
    dsimp only at e
    split at e
    · rename_i hc
      subst hc
      cases e
      unfold Rep at r
      obtain ⟨y, C', dx, vs, rfl, hC', h, _⟩ := r
      rw [hC] at hC'
      cases hC'
      have i := G.ok _ C hC
      refine ⟨_, .base (.ins (w.sub _ _ h) i.cl i.ha i.hn i.htk i.hm), ?_⟩
      unfold PySem.W.kitOne
      exact if_pos (beq_self_eq_true _)
    · cases e
  | exc c ns xs => cases e
  | fn x => cases e
  | dct k x => cases e
  | urn => cases e
theorem dv_isC {c : Str} (hT : TyC G c) (hC : ∃ C, G.cls c = some C ∧ X.mg c = some (.ref C)) (hg : Gl X "isinstance") (hm : X.mg "isinstance" = none) (ha : PE X a (tEv G ma)) (hgT : Gl X c) (hdT : (c == ("__debug__" : Str)) = false := by decide)
    (hs : starEach (a :: [.Name c pT]) X.env = (false, eval a X.env) :: starEach [.Name c pT] X.env := by rfl) : PE X (.Call (.Name "isinstance" p) [a, .Name c pT] [] pos) (tEv G (mIsC c ma)) := by
  obtain ⟨C, hC, hmC⟩ := hC
  refine (pe_callB call_isi hg hm (by decide +kernel) (pa_cons ha (pa_cons (pe_glob (v := .ref C) hgT hmC rfl hdT) pa_nil) hs) (he := hs)).imp fun σ H Q h => ?_
  obtain ⟨ua, u, B, env, d, u', hE, hW, hm, q⟩ := h
  obtain ⟨x, u1, h1, h2⟩ := bnd_some hm
  obtain ⟨l2, rfl⟩ := lft_some h2
  obtain ⟨k, e, rfl⟩ := map_some l2
  refine ⟨ua, u, B, env, x, u', hE, hW, h1, fun v H1 ⟨B1, g1, w1, r1⟩ => ?_⟩
  obtain ⟨t, ty, kk⟩ := rep_isC hC hT e r1 w1
  exact ⟨v, .ref C, t, .ref C, k, rfl, .own C, ty, kk, q _ _ ⟨B1, g1, w1, rep_bl⟩⟩
end
end Dv

/-! Ct: methods of tuples. -/
namespace Dv
open PySem PySem.Spec PyProof.Rows L2
section
variable {X : Cx} {G : Gx X.K} {a b e o : Expr} {es : List Expr} {ma mb : M} {to : TE} {t : TA} {name : Str} {apos pos cpos : Pos} {id : String} {r : V → List V → Hp → VK → Prop}
def tTm (r : V → List V → Hp → VK → Prop) (to : TE) (t : TA) : TE := fun σ H Q => to σ H fun x H1 => (∃ p vs, x = .ref p ∧ TupB H1 p vs) ∧ t σ H1 fun xs H2 => r x xs H2 Q
theorem pe_tm (slot : Slot "tuple" name id) (hty : typeOf (.builtin id) = pure (.type "method_descriptor")) (hm : MtR X id r) (ho : PE X o to) (ha : PA X (e :: es) t)
    (hbase : attributeBase o name X.env (eval o X.env) = eval o X.env)
    (hfew : ((backTo cpos (starEach (e :: es) X.env)).all (fun x => !x.1) && (backToKw cpos (keywordEach [] X.env)).all (fun x => x.1.isSome)
      && decide ((e :: es).length + ([] : List Keyword).length + (if ([] : List Keyword).isEmpty then 0 else 1) < 30)) = true)
    (hline : (apos.endLine == cpos.line) = true) (hs : starEach (e :: es) X.env = (false, eval e X.env) :: starEach es X.env) (hp : (backTo cpos (starEach es X.env)).any (·.1) = false) :
    PE X (.Call (.Attribute o name apos) (e :: es) [] cpos) (tTm r to t) := by
  refine ⟨fun pins s σ H Q I h => wpAny_Call_method_late hbase hfew hline rfl (thn (ho.run pins s σ H _ I h) fun v s1 ⟨x, H1, I1, r1, ⟨p, vs, ep, ob, hd, hb⟩, q1⟩ => ?_)⟩
  subst ep
  cases r1
  obtain ⟨h1, _, its, _, o', h2, h3, _⟩ := (show ObjOk X.prog X.w H1 s1.heap p (.frz ob (.tup vs)) from I1.hok p _ hb)
  rw [h1] at h2
  cases h2
  refine ⟨"tuple", id, PySem.F.plainAttrs_tuple, slot, hty, ⟨ob, h1, h3⟩, fun a e => (by cases e; exact ⟨ob, h1, hd⟩), ?_⟩
  have hA := ha.run cpos pins s1 σ H1 _ I1 q1
  rw [hs] at hA ⊢
  refine Calls.callWith_builtin (by show (false || (backTo cpos (starEach es X.env)).any (·.1)) = false; rw [hp]; rfl) (Calls.evalArgs_plain (thn hA fun us s2 ⟨ws, H2, I2, r2, q2⟩ => ?_))
  exact hm pins s2 σ H2 (.ref p) ws _ us Q I2 rfl r2 q2
def cntD : D → D → Option D
  | .tup ds, x => match toPy x, toPys ds with
    | some p, some ps => if SeqAt.shaped p = true ∧ SeqAt.shaped (.tuple ps) = true then some (.int (ps.countP (fun z => PyData.eqv z p) : Nat)) else none
    | _, _ => none
  | _, _ => none
theorem dv_tcount (hu : X.A.units + 65 < cLine) (ha : PE X a (tEv G ma)) (hb : PE X b (tEv G mb)) (hbase : attributeBase a "count" X.env (eval a X.env) = eval a X.env := by rfl)
    (hfew : ((backTo cpos (starEach [b] X.env)).all (fun x => !x.1) && (backToKw cpos (keywordEach [] X.env)).all (fun x => x.1.isSome)
      && decide ([b].length + ([] : List Keyword).length + (if ([] : List Keyword).isEmpty then 0 else 1) < 30)) = true := by rfl)
    (hline : (apos.endLine == cpos.line) = true := by rfl) (hs : starEach [b] X.env = (false, eval b X.env) :: starEach [] X.env := by rfl) (hp : (backTo cpos (starEach [] X.env)).any (·.1) = false := by rfl) :
    PE X (.Call (.Attribute a "count" apos) [b] [] cpos) (tEv G (mBin cntD ma mb)) := by
  refine (pe_tm PySem.F.slot_tuple_count PySem.F.type_tuple_count (mt_tcount hu) ha (pa_cons hb pa_nil hs) hbase hfew hline hs hp).imp fun σ H Q h => ?_
  obtain ⟨ua, u, B, env, d, u', hE, hW, hm, q⟩ := h
  obtain ⟨x, u1, h1, h2⟩ := bnd_some hm
  obtain ⟨y, u2, h3, h4⟩ := bnd_some h2
  obtain ⟨l4, rfl⟩ := lft_some h4
  refine ⟨ua, u, B, env, x, u1, hE, hW, h1, fun v H1 ⟨B1, g1, w1, r1⟩ => ?_⟩
  unfold cntD at l4
  split at l4
  · rename_i ds
    split at l4
    · rename_i p ps e1 e2
      split at l4
      · rename_i hsh
        cases l4
        have r0 := r1
        obtain ⟨t, vs, rfl, ht, _⟩ := r1.tup
        refine ⟨⟨t, vs, rfl, ht.mono w1.sub⟩, ua, u1, B1, env, y, u', hE.grow g1, w1, h3, fun v2 H2 ⟨B2, g2, w2, r2⟩ => ?_⟩
        refine ⟨t, v2, p, ps, rfl, rfl, rep_dp w2.sub _ _ _ ?_ (r0.mono _ _ g2.pub), rep_dp w2.sub _ _ _ e1 r2, hsh.2, hsh.1, q _ _ ⟨B2, g1.trans g2, w2, rep_int⟩⟩
        unfold toPy
        rw [e2]
        rfl
      · cases l4
    · cases l4
  · cases l4
end
end Dv

/-! Ls: lists and dicts of one's own: made, changed, looked into, let out. -/
namespace Dv
open PySem PySem.Spec PyProof.Rows L2
theorem set_same {α : Type} : ∀ {l : List α} {i : Nat} {a : α}, l[i]? = some a → l.set i a = l
  | [], i, a, h => by simp at h
  | b :: r, 0, a, h => by simp at h; rw [h]; rfl
  | b :: r, i + 1, a, h => by
    rw [List.set_cons_succ, set_same (by simpa using h)]
theorem upd_id {H : Hp} {a : Addr} {o : HO} (h : H a = some o) : upd H a o = H := by
  funext b
  by_cases e : b = a
  · rw [e, upd_same, h]
  · rw [upd_ne e]
section
variable {K : PySem.W.Frag} {G : Gx K} {ua : Option Addr} {u : U} {env : List Sl} {σ : List (Option V)} {B H H0 : Hp} {i : Nat} {o o' : Oo} {l : Addr} {ho ho' : HO} {d : D}
/-- one's own thing is changed -/
theorem EnvOk.chg (e : EnvOk G ua env σ B H) (hi : env[i]? = some (.own o)) (hs : σ[i]? = some (some (.ref l))) (hb : B l = none) (nu : ua ≠ some l) (r : RepO G ua o' ho' B) : EnvOk G ua (env.set i (.own o')) σ B (upd H l ho') := by
  refine ⟨by rw [List.length_set]; exact e.len, fun j x hj => ?_, fun j x hj => ?_, fun j k x y p a1 a2 a3 a4 => ?_⟩
  · rcases get_set hj with ⟨_, z⟩ | ⟨_, hj⟩
    · cases z
    · exact e.pub j x hj
  · rcases get_set hj with ⟨rfl, z⟩ | ⟨hne, hj⟩
    · cases z
      exact ⟨l, _, hs, upd_same, hb, r, nu⟩
    · obtain ⟨p, ws, b1, b2, b3, b4, b5⟩ := e.own j x hj
      refine ⟨p, ws, b1, ?_, b3, b4, b5⟩
      rw [upd_ne (fun z => hne (by subst z; exact e.inj j i x o p hj hi b1 hs))]
      exact b2
  · have o1 : ∃ x', env[j]? = some (Sl.own x') := by
      rcases get_set a1 with ⟨rfl, _⟩ | ⟨_, a1⟩
      · exact ⟨o, hi⟩
      · exact ⟨x, a1⟩
    have o2 : ∃ x', env[k]? = some (Sl.own x') := by
      rcases get_set a2 with ⟨rfl, _⟩ | ⟨_, a2⟩
      · exact ⟨o, hi⟩
      · exact ⟨y, a2⟩
    exact e.inj j k _ _ p o1.choose_spec o2.choose_spec a3 a4
theorem OwnNew.chg (h : OwnNew env σ H0) (hi : env[i]? = some (.own o)) : OwnNew (env.set i (.own o')) σ H0 := fun j es p' h1 h2 => by
  rcases get_set h1 with ⟨rfl, _⟩ | ⟨_, h1'⟩
  · exact h _ o p' hi h2
  · exact h j es p' h1' h2
theorem OwnNew.pub (h : OwnNew env σ H0) (i : Nat) (d : D) : OwnNew (env.set i (.pub d)) σ H0 := fun j es p' h1 h2 => by
  rcases get_set h1 with ⟨_, z⟩ | ⟨_, h1'⟩
  · cases z
  · exact h j es p' h1' h2
/-- a new thing of one's own -/
theorem EnvOk.newOwn {p : Addr} (e : EnvOk G ua env σ B H) (hn : ∀ q o2, H q = some o2 → ∀ (j : Nat) es, env[j]? = some (Sl.own es) → σ[j]? = some (some (V.ref q)) → q ≠ p) (hp : H p = some ho) (hb : B p = none) (nu : ua ≠ some p) (r : RepO G ua o ho B) : EnvOk G ua (env.set i (.own o)) (σ.set i (some (.ref p))) B H :=
  e.setOwn hp hb r nu fun j es q h1 h2 hj => by
    obtain ⟨p2, vs2, a1, a2, _⟩ := e.own j es h1
    rw [h2] at a1
    cases a1
    exact hn q _ a2 j es h1 h2
theorem OwnNew.newOwn {p : Addr} (h : OwnNew env σ H0) (h0 : H0 p = none) : OwnNew (env.set i (.own o)) (σ.set i (some (.ref p))) H0 := fun j es' p' h1 h2 => by
  rcases get_set h1 with ⟨rfl, _⟩ | ⟨hj, h1'⟩
  · have hl := lt_of_get h2
    rw [List.length_set] at hl
    rw [set_get hl] at h2
    cases h2
    exact h0
  · rw [List.getElem?_set_ne (fun z => hj z.symm)] at h2
    exact h j es' p' h1' h2
/-- one's own thing is shown -/
theorem EnvOk.show (e : EnvOk G ua env σ B H) (hi : env[i]? = some (.own o)) (hs : σ[i]? = some (some (.ref l))) (hb : B l = none) (r : Rep G ua d (.ref l) (upd B l ho')) : EnvOk G ua (env.set i (.pub d)) σ (upd B l ho') (upd H l ho') := by
  have sB : Same B (upd B l ho') := same_new hb
  refine ⟨by rw [List.length_set]; exact e.len, fun j x hj => ?_, fun j x hj => ?_, fun j k x y p a1 a2 a3 a4 => ?_⟩
  · rcases get_set hj with ⟨rfl, z⟩ | ⟨_, hj⟩
    · cases z
      exact ⟨_, hs, r⟩
    · obtain ⟨v, b1, b2⟩ := e.pub j x hj
      exact ⟨v, b1, b2.mono _ _ sB⟩
  · rcases get_set hj with ⟨_, z⟩ | ⟨hne, hj⟩
    · cases z
    · obtain ⟨p, ws, b1, b2, b3, b4, b5⟩ := e.own j x hj
      have np : p ≠ l := fun z => hne (by subst z; exact e.inj j i x o p hj hi b1 hs)
      exact ⟨p, ws, b1, by rw [upd_ne np]; exact b2, by rw [upd_ne np]; exact b3, b4.mono sB, b5⟩
  · rcases get_set a1 with ⟨_, z⟩ | ⟨_, a1⟩
    · cases z
    · rcases get_set a2 with ⟨_, z⟩ | ⟨_, a2⟩
      · cases z
      · exact e.inj j k x y p a1 a2 a3 a4
theorem Wd.showU (w : Wd ua u B H) (hb : B l = none) (nu : ua ≠ some l) : Wd ua u (upd B l ho') (upd H l ho') := by
  refine ⟨fun a x z => ?_, fun a z => ?_⟩
  · by_cases c : a = l
    · subst c; rw [upd_same] at z ⊢; exact z
    · rw [upd_ne c] at z ⊢; exact w.sub a x z
  · have := w.urn a z
    have c : a ≠ l := fun c => nu (by rw [← c]; exact z)
    rw [upd_ne c, upd_ne c]; exact this
/-- what is shown: a list as it is, a dict frozen -/
def ooD : Oo → D
  | .lst ds => .lst ds
  | .dct ks ds => .dct ks ds
theorem RepO.show (r : RepO G ua o ho B) (hb : B l = none) : (∃ ds, o = .lst ds ∧ Rep G ua (.lst ds) (.ref l) (upd B l ho)) ∨ ∃ ks ds, o = .dct ks ds ∧ Mut (some ho) ∧ ∀ od, Rep G ua (.dct ks ds) (.ref l) (upd B l (.frz od ho)) := by
  cases o with
  | lst ds =>
    obtain ⟨vs, rfl, rs⟩ := r
    refine .inl ⟨ds, rfl, ?_⟩
    unfold Rep
    exact ⟨l, vs, rfl, upd_same, rs.mono _ _ (same_new hb)⟩
  | dct ks ds =>
    obtain ⟨vs, rfl, hl, rs, _⟩ := r
    refine .inr ⟨ks, ds, rfl, trivial, fun od => ?_⟩
    unfold Rep
    exact ⟨l, vs, rfl, ⟨od, upd_same⟩, hl, rs.mono _ _ (same_new hb)⟩
end
/-! ### what a name may be made: data, or a thing of one's own -/
abbrev MSl := List Sl → U → Option (Sl × U)
section
variable {K : PySem.W.Frag} (G : Gx K)
/-- v stands for s; Hs: the heap from which it came -/
def SlR (ua : Option Addr) (Hs : Hp) : Sl → V → Hp → Hp → Prop
  | .pub d => fun v B _ => Rep G ua d v B
  | .own o => fun v B H => ∃ p ho, v = .ref p ∧ Hs p = none ∧ H p = some ho ∧ B p = none ∧ ua ≠ some p ∧ RepO G ua o ho B
  | .no => fun _ _ _ => False
def AftS (ua : Option Addr) (B H : Hp) (u' : U) (s : Sl) : V → Hp → Prop := fun v H' => ∃ B', Grow ua B H B' H' ∧ Wd ua u' B' H' ∧ SlR G ua H s v B' H'
def tSv (m : MSl) : TE := fun σ H Q => ∃ ua u B env s u', EnvOk G ua env σ B H ∧ Wd ua u B H ∧ m env u = some (s, u') ∧ ∀ v H', AftS G ua B H u' s v H' → Q v H'
end
section
variable {K : PySem.W.Frag} {G : Gx K} {ua : Option Addr} {u u' : U} {env : List Sl} {σ : List (Option V)} {B H B1 H1 H0 B0 Hs : Hp} {i : Nat} {s : Sl} {v : V}
theorem SlR.grow (r : SlR G ua Hs s v B H) (g : Grow ua B H B1 H1) : SlR G ua Hs s v B1 H1 := by
  cases s with
  | no => exact r.elim
  | pub d => exact Rep.mono _ _ g.pub r
  | own o =>
    obtain ⟨p, ho, e, h1, h2, h3, h4, h5⟩ := r
    exact ⟨p, ho, e, h1, g.keep _ _ h2 h4, g.none_of h2 h3, h4, h5.mono g.pub⟩
/-- such a value is stored -/
theorem SlR.store (r : SlR G ua Hs s v B H) (e : EnvOk G ua env σ B H) (i : Nat) (far : ∀ (j : Nat) es q, env[j]? = some (Sl.own es) → σ[j]? = some (some (V.ref q)) → Hs q ≠ none) : EnvOk G ua (env.set i s) (σ.set i (some v)) B H := by
  cases s with
  | no => exact r.elim
  | pub d => exact e.set r i
  | own o =>
    obtain ⟨p, ho, rfl, h1, h2, h3, h4, h5⟩ := r
    exact e.setOwn h2 h3 h5 h4 fun j es q z1 z2 hj z => far j es q z1 z2 (by rw [z]; exact h1)
theorem SlR.news (r : SlR G ua Hs s v B H) (hO : OwnNew env σ H0) (live : ∀ a, Hs a = none → H0 a = none) (i : Nat) : OwnNew (env.set i s) (σ.set i (some v)) H0 := by
  cases s with
  | no => exact r.elim
  | pub d => exact hO.set i d v
  | own o =>
    obtain ⟨p, ho, rfl, h1, _⟩ := r
    exact hO.newOwn (live _ h1)
theorem EnvOk.far (e : EnvOk G ua env σ B H) : ∀ (j : Nat) es q, env[j]? = some (Sl.own es) → σ[j]? = some (some (V.ref q)) → H q ≠ none := fun j es q z1 z2 z => by
  obtain ⟨p2, vs2, a1, a2, _⟩ := e.own j es z1
  rw [z2] at a1
  cases a1
  rw [z] at a2
  cases a2
end
section
variable {X : Cx} {G : Gx X.K} {W : WX} {e f : Expr} {es : List Expr} {me : M} {ms : Ms} {pos apos cpos p : Pos} {sts : List Stmt} {m : MS} {mv mv2 : MSl}
def vP (m : M) : MSl := fun env u => bnd (m env u) fun d u1 => some (.pub d, u1)
theorem dv_P (h : PE X e (tEv G me)) : PE X e (tSv G (vP me)) := h.imp fun σ H Q z => by
  obtain ⟨ua, u, B, env, s, u', hE, hW, hm, q⟩ := z
  obtain ⟨d, u1, c1, c2⟩ := bnd_some hm
  cases c2
  exact ⟨ua, u, B, env, d, _, hE, hW, c1, q⟩
/-- [..] -/
def vLst (ms : Ms) : MSl := fun env u => bnd (ms env u) fun ds u1 => if ds.length ≤ sizeLine then some (.own (.lst ds), u1) else none
theorem dv_oLst (h : PA X es (tEvs G ms)) : PE X (.List es pos) (tSv G (vLst ms)) := (pe_lst h).imp fun σ H Q z => by
  obtain ⟨ua, u, B, env, s, u', hE, hW, hm, q⟩ := z
  obtain ⟨ds, u1, c1, c2⟩ := bnd_some hm
  split at c2
  · cases c2
    exact ⟨ua, u, B, env, ds, _, hE, hW, c1, fun vs H1 ⟨B1, g1, w1, r1⟩ => ⟨by rw [← r1.len]; assumption, fun p hp =>
      q _ _ ⟨B1, g1.trans (.own1 w1 hp), w1.own1 hp, p, _, rfl, g1.live _ hp, upd_same, w1.none_of hp, w1.ne_urn hp, _, rfl, r1⟩⟩⟩
  · cases c2
/-- list(e) -/
def vList (m : M) : MSl := fun env u => bnd (m env u) fun d u1 => match bList [d] with
  | some (.lst ds) => some (.own (.lst ds), u1)
  | _ => none
theorem dv_oList (hg : Gl X "list") (hm : X.mg "list" = none) (ha : PE X e (tEv G me)) (he : starEach (e :: []) X.env = (false, eval e X.env) :: starEach [] X.env := by rfl) (hpl : (backTo pos (starEach [] X.env)).any (·.1) = false := by rfl) :
    PE X (.Call (.Name "list" p) [e] [] pos) (tSv G (vList me)) :=
  (pe_callTy call_list_of hg hm (by decide +kernel) (pa_cons ha pa_nil he) (by decide) (by decide) he hpl).imp fun σ H Q z => by
    obtain ⟨ua, u, B, env, s, u', hE, hW, hm, q⟩ := z
    obtain ⟨d, u1, c1, c2⟩ := bnd_some hm
    refine ⟨ua, u, B, env, d, u1, hE, hW, c1, fun v H1 ⟨B1, g1, w1, r1⟩ => ?_⟩
    cases d with
    | lst ds =>
      cases c2
      obtain ⟨a, ys, rfl, h, r3⟩ := r1.lst
      exact ⟨a, ys, rfl, .inl (.of (w1.sub _ _ h)), fun l hl => q _ _ ⟨B1, g1.trans (.own1 w1 hl), w1.own1 hl, l, _, rfl, g1.live _ hl, upd_same, w1.none_of hl, w1.ne_urn hl, _, rfl, r3⟩⟩
    | tup ds =>
      cases c2
      obtain ⟨a, ys, rfl, h, r3⟩ := r1.tup
      exact ⟨a, ys, rfl, .inr (h.mono w1.sub).sq, fun l hl => q _ _ ⟨B1, g1.trans (.own1 w1 hl), w1.own1 hl, l, _, rfl, g1.live _ hl, upd_same, w1.none_of hl, w1.ne_urn hl, _, rfl, r3⟩⟩
    | _ => cases c2
/-- {} -/
def vDct : MSl := fun _ u => some (.own (.dct [] []), u)
theorem dv_oDct : PE X (.Dict [] [] pos) (tSv G vDct) := pe_dnewK.imp fun σ H Q z => by
  obtain ⟨ua, u, B, env, s, u', hE, hW, hm, q⟩ := z
  cases hm
  exact fun p hp => q _ _ ⟨B, .own1 hW hp, hW.own1 hp, p, _, rfl, hp, upd_same, hW.none_of hp, hW.ne_urn hp, [], rfl, rfl, .nil, List.nodup_nil⟩
/-! ### x = e; a, b = e, f -/
def sSv (i : Nat) (m : MSl) : MS := fun env u => bnd (m env u) fun s u1 => some (.nx (env.set i s), u1)
theorem ds_setv (i : Nat) {x : Str} {pos' : Pos} (hN : X.N.Nodup) (he : PE X e (tSv G mv)) (hi : X.N[i]? = some x := by rfl) (hx : Loc X.env.scope x := by first | exact Or.inl rfl | exact Or.inr rfl) (hs : swapsWith e (some (.Name x pos')) pos.line X.env = pure false := by rfl)
    (hf : X.fn x = true ∨ X.env.scope.names.lookup x = some .local := by first | exact .inl rfl | exact .inr rfl | assumption) : PS X (.Assign [.Name x pos'] e pos) (tSt G W (sSv i mv)) := (ps_set hN hi hx he hs hf).imp fun Dn σ H h => by
  obtain ⟨ua, u, B, env, fl, u', B0, H0, hg, hO, hE, hW, hm, q⟩ := h
  obtain ⟨s, u1, c1, c2⟩ := bnd_some hm
  cases c2
  refine ⟨ua, u, B, env, s, _, hE, hW, c1, fun v H1 a => ?_⟩
  obtain ⟨B', g, w, r⟩ := a
  exact q _ B' H1 (hg.trans g) (r.news hO hg.live i) (r.store (hE.grow g) i hE.far) w
def sParv (i j : Nat) (a b : MSl) : MS := fun env u => bnd (a env u) fun s u1 => bnd (b env u1) fun s2 u2 => some (.nx ((env.set i s).set j s2), u2)
theorem ds_parv (i j : Nat) {a b : Expr} {ma mb : MSl} {x y : Str} {px py pt pt2 : Pos} {kt k2 : Nat} (ha : PE X a (tSv G ma)) (hb : PE X b (tSv G mb)) (h : ∀ {ta : TA}, PA X [a, b] ta → PS X (.Assign [.Tuple [.Name x px, .Name y py] kt pt] (.Tuple [a, b] k2 pt2) pos) (tPar i j ta))
    (hs : starEach (a :: [b]) X.env = (false, eval a X.env) :: starEach [b] X.env := by rfl) (hs2 : starEach (b :: []) X.env = (false, eval b X.env) :: starEach [] X.env := by rfl) :
    PS X (.Assign [.Tuple [.Name x px, .Name y py] kt pt] (.Tuple [a, b] k2 pt2) pos) (tSt G W (sParv i j ma mb)) := (h (pa_cons ha (pa_cons hb pa_nil hs2) hs)).imp fun Dn σ H h => by
  obtain ⟨ua, u, B, env, fl, u', B0, H0, hg, hO, hE, hW, hm, q⟩ := h
  obtain ⟨s, u1, c1, c2⟩ := bnd_some hm
  obtain ⟨s2, u2, c3, c4⟩ := bnd_some c2
  cases c4
  refine ⟨ua, u, B, env, s, u1, hE, hW, c1, fun v H1 ⟨B1, g1, w1, r1⟩ => ⟨ua, u1, B1, env, s2, _, hE.grow g1, w1, c3, fun v2 H2 ⟨B2, g2, w2, r2⟩ => ⟨v, v2, rfl, ?_⟩⟩⟩
  have gg := g1.trans g2
  have ea := (r1.grow g2).store (hE.grow gg) i hE.far
  have oa := r1.news hO hg.live i
  refine q _ B2 H2 (hg.trans gg) (r2.news oa (fun a z => hg.live _ (g1.live _ z)) j) (r2.store ea j fun k es p z1 z2 => ?_) w2
  exact ((r1.store (hE.grow g1) i hE.far).far k es p z1 z2)
/-! ### changes -/
/-- x.append(e), x one's own list -/
def sApp (i : Nat) (m : M) : MS := fun env u => match env[i]? with
  | some (.own (.lst ds)) => bnd (m env u) fun d u1 => if ds.length < sizeLine then some (.nx (env.set i (.own (.lst (ds ++ [d])))), u1) else none
  | _ => none
theorem ds_app (i : Nat) {x : Str} {px : Pos} (he : PE X e (tEv G me)) (hN : X.N[i]? = some x := by rfl) (hv : Vis X.env.scope x := by first | exact Or.inl rfl | exact Or.inr (Or.inl rfl) | exact Or.inr (Or.inr rfl)) (hd : (x == ("__debug__" : Str)) = false := by decide) (hcd : (x == ("__classdict__" : Str)) = false := by decide)
    (hbase : attributeBase (.Name x px) "append" X.env (eval (.Name x px) X.env) = eval (.Name x px) X.env := by rfl)
    (hfew : ((backTo cpos (starEach [e] X.env)).all (fun x => !x.1) && (backToKw cpos (keywordEach [] X.env)).all (fun x => x.1.isSome)
      && decide ([e].length + ([] : List Keyword).length + (if ([] : List Keyword).isEmpty then 0 else 1) < 30)) = true := by rfl)
    (hline : (apos.endLine == cpos.line) = true := by rfl) (hs : starEach [e] X.env = (false, eval e X.env) :: starEach [] X.env := by rfl) (hp : (backTo cpos (starEach [] X.env)).any (·.1) = false := by rfl)
    (hsw : swapsWith (.Call (.Attribute (.Name x px) "append" apos) [e] [] cpos) none pos.line X.env = pure false := by rfl) :
    PS X (.Expr (.Call (.Attribute (.Name x px) "append" apos) [e] [] cpos) pos) (tSt G W (sApp i me)) :=
  (ps_expr (pe_bm PySem.F.plainAttrs_list PySem.F.slot_list_append PySem.F.type_list_append mt_append (pe_var hN hv hd hcd) (pa_cons he pa_nil hs) hbase hfew hline hs hp) hsw).imp fun Dn σ H h => by
  obtain ⟨ua, u, B, env, fl, u', B0, H0, hg, hO, hE, hW, hm, q⟩ := h
  unfold sApp at hm
  split at hm
  · rename_i ds hi
    obtain ⟨d, u1, c1, c2⟩ := bnd_some hm
    split at c2
    · rename_i hz
      cases c2
      obtain ⟨l, ho, s1, s2, s3, ⟨vs, rfl, s4⟩, s5⟩ := hE.own i _ hi
      refine ⟨_, s1, .inl ⟨rfl, _, SqL.of s2⟩, ua, u, B, env, d, _, hE, hW, c1, fun v H1 ⟨B1, g1, w1, r1⟩ => ?_⟩
      have e1 := hE.grow g1
      obtain ⟨l', ho', t1, t2, t3, ⟨vs', rfl, t4⟩, t5⟩ := e1.own i _ hi
      rw [s1] at t1
      cases t1
      refine ⟨l, vs', v, rfl, rfl, t2, by rw [← t4.len]; exact hz, ?_⟩
      exact q σ B1 _ ((hg.trans g1).putOwn (hO i _ l hi s1)) (hO.chg hi) (e1.chg hi s1 t3 t5 ⟨_, rfl, t4.append (.cons r1 .nil)⟩) (w1.put t3 t5)
    · cases c2
  · cases hm
/-- x[k] = e, x one's own dict -/
def keyOf : D → Option Key
  | .int i => some (.inl i)
  | .str x => some (.inr x)
  | _ => none
theorem keyOf_rep {K : PySem.W.Frag} {G : Gx K} {ua : Option Addr} {B : Hp} {d : D} {v : V} {k : Key} (h : keyOf d = some k) (r : Rep G ua d v B) : v = kV k := by
  unfold keyOf at h
  split at h
  · cases h; cases r.int; rfl
  · cases h; cases r.str; rfl
  · cases h
/-- in its place, or at the end -/
def putD : List Key → List D → Key → D → List Key × List D
  | k :: ks, d :: ds, j, x => if k = j then (k :: ks, x :: ds) else let r := putD ks ds j x; (k :: r.1, d :: r.2)
  | ks, ds, j, x => (ks ++ [j], ds ++ [x])
theorem putK_cons {κ : Type} [DecidableEq κ] (p : κ × V) (r : List (κ × V)) (k : κ) (v : V) (hn : k ∉ r.map (·.1) ∨ p.1 ≠ k) : putK (p :: r) k v = if p.1 = k then (p.1, v) :: r else p :: putK r k v := by
  by_cases e : p.1 = k
  · rw [if_pos e]
    unfold putK
    have h1 : ((p :: r).any fun kv => decide (kv.1 = k)) = true := by simp [e]
    rw [if_pos h1, List.map_cons, if_pos e]
    congr 1
    rcases hn with hn | hn
    · conv => rhs; rw [← List.map_id r]
      refine List.map_congr_left fun q hq => ?_
      rw [if_neg (fun z => hn (List.mem_map.mpr ⟨q, hq, z⟩))]; rfl
    · exact (hn e).elim
  · rw [if_neg e]
    unfold putK
    rw [List.any_cons, decide_eq_false e, Bool.false_or]
    split
    · rw [List.map_cons, if_neg e]
    · rfl
theorem putD_rep {K : PySem.W.Frag} {G : Gx K} {ua : Option Addr} {B : Hp} {j : Key} {x : D} {w : V} (rx : Rep G ua x w B) : ∀ {ks : List Key} {ds : List D} {vs : List V}, ks.Nodup → ks.length = vs.length → Reps G ua ds vs B →
    ∃ ws, putK (ks.zip vs) j w = (putD ks ds j x).1.zip ws ∧ (putD ks ds j x).1.length = ws.length ∧ Reps G ua (putD ks ds j x).2 ws B ∧ (∀ k ∈ (putD ks ds j x).1, k ∈ ks ∨ k = j) ∧ (putD ks ds j x).1.Nodup
  | [], ds, vs, hn, hl, r => by
    cases vs with
    | cons v vs => cases hl
    | nil =>
      cases ds with
      | cons d ds => obtain ⟨_, _, h, _⟩ := r.of_cons; cases h
      | nil => exact ⟨[w], rfl, rfl, .cons rx .nil, fun k hk => .inr (by simpa [putD] using hk), by simp [putD]⟩
  | k :: ks, ds, vs, hn, hl, r => by
    cases vs with
    | nil => cases hl
    | cons v vs =>
      cases ds with
      | nil => have := r.of_nil; cases this
      | cons d ds =>
        obtain ⟨v', t, hv, r1, r2⟩ := r.of_cons
        cases hv
        obtain ⟨h1, h2⟩ := List.nodup_cons.mp hn
        have hl' : ks.length = vs.length := Nat.succ.inj hl
        rw [List.zip_cons_cons]
        unfold putD
        by_cases e : k = j
        · subst e
          rw [if_pos rfl, putK_cons (k, v) (ks.zip vs) k w (.inl fun z => h1 (by
            obtain ⟨q, hq, e⟩ := List.mem_map.mp z
            rw [← e]; exact (List.of_mem_zip hq).1)), if_pos rfl]
          exact ⟨w :: vs, rfl, hl, .cons rx r2, fun k' hk => .inl hk, hn⟩
        · rw [if_neg e]
          rw [putK_cons (k, v) (ks.zip vs) j w (.inr e), if_neg e]
          obtain ⟨ws, q1, q2, q3, q4, q5⟩ := putD_rep rx h2 hl' r2
          refine ⟨v :: ws, by rw [q1]; rfl, by show _ + 1 = _ + 1; rw [q2], .cons r1 q3, fun k' hk => ?_, List.nodup_cons.mpr ⟨fun z => ?_, q5⟩⟩
          · rcases List.mem_cons.mp hk with rfl | hk
            · exact .inl List.mem_cons_self
            · rcases q4 k' hk with z | z
              · exact .inl (List.mem_cons_of_mem _ z)
              · exact .inr z
          · rcases q4 k z with z | z
            · exact h1 z
            · exact e z
end
end Dv

/-! Lq: things of one's own: let out, looked into, put into, popped. -/
namespace Dv
open PySem PySem.Spec PyProof.Rows L2
section
variable {X : Cx} {e : Expr} {t : TT}
theorem pt_lock (h : PT X e t) : PT X e (fun σ H Q => ∃ d u, H d = some u ∧ Mut (some u) ∧ ∀ od, t σ (upd H d (.frz od u)) fun b H' => H' d = some (.frz od u) ∧ Q b (upd H' d u)) := by
  refine ⟨fun pins s σ H Q I hw => ?_⟩
  obtain ⟨d, u, hd, mu, hw⟩ := hw
  obtain ⟨od, I1⟩ := I.lock hd mu
  refine thn (h.run pins s σ _ _ I1 (hw od)) fun v s1 ⟨H1, I2, e2, q⟩ => ?_
  exact ⟨_, I2.unlock e2 (I.nofrz hd mu), q⟩
theorem pss_frz {sts : List Stmt} {t : TS} (h : PSs X sts t) : PSs X sts (fun Dn σ H => t Dn σ H ∨ ∃ d u, H d = some u ∧ Mut (some u) ∧ ∀ od, t Dn σ (upd H d (.frz od u))) := by
  refine ⟨fun pins s σ H D I hw => ?_⟩
  rcases hw with hw | ⟨d, u, hd, mu, hw⟩
  · exact h.run pins s σ H D I hw
  · obtain ⟨od, I1⟩ := I.lock hd mu
    exact h.run pins s σ _ D I1 (hw od)
end
section
variable {K : PySem.W.Frag} {G : Gx K} {ua : Option Addr} {u : U} {env : List Sl} {σ : List (Option V)} {B H B0 H0 B1 H1 : Hp} {i : Nat} {o : Oo} {l : Addr} {ho ho' : HO} {d : D} {v : V}
theorem Grow.showU (g : Grow ua B0 H0 B H) (h0 : H0 l = none) (hb : B l = none) : Grow ua B0 H0 (upd B l ho') (upd H l ho') := by
  refine ⟨fun a x e n => ?_, fun a e => ?_, fun a x e => same_new hb a x (g.pub a x e), fun a x e => ?_⟩
  · rw [upd_ne (fun z => by rw [z, h0] at e; cases e)]; exact g.keep a x e n
  · by_cases q : a = l
    · rw [q]; exact h0
    · rw [upd_ne q] at e; exact g.live a e
  · by_cases q : a = l
    · rw [q]; exact .inr h0
    · rw [upd_ne q] at e; exact g.new a x e
/-- data without objects -/
def scalD : D → Bool
  | .non => true
  | .bl _ => true
  | .int _ => true
  | .str _ => true
  | _ => false
theorem Rep.scal (h : scalD d = true) (r : Rep G ua d v B) : Rep G ua d v B1 := by
  cases d <;> first | (unfold Rep at r ⊢; exact r) | cases h
/-- behind a look into one's own thing -/
theorem peek_back (w : Wd ua u B H) (hl : H l = some ho) (hb : B l = none) (nu : ua ≠ some l) {u' : U} (g : Grow ua (upd B l ho') (upd H l ho') B1 H1) (w1 : Wd ua u' B1 H1) : Grow ua B H B (upd H1 l ho) ∧ Wd ua u' B (upd H1 l ho) := by
  have key : ∀ a x, H a = some x → a ≠ l → ua ≠ some a → H1 a = some x := fun a x e n m => g.keep a x (by rw [upd_ne n]; exact e) m
  refine ⟨⟨fun a x e n => ?_, fun a e => ?_, fun _ _ e => e, fun _ _ e => .inl e⟩, ⟨fun a x e => ?_, fun a e => ?_⟩⟩
  · by_cases q : a = l
    · subst q; rw [hl] at e; cases e; exact upd_same
    · rw [upd_ne q]; exact key a x e q n
  · by_cases q : a = l
    · subst q; rw [upd_same] at e; cases e
    · rw [upd_ne q] at e
      have := g.live a e
      rw [upd_ne q] at this
      exact this
  · have q : a ≠ l := fun z => by rw [z, hb] at e; cases e
    rw [upd_ne q]
    exact key a x (w.sub a x e) q (fun z => by rw [(w.urn a z).1] at e; cases e)
  · have q : a ≠ l := fun z => nu (by rw [← z]; exact e)
    rw [upd_ne q]
    exact ⟨(w.urn a e).1, (w1.urn a e).2⟩
end
section
variable {X : Cx} {G : Gx X.K} {W : WX} {e f : Expr} {es : List Expr} {me mk : M} {mb : MB} {ms : Ms} {pos apos cpos p : Pos} {sts : List Stmt} {m : MS}
/-- one's own thing is let out -/
def sPub (i : Nat) (m : MS) : MS := fun env u => match env[i]? with
  | some (.own o) => m (env.set i (.pub (ooD o))) u
  | _ => none
theorem dss_pub (i : Nat) (h : PSs X sts (tSt G W m)) : PSs X sts (tSt G W (sPub i m)) := (pss_frz h).imp fun Dn σ H h => by
  obtain ⟨ua, u, B, env, fl, u', B0, H0, hg, hO, hE, hW, hm, q⟩ := h
  unfold sPub at hm
  split at hm
  · rename_i o hi
    obtain ⟨l, ho, s1, s2, s3, s4, s5⟩ := hE.own i o hi
    have h0 : H0 l = none := hO i o l hi s1
    rcases s4.show s3 with ⟨ds, rfl, r⟩ | ⟨ks, ds, rfl, mu, r⟩
    · left
      have eS := hE.show hi s1 s3 r
      have gS := hg.showU (ho' := ho) h0 s3
      have wS := hW.showU (ho' := ho) s3 s5
      rw [upd_id s2] at eS gS wS
      exact ⟨ua, u, _, _, fl, u', B0, H0, gS, hO.pub i _, eS, wS, hm, q⟩
    · right
      exact ⟨l, ho, s2, mu, fun od => ⟨ua, u, _, _, fl, u', B0, H0, hg.showU h0 s3, hO.pub i _, hE.show hi s1 s3 (r od), hW.showU s3 s5, hm, q⟩⟩
  · cases hm
/-- an expression without objects looks into one's own list, one's own dict -/
def mPeek (i : Nat) (m : M) : M := fun env u => match env[i]? with
  | some (.own o) => bnd (m (env.set i (.pub (ooD o))) u) fun d u1 => if scalD d = true then some (d, u1) else none
  | _ => none
def isL : Oo → Bool
  | .lst _ => true
  | _ => false
theorem dv_peek (i : Nat) (h : PE X e (tEv G me)) : PE X e (tEv G (mPeek i me)) := by
  refine PE.by fun σ H Q z => ?_
  obtain ⟨ua, u, B, env, d, u', hE, hW, hm, q⟩ := z
  unfold mPeek at hm
  split at hm
  · rename_i o hi
    obtain ⟨d, u1, c1, c2⟩ := bnd_some hm
    split at c2
    · rename_i hsc
      cases c2
      obtain ⟨l, ho, s1, s2, s3, s4, s5⟩ := hE.own i o hi
      rcases s4.show s3 with ⟨ds, rfl, r⟩ | ⟨ks, ds, rfl, mu, r⟩
      · refine ⟨_, h, ?_⟩
        have eS := hE.show hi s1 s3 r
        have wS := hW.showU (ho' := ho) s3 s5
        have id := upd_id s2
        rw [id] at eS wS
        refine ⟨ua, u, _, _, d, _, eS, wS, c1, fun v H1 ⟨B1, g1, w1, r1⟩ => ?_⟩
        have g1' : Grow ua (upd B l ho) (upd H l ho) B1 H1 := by rw [id]; exact g1
        obtain ⟨g2, w2⟩ := peek_back hW s2 s3 s5 g1' w1
        have k1 : H1 l = some ho := g1.keep _ _ s2 s5
        rw [upd_id k1] at g2 w2
        exact q v H1 ⟨B, g2, w2, r1.scal hsc⟩
      · refine ⟨_, pe_lock h, l, ho, s2, mu, fun od => ?_⟩
        refine ⟨ua, u, _, _, d, _, hE.show hi s1 s3 (r od), hW.showU s3 s5, c1, fun v H1 ⟨B1, g1, w1, r1⟩ => ?_⟩
        obtain ⟨g2, w2⟩ := peek_back hW s2 s3 s5 g1 w1
        exact ⟨g1.keep _ _ upd_same s5, q v _ ⟨B, g2, w2, r1.scal hsc⟩⟩
    · cases c2
  · cases hm
theorem _root_.L2.PT.by {X : Cx} {e : Expr} {t' : TT} (i : ∀ σ H Q, t' σ H Q → ∃ t, PT X e t ∧ t σ H Q) : PT X e t' := ⟨fun pins s σ H Q I q => by
  obtain ⟨t, h, q⟩ := i σ H Q q
  exact h.run pins s σ H Q I q⟩
def tPeek (i : Nat) (m : MB) : MB := fun env u => match env[i]? with
  | some (.own o) => m (env.set i (.pub (ooD o))) u
  | _ => none
theorem dt_peek (i : Nat) (h : PT X e (tTst G mb)) : PT X e (tTst G (tPeek i mb)) := by
  refine PT.by fun σ H Q z => ?_
  obtain ⟨ua, u, B, env, d, u', hE, hW, hm, q⟩ := z
  unfold tPeek at hm
  split at hm
  · rename_i o hi
    obtain ⟨l, ho, s1, s2, s3, s4, s5⟩ := hE.own i o hi
    rcases s4.show s3 with ⟨ds, rfl, r⟩ | ⟨ks, ds, rfl, mu, r⟩
    · refine ⟨_, h, ?_⟩
      have eS := hE.show hi s1 s3 r
      have wS := hW.showU (ho' := ho) s3 s5
      have id := upd_id s2
      rw [id] at eS wS
      refine ⟨ua, u, _, _, d, _, eS, wS, hm, fun H1 ⟨B1, g1, w1⟩ => ?_⟩
      have g1' : Grow ua (upd B l ho) (upd H l ho) B1 H1 := by rw [id]; exact g1
      obtain ⟨g2, w2⟩ := peek_back hW s2 s3 s5 g1' w1
      have k1 : H1 l = some ho := g1.keep _ _ s2 s5
      rw [upd_id k1] at g2 w2
      exact q H1 ⟨B, g2, w2⟩
    · refine ⟨_, pt_lock h, l, ho, s2, mu, fun od => ?_⟩
      refine ⟨ua, u, _, _, d, _, hE.show hi s1 s3 (r od), hW.showU s3 s5, hm, fun H1 ⟨B1, g1, w1⟩ => ?_⟩
      obtain ⟨g2, w2⟩ := peek_back hW s2 s3 s5 g1 w1
      exact ⟨g1.keep _ _ upd_same s5, q _ ⟨B, g2, w2⟩⟩
  · cases hm
/-- x[k] = e, x one's own dict: the value first -/
def sPutD (i : Nat) (mk mv : M) : MS := fun env u => match env[i]? with
  | some (.own (.dct ks ds)) => bnd (mv env u) fun x u1 => bnd (mk env u1) fun k u2 => match keyOf k with
    | some key => if ks.length < sizeLine then some (.nx (env.set i (.own (.dct (putD ks ds key x).1 (putD ks ds key x).2))), u2) else none
    | none => none
  | _ => none
theorem ds_putD (i : Nat) {x : Str} {px pos' : Pos} (hu : X.A.units + 1 < cLine) (hk : PE X f (tEv G mk)) (he : PE X e (tEv G me)) (hN : X.N[i]? = some x := by rfl) (hv : Vis X.env.scope x := by first | exact Or.inl rfl | exact Or.inr (Or.inl rfl) | exact Or.inr (Or.inr rfl)) (hd : (x == ("__debug__" : Str)) = false := by decide) (hcd : (x == ("__classdict__" : Str)) = false := by decide)
    (hs : swapsWith e (some (.Subscript (.Name x px) f pos')) pos.line X.env = pure false := by rfl) : PS X (.Assign [.Subscript (.Name x px) f pos'] e pos) (tSt G W (sPutD i mk me)) :=
  (ps_dput hu (pe_var hN hv hd hcd) hk he hs).imp fun Dn σ H h => by
  obtain ⟨ua, u, B, env, fl, u', B0, H0, hg, hO, hE, hW, hm, q⟩ := h
  unfold sPutD at hm
  split at hm
  · rename_i ks ds hi
    obtain ⟨d, u1, c1, c2⟩ := bnd_some hm
    obtain ⟨k, u2, c3, c4⟩ := bnd_some c2
    split at c4
    · rename_i key hkey
      split at c4
      · rename_i hz
        cases c4
        obtain ⟨l, ho, s1, s2, s3, s4, s5⟩ := hE.own i _ hi
        refine ⟨ua, u, B, env, d, u1, hE, hW, c1, fun v H1 ⟨B1, g1, w1, r1⟩ => ⟨_, s1, ua, u1, B1, env, k, _, hE.grow g1, w1, c3, fun v2 H2 ⟨B2, g2, w2, r2⟩ => ?_⟩⟩
        have gg := g1.trans g2
        have e2 := hE.grow gg
        obtain ⟨l', ho', t1, t2, t3, ⟨vs, rfl, t4, t6, t7⟩, t5⟩ := e2.own i _ hi
        rw [s1] at t1
        cases t1
        obtain ⟨ws, a1, a2, a3, a4, a5⟩ := putD_rep (j := key) (r1.mono _ _ g2.pub) t7 t4 t6
        refine ⟨l, _, rfl, .inl ⟨_, key, t2, keyOf_rep hkey r2, by rw [List.length_zip, ← t4, Nat.min_self]; exact hz, rfl⟩, ?_⟩
        exact q σ B2 _ ((hg.trans gg).putOwn (hO i _ l hi s1)) (hO.chg hi) (e2.chg hi s1 t3 t5 ⟨ws, congrArg HO.dK a1, a2, a3, a5⟩) (w2.put t3 t5)
      · cases c4
    · cases c4
  · cases hm
end
section
variable {X : Cx} {G : Gx X.K} {W : WX} {e f : Expr} {me : M} {pos apos cpos apos2 cpos2 p : Pos}
/-- x.append(y.pop(e)), both one's own lists -/
def sAppPop (i j : Nat) (m : M) : MS := fun env u => match env[i]?, env[j]? with
  | some (.own (.lst ds)), some (.own (.lst es)) => bnd (m env u) fun k u1 => match k with
    | .int n => if 0 ≤ n ∧ n < es.length ∧ es.length ≤ 2 ^ 62 ∧ ds.length < sizeLine ∧ i ≠ j then (match es[n.toNat]? with
      | some d => some (.nx ((env.set j (.own (.lst (es.eraseIdx n.toNat)))).set i (.own (.lst (ds ++ [d])))), u1)
      | none => none) else none
    | _ => none
  | _, _ => none
theorem Reps.erase {K : PySem.W.Frag} {G : Gx K} {ua : Option Addr} {B : Hp} : ∀ {ds : List D} {vs : List V} (n : Nat), Reps G ua ds vs B → Reps G ua (ds.eraseIdx n) (vs.eraseIdx n) B
  | [], vs, n, h => by rw [h.of_nil]; exact .nil
  | d :: ds, vs, 0, h => by
    obtain ⟨v, r, rfl, q, t⟩ := h.of_cons
    exact t
  | d :: ds, vs, n + 1, h => by
    obtain ⟨v, r, rfl, q, t⟩ := h.of_cons
    exact .cons q (Reps.erase n t)
theorem ds_appPop (i j : Nat) {x y : Str} {px py : Pos} (he : PE X e (tEv G me)) (hN : X.N[i]? = some x := by rfl) (hNj : X.N[j]? = some y := by rfl) (hv : Vis X.env.scope x := by first | exact Or.inl rfl | exact Or.inr (Or.inl rfl) | exact Or.inr (Or.inr rfl)) (hvy : Vis X.env.scope y := by first | exact Or.inl rfl | exact Or.inr (Or.inl rfl) | exact Or.inr (Or.inr rfl))
    (hd : (x == ("__debug__" : Str)) = false := by decide) (hcd : (x == ("__classdict__" : Str)) = false := by decide) (hdy : (y == ("__debug__" : Str)) = false := by decide) (hcdy : (y == ("__classdict__" : Str)) = false := by decide)
    (hbase : attributeBase (.Name x px) "append" X.env (eval (.Name x px) X.env) = eval (.Name x px) X.env := by rfl) (hbasey : attributeBase (.Name y py) "pop" X.env (eval (.Name y py) X.env) = eval (.Name y py) X.env := by rfl)
    (hfew : ((backTo cpos (starEach [.Call (.Attribute (.Name y py) "pop" apos2) [e] [] cpos2] X.env)).all (fun x => !x.1) && (backToKw cpos (keywordEach [] X.env)).all (fun x => x.1.isSome)
      && decide ([Expr.Call (.Attribute (.Name y py) "pop" apos2) [e] [] cpos2].length + ([] : List Keyword).length + (if ([] : List Keyword).isEmpty then 0 else 1) < 30)) = true := by rfl)
    (hfewy : ((backTo cpos2 (starEach [e] X.env)).all (fun x => !x.1) && (backToKw cpos2 (keywordEach [] X.env)).all (fun x => x.1.isSome)
      && decide ([e].length + ([] : List Keyword).length + (if ([] : List Keyword).isEmpty then 0 else 1) < 30)) = true := by rfl)
    (hline : (apos.endLine == cpos.line) = true := by rfl) (hliney : (apos2.endLine == cpos2.line) = true := by rfl) (hs : starEach [.Call (.Attribute (.Name y py) "pop" apos2) [e] [] cpos2] X.env = (false, eval (.Call (.Attribute (.Name y py) "pop" apos2) [e] [] cpos2) X.env) :: starEach [] X.env := by rfl) (hsy : starEach [e] X.env = (false, eval e X.env) :: starEach [] X.env := by rfl)
    (hp : (backTo cpos (starEach [] X.env)).any (·.1) = false := by rfl) (hpy : (backTo cpos2 (starEach [] X.env)).any (·.1) = false := by rfl)
    (hsw : swapsWith (.Call (.Attribute (.Name x px) "append" apos) [.Call (.Attribute (.Name y py) "pop" apos2) [e] [] cpos2] [] cpos) none pos.line X.env = pure false := by rfl) :
    PS X (.Expr (.Call (.Attribute (.Name x px) "append" apos) [.Call (.Attribute (.Name y py) "pop" apos2) [e] [] cpos2] [] cpos) pos) (tSt G W (sAppPop i j me)) :=
  (ps_expr (pe_bm PySem.F.plainAttrs_list PySem.F.slot_list_append PySem.F.type_list_append mt_append (pe_var hN hv hd hcd) (pa_cons (pe_bm PySem.F.plainAttrs_list PySem.F.slot_list_pop PySem.F.type_list_pop mt_popAt (pe_var hNj hvy hdy hcdy) (pa_cons he pa_nil hsy) hbasey hfewy hliney hsy hpy) pa_nil hs) hbase hfew hline hs hp) hsw).imp fun Dn σ H h => by
  obtain ⟨ua, u, B, env, fl, u', B0, H0, hg, hO, hE, hW, hm, q⟩ := h
  unfold sAppPop at hm
  split at hm
  · rename_i ds es hi hj
    obtain ⟨k, u1, c1, c2⟩ := bnd_some hm
    split at c2
    · rename_i n
      split at c2
      · rename_i hz
        obtain ⟨z0, z1, z2, z3, z4⟩ := hz
        split at c2
        · rename_i dd hdd
          cases c2
          obtain ⟨l, ho, s1, s2, s3, ⟨vs, rfl, s4⟩, s5⟩ := hE.own i _ hi
          obtain ⟨l2, ho2, y1, y2, y3, ⟨vs2, rfl, y4⟩, y5⟩ := hE.own j _ hj
          refine ⟨_, s1, .inl ⟨rfl, _, SqL.of s2⟩, _, y1, .inl ⟨rfl, _, SqL.of y2⟩, ua, u, B, env, _, _, hE, hW, c1, fun v H1 ⟨B1, g1, w1, r1⟩ => ?_⟩
          cases r1.int
          have e1 := hE.grow g1
          obtain ⟨l', ho', t1, t2, t3, ⟨vs', rfl, t4⟩, t5⟩ := e1.own i _ hi
          rw [s1] at t1
          cases t1
          obtain ⟨l2', ho2', x1, x2, x3, ⟨vs2', rfl, x4⟩, x5⟩ := e1.own j _ hj
          rw [y1] at x1
          cases x1
          obtain ⟨yv, hy, ry⟩ := x4.get hdd
          have nl : l ≠ l2 := fun z => z4 (e1.inj i j _ _ l hi hj s1 (by rw [z]; exact y1))
          have hlen : vs2'.length = es.length := x4.len.symm
          have ha : seqIndex? n vs2'.length = some n.toNat := by
            unfold seqIndex?
            have h1 : ¬ n < 0 := by omega
            simp only [h1, if_false]
            rw [if_pos (by simp; omega)]
          refine ⟨l2, vs2', n, n.toNat, yv, rfl, rfl, x2, by omega, by omega, ha, hy, ?_⟩
          refine ⟨l, vs', yv, rfl, rfl, by rw [upd_ne nl]; exact t2, by rw [← t4.len]; exact z3, ?_⟩
          have ej := e1.chg hj y1 x3 x5 (o' := .lst (es.eraseIdx n.toNat)) ⟨_, rfl, x4.erase n.toNat⟩
          have hi' : (env.set j (.own (.lst (es.eraseIdx n.toNat))))[i]? = some (.own (.lst ds)) := by rw [List.getElem?_set_ne (fun z => z4 z.symm)]; exact hi
          have oj := hO.chg hj (o' := .lst (es.eraseIdx n.toNat))
          exact q σ B1 _ (((hg.trans g1).putOwn (hO j _ l2 hj y1)).putOwn (hO i _ l hi s1)) (oj.chg hi') (ej.chg hi' s1 t3 t5 ⟨_, rfl, t4.append (.cons ry .nil)⟩) ((w1.put x3 x5).put t3 t5)
        · cases c2
      · cases c2
    · cases c2
  · cases hm
end
end Dv

/-! Sk: sorted of a list of tuples of ints and texts, all of one shape, at any length. -/
namespace Dv
open PySem PySem.Spec PyProof.Rows L2
/-! ### the order -/
def ltK : Key → Key → Bool
  | .inl i, .inl j => decide (i < j)
  | .inr x, .inr y => decide (x.cps.toList < y.cps.toList)
  | .inl _, .inr _ => true
  | .inr _, .inl _ => false
theorem ltK_irr (a : Key) : ltK a a = false := by
  cases a with
  | inl i => exact decide_eq_false (Int.lt_irrefl _)
  | inr x => exact decide_eq_false (List.lt_irrefl _)
theorem ltK_trans {a b c : Key} (h : ltK a b = true) (g : ltK b c = true) : ltK a c = true := by
  cases a <;> cases b <;> cases c <;> simp only [ltK, decide_eq_true_eq, Bool.false_eq_true] at h g ⊢
  · omega
  · exact List.lt_trans h g
theorem ltK_tri (a b : Key) : ltK a b = true ∨ a = b ∨ ltK b a = true := by
  cases a with
  | inl i =>
    cases b with
    | inl j =>
      rcases Int.lt_trichotomy i j with h | h | h
      · exact .inl (decide_eq_true h)
      · exact .inr (.inl (by rw [h]))
      · exact .inr (.inr (decide_eq_true h))
    | inr y => exact .inl rfl
  | inr x =>
    cases b with
    | inl j => exact .inr (.inr rfl)
    | inr y =>
      by_cases h : x.cps.toList < y.cps.toList
      · exact .inl (decide_eq_true h)
      · by_cases g : y.cps.toList < x.cps.toList
        · exact .inr (.inr (decide_eq_true g))
        · exact .inr (.inl (by rw [leS_anti (List.not_lt.mp g) (List.not_lt.mp h)]))
def leR : List Key → List Key → Bool
  | [], _ => true
  | _ :: _, [] => false
  | a :: as, b :: bs => if a = b then leR as bs else ltK a b
theorem leR_cons (a b : Key) (as bs : List Key) : leR (a :: as) (b :: bs) = if a = b then leR as bs else ltK a b := by rw [leR]
theorem leR_refl : ∀ a, leR a a = true
  | [] => rfl
  | a :: as => by unfold leR; rw [if_pos rfl]; exact leR_refl as
theorem leR_trans : ∀ {a b c : List Key}, leR a b = true → leR b c = true → leR a c = true
  | [], _, _, _, _ => by unfold leR; rfl
  | _ :: _, [], _, h, _ => by unfold leR at h; cases h
  | _ :: _, _ :: _, [], _, h => by unfold leR at h; cases h
  | a :: as, b :: bs, c :: cs, h, g => by
    unfold leR at h g ⊢
    by_cases e : a = b
    · subst e
      rw [if_pos rfl] at h
      by_cases f : a = c
      · rw [if_pos f] at g ⊢; exact leR_trans h g
      · rw [if_neg f] at g ⊢; exact g
    · rw [if_neg e] at h
      by_cases f : b = c
      · subst f
        rw [if_neg e]; exact h
      · rw [if_neg f] at g
        have t := ltK_trans h g
        by_cases k : a = c
        · subst k; rw [ltK_irr] at t; cases t
        · rw [if_neg k]; exact t
theorem leR_total : ∀ a b : List Key, leR a b = true ∨ leR b a = true
  | [], _ => .inl (by unfold leR; rfl)
  | _ :: _, [] => .inr (by unfold leR; rfl)
  | a :: as, b :: bs => by
    unfold leR
    by_cases e : a = b
    · rw [if_pos e, if_pos e.symm]; exact leR_total as bs
    · rw [if_neg e, if_neg (fun z => e z.symm)]
      rcases ltK_tri a b with h | h | h
      · exact .inl h
      · exact absurd h e
      · exact .inr h
theorem leR_anti : ∀ {a b : List Key}, leR a b = true → leR b a = true → a = b
  | [], [], _, _ => rfl
  | [], _ :: _, _, h => by unfold leR at h; cases h
  | _ :: _, [], h, _ => by unfold leR at h; cases h
  | a :: as, b :: bs, h, g => by
    unfold leR at h g
    by_cases e : a = b
    · subst e
      rw [if_pos rfl] at h g
      rw [leR_anti h g]
    · rw [if_neg e] at h
      rw [if_neg (fun z => e z.symm)] at g
      have := ltK_trans h g
      rw [ltK_irr] at this; cases this
def insR (x : List Key) : List (List Key) → List (List Key)
  | [] => [x]
  | y :: r => if leR x y = true then x :: y :: r else y :: insR x r
def sortR : List (List Key) → List (List Key)
  | [] => []
  | x :: r => insR x (sortR r)
theorem insR_perm (x : List Key) : ∀ l, (insR x l).Perm (x :: l)
  | [] => .refl _
  | y :: r => by
    unfold insR
    split
    · exact .refl _
    · exact ((insR_perm x r).cons y).trans (.swap x y r)
theorem sortR_perm : ∀ l, (sortR l).Perm l
  | [] => .refl _
  | x :: r => (insR_perm x _).trans ((sortR_perm r).cons x)
abbrev LeR (a b : List Key) : Prop := leR a b = true
theorem insR_sorted (x : List Key) : ∀ l : List (List Key), l.Pairwise LeR → (insR x l).Pairwise LeR
  | [], _ => List.pairwise_singleton _ _
  | y :: r, h => by
    have h1 := List.pairwise_cons.mp h
    unfold insR
    split
    · rename_i hl
      refine List.pairwise_cons.mpr ⟨fun z hz => ?_, h⟩
      rcases List.mem_cons.mp hz with rfl | hz
      · exact hl
      · exact leR_trans hl (h1.1 z hz)
    · rename_i hl
      refine List.pairwise_cons.mpr ⟨fun z hz => ?_, insR_sorted x r h1.2⟩
      rcases List.mem_cons.mp ((insR_perm x r).subset hz) with rfl | hz
      · exact (leR_total _ _).resolve_left hl
      · exact h1.1 z hz
theorem sortR_sorted : ∀ l : List (List Key), (sortR l).Pairwise LeR
  | [] => .nil
  | x :: r => insR_sorted x _ (sortR_sorted r)
theorem sortR_uniq {xs ys : List (List Key)} (p : ys.Perm xs) (h : ys.Pairwise LeR) : ys = sortR xs :=
  List.Perm.eq_of_pairwise (fun _ _ _ _ h1 h2 => leR_anti h1 h2) h (sortR_sorted xs) (p.trans (sortR_perm xs).symm)
/-! ### as data of the kit -/
def keyPy : Key → PyData
  | .inl i => .int i
  | .inr x => .str x
def rowPy (ks : List Key) : PyData := .tuple (ks.map keyPy)
def kindK : Key → Bool
  | .inl _ => true
  | .inr _ => false
abbrev shapeR (ks : List Key) : List Bool := ks.map kindK
theorem key_alike {a b : Key} (h : kindK a = kindK b) : W.alike (keyPy a) (keyPy b) = true := by
  cases a <;> cases b <;> simp_all [kindK, keyPy, W.alike]
theorem key_eqv {a b : Key} (h : kindK a = kindK b) : PyData.eqv (keyPy a) (keyPy b) = decide (a = b) := by
  cases a <;> cases b <;> simp_all [kindK, keyPy, PyData.eqv]
  · rename_i i j; by_cases e : i = j <;> simp [e]
  · rename_i i j; by_cases e : i = j <;> simp [e]
theorem key_lt {a b : Key} (h : kindK a = kindK b) : W.dataLt (keyPy a) (keyPy b) = ltK a b := by
  cases a <;> cases b <;> simp only [kindK, Bool.false_eq_true, Bool.true_eq_false] at h <;> unfold keyPy ltK
  · exact W.dataLt_int _ _
  · exact W.dataLt_str _ _
theorem row_alike : ∀ {a b : List Key}, shapeR a = shapeR b → W.alikeAll (a.map keyPy) (b.map keyPy) = true
  | [], _, _ => by simp [W.alikeAll]
  | _ :: _, [], h => by cases h
  | a :: as, b :: bs, h => by
    obtain ⟨h1, h2⟩ := List.cons.inj h
    show W.alikeAll (keyPy a :: as.map keyPy) (keyPy b :: bs.map keyPy) = true
    rw [W.alikeAll, key_alike h1, row_alike h2]; rfl
theorem row_lt : ∀ {a b : List Key}, shapeR a = shapeR b → W.rowLt (b.map keyPy) (a.map keyPy) = !leR a b
  | [], [], _ => by
    have e : W.rowLt [] [] = false := PyProof.Rows.lex_irrefl _
    unfold leR; exact e
  | [], _ :: _, h => by cases h
  | _ :: _, [], h => by cases h
  | a :: as, b :: bs, h => by
    obtain ⟨h1, h2⟩ := List.cons.inj h
    have e : W.rowLt ((b :: bs).map keyPy) ((a :: as).map keyPy) = if PyData.eqv (keyPy b) (keyPy a) = true then W.rowLt (bs.map keyPy) (as.map keyPy) else W.dataLt (keyPy b) (keyPy a) := W.dataLt_cons (key_alike h1.symm) _ _
    rw [e, key_eqv h1.symm, key_lt h1.symm, row_lt h2, leR_cons]
    by_cases f : a = b
    · subst f; simp
    · rw [if_neg (by simpa using fun z => f z.symm), if_neg f]
      rcases ltK_tri a b with h | h | h
      · rw [h]
        cases q : ltK b a with
        | false => rfl
        | true => have := ltK_trans h q; rw [ltK_irr] at this; cases this
      · exact absurd h f
      · rw [h]
        cases q : ltK a b with
        | false => rfl
        | true => have := ltK_trans h q; rw [ltK_irr] at this; cases this
theorem row_depth : ∀ ks : List Key, PyData.depthAll (ks.map keyPy) = 0
  | [] => by simp [PyData.depthAll]
  | k :: ks => by
    show PyData.depthAll (keyPy k :: ks.map keyPy) = 0
    rw [PyData.depthAll, row_depth ks]
    cases k <;> simp [keyPy, PyData.depth]
/-! ### as data of the layer -/
def keyD : Key → D
  | .inl i => .int i
  | .inr x => .str x
def rowD (ks : List Key) : D := .tup (ks.map keyD)
def keysOf : List D → Option (List Key)
  | [] => some []
  | d :: ds => (keyOf d).bind fun k => (keysOf ds).map fun ks => k :: ks
def rowOf : D → Option (List Key)
  | .tup ds => keysOf ds
  | _ => none
def rowsOf : List D → Option (List (List Key))
  | [] => some []
  | d :: ds => (rowOf d).bind fun k => (rowsOf ds).map fun ks => k :: ks
theorem keyOf_eq {d : D} {k : Key} (h : keyOf d = some k) : d = keyD k := by
  unfold keyOf at h
  split at h
  · cases h; rfl
  · cases h; rfl
  · cases h
theorem keysOf_eq : ∀ {ds : List D} {ks : List Key}, keysOf ds = some ks → ds = ks.map keyD
  | [], ks, h => by cases h; rfl
  | d :: ds, ks, h => by
    unfold keysOf at h
    cases q : keyOf d with
    | none => rw [q] at h; cases h
    | some k =>
      rw [q] at h
      cases q2 : keysOf ds with
      | none => rw [q2] at h; cases h
      | some r => rw [q2] at h; cases h; rw [keyOf_eq q, keysOf_eq q2]; rfl
theorem rowsOf_eq : ∀ {ds : List D} {ks : List (List Key)}, rowsOf ds = some ks → ds = ks.map rowD
  | [], ks, h => by cases h; rfl
  | d :: ds, ks, h => by
    unfold rowsOf at h
    cases q : rowOf d with
    | none => rw [q] at h; cases h
    | some k =>
      rw [q] at h
      cases q2 : rowsOf ds with
      | none => rw [q2] at h; cases h
      | some r =>
        rw [q2] at h; cases h
        unfold rowOf at q
        split at q
        · rw [keysOf_eq q, rowsOf_eq q2]; rfl
        · cases q
theorem keyD_of (k : Key) : keyOf (keyD k) = some k := by cases k <;> rfl
theorem keysOf_map : ∀ ks : List Key, keysOf (ks.map keyD) = some ks
  | [] => rfl
  | k :: ks => by
    show (keyOf (keyD k)).bind _ = _
    rw [keyD_of]
    show (keysOf (ks.map keyD)).map _ = _
    rw [keysOf_map ks]; rfl
theorem rowsOf_map : ∀ ks : List (List Key), rowsOf (ks.map rowD) = some ks
  | [] => rfl
  | k :: ks => by
    show (keysOf (k.map keyD)).bind _ = _
    rw [keysOf_map]
    show (rowsOf (ks.map rowD)).map _ = _
    rw [rowsOf_map ks]; rfl
theorem key_py (k : Key) : toPy (keyD k) = some (keyPy k) := by cases k <;> (unfold keyD toPy; rfl)
theorem keys_py : ∀ ks : List Key, toPys (ks.map keyD) = some (ks.map keyPy)
  | [] => by unfold toPys; rfl
  | k :: ks => by
    show toPys (keyD k :: ks.map keyD) = _
    unfold toPys
    rw [key_py, keys_py ks]; rfl
theorem row_py (ks : List Key) : toPy (rowD ks) = some (rowPy ks) := by
  unfold rowD toPy
  rw [keys_py]; rfl
/-! ### the rule -/
def rSortedD (X : Cx) : List V → Hp → VK → Prop := fun vs H Q => ∃ (a : Addr) (zs : List (V × List Key)) (sh : List Bool), vs = [.ref a] ∧ SqL X.K H a (zs.map (·.1)) ∧ (∀ z ∈ zs, Dp X.K H z.1 (rowPy z.2)) ∧ (∀ z ∈ zs, shapeR z.2 = sh) ∧ sh ≠ [] ∧
  ∀ (p : Addr) (ys : List (V × List Key)), ys.Perm zs → (ys.map (·.2)).Pairwise LeR → H p = none → Q (.ref p) (upd H p (.lst (ys.map (·.1))))
theorem vals_each {R : Value → V × List Key → Prop} (hR : ∀ u z, R u z → RelV z.1 u) : ∀ {us : List Value} {zs : List (V × List Key)}, W.EachIs R us zs → Vals (zs.map (·.1)) us
  | _, _, .nil => .nil
  | _, _, .cons h t => .cons (hR _ _ h) (vals_each hR t)
theorem each_vals : ∀ {zs : List (V × List Key)} {us : List Value}, Vals (zs.map (·.1)) us → W.EachIs (fun u (z : V × List Key) => RelV z.1 u) us zs
  | [], us, h => by cases us with
    | nil => exact .nil
    | cons u us => cases h
  | z :: zs, us, h => by cases us with
    | nil => cases h
    | cons u us => cases h with
      | cons h1 h2 => exact .cons h1 (each_vals h2)
theorem each_reads {R S : Value → V × List Key → Prop} : ∀ {us : List Value} {zs : List (V × List Key)}, W.EachIs R us zs → (∀ u z, z ∈ zs → R u z → S u z) → W.EachIs S us zs
  | _, _, .nil, _ => .nil
  | _, _, .cons h t, f => .cons (f _ _ List.mem_cons_self h) (each_reads t fun u z hz => f u z (List.mem_cons_of_mem _ hz))
theorem shaped_ne {sh : List Bool} {k : List Key} (h : shapeR k = sh) (hn : sh ≠ []) : ∃ a r, k = a :: r := by
  cases k with
  | nil => exact absurd h.symm hn
  | cons a r => exact ⟨a, r, rfl⟩
theorem cr_sortedD {X : Cx} (hu : X.A.units + 64 < cLine) : CallR X (.builtin "sorted") (rSortedD X) := by
  intro pins s σ H vs us Q I r h
  obtain ⟨a, zs, sh, rfl, hs, hd, hsh, hne, q⟩ := h
  obtain ⟨its, rv, hl, hz⟩ := I.list hs
  obtain ⟨u, rfl, ru⟩ := vals1 r
  obtain rfl : u = Value.ref a := ru
  have e0 := each_vals rv
  have er : W.EachIs (fun u (z : V × List Key) => ∃ as, Reads s.heap u (rowPy z.2) as) its zs := each_reads e0 fun u z hz' ru => Dp.reads I _ _ _ (hd z hz') ru
  have hal : W.AllAlike (zs.map fun z => rowPy z.2) := by
    intro d hd1 d' hd2
    obtain ⟨z, hz1, rfl⟩ := List.mem_map.mp hd1
    obtain ⟨z', hz2, rfl⟩ := List.mem_map.mp hd2
    show W.alike (.tuple _) (.tuple _) = true
    rw [W.alike]
    exact row_alike ((hsh z hz1).trans (hsh z' hz2).symm)
  have hk : W.Sortable (zs.map fun z => rowPy z.2) := .inl fun d hd1 => by
    obtain ⟨z, hz1, rfl⟩ := List.mem_map.mp hd1
    obtain ⟨x, r, e⟩ := shaped_ne (hsh z hz1) hne
    exact ⟨keyPy x, r.map keyPy, by show PyData.tuple (z.2.map keyPy) = _; rw [e]; rfl⟩
  have hlen : its.length = zs.length := by rw [← rv.length, List.length_map]
  refine W.sorted_data (enc := fun z : V × List Key => rowPy z.2) (R := fun u z => RelV z.1 u) hl.isList e0 er hal hk (by rw [← hlen, ← rv.length]; exact hz) (fun b _ => by
    have : (rowPy b.2).depth = 1 := by show PyData.depth (.tuple (b.2.map keyPy)) = 1; rw [PyData.depth, row_depth]
    rw [this]; omega) fun out ho eo => ?_
  have hle : ∀ x ∈ zs, ∀ y ∈ zs, W.dataLe false (fun z : V × List Key => rowPy z.2) x y = leR x.2 y.2 := fun x hx y hy => by
    show (!W.dataLt (rowPy y.2) (rowPy x.2)) = _
    have : W.dataLt (rowPy y.2) (rowPy x.2) = W.rowLt (y.2.map keyPy) (x.2.map keyPy) := W.dataLt_tuple _ _
    rw [this, row_lt ((hsh x hx).trans (hsh y hy).symm), Bool.not_not]
  obtain ⟨ys, hys⟩ : ∃ ys, ys = zs.mergeSort (W.dataLe false fun z : V × List Key => rowPy z.2) := ⟨_, rfl⟩
  have hperm : ys.Perm zs := by rw [hys]; exact List.mergeSort_perm _ _
  rw [← hys] at eo
  obtain ⟨c, hc⟩ := PyProof.Rows.sortedAll_at s.heap its out.toArray
  refine ⟨.ref (s.heap.objs.size + 1), upd H (s.heap.objs.size + 1) (.lst (ys.map (·.1))), I.laid (t' := s.toks) (fun b o e => PyProof.Rows.sortedAll_old e) (Nat.le_succ _) ⟨?_, out, c, vals_each (fun _ _ h => h) eo, hc⟩, rfl, q _ ys hperm ?_ (I.hok.fresh (Nat.le_succ _))⟩
  · rw [List.length_map, hperm.length_eq, ← hlen, ← rv.length]; exact hz
  · rw [List.pairwise_map]
    rw [hys, W.sort_congr (s := fun x y : V × List Key => leR x.2 y.2) hle]
    exact W.sort_pairwise (le := fun x y : V × List Key => leR x.2 y.2) ⟨fun _ _ _ h g => leR_trans h g, fun _ _ => leR_total _ _⟩ zs
/-! ### as data -/
def sameShape (sh : List Bool) (ks : List (List Key)) : Bool := ks.all fun k => decide (shapeR k = sh)
def sortKs : List (List Key) → Option D
  | [] => some (.lst [])
  | k :: r => if sameShape (shapeR k) r = true ∧ k ≠ [] then some (.lst ((sortR (k :: r)).map rowD)) else none
def sortT (ds : List D) : Option D := (rowsOf ds).bind sortKs
def bSortA : List D → Option D
  | [.lst ds] => match bSorted [.lst ds] with
    | some d => some d
    | none => sortT ds
  | _ => none
theorem rep_rows {K : PySem.W.Frag} {G : Gx K} {ua : Option Addr} {B H : Hp} (sub : Same B H) : ∀ {ks : List (List Key)} {vs : List V}, Reps G ua (ks.map rowD) vs B → ∃ zs : List (V × List Key), zs.map (·.1) = vs ∧ zs.map (·.2) = ks ∧ ∀ z ∈ zs, Rep G ua (rowD z.2) z.1 B ∧ Dp K H z.1 (rowPy z.2)
  | [], vs, r => by
    have r : Reps G ua [] vs B := r
    exact ⟨[], by rw [r.of_nil]; rfl, rfl, fun z hz => by cases hz⟩
  | k :: ks, vs, r => by
    obtain ⟨v, t, rfl, r1, r2⟩ := (show Reps G ua (rowD k :: ks.map rowD) vs B from r).of_cons
    obtain ⟨zs, h1, h2, h3⟩ := rep_rows sub r2
    refine ⟨(v, k) :: zs, by rw [List.map_cons, h1], by rw [List.map_cons, h2], fun z hz => ?_⟩
    rcases List.mem_cons.mp hz with rfl | hz
    · exact ⟨r1, rep_dp sub _ _ _ (row_py k) r1⟩
    · exact h3 z hz
theorem reps_of {K : PySem.W.Frag} {G : Gx K} {ua : Option Addr} {B : Hp} : ∀ {zs : List (V × List Key)}, (∀ z ∈ zs, Rep G ua (rowD z.2) z.1 B) → Reps G ua ((zs.map (·.2)).map rowD) (zs.map (·.1)) B
  | [], _ => .nil
  | z :: zs, h => .cons (h z List.mem_cons_self) (reps_of fun y hy => h y (List.mem_cons_of_mem _ hy))
theorem ok_sortA {X : Cx} {G : Gx X.K} (hu : X.A.units + 64 < cLine) : BiOk G (.builtin "sorted") bSortA := by
  intro ua u B H ds d vs e rs w
  unfold bSortA at e
  split at e
  · rename_i ds
    split at e
    · rename_i d' hd
      cases e
      exact ok_sorted ua u B H _ _ vs hd rs w
    · rename_i hno
      unfold sortT at e
      cases q : rowsOf ds with
      | none => rw [q] at e; cases e
      | some ks =>
        rw [q] at e
        have e : sortKs ks = some d := e
        obtain ⟨v, t, rfl, r1, r2⟩ := rs.of_cons
        rw [r2.of_nil]
        obtain ⟨a, ys, rfl, h, r3⟩ := r1.lst
        rw [rowsOf_eq q] at r3
        cases ks with
        | nil =>
          rw [rowsOf_eq q] at hno
          cases (show (some (D.lst []) : Option D) = none from hno)
        | cons k r =>
          have e : (if sameShape (shapeR k) r = true ∧ k ≠ [] then some (D.lst ((sortR (k :: r)).map rowD)) else none) = some d := e
          split at e
          · rename_i hh
            cases e
            obtain ⟨zs, h1, h2, h3⟩ := rep_rows w.sub r3
            refine ⟨_, cr_sortedD hu, a, zs, shapeR k, rfl, by rw [h1]; exact .of (w.sub _ _ h), fun z hz => (h3 z hz).2, fun z hz => ?_, fun z => hh.2 (List.map_eq_nil_iff.mp z), fun p zs' hp hs hn => ?_⟩
            · have : z.2 ∈ k :: r := by rw [← h2]; exact List.mem_map.mpr ⟨z, hz, rfl⟩
              rcases List.mem_cons.mp this with e | m
              · rw [e]
              · exact of_decide_eq_true (List.all_eq_true.mp hh.1 _ m)
            · have : zs'.map (·.2) = sortR (k :: r) := sortR_uniq (by rw [← h2]; exact hp.map _) hs
              rw [← this]
              exact .lst w hn (reps_of fun z hz => (h3 z (hp.mem_iff.mp hz)).1)
          · cases e
  · cases e
theorem sortA_s {xs : List Str} (h : xs.length < 64) : bSortA [.lst (xs.map .str)] = some (.lst ((sortS xs).map .str)) := by
  have : bSorted [.lst (xs.map .str)] = some (.lst ((sortS xs).map .str)) := by
    show (strsOf (xs.map D.str)).bind _ = _
    have e : ∀ ys : List Str, strsOf (ys.map D.str) = some ys := fun ys => by
      induction ys with
      | nil => rfl
      | cons y r ih => show (strsOf (r.map D.str)).map _ = _; rw [ih]; rfl
    rw [e]
    exact if_pos h
  show (match bSorted [.lst (xs.map .str)] with | some d => some d | none => sortT (xs.map .str)) = _
  rw [this]
theorem sortA_r {ks : List (List Key)} {sh : List Bool} (h : ∀ k ∈ ks, shapeR k = sh) (hn : sh ≠ []) : bSortA [.lst (ks.map rowD)] = some (.lst ((sortR ks).map rowD)) := by
  cases ks with
  | nil => rfl
  | cons k r =>
    have e : bSorted [.lst ((k :: r).map rowD)] = none := rfl
    show (match bSorted [.lst ((k :: r).map rowD)] with | some d => some d | none => sortT ((k :: r).map rowD)) = _
    rw [e]
    show (rowsOf ((k :: r).map rowD)).bind _ = _
    rw [rowsOf_map]
    show (if _ then _ else _) = _
    rw [if_pos]
    refine ⟨List.all_eq_true.mpr fun z hz => decide_eq_true ((h z (List.mem_cons_of_mem _ hz)).trans (h k List.mem_cons_self).symm), fun z => hn ?_⟩
    rw [← h k List.mem_cons_self, z]; rfl
end Dv

/-! Sx: set(xs) of texts, sorted(set(xs)). -/
namespace Dv
open PySem PySem.Spec PyProof.Rows L2
def txtOf (e : Int × Value) : Str := match e.2 with
  | .str x _ => x
  | _ => Str.ofString ""
def TxtE (w : World) (e : Int × Value) : Prop := ∃ x tk, e.2 = Value.str x tk ∧ e.1 = hashStr w x
/-- at a: the set of the texts ks; its table can be walked -/
def TxtSet (w : World) (h : Heap) (a : Addr) (ks : List Str) : Prop := ∃ o es ep t, h.get? a = some o ∧ o.ExactSet ∧ o.data = .set es ep t ∧ (∀ e ∈ es.toList, TxtE w e) ∧ (es.toList.map txtOf).Perm ks ∧ ks.Nodup ∧
  es.size < scanBound ∧ t.fits es.size = true ∧ Ris t.place.toList ∧ (w.params.followText "set-order" = true ∨ t.led = true)
section
variable {P : Program} {w : World} {A : Around} {E : Value → Shared → Prop} {s : Shared} {h h' : Heap} {a : Addr} {ks : List Str}
theorem TxtSet.at (R : TxtSet w h a ks) (k : ∀ o, h.get? a = some o → h'.get? a = some o) : TxtSet w h' a ks := by
  obtain ⟨o, es, ep, t, ho, r⟩ := R
  exact ⟨o, es, ep, t, k o ho, r⟩
theorem txt_elems {l : List (Int × Value)} (g : ∀ e ∈ l, TxtE w e) : ElemsOf (PySem.strKind P w) l := fun e he => by
  obtain ⟨x, tk, h1, h2⟩ := g e he
  refine ⟨⟨x, ?_, h2⟩, by rw [h1] <;> rfl⟩
  rw [h1]
  show Value.isStrOf x (.str x tk) = true
  simp [Value.isStrOf]
theorem txt_is {e : Int × Value} (g : TxtE w e) (x : Str) : (PySem.strKind P w).is x e.2 = true ↔ txtOf e = x := by
  obtain ⟨y, tk, h1, _⟩ := g
  unfold txtOf
  rw [h1]
  show Value.isStrOf x (.str y tk) = true ↔ y = x
  simp only [Value.isStrOf, beq_iff_eq]
  first
    | done
    | exact ⟨fun z => z.symm, fun z => z.symm⟩
    | exact Iff.rfl
/-- an element is laid into the table -/
theorem txt_tail {g : Bool → Sem Unit} (hg : ∀ (b : Bool) (s1 : Shared) (Q1 : Unit → Shared → Prop), Q1 () s1 → wpAny (model P w) A (g b) Q1 E s1) {o : Obj} {es es1 : Array (Int × Value)} {ep : Nat} {t t2 : SetTable} (ho : s.heap.get? a = some o) (hex : o.ExactSet) (hd : o.data = .set es ep t)
    (g1 : ∀ e ∈ es1.toList, TxtE w e) (pm1 : (es1.toList.map txtOf).Perm ks) (nd : ks.Nodup) (few : es1.size < scanBound) (fit : t2.fits es1.size = true) (ris : Ris t2.place.toList) (led : w.params.followText "set-order" = true ∨ t2.led = true) {old : Bool} {R : Option Bool → Shared → Prop}
    (fin : ∀ h2, Heap.SameBut a s.heap h2 → TxtSet w h2 a ks → R (some true) { s with heap := h2 }) :
    wpAny (model P w) A (do
        storeSet a es1 t2
        if (!old && t2.tooFull) = true then do
            g (relayAll t2 es1 (SetTable.grown es1.size)).2.2
            storeSet a (relayAll t2 es1 (SetTable.grown es1.size)).1 (relayAll t2 es1 (SetTable.grown es1.size)).2.1
            pure (some true)
          else pure (some true)) R E s := by
  have here := store_at (es' := es1) (t' := t2) ho hd
  refine wpAny_bind (wpAny_storeSet_of ho hd ?_ (fits_of_scanBound few))
  split
  · have q1 := relayAll_perm t2 es1 (SetTable.grown es1.size)
    have q2 := relayAll_fits t2 es1 (SetTable.grown es1.size)
    have q3 := relayAll_ris t2 es1 (SetTable.grown es1.size)
    have q4 := relayAll_led t2 es1 (SetTable.grown es1.size)
    generalize relayAll t2 es1 (SetTable.grown es1.size) = Z at q1 q2 q3 q4 ⊢
    obtain ⟨es2, t3, gave⟩ := Z
    dsimp only at q1 q2 q3 q4 ⊢
    have few2 : es2.size < scanBound := by
      have := q1.length_eq
      rw [Array.length_toList, Array.length_toList] at this
      omega
    refine wpAny_bind (hg _ _ _ (wpAny_bind (wpAny_storeSet_of here rfl (wpAny_pure (fin _ ((Heap.SameBut.update s.heap a _).trans (Heap.SameBut.update _ a _)) ?_)) (fits_of_scanBound few2))))
    refine ⟨_, es2, _, t3, store_at (es' := es2) (t' := t3) here rfl, hex, rfl, fun e he => g1 e (q1.mem_iff.mp he), (q1.map txtOf).trans pm1, nd, few2, q2, q3, ?_⟩
    rcases led with z | z
    · exact .inl z
    · exact .inr (q4.trans z)
  · exact wpAny_pure (fin _ (Heap.SameBut.update s.heap a _) ⟨_, es1, _, t2, here, hex, rfl, g1, pm1, nd, few, fit, ris, led⟩)
theorem txt_add {x : Str} {tk : Tok} {Q : Bool → Shared → Prop} (R : TxtSet w s.heap a ks) (room : ks.length + 1 < scanBound)
    (fin : ∀ b h2, Heap.SameBut a s.heap h2 → TxtSet w h2 a (if x ∈ ks then ks else x :: ks) → Q b { s with heap := h2 }) :
    wpAny (model P w) A (setAddHashed a (.str x tk) (hashStr w x)) Q E s := by
  obtain ⟨o, es, ep, t, ho, hex, hd, g, pm, nd, few, fit, ris, led⟩ := R
  have own : (PySem.strKind P w).is x (.str x tk) = true := by
    show Value.isStrOf x (.str x tk) = true
    simp [Value.isStrOf]
  have scan : (Value.str x tk).scannable = true := rfl
  have els : ElemsOf (PySem.strKind P w) es.toList := txt_elems g
  have count : es.size = ks.length := by rw [← pm.length_eq, List.length_map, Array.length_toList]
  have quiet : ∀ (b : Bool) (s1 : Shared) (Q1 : Unit → Shared → Prop), Q1 () s1 → wpAny (model P w) A (match b with | true => rule "set.scan.the-table-gave-way" | false => pure ()) Q1 E s1 := fun b s1 Q1 q => by
    cases b
    · exact wpAny_pure q
    · exact wpAny_rule q
  show wpAny (model P w) A (setAddHashed a (.str x tk) ((PySem.strKind P w).hash x)) Q E s
  unfold setAddHashed setAddHashedIn
  refine wpAny_holding (wpAny_bind (wpAny_setState_of ho hd fit ?_))
  dsimp only
  rw [byScan_of scan few els]
  simp only [↓reduceIte]
  unfold setAddByScan
  refine wpAny_bind (wpAny_bind (wpAny_rule (wpAny_bind (wpAny_setScan_of own ho hd fit els ?_))))
  cases hfi : List.findIdx? (fun e => (PySem.strKind P w).is x e.2) es.toList with
  | some j =>
    dsimp only
    obtain ⟨hj, pj, _⟩ := List.findIdx?_eq_some_iff_getElem.mp hfi
    have hm : x ∈ ks := pm.mem_iff.mp (List.mem_map.mpr ⟨es.toList[j], List.getElem_mem hj, (txt_is (g _ (List.getElem_mem hj)) x).mp pj⟩)
    refine wpAny_pure (wpAny_pure (fin false s.heap (Heap.SameBut.refl a s.heap) ?_))
    rw [if_pos hm]
    exact ⟨o, es, ep, t, ho, hex, hd, g, pm, nd, few, fit, ris, led⟩
  | none =>
    dsimp only
    have hm : x ∉ ks := fun z => by
      obtain ⟨e, he, q⟩ := List.mem_map.mp (pm.mem_iff.mpr z)
      have := List.findIdx?_eq_none_iff.mp hfi e he
      rw [(txt_is (g e he) x).mpr q] at this
      cases this
    have q1 := layNew_perm t es ((PySem.strKind P w).hash x) (.str x tk)
    have q2 := layNew_fits t es ((PySem.strKind P w).hash x) (.str x tk)
    have q3 := layNew_ris t es ((PySem.strKind P w).hash x) (.str x tk) ris
    have q4 := layNew_led t es ((PySem.strKind P w).hash x) (.str x tk)
    generalize layNew t es ((PySem.strKind P w).hash x) (.str x tk) = Z at q1 q2 q3 q4 ⊢
    obtain ⟨es1, t1, old, gave⟩ := Z
    dsimp only at q1 q2 q3 q4 ⊢
    rw [Array.toList_push] at q1
    have pc : es1.toList.Perm (((PySem.strKind P w).hash x, Value.str x tk) :: es.toList) := q1.trans (List.perm_append_singleton _ _)
    have g1 : ∀ e ∈ es1.toList, TxtE w e := fun e he => by
      rcases List.mem_cons.mp (pc.mem_iff.mp he) with z | z
      · rw [z]; exact ⟨x, tk, rfl, rfl⟩
      · exact g e z
    have pm1 : (es1.toList.map txtOf).Perm (x :: ks) := (pc.map txtOf).trans (pm.cons x)
    have nd1 : (x :: ks).Nodup := List.nodup_cons.mpr ⟨hm, nd⟩
    have few1 : es1.size < scanBound := by
      have := pc.length_eq
      rw [Array.length_toList, List.length_cons, Array.length_toList] at this
      omega
    have led1 : w.params.followText "set-order" = true ∨ t1.led = true := led.imp id fun z => q4.trans z
    have fin1 : ∀ h2, Heap.SameBut a s.heap h2 → TxtSet w h2 a (x :: ks) → Q true { s with heap := h2 } := fun h2 sb r => fin true h2 sb (by rw [if_neg hm]; exact r)
    refine wpAny_bind (quiet _ _ _ ?_)
    split
    · refine wpAny_bind ?_
      rw [hashByValue_scannable 8 scan]
      refine wpAny_pure (txt_tail (ks := x :: ks) quiet ho hex hd g1 pm1 nd1 few1 ?_ ?_ ?_ fun h2 sb r => ?_)
      · first | (split <;> first | exact q2 | exact SetTable.fits_plain_off q2) | exact q2
      · first | (split <;> exact q3) | exact q3
      · first | (split <;> exact led1) | exact led1
      · dsimp only
        exact wpAny_pure (fin1 h2 sb r)
    · refine wpAny_bind (wpAny_pure ?_)
      simp only [↓reduceIte]
      refine txt_tail (ks := x :: ks) quiet ho hex hd g1 pm1 nd1 few1 q2 q3 led1 fun h2 sb r => ?_
      dsimp only
      exact wpAny_pure (fin1 h2 sb r)
end
end Dv

namespace Dv
open PySem PySem.Spec PyProof.Rows L2
/-- without repeats: each at its last place -/
def nubS : List Str → List Str
  | [] => []
  | x :: r => if x ∈ nubS r then nubS r else x :: nubS r
theorem mem_nubS {z : Str} : ∀ {l : List Str}, z ∈ nubS l ↔ z ∈ l
  | [] => Iff.rfl
  | x :: r => by
    unfold nubS
    split
    · rename_i h
      rw [List.mem_cons, mem_nubS (l := r)]
      exact ⟨.inr, fun q => q.elim (fun e => by rw [e]; exact mem_nubS.mp h) id⟩
    · rw [List.mem_cons, List.mem_cons, mem_nubS (l := r)]
theorem nodup_nubS : ∀ l : List Str, (nubS l).Nodup
  | [] => List.nodup_nil
  | x :: r => by
    unfold nubS
    split
    · exact nodup_nubS r
    · exact List.nodup_cons.mpr ⟨‹_›, nodup_nubS r⟩
theorem len_nubS : ∀ l : List Str, (nubS l).length ≤ l.length
  | [] => Nat.le_refl _
  | x :: r => by
    have := len_nubS r
    unfold nubS
    split <;> (try simp only [List.length_cons]) <;> omega
def TxtAll (w : World) (h : Heap) (a : Addr) (l : List Str) : Prop := ∃ ks, TxtSet w h a ks ∧ (∀ z, z ∈ ks ↔ z ∈ l) ∧ ks.length ≤ l.length
section
variable {P : Program} {w : World} {A : Around} {E : Value → Shared → Prop} {s : Shared}
theorem txt_fresh {h : Heap} {a : Addr} (ho : h.get? a = some { cls := .type "set", dict := none, data := .set #[] 0 (.fresh 0 0 (!w.params.followText "set-order")) }) : TxtSet w h a [] := by
  refine ⟨_, #[], 0, _, ho, ⟨rfl, rfl, rfl⟩, rfl, fun e he => by simp at he, .nil, List.nodup_nil, by decide, rfl, List.Pairwise.nil, ?_⟩
  show _ ∨ (!w.params.followText "set-order") = true
  cases w.params.followText "set-order" <;> simp
/-- the items of a walk are put in, from the i-th on -/
theorem txt_fill {I S : Addr} {fp wr : List Addr} {G : Array GenState → Array GenState → Prop} {n : Nat} {Pv : Nat → Value → Prop} {St : Nat → Shared → Prop} {R : Result → Shared → Prop} (W : WalksS P w A.in1 I fp wr G n Pv St) (far : S ∉ fp) (l : List Str) (hn : n = l.length) (few : l.length + 1 < scanBound)
    (val : ∀ i v, Pv i v → ∃ x t, l[i]? = some x ∧ v = .str x t) : ∀ (k i : Nat) (s : Shared), n - i = k → i ≤ n → St i s → TxtAll w s.heap S (l.take i) →
      (∀ s', Moved (S :: wr) G s s' → TxtAll w s'.heap S l → R (.ok (.ret .none)) s') → codeAny (model P w) A (.builtin "set.update.loop" ⟨[.ref S, .ref I], []⟩) R s := by
  have nw : S ∉ wr := fun h => far (W.sub _ h)
  have up : ∀ b ∈ wr, b ∈ S :: wr := fun b hb => List.mem_cons_of_mem _ hb
  intro k
  induction k with
  | zero =>
    intro i s hk hi st ⟨ks, R0, mem, le⟩ fin
    obtain rfl : i = n := by omega
    refine codeAny_builtin F.entry_set_update_loop ?_
    rw [Around.under_plainId F.plain_set_update_loop _]
    show wpAny _ A.in1 (pyNext (.ref I) >>= _) _ _ s
    refine wpAny_bind (W.done s _ _ st fun s' hm => ?_)
    show wpAny _ A.in1 (ret Value.none) _ _ s'
    rw [List.take_of_length_le (by omega)] at mem le
    exact wpAny_pure (fin s' (hm.mono up) ⟨ks, R0.at fun o e => hm.heap S o nw e, mem, le⟩)
  | succ k ih =>
    intro i s hk hi st ⟨ks, R0, mem, le⟩ fin
    have lt : i < n := by omega
    refine codeAny_builtin F.entry_set_update_loop ?_
    rw [Around.under_plainId F.plain_set_update_loop _]
    show wpAny _ A.in1 (pyNext (.ref I) >>= _) _ _ s
    refine wpAny_bind (W.item i s _ _ lt st fun v s' hP st' hm => ?_)
    obtain ⟨x, t, hx, rfl⟩ := val i v hP
    have R1 : TxtSet w s'.heap S ks := R0.at fun o e => hm.heap S o nw e
    show wpAny _ A.in1 (holding [Value.str x t] (setAdd S (.str x t)) >>= _) _ _ s'
    refine wpAny_bind (wpAny_holding ?_)
    unfold setAdd
    refine wpAny_holding (wpAny_bind ((PySem.strKind P w).pyHash (k := x) (by show Value.isStrOf x (.str x t) = true; simp [Value.isStrOf]) ?_))
    have le2 : ks.length ≤ i := by rw [List.length_take] at le; omega
    refine txt_add (s := { s' with toks := s'.toks + 1 }) R1 (by omega) fun b h2 sb R2 => ?_
    have all : TxtAll w h2 S (l.take (i + 1)) := by
      refine ⟨_, R2, fun z => ?_, ?_⟩
      · rw [List.take_add_one, hx, List.mem_append, ← mem z]
        split
        · rename_i hxk
          exact ⟨.inl, fun q => q.elim id fun q => by rw [List.mem_singleton.mp (show z ∈ [x] from q)]; exact hxk⟩
        · show z ∈ x :: ks ↔ z ∈ ks ∨ z ∈ [x]
          rw [List.mem_cons, List.mem_singleton]
          exact Or.comm
      · rw [List.length_take]
        split <;> (try simp only [List.length_cons]) <;> omega
    refine wpAny_pure ⟨plainId_quiet F.plain_set_update_loop _, ih (i + 1) _ (by omega) lt (W.frame _ s' _ _ st' (Nat.le_succ _) fun b hb o e => ?_) all fun s'' hm2 hS => fin s'' (Moved.trans W.gtrans ((hm.mono up).then_heap (Nat.le_succ _) fun b o hb e => ?_) hm2) hS⟩
    · rw [sb.2 b (fun z => far (by rw [← z]; exact hb))]; exact e
    · rw [sb.2 b (fun z => hb (by rw [z]; exact List.mem_cons_self))]; exact e
theorem strs_at : ∀ {us : List Value} {xs : List Str} {i : Nat} {v : Value}, StrsAre us xs → us[i]? = some v → ∃ x t, xs[i]? = some x ∧ v = .str x t
  | _, _, _, _, .nil, e => by simp at e
  | _, _, 0, _, .cons x t r, e => by simp at e; exact ⟨x, t, rfl, e.symm⟩
  | _, _, i + 1, _, .cons x t r, e => by
    obtain ⟨y, k, h1, h2⟩ := strs_at (i := i) r (by simpa using e)
    exact ⟨y, k, by simpa using h1, h2⟩

theorem txt_set_tuple {l : Addr} {items : Array Value} (xs : List Str) {Q : Value → Shared → Prop} (hh : A.handled = none) (hl : s.heap.IsTuple l items) (hit : StrsAre items.toList xs) (few : xs.length + 1 < scanBound)
    (fin : ∀ (h2 : Heap) (tk : Nat), TxtAll w h2 s.heap.objs.size xs → (∀ b o, s.heap.get? b = some o → h2.get? b = some o) → Q (.ref s.heap.objs.size) { s with heap := h2, toks := tk }) :
    wpAny (model P w) A (call (.type "set") [.ref l]) Q E s := by
  have count : items.size = xs.length := by
    have q := StrsAre.length hit
    rw [Array.length_toList] at q
    exact q
  obtain ⟨c, tl, hmro⟩ := F.called_set.mro
  have f1 := F.called_set.made
  have f2 := F.called_set.sub
  have f3 := F.called_set.notType
  have f4 := F.called_set.canCreate
  have f5 := F.typeCall_set_1 (.ref l)
  let o0 : Obj := { cls := .type "set", dict := none, data := .set #[] 0 (.fresh 0 0 (!w.params.followText "set-order")) }
  refine wpAny_call (codeAny_of_tree ?_)
  show wpAny _ _ (callAny (.type "set") _) _ _ _
  refine wpAny_pure ⟨Code.quiet_builtin _ (by decide +kernel), codeAny_builtin F.entry_type_call ?_⟩
  rw [Around.under_plain (weight_type_call_type "set" [.ref l] []) rfl]
  repeat (any_goals (first | assumption | wp_step))
  refine codeAny_mono (code_set_led1 (.ref l) (E := E) (Q₁ := fun obj s1 => obj = .ref s.heap.objs.size ∧ s1 = { s with heap := s.heap.push o0 }) ⟨rfl, rfl⟩) fun r s1 hr => ?_
  cases r with
  | error e => exact hr
  | ok fl =>
    cases fl with
    | ret obj =>
      obtain ⟨rfl, rfl⟩ := hr
      have at0 : (s.heap.push o0).get? s.heap.objs.size = some o0 := Heap.get?_push_size _ rfl
      have ty0 : Shared.TypeIs { s with heap := s.heap.push o0 } (.ref s.heap.objs.size) "set" := ⟨_, at0, rfl⟩
      have f6 := F.called_set.init.lookup
      have f7 := F.called_set.init.bind (.ref s.heap.objs.size)
      repeat (any_goals (first | assumption | wp_step))
      refine codeAny_mono (codeAny_call_builtin (R := wants (fun r s2 => r = .none ∧ ∃ h2 tk, s2 = { s with heap := h2, toks := tk } ∧ TxtAll w h2 s.heap.objs.size xs ∧ (∀ b o, s.heap.get? b = some o → h2.get? b = some o)) E) F.called_set.init.plain F.entry_set_init (check_set_init_1 ty0 ?_)) fun r2 s2 hr2 => ?_
      · obtain ⟨ol, hol, hcl, nl, hdl⟩ := hl
        obtain ⟨oc, od, oda, osl⟩ := ol
        dsimp only at hcl hdl
        subst hcl
        subst hdl
        have at_l : (s.heap.push o0).get? l = some { cls := .type "tuple", dict := od, data := .seq items nl, slots := osl } := Heap.get?_push_of_some _ hol
        have g1 := F.sub_tuple_set
        have g2 := F.sub_tuple_frozenset
        have g3 : (Value.type "tuple" == Value.type "dict") = false := by decide
        have seq1 : (s.heap.push o0).IsTuple l items := ⟨_, at_l, rfl, nl, rfl⟩
        unfold Builtin.«set.__init__» noKeywords Builtin.Frozenset.updateFrom
        generalize hPI : pyIter = PI
        wp_walk
        subst hPI
        refine wpAny_pyIter_tuple seq1 (wpAny_bind (wpAny_runValue ?_))
        have lt : l < s.heap.objs.size := Heap.lt_size hol
        have calm3 : A.in1.in1.in1.handled = none := by simp [hh]
        have apart : l ≠ (s.heap.push o0).objs.size := by rw [Heap.size_push]; exact Nat.ne_of_lt (Nat.lt_succ_of_lt lt)
        have far : s.heap.objs.size ∉ [(s.heap.push o0).objs.size, l] := by
          rw [Heap.size_push]
          simp only [List.mem_cons, List.mem_singleton, List.not_mem_nil, or_false, not_or]
          exact ⟨Nat.ne_of_lt (Nat.lt_succ_self _), Nat.ne_of_gt lt⟩
        have val : ∀ (i : Nat) (v : Value), items[i]? = some v → ∃ x t, xs[i]? = some x ∧ v = .str x t := fun i v hv => strs_at hit (by rw [Array.getElem?_toList]; exact hv)
        refine txt_fill ((Walks.tuple calm3 _ l apart items).toS) far xs count few val (items.size - 0) 0 _ (by omega) (Nat.zero_le _) ⟨⟨_, Heap.get?_push_size _ rfl, rfl, rfl⟩, seq1.push _⟩
          ⟨[], txt_fresh (Heap.get?_push_of_some _ at0), fun z => by simp, Nat.zero_le _⟩ fun s' hm all => ?_
        obtain ⟨h2, g2', d', tk', os'⟩ := s'
        obtain rfl : g2' = s.gens := hm.gens
        obtain rfl : d' = s.drawn := hm.drawn
        obtain rfl : os' = s.os := hm.os
        show wpAny _ _ _ _ _ _
        refine wpAny_pure ?_
        show wpAny _ _ (ret Value.none) _ _ _
        refine wpAny_pure ⟨rfl, h2, tk', rfl, all, fun b o e => ?_⟩
        have b0 : b < s.heap.objs.size := Heap.lt_size e
        refine hm.heap b o ?_ (Heap.get?_push_of_some _ (Heap.get?_push_of_some _ e))
        rw [Heap.size_push]
        simp only [List.mem_cons, List.mem_singleton, List.not_mem_nil, or_false, not_or]
        exact ⟨Nat.ne_of_lt b0, Nat.ne_of_lt (Nat.lt_succ_of_lt b0)⟩
      · cases r2 with
        | error e => exact hr2
        | ok fl2 =>
          cases fl2 with
          | ret r =>
            obtain ⟨rfl, h2, tk, rfl, all, keep⟩ := hr2
            repeat (any_goals (first | assumption | wp_step))
            exact fin _ _ all keep
          | _ => exact hr2.elim
    | _ => exact hr.elim

theorem txt_set_list {l : Addr} {items : Array Value} (xs : List Str) {Q : Value → Shared → Prop} (hh : A.handled = none) (hl : s.heap.IsList l items) (hit : StrsAre items.toList xs) (few : xs.length + 1 < scanBound)
    (fin : ∀ (h2 : Heap) (tk : Nat), TxtAll w h2 s.heap.objs.size xs → (∀ b o, s.heap.get? b = some o → h2.get? b = some o) → Q (.ref s.heap.objs.size) { s with heap := h2, toks := tk }) :
    wpAny (model P w) A (call (.type "set") [.ref l]) Q E s := by
  have count : items.size = xs.length := by
    have q := StrsAre.length hit
    rw [Array.length_toList] at q
    exact q
  obtain ⟨c, tl, hmro⟩ := F.called_set.mro
  have f1 := F.called_set.made
  have f2 := F.called_set.sub
  have f3 := F.called_set.notType
  have f4 := F.called_set.canCreate
  have f5 := F.typeCall_set_1 (.ref l)
  let o0 : Obj := { cls := .type "set", dict := none, data := .set #[] 0 (.fresh 0 0 (!w.params.followText "set-order")) }
  refine wpAny_call (codeAny_of_tree ?_)
  show wpAny _ _ (callAny (.type "set") _) _ _ _
  refine wpAny_pure ⟨Code.quiet_builtin _ (by decide +kernel), codeAny_builtin F.entry_type_call ?_⟩
  rw [Around.under_plain (weight_type_call_type "set" [.ref l] []) rfl]
  repeat (any_goals (first | assumption | wp_step))
  refine codeAny_mono (code_set_led1 (.ref l) (E := E) (Q₁ := fun obj s1 => obj = .ref s.heap.objs.size ∧ s1 = { s with heap := s.heap.push o0 }) ⟨rfl, rfl⟩) fun r s1 hr => ?_
  cases r with
  | error e => exact hr
  | ok fl =>
    cases fl with
    | ret obj =>
      obtain ⟨rfl, rfl⟩ := hr
      have at0 : (s.heap.push o0).get? s.heap.objs.size = some o0 := Heap.get?_push_size _ rfl
      have ty0 : Shared.TypeIs { s with heap := s.heap.push o0 } (.ref s.heap.objs.size) "set" := ⟨_, at0, rfl⟩
      have f6 := F.called_set.init.lookup
      have f7 := F.called_set.init.bind (.ref s.heap.objs.size)
      repeat (any_goals (first | assumption | wp_step))
      refine codeAny_mono (codeAny_call_builtin (R := wants (fun r s2 => r = .none ∧ ∃ h2 tk, s2 = { s with heap := h2, toks := tk } ∧ TxtAll w h2 s.heap.objs.size xs ∧ (∀ b o, s.heap.get? b = some o → h2.get? b = some o)) E) F.called_set.init.plain F.entry_set_init (check_set_init_1 ty0 ?_)) fun r2 s2 hr2 => ?_
      · obtain ⟨ol, hol, hcl, nl, hdl⟩ := hl
        obtain ⟨oc, od, oda, osl⟩ := ol
        dsimp only at hcl hdl
        subst hcl
        subst hdl
        have at_l : (s.heap.push o0).get? l = some { cls := .type "list", dict := od, data := .seq items nl, slots := osl } := Heap.get?_push_of_some _ hol
        have g1 := F.sub_list_set
        have g2 := F.sub_list_frozenset
        have g3 : (Value.type "list" == Value.type "dict") = false := by decide
        have seq1 : (s.heap.push o0).IsList l items := ⟨_, at_l, rfl, nl, rfl⟩
        unfold Builtin.«set.__init__» noKeywords Builtin.Frozenset.updateFrom
        generalize hPI : pyIter = PI
        wp_walk
        subst hPI
        refine wpAny_pyIter_list seq1 (wpAny_bind (wpAny_runValue ?_))
        have lt : l < s.heap.objs.size := Heap.lt_size hol
        have calm3 : A.in1.in1.in1.handled = none := by simp [hh]
        have apart : l ≠ (s.heap.push o0).objs.size := by rw [Heap.size_push]; exact Nat.ne_of_lt (Nat.lt_succ_of_lt lt)
        have far : s.heap.objs.size ∉ [(s.heap.push o0).objs.size, l] := by
          rw [Heap.size_push]
          simp only [List.mem_cons, List.mem_singleton, List.not_mem_nil, or_false, not_or]
          exact ⟨Nat.ne_of_lt (Nat.lt_succ_self _), Nat.ne_of_gt lt⟩
        have val : ∀ (i : Nat) (v : Value), items[i]? = some v → ∃ x t, xs[i]? = some x ∧ v = .str x t := fun i v hv => strs_at hit (by rw [Array.getElem?_toList]; exact hv)
        refine txt_fill ((Walks.list calm3 _ l apart items).toS) far xs count few val (items.size - 0) 0 _ (by omega) (Nat.zero_le _) ⟨⟨_, Heap.get?_push_size _ rfl, rfl, rfl⟩, seq1.push _⟩
          ⟨[], txt_fresh (Heap.get?_push_of_some _ at0), fun z => by simp, Nat.zero_le _⟩ fun s' hm all => ?_
        obtain ⟨h2, g2', d', tk', os'⟩ := s'
        obtain rfl : g2' = s.gens := hm.gens
        obtain rfl : d' = s.drawn := hm.drawn
        obtain rfl : os' = s.os := hm.os
        show wpAny _ _ _ _ _ _
        refine wpAny_pure ?_
        show wpAny _ _ (ret Value.none) _ _ _
        refine wpAny_pure ⟨rfl, h2, tk', rfl, all, fun b o e => ?_⟩
        have b0 : b < s.heap.objs.size := Heap.lt_size e
        refine hm.heap b o ?_ (Heap.get?_push_of_some _ (Heap.get?_push_of_some _ e))
        rw [Heap.size_push]
        simp only [List.mem_cons, List.mem_singleton, List.not_mem_nil, or_false, not_or]
        exact ⟨Nat.ne_of_lt b0, Nat.ne_of_lt (Nat.lt_succ_of_lt b0)⟩
      · cases r2 with
        | error e => exact hr2
        | ok fl2 =>
          cases fl2 with
          | ret r =>
            obtain ⟨rfl, h2, tk, rfl, all, keep⟩ := hr2
            repeat (any_goals (first | assumption | wp_step))
            exact fin _ _ all keep
          | _ => exact hr2.elim
    | _ => exact hr.elim
end
end Dv

/-! Rg: whether a number is in range(n); what is never reached. -/
namespace Dv
open PySem PySem.Spec PyProof.Rows L2
section
variable {X : Cx} {G : Gx X.K} {W : WX} {a b : Expr} {ma mb : M} {pos p cpos : Pos}
def sNone : MS := fun _ _ => none
theorem ds_never {st : Stmt} : PS X st (tSt G W sNone) := ⟨fun pins s σ H D I h => by
  obtain ⟨ua, u, B, env, fl, u', B0, H0, hg, hO, hE, hW, hm, q⟩ := h
  cases hm⟩
theorem cr_range1 : CallR X (.type "range") (fun vs H Q => ∃ j, vs = [V.int j] ∧ ∀ p, H p = none → Q (.ref p) (upd H p (.rng 0 j))) := by
  intro pins s σ H vs us Q I r h
  obtain ⟨j, rfl, q⟩ := h
  obtain ⟨u, rfl, rj⟩ := vals1 r
  obtain ⟨t, rfl⟩ := rj
  refine call_range_1 ⟨.ref s.heap.objs.size, upd H s.heap.objs.size (.rng 0 j), I.laid (t' := s.toks + 2) (fun b o e => Heap.get?_push_of_some _ e) (Nat.le_refl _) ?_, rfl, q _ (I.hok.fresh (Nat.le_refl _))⟩
  exact ⟨_, t, _, Heap.get?_push_size _ rfl⟩
theorem op_notin_rng : OpR X (compareOp .NotIn) (fun x y H Q => ∃ i a lo hi, x = V.int i ∧ y = V.ref a ∧ H a = some (.rng lo hi) ∧ Q (.bl (!decide (lo ≤ i ∧ i < hi))) H) := by
  intro pins s σ H x y v u Q I rx ry h
  obtain ⟨i, a, lo, hi, rfl, rfl, ha, q⟩ := h
  obtain ⟨k, rfl⟩ := rx
  cases ry
  obtain ⟨t1, t2, t3, ho⟩ := I.hok a _ ha
  show wpAny _ _ (do return Value.bool (!(← contains (Value.ref a) (Value.int i k)))) _ _ s
  refine wpAny_bind (wpAny_contains_slot (T := "range") ⟨_, ho, rfl⟩ F.slot_range_contains (call_meets F.slot_range_contains ⟨_, ho, rfl⟩ F.entry_range_contains (F.args_range_contains_2 _ _) (q_contains a lo hi i t1 t2 t3 k)
    ⟨ho, wpAny_truthy_bool (wpAny_pure ⟨.bl _, H, I, rfl, ?_⟩)⟩))
  rw [place1]
  exact q
def rngN (n : Bool) : D → D → Option D
  | .int i, .int j => some (.bl (if n then !decide (0 ≤ i ∧ i < j) else decide (0 ≤ i ∧ i < j)))
  | _, _ => none
theorem dv_notinR (hg : Gl X "range") (hm : X.mg "range" = none) (hv : bootBuiltins "range" = some (.type "range")) (ha : PE X a (tEv G ma)) (hb : PE X b (tEv G mb)) (hmk : behindInMarks .NotIn (.Call (.Name "range" p) [b] [] cpos) = false := by rfl)
    (he : starEach [b] X.env = (false, eval b X.env) :: starEach [] X.env := by rfl) (hpl : (backTo cpos (starEach [] X.env)).any (·.1) = false := by rfl) :
    PE X (.Compare a [.NotIn] [.Call (.Name "range" p) [b] [] cpos] pos) (tEv G (mBin (rngN true) ma mb)) := by
  refine (pe_cmpR op_notin_rng ha (pe_callTy cr_range1 hg hm hv (pa_cons hb pa_nil he) (by decide) (by decide) he hpl) hmk).imp fun σ H Q h => ?_
  obtain ⟨ua, u, B, env, d, u', hE, hW, hm, q⟩ := h
  obtain ⟨x, u1, h1, h2⟩ := bnd_some hm
  obtain ⟨y, u2, h3, h4⟩ := bnd_some h2
  obtain ⟨l4, rfl⟩ := lft_some h4
  unfold rngN at l4
  split at l4
  · cases l4
    refine ⟨ua, u, B, env, _, u1, hE, hW, h1, fun v H1 ⟨B1, g1, w1, r1⟩ => ⟨ua, u1, B1, env, _, u', hE.grow g1, w1, h3, fun v2 H2 ⟨B2, g2, w2, r2⟩ => ?_⟩⟩
    cases r1.int
    cases r2.int
    refine ⟨_, rfl, fun t ht => ⟨_, t, 0, _, rfl, rfl, upd_same, q _ _ ⟨B2, (g1.trans g2).trans (.own1 w2 ht), w2.own1 ht, rep_bl⟩⟩⟩
  · cases l4
end
section
variable {X : Cx} {G : Gx X.K} {W : WX} {a b : Expr} {ma mb : M} {pos p cpos : Pos}
def BoolU (f : D → D → U → Option (D × U)) : Prop := ∀ x y u d u', f x y u = some (d, u') → ∃ k, d = .bl k
theorem blO_bool {r : Option (D × U)} {n : Bool} {d : D} {u : U} (h : blO r n = some (d, u)) : ∃ k, d = .bl k := by
  obtain ⟨k, _, rfl⟩ := blO_some h
  exact ⟨_, rfl⟩
theorem lft_bool {f : D → D → Option D} (bf : BoolF f) {x y d : D} {u u' : U} (h : lft (f x y) u = some (d, u')) : ∃ k, d = .bl k := bf _ _ _ (lft_some h).1
theorem bu_in {c : Str} {F : List D → U → Option (D × U)} {f : D → D → Option D} {n : Bool} (bf : BoolF f) : BoolU (inO c F f n) := fun x y u d u' h => by
  unfold inO at h
  split at h
  · split at h
    · exact blO_bool h
    · cases h
  · exact lft_bool bf h
theorem bu_eqO {c : Str} {F : List D → U → Option (D × U)} {f : D → D → Option D} (bf : BoolF f) : BoolU (eqO c F f) := fun x y u d u' h => by
  unfold eqO at h
  split at h
  · split at h
    · exact blO_bool h
    · cases h
  · split at h
    · cases h
    · exact lft_bool bf h
theorem bu_eq {c : Str} {F : List D → U → Option (D × U)} {f : D → D → Option D} (bf : BoolF f) : BoolU (eqL c F f) := fun x y u d u' h => by
  unfold eqL at h
  split at h
  · split at h
    · exact blO_bool h
    · cases h
  · exact bu_eqO bf _ _ _ _ _ h
theorem bu_ne {c : Str} {F : List D → U → Option (D × U)} {f : D → D → Option D} (bf : BoolF f) : BoolU (neO c F f) := fun x y u d u' h => by
  unfold neO at h
  split at h
  · split at h
    · exact blO_bool h
    · cases h
  · split at h
    · cases h
    · exact lft_bool bf h
theorem dt_cmpU {op : CmpOp} {f : D → D → U → Option (D × U)} (hf : BinUOk G (compareOp op) f) (bf : BoolU f) (ha : PE X a (tEv G ma)) (hb : PE X b (tEv G mb)) (hm : behindInMarks op b = false := by rfl) : PT X (.Compare a [op] [b] pos) (tTst G (mTru (mBinU f ma mb))) := by
  refine (pt_cmpR (opU_of hf) ha hb hm).imp fun σ H Q h => ?_
  obtain ⟨ua, u, B, env, d, u', hE, hW, hm, q⟩ := h
  obtain ⟨x, u1, h1, h2⟩ := bnd_some hm
  obtain ⟨l2, rfl⟩ := lft_some h2
  obtain ⟨k, rfl⟩ : ∃ k, x = .bl k := by
    obtain ⟨x1, u3, h3, h4⟩ := bnd_some h1
    obtain ⟨x2, u4, h4, h5⟩ := bnd_some h4
    exact bf _ _ _ _ _ h5
  unfold truD at l2; cases l2
  refine binU_read ⟨ua, u, B, env, _, u', hE, hW, h1, fun v H1 ⟨B1, g1, w1, r1⟩ => ?_⟩
  cases r1.bl
  exact ⟨_, rfl, q _ ⟨B1, g1, w1⟩⟩
theorem dt_notinR (hg : Gl X "range") (hm : X.mg "range" = none) (hv : bootBuiltins "range" = some (.type "range")) (ha : PE X a (tEv G ma)) (hb : PE X b (tEv G mb)) (hmk : behindInMarks .NotIn (.Call (.Name "range" p) [b] [] cpos) = false := by rfl)
    (he : starEach [b] X.env = (false, eval b X.env) :: starEach [] X.env := by rfl) (hpl : (backTo cpos (starEach [] X.env)).any (·.1) = false := by rfl) :
    PT X (.Compare a [.NotIn] [.Call (.Name "range" p) [b] [] cpos] pos) (tTst G (mTru (mBin (rngN true) ma mb))) := by
  refine (pt_cmpR op_notin_rng ha (pe_callTy cr_range1 hg hm hv (pa_cons hb pa_nil he) (by decide) (by decide) he hpl) hmk).imp fun σ H Q h => ?_
  obtain ⟨ua, u, B, env, d, u', hE, hW, hm, q⟩ := h
  obtain ⟨z, u0, h0, h5⟩ := bnd_some hm
  obtain ⟨l2, rfl⟩ := lft_some h5
  obtain ⟨x, u1, h1, h2⟩ := bnd_some h0
  obtain ⟨y, u2, h3, h4⟩ := bnd_some h2
  obtain ⟨l4, rfl⟩ := lft_some h4
  unfold rngN at l4
  split at l4
  · cases l4
    unfold truD at l2
    cases l2
    refine ⟨ua, u, B, env, _, u1, hE, hW, h1, fun v H1 ⟨B1, g1, w1, r1⟩ => ⟨ua, u1, B1, env, _, _, hE.grow g1, w1, h3, fun v2 H2 ⟨B2, g2, w2, r2⟩ => ?_⟩⟩
    cases r1.int
    cases r2.int
    exact ⟨_, rfl, fun t ht => ⟨_, t, 0, _, rfl, rfl, upd_same, _, rfl, q _ ⟨B2, (g1.trans g2).trans (.own1 w2 ht), w2.own1 ht⟩⟩⟩
  · cases l4
end
section
variable {X : Cx} {G : Gx X.K} {W : WX} {pos p : Pos}
/-- C(), by the defaults -/
theorem dv_make0 {x : Str} {k : Nat} {F : List D → U → Option (D × U)} (D0 : MakeOk X.prog X.w X.mg X.base G x k 0 F) (hr : Room (k + 1) X.A) (hg : Gl X x) (hdb : (x == ("__debug__" : Str)) = false := by decide) :
    PE X (.Call (.Name x p) [] [] pos) (tEv G (mCall 0 F mNil)) := by
  obtain ⟨C, f, fd, ps, sp, dds, dvs, hM, hf, hm, hb, hd, hsp⟩ := D0
  refine (pe_make0 hM hf hr hg hm hb hd pass0 hdb).imp fun σ H Q h => ?_
  obtain ⟨ua, u, B, env, d, u', hE, hW, hm, q⟩ := h
  obtain ⟨ds, u1, h1, h2⟩ := bnd_some hm
  cases h1
  have h2 : F [] u = some (d, u') := h2
  exact fun y dx hy hdx hne => hsp ua u u' B H [] [] d rfl h2 .nil hW y dx hy hdx hne Q fun H' a => q _ _ a
end
end Dv

/-! En: enumerate of a tuple. -/
namespace PySem
open Builtin
theorem enumT_new (t : Addr) (o : Obj) (items : Array Value) (n : Nat) :
    Meets (Builtin.«enumerate.__new__» ⟨[.type "enumerate", .ref t], []⟩) (fun _ R s => (s.heap.get? t = some o ∧ o.cls = .type "tuple" ∧ o.data = .seq items n) ∧
      R (.ok (.ret (.ref (s.heap.objs.size + 1)))) { s with heap := (s.heap.push { cls := .type "tuple_iterator", data := .fields #[.ref t, .int 0 0] }).push { cls := .type "enumerate", data := .fields #[.none, .bool false, .ref s.heap.objs.size, rawInt 0, .none, .none] } }) :=
  .of_wp fun prog w A R s h => by
    obtain ⟨hh, g, d, tk, os⟩ := s
    obtain ⟨⟨hl, hc, hd⟩, q⟩ := h
    have sb := sub_enumerate
    have ht : Heap.IsTuple (Shared.heap ⟨hh, g, d, tk, os⟩) t items := ⟨_, hl, hc, n, hd⟩
    obtain ⟨oc, od, odt, osl⟩ := o
    dsimp only at hc hd
    subst hc
    subst hd
    have e : (hh.push { cls := .type "tuple_iterator", data := .fields #[.ref t, .int 0 0] }).objs.size = hh.objs.size + 1 := Heap.size_push ..
    wp_walk using wpAny_loadPart' hl
    refine wpAny_stack_any fun st => wpAny_pure ?_
    have fin : R (.ok (.ret (.ref (hh.push { cls := .type "tuple_iterator", data := .fields #[.ref t, .int 0 0] }).objs.size))) ⟨(hh.push { cls := .type "tuple_iterator", data := .fields #[.ref t, .int 0 0] }).push { cls := .type "enumerate", data := .fields #[.none, .bool false, .ref hh.objs.size, rawInt 0, .none, .none] }, g, d, tk, os⟩ := by rw [e]; exact q
    split
    · rename_i c _ _ _ _ _
      cases (c == Value.type "enumerate") <;> (wp_walk using wpAny_loadPart' hl, wpAny_pyIter_tuple ht; exact ⟨_, rfl, fin⟩)
    · wp_walk using wpAny_loadPart' hl, wpAny_pyIter_tuple ht
      exact ⟨_, rfl, fin⟩
end PySem
namespace PySem
open Builtin
section
variable {prog : Program} {w : World} {A : Around} {E : Value → Shared → Prop} {s : Shared}
theorem call_enumT {t : Addr} {items : Array Value} {Q : Value → Shared → Prop} (ht : s.heap.IsTuple t items)
    (h : ∀ h', IsEnum h' (s.heap.objs.size + 1) s.heap.objs.size 0 .none → h'.IsTupleIter s.heap.objs.size t 0 → (∀ b o, s.heap.get? b = some o → h'.get? b = some o) → Q (.ref (s.heap.objs.size + 1)) { s with heap := h' }) :
    wpAny (model prog w) A (call (.type "enumerate") [.ref t]) Q E s := by
  obtain ⟨o, hl, hc, n, hd⟩ := ht
  refine callType_new F.called_enumerate (by decide) (F.typeCall_enumerate_1 _) (F.newCall_enumerate_1 _) (fun obj => F.args_object_init_2 obj _) F.entry_enumerate_new (enumT_new t o items n) ⟨⟨hl, hc, hd⟩, ?_⟩
  have e : (s.heap.push { cls := .type "tuple_iterator", data := .fields #[.ref t, .int 0 0] }).objs.size = s.heap.objs.size + 1 := Heap.size_push ..
  have g1 : IsEnum ((s.heap.push { cls := .type "tuple_iterator", data := .fields #[.ref t, .int 0 0] }).push { cls := .type "enumerate", data := .fields #[.none, .bool false, .ref s.heap.objs.size, rawInt 0, .none, .none] }) (s.heap.objs.size + 1) s.heap.objs.size 0 .none := by
    have := Heap.get?_push_size (s.heap.push { cls := .type "tuple_iterator", data := .fields #[.ref t, .int 0 0] }) (o := { cls := .type "enumerate", data := .fields #[.none, .bool false, .ref s.heap.objs.size, rawInt 0, .none, .none] }) rfl
    rw [e] at this
    exact this
  exact ⟨⟨_, g1, rfl⟩, h _ g1 ⟨_, Heap.get?_push_of_some _ (Heap.get?_push_size _ rfl), rfl, rfl⟩ fun b o x => Heap.get?_push_of_some _ (Heap.get?_push_of_some _ x)⟩
end
end PySem
namespace Dv
open PySem PySem.Spec PyProof.Rows L2
/-- the tuple at a, each item in a new pair -/
def IteT (a : Addr) : It :=
  ⟨fun i H => ∃ (xs : List V) (x : V), TupB H a xs ∧ xs[i]? = some x, fun i H v H' => ∃ T x, v = .ref T ∧ H T = none ∧ H' = upd H T (.tup [.int (i : Nat), x]) ∧ ∀ xs, TupB H a xs → xs[i]? = some x, fun i H => ∃ xs : List V, TupB H a xs ∧ xs.length ≤ i⟩
theorem TupB.inj {H : Hp} {a : Addr} {xs ys : List V} (h : TupB H a xs) (h' : TupB H a ys) : xs = ys := by
  obtain ⟨o, _, e⟩ := h
  obtain ⟨o', _, e'⟩ := h'
  rw [e] at e'
  cases e'
  rfl
theorem TupB.some_ {H : Hp} {a : Addr} {xs : List V} (h : TupB H a xs) : ∃ u, H a = some u := ⟨_, h.choose_spec.2⟩
theorem Draws.ended {prog : Program} {w : World} {A : Around} (hh : A.handled = none) (it t : Addr) (items : Array Value) (i : Nat) (hx : items[i]? = none) :
    Draws prog w A it [it, t] i (fun _ _ => False) (fun j h => j = i ∧ h.IsTupleIter it t i ∧ h.IsTuple t items) where
  live := fun _ _ st => let ⟨o, ho, _⟩ := st.2.1; ⟨o, ho⟩
  frame := fun _ _ _ st hk => ⟨st.1, st.2.1.at fun o e => hk it (by simp) o e, st.2.2.at fun o e => hk t (by simp) o e⟩
  item := fun j s Q E hj st hQ => absurd hj (by rw [st.1]; exact Nat.lt_irrefl _)
  done := fun s Q E st hE => wpAny_nextOf_tuple_end hh st.2.1 st.2.2 hx hE
theorem turn_enumT {P : Program} {w : World} {K : PySem.W.Frag} {elts : List Expr} {kk : Nat} {tpos : Pos} (a e it : Addr) :
    Turn P w K (.Tuple elts kk tpos) (IteT a) [e, it] e (fun i h => (∃ old, IsEnum h e it ((i : Nat) : Int) old) ∧ h.IsTupleIter it a i ∧ e ≠ it) where
  mem := List.mem_cons_self
  obj := fun i h ⟨⟨old, he⟩, ⟨o, ho, hc, hd⟩, _⟩ b hb => by
    rcases (show b = e ∨ b = it by simpa using hb) with rfl | rfl
    · exact ⟨_, he, fun v q => nomatch q⟩
    · exact ⟨o, ho, fun v q => by rw [hd] at q; cases q⟩
  keep := fun i h h' ⟨⟨old, he⟩, hi, hne⟩ k => ⟨⟨old, k e (by simp) _ he⟩, hi.at fun o q => k it (by simp) o q, hne⟩
  item := by
    intro X hP hw hK hc i pins s σ H E I hf ⟨⟨old, he⟩, hit, hne⟩ ⟨xs, x, hq, hx⟩
    subst hP hw hK
    obtain ⟨its, rv, p, hz⟩ := I.tuple (hq.sq (K := X.K))
    obtain ⟨u, hu, ru⟩ := rv.get hx
    obtain ⟨ob, hob⟩ := hq.some_
    have hel : e < s.heap.objs.size := Heap.lt_size he
    have hil : it < s.heap.objs.size := by obtain ⟨_, q, _⟩ := hit; exact Heap.lt_size q
    have nof : ∀ b ∈ [e, it], a ≠ b := fun b hb z => by
      have q := (hf b hb).1
      rw [← z, hob] at q
      cases q
    have hai : a ≠ it := nof it (by simp)
    have hae : e ≠ a := fun z => nof e (by simp) z.symm
    have hlt : i < its.toArray.size := by
      have := (List.getElem?_eq_some_iff.mp hu).1
      rw [List.size_toArray]; exact this
    refine wpAny_pyNext_enum_itemD (Draws.tuple (A := X.A.in1) (I.ok.hd hc) it a hai its.toArray) he ⟨hit, p⟩ hlt hne (by simp [hne, hae]) fun v h' tk hv ho hst hT hsz hk => ?_
    have ev : v = u := by
      have h1 : its.toArray[i]? = some v := hv
      rw [List.getElem?_toArray, hu] at h1
      exact (Option.some.inj h1).symm
    subst ev
    refine ⟨_, rfl, wpAny_letOwnedTupleGo_enum (s := { s with heap := h', toks := tk + 1 }) ho fun h2 he2 sb => ?_⟩
    have hT2 : h2.get? s.heap.objs.size = some { cls := .type "tuple", data := .seq #[.int i tk, v] } := (sb.2 _ (Nat.ne_of_gt hel)).trans hT
    have new : ObjOk X.prog X.w (upd H s.heap.objs.size (.tup [.int (i : Nat), x])) h2 s.heap.objs.size (.tup [.int (i : Nat), x]) :=
      ⟨by show 2 ≤ sizeLine; decide, [.int i tk, v], .cons ⟨_, rfl⟩ (.cons ru .nil), ⟨_, hT2, rfl, _, rfl⟩⟩
    have J : Inv X pins σ (upd H s.heap.objs.size (.tup [.int (i : Nat), x])) { s with heap := h2, toks := tk + 1 } :=
      I.turnedNew (ch := [e, it]) (fun b ob2 hb q => (sb.2 b (fun z => hb (by simp [z]))).trans (hk b ob2 (fun z => hb (by simp [z])) (fun z => hb (by simp [z])) q)) hf (Nat.le_refl _) new
    refine ⟨.ref s.heap.objs.size, _, J, rfl, ⟨_, x, rfl, I.hok.fresh (Nat.le_refl _), rfl, fun ys hy => by rw [hy.inj hq]; exact hx⟩, ⟨⟨v, ?_⟩, hst.1.at fun o q => (sb.2 it (Ne.symm hne)).trans q, hne⟩, fun b hb => ?_⟩
    · rw [show ((i + 1 : Nat) : Int) = (i : Int) + 1 by omega]; exact he2
    · have hb' : b < s.heap.objs.size := by
        rcases (show b = e ∨ b = it by simpa using hb) with z | z <;> rw [z] <;> assumption
      rw [upd_ne (Nat.ne_of_lt hb')]
      exact (hf b hb).1
  done := by
    intro X hP hw hK hc i pins s σ H E I hf ⟨⟨old, he⟩, hit, hne⟩ ⟨xs, hq, hx⟩
    subst hP hw hK
    obtain ⟨its, rv, p, hz⟩ := I.tuple (hq.sq (K := X.K))
    obtain ⟨ob, hob⟩ := hq.some_
    obtain ⟨f0, f1, f2, f3, f4, f5⟩ := hf it (by simp)
    have hai : a ≠ it := fun z => by rw [← z, hob] at f0; cases f0
    have hn : its.toArray[i]? = none := by
      rw [List.getElem?_toArray, List.getElem?_eq_none_iff, ← rv.length]; exact hx
    exact wpAny_pyNext_enum_endD (Draws.ended (A := X.A.in1) (I.ok.hd hc) it a its.toArray i hn) he ⟨rfl, hit, p⟩ fun h' eb => ⟨rfl, I.turned (t' := s.toks) (fun b o hb q => eb b o hb q) f0 f1 f3 f4 f5⟩
  self := fun A i s Q E ⟨⟨_, he⟩, _⟩ h => wpAny_pyIter_enum he h
section
variable {X : Cx} {G : Gx X.K} {ua : Option Addr} {B H : Hp} {ds : List D} {vs : List V}
def iEnumT (ta : TA) : TI := fun σ H R => ta σ H fun vs H1 => ∃ a xs, vs = [.ref a] ∧ TupB H1 a xs ∧ R (IteT a) H1
theorem pi_enumT {e : Expr} {ta : TA} {p pos tpos : Pos} {elts : List Expr} {kk : Nat} (hg : Gl X "enumerate") (hm : X.mg "enumerate" = none) (ha : PA X [e] ta) (hs : starEach [e] X.env = [(false, eval e X.env)] := by rfl) :
    PI X (.Tuple elts kk tpos) (.Call (.Name "enumerate" p) [e] [] pos) (iEnumT ta) := by
  refine ⟨fun pins s σ H R I h => Call_ (ld_blt I hg hm boot_enumerate (PyProof.Rows.callWith_type1 (thn (ha.run pos pins s σ H _ I h) fun us s1 ⟨vs, H1, I1, r1, a, xs, ex, hq, q⟩ => ?_) hs rfl))⟩
  subst ex
  obtain ⟨u, rfl, ru⟩ := vals1 r1
  cases ru
  obtain ⟨its, rv, p', hz⟩ := I1.tuple (hq.sq (K := X.K))
  refine call_enumT p' fun h' he hit hk => wpAny_pyIter_enum he ?_
  refine ⟨s1.heap.objs.size + 1, [s1.heap.objs.size + 1, s1.heap.objs.size], _, _, H1, rfl, I1.kept (t' := s1.toks) hk, turn_enumT a (s1.heap.objs.size + 1) s1.heap.objs.size, ⟨⟨.none, he⟩, hit, Nat.succ_ne_self _⟩, fun b hb => ?_, q⟩
  have hle : s1.heap.objs.size ≤ b := by
    rcases (show b = s1.heap.objs.size + 1 ∨ b = s1.heap.objs.size by simpa using hb) with z | z
    · rw [z]; exact Nat.le_succ _
    · rw [z]; exact Nat.le_refl _
  exact I1.fpOk hle (I1.hok.fresh hle)
theorem wk_enumT {a : Addr} (h : TupB B a vs) (r : Reps G ua ds vs B) : Wk G ua (IteT a) B (enumD 0 ds) := fun i B' H' u s w => by
  have hq : TupB H' a vs := (h.mono s).mono w.sub
  rw [enumD_get]
  refine ⟨fun d hd => ?_, fun hn => ⟨vs, hq, List.getElem?_eq_none_iff.mp (r.none (Option.map_eq_none_iff.mp hn))⟩⟩
  obtain ⟨d', hd', rfl⟩ := map_some hd
  obtain ⟨v, hv, rv⟩ := r.get hd'
  refine ⟨⟨vs, v, hq, hv⟩, fun x H2 y => ?_⟩
  obtain ⟨T, x, rfl, hT, rfl, y⟩ := y
  have := y vs hq
  rw [hv] at this; cases this
  rw [Nat.zero_add]
  exact .pr w hT (.cons rep_int (.cons (rv.mono _ _ s) .nil))
/-- enumerate of a list or a tuple -/
def mEnumA (m : M) : MI := fun env u => bnd (m env u) fun d u1 => match d with
  | .lst ds => some (enumD 0 ds, u1)
  | .tup ds => some (enumD 0 ds, u1)
  | _ => none
theorem di_enumA {a : Expr} {m : M} {p pos tpos : Pos} {elts : List Expr} {kk : Nat} (hg : Gl X "enumerate") (hm : X.mg "enumerate" = none) (ha : PE X a (tEv G m)) (hs : starEach [a] X.env = [(false, eval a X.env)] := by rfl) :
    PI X (.Tuple elts kk tpos) (.Call (.Name "enumerate" p) [a] [] pos) (tIt G (mEnumA m)) := by
  refine PI.by fun σ H R h => ?_
  obtain ⟨ua, u, B, env, ds, u', hE, hW, hm2, q⟩ := h
  obtain ⟨d, u1, h1, h2⟩ := bnd_some hm2
  split at h2
  · cases h2
    refine ⟨_, pi_enum hg hm (pa_cons ha pa_nil hs) hs, ua, u, B, env, _, _, hE, hW, h1, fun v H1 ⟨B1, g1, w1, r1⟩ => ?_⟩
    obtain ⟨a, vs, rfl, h, rs⟩ := r1.lst
    exact ⟨a, vs, rfl, .of (w1.sub _ _ h), q _ _ _ g1 w1 (wk_enum h rs)⟩
  · cases h2
    refine ⟨_, pi_enumT hg hm (pa_cons ha pa_nil hs) hs, ua, u, B, env, _, _, hE, hW, h1, fun v H1 ⟨B1, g1, w1, r1⟩ => ?_⟩
    obtain ⟨a, vs, rfl, h, rs⟩ := r1.tup
    exact ⟨a, vs, rfl, h.mono w1.sub, q _ _ _ g1 w1 (wk_enumT h rs)⟩
  · cases h2
end
end Dv

/-! Er: defs that raise, raise, try over plain data. -/
namespace Dv
open PySem PySem.Spec PyProof.Rows L2
/-- what a def gives -/
inductive R where
  | ok (d : D) | er (c : Str) (ns : List Str) (xs : List D)
abbrev MX := List Sl → U → Option (R × U)
def AftE {K : PySem.W.Frag} (G : Gx K) (ua : Option Addr) (B H : Hp) (u' : U) (c : Str) (ns : List Str) (xs : List D) : Value → Option Addr → Hp → Prop := fun cls d H' => ∃ B', Grow ua B H B' H' ∧ Wd ua u' B' H' ∧ ErR G ua c ns xs cls d B'
theorem AftE.up {K : PySem.W.Frag} {G : Gx K} {ua : Option Addr} {B H B1 H1 H' : Hp} {u' : U} {c : Str} {ns : List Str} {xs : List D} {cls : Value} {d : Option Addr} (g : Grow ua B H B1 H1) (a : AftE G ua B1 H1 u' c ns xs cls d H') : AftE G ua B H u' c ns xs cls d H' := by
  obtain ⟨B', g', w, r⟩ := a
  exact ⟨B', g.trans g', w, r⟩
def OutR {K : PySem.W.Frag} (G : Gx K) (ua : Option Addr) (B H : Hp) (u' : U) (Q : VK) (E : XK) : R → Prop
  | .ok d => ∀ v H', Aft G ua B H u' d v H' → Q v H'
  | .er c ns xs => ∀ cls d H', AftE G ua B H u' c ns xs cls d H' → E cls d H'
theorem OutR.up {K : PySem.W.Frag} {G : Gx K} {ua : Option Addr} {B H B1 H1 : Hp} {u' : U} {Q : VK} {E : XK} {r : R} (g : Grow ua B H B1 H1) (a : OutR G ua B H u' Q E r) : OutR G ua B1 H1 u' Q E r := by
  cases r with
  | ok d => exact fun v H' z => a v H' (.up g z)
  | er c ns xs => exact fun cls d H' z => a cls d H' (.up g z)
theorem OutR.imp {K : PySem.W.Frag} {G : Gx K} {ua : Option Addr} {B H : Hp} {u' : U} {Q Q' : VK} {E E' : XK} {r : R} (a : OutR G ua B H u' Q E r) (q : ∀ v H', Q v H' → Q' v H') (e : ∀ c d H', E c d H' → E' c d H') : OutR G ua B H u' Q' E' r := by
  cases r with
  | ok d => exact fun v H' z => q _ _ (a v H' z)
  | er c ns xs => exact fun cls d H' z => e _ _ _ (a cls d H' z)
def spX {K : PySem.W.Frag} (G : Gx K) (F : List D → U → Option (R × U)) (n : Nat) : Sp := fun vs H Q E => ∃ ua u B ds r u', Reps G ua ds vs B ∧ ds.length = n ∧ Wd ua u B H ∧ F ds u = some (r, u') ∧ OutR G ua B H u' Q E r
def DefOkX (P : Program) (w : World) {K : PySem.W.Frag} (mg : Str → Option Value) (base : Heap) (G : Gx K) (x : Str) (k n : Nat) (F : List D → U → Option (R × U)) : Prop :=
  ∃ f fd ps, FnOk P w K mg base (L2.CX P w) k f fd ps (spX G F n) ∧ mg x = some (.ref f) ∧ PySem.W.keepIn K (.ref f) = true ∧ Binds K fd ps []
theorem DefOkX.mono {P : Program} {w : World} {K : PySem.W.Frag} {mg : Str → Option Value} {base : Heap} {G : Gx K} {x : Str} {j k n : Nat} {F : List D → U → Option (R × U)} (h : DefOkX P w mg base G x j n F) (l : j ≤ k) : DefOkX P w mg base G x k n F := by
  obtain ⟨f, fd, ps, h1, h2⟩ := h
  exact ⟨f, fd, ps, h1.mono l, h2⟩
/-- where it doesn't raise -/
def okF (F : List D → U → Option (R × U)) : List D → U → Option (D × U) := fun ds u => match F ds u with
  | some (.ok d, u') => some (d, u')
  | _ => none
theorem okF_some {F : List D → U → Option (R × U)} {ds : List D} {u u' : U} {d : D} (h : okF F ds u = some (d, u')) : F ds u = some (.ok d, u') := by
  unfold okF at h
  split at h
  · cases h; assumption
  · cases h
theorem fn_calm {P : Program} {w : World} {K : PySem.W.Frag} {mg : Str → Option Value} {base : Heap} {G : Gx K} {k n : Nat} {f : Addr} {fd : FuncData} {ps : List Str} {F : List D → U → Option (R × U)} (h : FnOk P w K mg base (L2.CX P w) k f fd ps (spX G F n)) :
    FnOk P w K mg base CX0 k f fd ps (spF G (okF F) n) := by
  have key : ∀ {vs H Q E}, spF G (okF F) n vs H Q E → spX G F n vs H Q (fun _ _ _ => False) := fun ⟨ua, u, B, ds, d, u', r, l, w, e, q⟩ => ⟨ua, u, B, ds, .ok d, u', r, l, w, okF_some e, q⟩
  refine ⟨fun vs H Q E z => h.len _ _ _ _ (key z), fun A outer s H args us vs Q E hr he hb hv z => codeAny_mono (h.run A outer s H args us vs Q _ hr he hb hv (key z)) fun r s' c => ?_⟩
  cases r with
  | ok fl => cases fl <;> exact c
  | error e =>
    obtain ⟨_, _, _, _, _, _, _, _, _, _, _, _, z⟩ := c
    exact z.elim
theorem DefOkX.calm {P : Program} {w : World} {K : PySem.W.Frag} {mg : Str → Option Value} {base : Heap} {G : Gx K} {x : Str} {k n : Nat} {F : List D → U → Option (R × U)} (h : DefOkX P w mg base G x k n F) : DefOk P w mg base G x k n (okF F) := by
  obtain ⟨f, fd, ps, h1, h2⟩ := h
  exact ⟨f, fd, ps, fn_calm h1, h2⟩
/-! ### the body of a def that may raise -/
def runBX (m : MS) (L : Nat) (ds : List D) (u : U) : Option (R × U) := match m (ds.map Sl.pub ++ List.replicate (L - ds.length) Sl.no) u with
  | some (.rt d, u') => some (.ok d, u')
  | some (.nx _, u') => some (.ok .non, u')
  | some (.er _ c ns xs, u') => some (.er c ns xs, u')
  | none => none
abbrev WofE (E : XK) : WX := fun cls d _ H => E cls d H
theorem own_none {K : PySem.W.Frag} {G : Gx K} {ua : Option Addr} {B H0 : Hp} {ds : List D} {vs : List V} {N : List Str} (r : Reps G ua ds vs B) : OwnNew (ds.map Sl.pub ++ List.replicate (N.length - ds.length) Sl.no) (L2.start N vs) H0 := fun i es p z _ => by
  exfalso
  by_cases hi : i < ds.length
  · rw [List.getElem?_append_left (by rw [List.length_map]; exact hi), List.getElem?_map] at z
    obtain ⟨_, _, h2⟩ := map_some z
    cases h2
  · rw [List.getElem?_append_right (by rw [List.length_map]; omega), List.getElem?_replicate] at z
    split at z <;> cases z
theorem def_okX {P : Program} {w : World} {K : PySem.W.Frag} {mg : Str → Option Value} {base : Heap} {G : Gx K} {x qual : Str} {st : Stmt} {f : Addr} {fd : FuncData} {N ps : List Str} {k n : Nat} {m : MS} (F : Fun K x qual st f fd) (S : FnScope N ps (defScope st)) (hn : ps.length = n)
    (hb : ∀ (cdv : Value) (A : Around) (outer : List Env) (s : Shared) (H : Hp) (E : XK), Room k (A.deeper (envOfC qual (defScope st) s.heap.objs.size f cdv)) →
      Takes (cxOf (L2.CX P w) P w K mg base N qual (defScope st) f cdv A outer s H E) (WofE E) →
      PassesOwn (model P w) (cxOf (L2.CX P w) P w K mg base N qual (defScope st) f cdv A outer s H E).A (cxOf (L2.CX P w) P w K mg base N qual (defScope st) f cdv A outer s H E).env (cxOf (L2.CX P w) P w K mg base N qual (defScope st) f cdv A outer s H E).xe →
      PSs (cxOf (L2.CX P w) P w K mg base N qual (defScope st) f cdv A outer s H E) (defBody st) (tSt G (WofE E) m)) :
    FnOk P w K mg base (L2.CX P w) (k + 1) f fd ps (spX G (runBX m N.length) n) := by
  refine F.okX S (fun vs H Q E h => ?_) (fun cdv A outer s H vs Q E hr h => ⟨_, hb cdv A outer s H E hr (takes_of rfl rfl rfl rfl) (passes_of rfl), ?_⟩)
  · obtain ⟨ua, u, B, ds, d, u', r, hl, _⟩ := h
    rw [← r.len, hl, hn]
  · obtain ⟨ua, u, B, ds, r, u', rs, hl, hw, hf, q⟩ := h
    unfold runBX at hf
    split at hf
    · cases hf
      exact ⟨ua, u, B, _, _, _, B, H, .refl, own_none rs, start_ok rs, hw, ‹_›, fun v B' H' g w' r' => q v H' ⟨B', g, w', r'⟩⟩
    · cases hf
      exact ⟨ua, u, B, _, _, _, B, H, .refl, own_none rs, start_ok rs, hw, ‹_›, fun σ' B' H' g o e w' => q _ H' ⟨B', g, w', rep_non⟩⟩
    · cases hf
      exact ⟨ua, u, B, _, _, _, B, H, .refl, own_none rs, start_ok rs, hw, ‹_›, fun σ' B' H' cls d g o e w' r' => q cls d H' ⟨B', g, w', r'⟩⟩
    · cases hf
/-! ### expressions that may raise -/
section
variable {X : Cx} {G : Gx X.K} {W : WX} {e a b : Expr} {es : List Expr} {m ma mb : M} {ms : Ms} {mx : MX} {pos p pc : Pos}
def tEvX (G : Gx X.K) (W : WX) (m : MX) : TE := fun σ H Q => ∃ ua u B env r u', EnvOk G ua env σ B H ∧ Wd ua u B H ∧ m env u = some (r, u') ∧ OutR G ua B H u' Q (fun c d H' => W c d σ H') r
def xUp (m : M) : MX := fun env u => match m env u with
  | some (d, u') => some (.ok d, u')
  | none => none
theorem dx_up (h : PE X e (tEv G m)) : PE X e (tEvX G W (xUp m)) := h.imp fun σ H Q z => by
  obtain ⟨ua, u, B, env, r, u', hE, hW, hm, q⟩ := z
  unfold xUp at hm
  split at hm
  · cases hm; exact ⟨ua, u, B, env, _, _, hE, hW, ‹_›, q⟩
  · cases hm
def xCall (n : Nat) (F : List D → U → Option (R × U)) (ms : Ms) : MX := fun env u => bnd (ms env u) fun ds u1 => if ds.length = n then F ds u1 else none
theorem dx_call {x : Str} {k n : Nat} {F : List D → U → Option (R × U)} (D0 : DefOkX X.prog X.w X.mg X.base G x k n F) (tk : Takes X W) (hr : Room k X.A) (hg : Gl X x) (ha : PA X (e :: es) (tEvs G ms))
    (hdb : (x == ("__debug__" : Str)) = false := by decide) (he : starEach (e :: es) X.env = (false, eval e X.env) :: starEach es X.env := by rfl) (hpl : (backTo pos (starEach es X.env)).any (·.1) = false := by rfl) :
    PE X (.Call (.Name x p) (e :: es) [] pos) (tEvX G W (xCall n F ms)) := by
  obtain ⟨f, fd, ps, hf, hm, hk, hb⟩ := D0
  refine (pe_callS hf hr hg hm hk hb (fun σ => passAt tk σ) ha hdb he hpl).imp fun σ H Q h => ?_
  obtain ⟨ua, u, B, env, r, u', hE, hW, hm, q⟩ := h
  obtain ⟨ds, u1, h1, h2⟩ := bnd_some hm
  split at h2
  · exact ⟨ua, u, B, env, ds, u1, hE, hW, h1, fun vs H1 ⟨B1, g1, w1, r1⟩ => ⟨ua, u1, B1, ds, r, u', r1, ‹_›, w1, h2, q.up g1⟩⟩
  · cases h2
/-! x[i] by an own __getitem__ that may raise -/
def SpcOkX (P : Program) (w : World) {K : PySem.W.Frag} (mg : Str → Option Value) (base : Heap) (G : Gx K) (c name : Str) (k n : Nat) (F : List D → U → Option (R × U)) : Prop :=
  ∃ C f fd ps, G.cls c = some C ∧ PySem.W.findIn K (.ref C) name = some (some (.ref f)) ∧ PySem.W.isFn K (.ref f) = true ∧ PySem.W.fnIn K f = true ∧ FnOk P w K mg base (L2.CX P w) k f fd ps (spX G F n) ∧ Binds K fd ps []
theorem SpcOkX.mono {P : Program} {w : World} {K : PySem.W.Frag} {mg : Str → Option Value} {base : Heap} {G : Gx K} {c name : Str} {j k n : Nat} {F : List D → U → Option (R × U)} (h : SpcOkX P w mg base G c name j n F) (l : j ≤ k) : SpcOkX P w mg base G c name k n F := by
  obtain ⟨C, f, fd, ps, h1, h2, h3, h4, h5, h6⟩ := h
  exact ⟨C, f, fd, ps, h1, h2, h3, h4, h5.mono l, h6⟩
theorem SpcOkX.calm {P : Program} {w : World} {K : PySem.W.Frag} {mg : Str → Option Value} {base : Heap} {G : Gx K} {c name : Str} {k n : Nat} {F : List D → U → Option (R × U)} (h : SpcOkX P w mg base G c name k n F) : SpcOk P w mg base G c name k n (okF F) := by
  obtain ⟨C, f, fd, ps, h1, h2, h3, h4, h5, h6⟩ := h
  exact ⟨C, f, fd, ps, h1, h2, h3, h4, fn_calm h5, h6⟩
theorem call_fnX {A : Around} {pins : List (Addr × Obj)} {s : Shared} {σ : L2.St} {H : Hp} {f : Addr} {fd : FuncData} {ps : List Str} {sp : Sp} {k : Nat} {vs : List V} {us : List Value} {Q : VK} (tk : Takes X W)
    (hf : FnOk X.prog X.w X.K X.mg X.base (L2.CX X.prog X.w) k f fd ps sp) (hb : Binds X.K fd ps []) (hr : Room k A) (hA : A.frames = X.A.frames) (I : Inv X pins σ H s) (rv : Vals vs us) (hs : sp vs H Q (fun c d H' => W c d σ H')) :
    wpAny (model X.prog X.w) A (call (.ref f) us) (EP X pins σ Q) X.xe s := by
  have e0 : Env0 X.prog X.w X.K X.mg X.base A X.stack s H := by
    have e := I.env0
    exact ⟨by rw [hA]; exact e.frames, e.mod, e.bs, e.bsz, e.funs, e.frf, e.hok, e.bare⟩
  have hu : us.length = ps.length := by rw [← rv.length]; exact hf.len _ _ _ _ hs
  have bd := hb s us I.kIn (by rw [List.append_nil]; exact hu)
  rw [List.append_nil] at bd
  refine wpAny_call (codeAny_mono (hf.run A X.stack s H ⟨us, []⟩ us vs Q _ hr e0 bd rv hs) fun r s' hq => ?_)
  cases r with
  | error e => exact passAt tk σ pins H s e s' I hq
  | ok fl =>
    cases fl with
    | ret w => exact I.after hq
    | next => exact False.elim hq
    | brk => exact False.elim hq
    | cont => exact False.elim hq
def xIx (c : Str) (F : List D → U → Option (R × U)) (a b : M) : MX := fun env u => bnd (a env u) fun x u1 => bnd (b env u1) fun y u2 => match x with
  | .ins c' ns xs => if c' = c then F [.ins c' ns xs, y] u2 else none
  | _ => none
theorem dx_ix {c : Str} {k : Nat} {F : List D → U → Option (R × U)} (h0 : SpcOkX X.prog X.w X.mg X.base G c ("__getitem__" : Str) k 2 F) (tk : Takes X W) (hr : Room (k + 1) X.A) (ha : PE X a (tEv G ma)) (hb : PE X b (tEv G mb)) (hs2 : PlainIx2 b := by exact fun _ _ => rfl) :
    PE X (.Subscript a b pos) (tEvX G W (xIx c F ma mb)) := by
  obtain ⟨C, f0, fd, ps, hC, hs0, hfn, hfi, hfo, hbd⟩ := h0
  refine ⟨fun pins s σ H Q I h => Subscript_ (binT ha hb I (R := fun x y H2 => ∃ ua u B ns xs d r u', Rep G ua (.ins c ns xs) x B ∧ Rep G ua d y B ∧ Wd ua u B H2 ∧ F [.ins c ns xs, d] u = some (r, u') ∧ OutR G ua B H2 u' Q (fun c d H' => W c d σ H') r) ?_ fun v u s2 x y H2 I2 rx ry q => ?_)⟩
  · obtain ⟨ua, u, B, env, r, u', hE, hW, hm, q⟩ := h
    obtain ⟨x, u1, h1, h2⟩ := bnd_some hm
    obtain ⟨y, u2, h3, h4⟩ := bnd_some h2
    split at h4
    · split at h4
      · rename_i hc
        subst hc
        exact ⟨ua, u, B, env, _, u1, hE, hW, h1, fun v H1 ⟨B1, g1, w1, r1⟩ => ⟨ua, u1, B1, env, y, u2, hE.grow g1, w1, h3, fun v2 H2 ⟨B2, g2, w2, r2⟩ => ⟨ua, u2, B2, _, _, y, r, u', r1.mono _ _ g2.pub, r2, w2, h4, (q.up g1).up g2⟩⟩⟩
      · cases h4
    · cases h4
  · obtain ⟨ua, u, B, ns, xs, d, r, u', r1, r2, w2, hf, q⟩ := q
    have r0 := r1
    unfold Rep at r1
    obtain ⟨p, C', dx, vs, rfl, hC', hB, hl, rs⟩ := r1
    rw [hC] at hC'
    cases hC'
    cases rx
    obtain ⟨mA, J, _⟩ := ins_get I2.hok (w2.sub _ _ hB)
    obtain ⟨od, J, _⟩ := J.look
    obtain ⟨m, hF⟩ := I2.fr
    exact PySem.W.sub_K hF I2.ok.mod.kin J hs0 hfi hfn (call_fnX tk hfo hbd hr.in1 rfl I2 (.cons (show RelV (V.ref p) (Value.ref p) from rfl) (.cons ry .nil)) ⟨ua, u, B, _, r, u', .cons r0 (.cons r2 .nil), rfl, w2, hf, q⟩) (hs2 _ _)
/-! ### statements -/
def sUpX (m : MX) (k : List Sl → D → U → Option (Fl × U)) : MS := fun env u => match m env u with
  | some (.ok d, u1) => k env d u1
  | some (.er c ns xs, u1) => some (.er env c ns xs, u1)
  | none => none
theorem up_read {Dn : Ends} {σ : L2.St} {H : Hp} {k : List Sl → D → U → Option (Fl × U)} {Q : VK} (h : tSt G W (sUpX mx k) Dn σ H)
    (q : ∀ (ua : Option Addr) (u1 : U) (H0 B0 B1 H1 : Hp) (env : List Sl) (fl : Fl) (u' : U) (d : D) (v : V), Grow ua B0 H0 B1 H1 → OwnNew env σ H0 → EnvOk G ua env σ B1 H1 → Wd ua u1 B1 H1 → Rep G ua d v B1 → k env d u1 = some (fl, u') →
      (match fl with
        | .nx env' => ∀ (σ' : List (Option V)) B' H', Grow ua B0 H0 B' H' → OwnNew env' σ' H0 → EnvOk G ua env' σ' B' H' → Wd ua u' B' H' → Dn.nx σ' H'
        | .rt d => ∀ v B' H', Grow ua B0 H0 B' H' → Wd ua u' B' H' → Rep G ua d v B' → Dn.rt v H'
        | .er env' c ns xs => ∀ (σ' : List (Option V)) B' H' cls d, Grow ua B0 H0 B' H' → OwnNew env' σ' H0 → EnvOk G ua env' σ' B' H' → Wd ua u' B' H' → ErR G ua c ns xs cls d B' → W cls d σ' H') → Q v H1) :
    tEvX G W mx σ H Q := by
  obtain ⟨ua, u, B, env, fl, u', B0, H0, hg, hO, hE, hW, hm, z⟩ := h
  unfold sUpX at hm
  split at hm
  · rename_i d u1 hx
    exact ⟨ua, u, B, env, _, u1, hE, hW, hx, fun v H1 ⟨B1, g1, w1, r1⟩ => q ua u1 H0 B0 B1 H1 env fl u' d v (hg.trans g1) hO (hE.grow g1) w1 r1 hm z⟩
  · rename_i c ns xs u1 hx
    cases hm
    exact ⟨ua, u, B, env, _, _, hE, hW, hx, fun cls d H1 ⟨B1, g1, w1, r1⟩ => z σ B1 H1 cls d (hg.trans g1) hO (hE.grow g1) w1 r1⟩
  · cases hm
def sDropX (m : MX) : MS := sUpX m fun env _ u => some (.nx env, u)
theorem dsx_drop (he : PE X e (tEvX G W mx)) (hs : swapsWith e none pos.line X.env = pure false := by rfl) : PS X (.Expr e pos) (tSt G W (sDropX mx)) := (ps_expr he hs).imp fun Dn σ H h =>
  up_read h fun ua u1 H0 B0 B1 H1 env fl u' d v g o e w r k z => by
    cases k
    exact z σ B1 H1 g o e w
def sRetX (m : MX) : MS := sUpX m fun _ d u => some (.rt d, u)
theorem dsx_ret (he : PE X e (tEvX G W mx)) : PS X (.Return (some e) pos) (tSt G W (sRetX mx)) := (ps_ret he).imp fun Dn σ H h =>
  up_read h fun ua u1 H0 B0 B1 H1 env fl u' d v g o e w r k z => by
    cases k
    exact z v B1 H1 g w r
def sSetX (i : Nat) (m : MX) : MS := sUpX m fun env d u => some (.nx (env.set i (Sl.pub d)), u)
theorem dsx_set (i : Nat) {x : Str} {pos' : Pos} (hN : X.N.Nodup) (he : PE X e (tEvX G W mx)) (hi : X.N[i]? = some x := by rfl) (hx : Loc X.env.scope x := by first | exact Or.inl rfl | exact Or.inr rfl) (hs : swapsWith e (some (.Name x pos')) pos.line X.env = pure false := by rfl)
    (hf : X.fn x = true ∨ X.env.scope.names.lookup x = some .local := by first | exact .inl rfl | exact .inr rfl | assumption) : PS X (.Assign [.Name x pos'] e pos) (tSt G W (sSetX i mx)) := (ps_set hN hi hx he hs hf).imp fun Dn σ H h =>
  up_read h fun ua u1 H0 B0 B1 H1 env fl u' d v g o e w r k z => by
    cases k
    exact z _ B1 H1 g (o.set i d v) (e.set r i) w
def sTgtX (t : Tgt) (m : MX) : MS := sUpX m fun env d u => match bindT t d env with
  | some env' => some (.nx env', u)
  | none => none
theorem dsx_tgt (t : Tgt) {tg : Expr} (he : PE X e (tEvX G W mx)) (hg : PG X tg (gOf X.K t)) (hs : swapsWithSole [tg] e pos.line X.env = pure false := by rfl) (hw : swappedStores [tg] e X.env = pure none := by rfl)
    (h1 : (assignEach [tg] X.env).map (·.2) = [assign tg X.env] := by rfl) : PS X (.Assign [tg] e pos) (tSt G W (sTgtX t mx)) := (ps_asg he hg hs hw h1).imp fun Dn σ H h =>
  up_read h fun ua u1 H0 B0 B1 H1 env fl u' d v g o e w r k z => by
    split at k
    · rename_i env' hb
      cases k
      refine bindT_ok e w r hb fun σ' e' _ hk => z _ B1 H1 g (fun j ds p z1 z2 => ?_) e' w
      obtain ⟨z3, z4⟩ := bindT_own hb j ds z1
      exact o j ds p z3 (hk j _ z2 z4)
    · cases k
/-! ### raise -/
/-- an error class's __init__: self.f = F(x) -/
def spE (G : Gx X.K) (C : Addr) (f : Str) (F : List D → U → Option (D × U)) : Sp := fun vs H Q _ => ∃ ua u B a v d0 d u', vs = [.ref a, v] ∧ Rep G ua d0 v B ∧ Wd ua u B H ∧ B a = none ∧ ua ≠ some a ∧ H a = some (exo a C none) ∧ F [d0] u = some (d, u') ∧
  ∀ y dx B' H', Grow ua B H B' H' → Wd ua u' B' H' → Rep G ua d y B' → H' dx = none → dx ≠ a → Q .non (upd (upd H' dx (exd dx [(f, y)])) a (exo a C (some dx)))
end
def spEr {K : PySem.W.Frag} (G : Gx K) (C : Addr) (f : Str) (F : List D → U → Option (D × U)) : Sp := fun vs H Q _ => ∃ ua u B a v d0 d u', vs = [.ref a, v] ∧ Rep G ua d0 v B ∧ Wd ua u B H ∧ B a = none ∧ ua ≠ some a ∧ H a = some (exo a C none) ∧ F [d0] u = some (d, u') ∧
  ∀ y dx B' H', Grow ua B H B' H' → Wd ua u' B' H' → Rep G ua d y B' → H' dx = none → dx ≠ a → Q .non (upd (upd H' dx (exd dx [(f, y)])) a (exo a C (some dx)))
/-- the error class x keeps F of what it is made with in its field f -/
def ErMk (P : Program) (w : World) {K : PySem.W.Frag} (mg : Str → Option Value) (base : Heap) (G : Gx K) (x f : Str) (k : Nat) (F : List D → U → Option (D × U)) : Prop :=
  ∃ C fI fd ps B newId initId bmB, OxC K C B newId initId bmB ∧ PySem.W.findIn K (.ref C) "__init__" = some (some (.ref fI)) ∧ PySem.W.typeIn K (.ref fI) = some (.type "function") ∧ FnOk P w K mg base CX0 k fI fd ps (spEr G C f F) ∧ Binds K fd ps [] ∧ mg x = some (.ref C) ∧ G.exc x = some C
theorem ErMk.mono {P : Program} {w : World} {K : PySem.W.Frag} {mg : Str → Option Value} {base : Heap} {G : Gx K} {x f : Str} {j k : Nat} {F : List D → U → Option (D × U)} (h : ErMk P w mg base G x f j F) (l : j ≤ k) : ErMk P w mg base G x f k F := by
  obtain ⟨C, fI, fd, ps, B, n1, n2, bm, h1, h2, h3, h4, h5⟩ := h
  exact ⟨C, fI, fd, ps, B, n1, n2, bm, h1, h2, h3, h4.mono l, h5⟩
/-- its __init__ by its body -/
theorem erInit_ok {P : Program} {w : World} {K : PySem.W.Frag} {mg : Str → Option Value} {base : Heap} {G : Gx K} {qual fl n1 n2 : Str} {st : Stmt} {fI C : Addr} {fd : FuncData} {k : Nat} {e : Expr} {p' p1 pa : Pos} {m : M} {B newId initId : String} {bmB : List Value} (T : OxC K C B newId initId bmB)
    (hno : PySem.W.findIn K (.ref C) fl = some none) (F : Fun K "__init__" qual st fI fd) (S : FnScope [n1, n2] [n1, n2] (defScope st)) (hbody : defBody st = [.Assign [.Attribute (.Name n1 p1) fl p'] e pa])
    (he : ∀ (cdv : Value) (A : Around) (outer : List Env) (s : Shared) (H : Hp) (E : XK), Room k (A.deeper (envOfC qual (defScope st) s.heap.objs.size fI cdv)) → PE (cxOf CX0 P w K mg base [n1, n2] qual (defScope st) fI cdv A outer s H E).nox e (tEv G m))
    (hv : ∀ (cdv : Value) (A : Around) (outer : List Env) (s : Shared) (H : Hp) (E : XK), Vis (cxOf CX0 P w K mg base [n1, n2] qual (defScope st) fI cdv A outer s H E).nox.env.scope n1)
    (hs : ∀ (cdv : Value) (A : Around) (outer : List Env) (s : Shared) (H : Hp) (E : XK), swapsWith e (some (.Attribute (.Name n1 p1) fl p')) pa.line (cxOf CX0 P w K mg base [n1, n2] qual (defScope st) fI cdv A outer s H E).nox.env = pure false)
    (hd : (n1 == ("__debug__" : Str)) = false) (hcd : (n1 == ("__classdict__" : Str)) = false) :
    FnOk P w K mg base CX0 (k + 1) fI fd [n1, n2] (spEr G C fl fun ds u => m (Sl.no :: ds.map Sl.pub) u) := by
  refine F.ok S (fun vs H Q E h => ?_) (fun cdv A outer s H vs Q E hr h => ?_)
  · obtain ⟨ua, u, B, a, v, d0, d, u', rfl, _⟩ := h
    rfl
  · obtain ⟨ua, u, B, a, v, d0, d, u', rfl, hrep, hw, hB, hua, ha, hf, q⟩ := h
    rw [hbody]
    refine ⟨_, pss_one (ps_ox (X := (cxOf CX0 P w K mg base [n1, n2] qual (defScope st) fI cdv A outer s H E).nox) (a := a) T hno rfl (hv cdv A outer s H E) hd hcd (he cdv A outer s H E hr) (hs cdv A outer s H E)), ?_⟩
    refine ⟨ua, u, B, [.no, .pub d0], d, u', ⟨rfl, fun i x hi => ?_, fun i x hi => ?_, fun i j x y p hi => ?_⟩, hw, hf, fun y H1 ⟨B1, g1, w1, r1⟩ => ⟨rfl, g1.keep _ _ ha hua, fun dx hdx hne => q y dx B1 H1 g1 w1 r1 hdx hne⟩⟩
    · match i, hi with
      | 1, hi => cases hi; exact ⟨v, rfl, hrep⟩
      | i + 2, hi => simp at hi
    · match i, hi with
      | i + 2, hi => simp at hi
    · match i, hi with
      | i + 2, hi => simp at hi
section
variable {X : Cx} {G : Gx X.K} {W : WX} {e : Expr} {me : M} {pos p pc : Pos}
def sRaise (x f : Str) (F : List D → U → Option (D × U)) (m : M) : MS := fun env u => bnd (m env u) fun d u1 => bnd (F [d] u1) fun y u2 => some (.er env x [f] [y], u2)
theorem ds_raise {x f : Str} {k : Nat} {F : List D → U → Option (D × U)} (M0 : ErMk X.prog X.w X.mg X.base G x f k F) (hc : X.calm = true) (tk : Takes X W) (hr : Room (k + 1) X.A) (hg : Gl X x) (he : PE X e (tEv G me))
    (hdb : (x == ("__debug__" : Str)) = false := by decide) (hs : starEach [e] X.env = (false, eval e X.env) :: starEach [] X.env := by rfl) (hpl : (backTo pc (starEach [] X.env)).any (·.1) = false := by rfl) :
    PS X (.Raise (some (.Call (.Name x p) [e] [] pc)) none pos) (tSt G W (sRaise x f F me)) := by
  obtain ⟨C, fI, fd, ps, B, newId, initId, bmB, T, iC, tI, Fn, hb, hm, hG⟩ := M0
  refine (ps_raise hc tk (pmk_ox T iC tI Fn hr hb pass0 hg hm (pa_cons he pa_nil hs) hdb hs hpl)).imp fun Dn σ H h => ?_
  obtain ⟨ua, u, B, env, fl, u', B0, H0, hgr, hO, hE, hW, hm, q⟩ := h
  obtain ⟨d, u1, h1, h2⟩ := bnd_some hm
  obtain ⟨y, u2, h3, h4⟩ := bnd_some h2
  cases h4
  refine ⟨ua, u, B, env, d, u1, hE, hW, h1, fun v H1 ⟨B1, g1, w1, r1⟩ => ⟨Nat.le_of_ble_eq_true rfl, fun a ha => ?_⟩⟩
  have ga := Grow.own1 (o := exo a C none) w1 ha
  have wa := w1.own1 (o := exo a C none) ha
  refine ⟨ua, u1, B1, a, v, d, y, _, rfl, r1, wa, w1.none_of ha, w1.ne_urn ha, upd_same, h3, fun yv dx B2 H2 g2 w2 r2 hdx hne => ⟨rfl, dx, [(f, yv)], upd_same, by rw [upd_ne hne]; exact upd_same, ?_, ?_⟩⟩
  · have := g2.live _ hdx
    rw [upd_ne hne] at this
    exact this
  · have ea : upd (del (upd (upd H2 dx (exd dx [(f, yv)])) a (exo a C (some dx))) a) dx (.xd [(f, yv)]) = upd (del H2 a) dx (.xd [(f, yv)]) := by
      funext b
      by_cases hbd : b = dx
      · rw [hbd, upd_same, upd_same]
      · rw [upd_ne hbd, upd_ne hbd]
        by_cases hba : b = a
        · rw [hba, del_same, del_same]
        · rw [del_ne hba, del_ne hba, upd_ne hba, upd_ne hbd]
    show W (.ref C) (some dx) σ (upd (del (upd (upd H2 dx (exd dx [(f, yv)])) a (exo a C (some dx))) a) dx (.xd [(f, yv)]))
    rw [ea]
    have hB2a : B2 a = none := g2.none_of (o := exo a C none) upd_same (w1.none_of ha)
    have nba : ∀ {b : Addr} {o : HO}, B2 b = some o → b ≠ a := fun z1 z2 => by rw [z2, hB2a] at z1; cases z1
    have nxa : ∀ {b : Addr} {o : HO}, H1 b = some o → b ≠ a := fun z1 z2 => by rw [z2, ha] at z1; cases z1
    have hB2d : B2 dx = none := w2.none_of hdx
    have g3 : Grow ua B1 H1 (upd B2 dx (.xd [(f, yv)])) (upd (del H2 a) dx (.xd [(f, yv)])) := by
      refine ⟨fun b o hb hu => ?_, fun b hb => ?_, fun b o hb => ?_, fun b o hb => ?_⟩
      · have z := g2.keep b o (by rw [upd_ne (nxa hb)]; exact hb) hu
        rw [upd_ne (fun e => by rw [e, hdx] at z; cases z), del_ne (nxa hb)]
        exact z
      · by_cases hba : b = a
        · rw [hba]; exact ha
        · by_cases hbd : b = dx
          · rw [hbd, upd_same] at hb; cases hb
          · rw [upd_ne hbd, del_ne hba] at hb
            have z := g2.live b hb
            rw [upd_ne hba] at z
            exact z
      · exact same_new hB2d b o (g2.pub b o hb)
      · by_cases hbd : b = dx
        · refine .inr ?_
          have z := g2.live dx hdx
          rw [upd_ne hne] at z
          rw [hbd]; exact z
        · rw [upd_ne hbd] at hb
          rcases g2.new b o hb with z | z
          · exact .inl z
          · rw [upd_ne (nba hb)] at z
            exact .inr z
    have w3 : Wd ua u' (upd B2 dx (.xd [(f, yv)])) (upd (del H2 a) dx (.xd [(f, yv)])) := by
      refine ⟨fun b o hb => ?_, fun b hb => ?_⟩
      · by_cases hbd : b = dx
        · rw [hbd, upd_same] at hb ⊢; exact hb
        · rw [upd_ne hbd] at hb ⊢
          rw [del_ne (nba hb)]
          exact w2.sub b o hb
      · obtain ⟨z1, z2⟩ := w2.urn b hb
        have hbd : b ≠ dx := fun e => by rw [e, hdx] at z2; cases z2
        have hba : b ≠ a := fun e => w1.ne_urn ha (by rw [← e]; exact hb)
        rw [upd_ne hbd, upd_ne hbd, del_ne hba]
        exact ⟨z1, z2⟩
    refine q σ _ _ (.ref C) (some dx) (hgr.trans (g1.trans g3)) hO ((hE.grow g1).grow g3) w3 ⟨C, [yv], hG, rfl, ⟨rfl, .inr ⟨dx, rfl, upd_same⟩⟩, .cons (r2.mono _ _ (same_new hB2d)) .nil⟩
/-! ### try .. except x as n -/
def sTry (c : Str) (i : Nat) (body suite : MS) : MS := fun env u => match body env u with
  | some (.er env1 c' ns xs, u1) => if c' = c then (match suite (env1.set i (.pub (.exc c' ns xs))) u1 with
      | some (.nx env2, u2) => some (.nx (env2.set i .no), u2)
      | some (.rt d, u2) => some (.rt d, u2)
      | _ => none) else none
  | r => r
theorem ds_try {x n : Str} {i : Nat} {body suite : List Stmt} {b₀ : Stmt} {np pos' : Pos} {mb ms : MS} (hs : X.stack = X.env :: X.outer) (hf : X.env.frame = some X.env.locals) (hex : X.ex = []) (hN : X.N.Nodup) (hi : X.N[i]? = some n) (hln : X.env.kindOf n = some .local)
    (hE0 : ∃ C, G.exc x = some C ∧ X.mg x = some (.ref C)) (hg : Gl X x) (hdb : (x == ("__debug__" : Str)) = false)
    (hb : ∀ (W : WX) (pn : List (Addr × Obj)) (xe : Value → Shared → Prop), Takes (X.tr pn xe) W → PassesOwn (model X.prog X.w) X.A X.env xe → PSs (X.tr pn xe) body (tSt (K := X.K) G W mb))
    (hsu : ∀ (a : Addr) (pn : List (Addr × Obj)), PSs (X.suite a pn) (b₀ :: suite) (tSt (K := X.K) G W0 ms)) :
    PS X (.Try body [.ExceptHandler (some (.Name x np)) (some n) (b₀ :: suite) pos'] [] [] pos) (tSt G W (sTry x i mb ms)) := by
  obtain ⟨C, hC, hmC⟩ := hE0
  have hit := (G.eok x C hC).hit
  refine (ps_try_hold (c := .ref C) hs hf hex hN hi hln ⟨hg, hdb, .inl hmC⟩ hb hsu).imp fun Dn σ H h => ?_
  obtain ⟨ua, u, B, env, fl, u', B0, H0, hgr, hO, hE, hW, hm, q⟩ := h
  have hW0 := hm
  unfold sTry at hm
  split at hm
  · rename_i env1 c' ns xs u1 hbody
    split at hm
    · rename_i hc
      subst hc
      refine ⟨ua, u, B, env, _, u1, B0, H0, hgr, hO, hE, hW, hbody, fun σ' B' H' cls d g o e w ⟨C2, vs, e1, e2, e3, e4⟩ => ?_⟩
      rw [hC] at e1
      cases e1
      subst e2
      refine ⟨C, rfl, hit, fun a ha => ?_⟩
      have g2 := Grow.new1 (o := Hx a C d) w ha
      have w2 := w.new1 (o := Hx a C d) ha
      have sB : Same B' (upd B' a (Hx a C d)) := same_new (w.none_of ha)
      have rx : Rep G ua (.exc c' ns xs) (.ref a) (upd B' a (Hx a C d)) := by
        unfold Rep
        exact ⟨a, C, d, vs, rfl, hC, upd_same, e3.mono sB, e4.mono _ _ sB⟩
      split at hm
      · rename_i env2 u2 hsuite
        cases hm
        exact ⟨ua, u1, _, _, _, _, B0, H0, g.trans g2, o.set i _ _, (e.grow g2).set rx i, w2, hsuite, fun σ3 B3 H3 g3 o3 e3 w3 => q (σ3.set i none) B3 H3 g3 (fun j ds p z1 z2 => by
          rcases get_set z1 with ⟨_, z⟩ | ⟨hj, z1⟩
          · cases z
          · rw [List.getElem?_set_ne (fun z => hj z.symm)] at z2
            exact o3 j ds p z1 z2) (e3.wipe1 i none) w3⟩
      · rename_i d2 u2 hsuite
        cases hm
        exact ⟨ua, u1, _, _, _, _, B0, H0, g.trans g2, o.set i _ _, (e.grow g2).set rx i, w2, hsuite, q⟩
      · cases hm
    · cases hm
  · rename_i hno
    refine ⟨ua, u, B, env, fl, u', B0, H0, hgr, hO, hE, hW, hm, ?_⟩
    cases fl with
    | nx env' => exact q
    | rt d => exact q
    | er env1 c' ns xs => exact (hno env1 c' ns xs u' hm).elim
/-! ### a held error -/
def mXf (c f : Str) (m : M) : M := fun env u => bnd (m env u) fun d u1 => match d with
  | .exc c' ns xs => if c' = c then lft ((ns.zip xs).lookup f) u1 else none
  | _ => none
theorem dv_xf {c f : Str} (hno : ∀ C, G.exc c = some C → PySem.W.findIn X.K (.ref C) f = some none) (he : PE X e (tEv G me)) (hab : attributeBase e f X.env (eval e X.env) = eval e X.env := by rfl) : PE X (.Attribute e f pos) (tEv G (mXf c f me)) :=
  (pe_hxf he hab).imp fun σ H Q h => by
    obtain ⟨ua, u, B, env, d, u', hE, hW, hm, q⟩ := h
    obtain ⟨d0, u1, h1, h2⟩ := bnd_some hm
    split at h2
    · rename_i c' ns xs
      split at h2
      · rename_i hc
        subst hc
        obtain ⟨h3, rfl⟩ := lft_some h2
        refine ⟨ua, u, B, env, _, _, hE, hW, h1, fun v H1 ⟨B1, g1, w1, r1⟩ => ?_⟩
        unfold Rep at r1
        obtain ⟨a, C, d2, vs, rfl, hC, ha, ⟨hl, hd⟩, rs⟩ := r1
        obtain ⟨y, l, r⟩ := rs.fld h3
        rcases hd with ⟨rfl, _⟩ | ⟨dd, rfl, hdd⟩
        · cases h3
        · exact ⟨a, C, dd, _, y, rfl, w1.sub _ _ ha, w1.sub _ _ hdd, (G.eok _ C hC).fld, hno C hC, l, q _ _ ⟨B1, g1, w1, r⟩⟩
      · cases h2
    · cases h2
def mIsE (c : Str) (b : Bool) (m : M) : M := fun env u => bnd (m env u) fun d u1 => match d with
  | .exc c' _ _ => if c' = c then some (.bl b, u1) else none
  | _ => none
/-- isinstance(e, T), e a held error of the class c -/
theorem dv_isE {c T : Str} {n : String} {b : Bool} {pT : Pos} (hk : ∀ C, G.exc c = some C → PySem.W.kitOne X.K (.ref C) (.type n) = some b) (hg : Gl X "isinstance") (hm : X.mg "isinstance" = none) (ha : PE X e (tEv G me)) (hgT : Gl X T) (hmT : X.mg T = none) (hvT : bootBuiltins T = some (.type n)) (hnT : T ≠ "__name__" := by decide) (hdT : (T == ("__debug__" : Str)) = false := by decide)
    (hs : starEach (e :: [.Name T pT]) X.env = (false, eval e X.env) :: starEach [.Name T pT] X.env := by rfl) : PE X (.Call (.Name "isinstance" p) [e, .Name T pT] [] pos) (tEv G (mIsE c b me)) := by
  refine (pe_callB call_hx hg hm (by decide +kernel) (pa_cons ha (pa_cons (pe_bltn (v := .ty n) hgT hmT hvT rfl hnT hdT) pa_nil) hs) (he := hs)).imp fun σ H Q h => ?_
  obtain ⟨ua, u, B, env, d, u', hE, hW, hm, q⟩ := h
  obtain ⟨d0, u1, h1, h2⟩ := bnd_some hm
  split at h2
  · rename_i c' ns xs
    split at h2
    · rename_i hc
      subst hc
      cases h2
      refine ⟨ua, u, B, env, _, _, hE, hW, h1, fun v H1 ⟨B1, g1, w1, r1⟩ => ?_⟩
      unfold Rep at r1
      obtain ⟨a, C, d2, vs, rfl, hC, ha, ⟨hl, hd⟩, rs⟩ := r1
      refine ⟨a, C, d2, .ty n, .type n, b, rfl, w1.sub _ _ ha, fun dd e => ?_, (G.eok _ C hC).isi, fun u z => z, hk C hC, q _ _ ⟨B1, g1, w1, rep_bl⟩⟩
      subst e
      rcases hd with ⟨_, z⟩ | ⟨dd', z, hdd⟩
      · cases z
      · cases z
        exact ⟨_, w1.sub _ _ hdd⟩
    · cases h2
  · cases h2
end
end Dv

/-! Sx3: sorted(set(xs)) of texts, over plain data. -/
namespace Dv
open PySem PySem.Spec PyProof.Rows L2
section
variable {P : Program} {w : World} {A : Around} {E : Value → Shared → Prop} {s : Shared}
theorem strs_of_good : ∀ (l : List Value), (∀ v ∈ l, ∃ x tk, v = Value.str x tk) → ∃ xs, StrsAre l xs ∧ ∀ (es : List (Int × Value)), (∀ e ∈ es, ∃ x tk, e.2 = Value.str x tk) → l.Perm (es.map (·.2)) → xs.Perm (es.map txtOf)
  | l, g => by
    have key : ∀ l : List Value, (∀ v ∈ l, ∃ x tk, v = Value.str x tk) → StrsAre l (l.map fun v => txtOf (0, v)) := by
      intro l
      induction l with
      | nil => exact fun _ => .nil
      | cons v r ih =>
        intro g
        obtain ⟨x, tk, rfl⟩ := g v List.mem_cons_self
        exact .cons x tk (ih fun u hu => g u (List.mem_cons_of_mem _ hu))
    refine ⟨_, key l g, fun es ge pm => ?_⟩
    have := pm.map (fun v => txtOf (0, v))
    rw [List.map_map] at this
    exact this
/-- sorted of such a set -/
theorem sorted_txts {a : Addr} {l : List Str} {Q : Value → Shared → Prop} (R : TxtAll w s.heap a l) (hh : A.handled = none) (few : l.length < 64)
    (fin : ∀ s' p (out : Array Value) (c : Nat), (∀ b o, s.heap.get? b = some o → s'.heap.get? b = some o) → s'.gens = s.gens → s'.os = s.os → s.heap.objs.size ≤ p → s'.heap.get? p = some (seqObj "list" out c) → StrsAre out.toList (sortS (nubS l)) → Q (.ref p) s') :
    wpAny (model P w) A (call (.builtin "sorted") [.ref a]) Q E s := by
  obtain ⟨ks, ⟨o, es, ep, t, ho, hex, hd, g, pm, nd, fw, fit, ris, led⟩, mem, le⟩ := R
  refine Calls.call_function_entry kind_sorted plain_sorted entry_sorted (args_sorted1 _) ?_
  unfold Builtin.«sorted»
  refine wpAny_bind (m := checkCount "sorted" 1 1 _) (wpAny_pure (wpAny_bind (collect_set (A := A.in1) hh ⟨o, ho, hex.1, hd⟩ fit fw ris led fun s1 vs k1 hz g1 o1 pm1 => ?_)))
  have good : ∀ e ∈ es.toList, ∃ x tk, e.2 = Value.str x tk := fun e he => by
    obtain ⟨x, tk, h1, _⟩ := g e he
    exact ⟨x, tk, h1⟩
  obtain ⟨xs, hS, hp⟩ := strs_of_good vs fun v hv => by
    obtain ⟨e, he, q⟩ := List.mem_map.mp (pm1.mem_iff.mp hv)
    obtain ⟨x, tk, h⟩ := good e he
    exact ⟨x, tk, by rw [← q]; exact h⟩
  have pk : xs.Perm ks := (hp es.toList good pm1).trans pm
  have lv : vs.length = ks.length := by rw [← pk.length_eq]; exact hS.length
  have pn : ks.Perm (nubS l) := (List.perm_ext_iff_of_nodup nd (nodup_nubS l)).mpr fun z => (mem z).trans mem_nubS.symm
  refine wpAny_bind (wpAny_newList ?_ (by rw [lv, sizeLine_eq]; omega))
  have at_l : (s1.heap.push (seqObj "list" vs.toArray 0)).get? s1.heap.objs.size = some (seqObj "list" vs.toArray 0) := Heap.get?_push_size _ rfl
  refine wpAny_bind (wpAny_holding (wpAny_call_entry slot_list_sort ⟨_, at_l, rfl⟩ entry_list_sort (list_sort_treeK strKind_oneLt at_l hS.keysOf (fun v1 v2 rest e => keyKind_strs (by rw [← e]; exact hS)) (by rw [lv]; omega) fun st' hp' hs => ⟨_, rfl, ?_⟩) (args_list_sort _)))
  obtain ⟨ys, y1, y2, y3⟩ := sorted_out_str hS hp' hs
  obtain ⟨c, hc⟩ := sortedHeap_at (vs := vs) (out := (arrOf st').map (·.2)) at_l
  have ey : ys = sortS (nubS l) := sortS_uniq (y2.trans (pk.trans pn)) y3
  rw [ey] at y1
  refine wpAny_pure ⟨_, rfl, fin _ s1.heap.objs.size _ c (fun b u e => ?_) g1 o1 hz hc y1⟩
  have q := k1 b u e
  have lt := Heap.lt_size q
  show (sortedHeap (s1.heap.push (seqObj "list" vs.toArray 0)) s1.heap.objs.size vs ((arrOf st').map (·.2))).get? b = some u
  rw [sortedHeap_old (Nat.ne_of_lt lt) (by rw [Heap.size_push]; exact Nat.lt_succ_of_lt lt)]
  exact Heap.get?_push_of_some _ q
end
section
variable {X : Cx} {a : Expr} {ta : TE} {p p2 pos qpos : Pos}
theorem pe_sortSet (hc : X.calm = true) (hg : Gl X "sorted") (hm : X.mg "sorted" = none) (hg2 : Gl X "set") (hm2 : X.mg "set" = none) (ha : PE X a ta)
    (na : starEach [a] X.env = (false, eval a X.env) :: starEach [] X.env := by rfl) : PE X (.Call (.Name "sorted" p) [.Call (.Name "set" p2) [a] [] qpos] [] pos) (fun σ H Q => ta σ H fun x H1 => ∃ (l : Addr) (xs : List Str), x = .ref l ∧ (SqL X.K H1 l (xs.map V.str) ∨ SqT X.K H1 l (xs.map V.str)) ∧ xs.length < 63 ∧
      ∀ r, H1 r = none → Q (.ref r) (upd H1 r (.lst ((sortS (nubS xs)).map V.str)))) := by
  refine ⟨fun pins s σ H Q I h => ?_⟩
  refine Call_ (ld_blt I hg hm (show bootBuiltins "sorted" = some (.builtin "sorted") by decide +kernel) ?_)
  refine PyProof.Rows.callWith_builtin1 (PyProof.Rows.args_cons ?_ rfl) rfl rfl
  refine Call_ (ld_blt I hg2 hm2 (show bootBuiltins "set" = some (.type "set") by decide +kernel) ?_)
  refine PyProof.Rows.callWith_type1 (PyProof.Rows.args_cons (thn (ha.run pins s σ H _ I h) fun v s1 ⟨x, H1, I1, r1, q1⟩ => PyProof.Rows.args_nil ?_) na) na rfl
  obtain ⟨l, xs, rfl, hq, few, q1⟩ := q1
  cases r1
  have bound : xs.length + 1 < scanBound := by
    have : scanBound = 4096 := rfl
    omega
  have fin : ∀ (h2 : Heap) (tk : Nat), TxtAll X.w h2 s1.heap.objs.size xs → (∀ b o, s1.heap.get? b = some o → h2.get? b = some o) →
      wpAny (model X.prog X.w) X.A (spliced (backTo pos (starEach [] X.env))) (fun vs s₂ => wpAny (model X.prog X.w) X.A (call (.builtin "sorted") (Value.ref s1.heap.objs.size :: vs)) (EP X pins σ Q) X.xe s₂) X.xe { s1 with heap := h2, toks := tk } := fun h2 tk all keep => by
    refine PyProof.Rows.args_nil ?_
    have I2 : Inv X pins σ H1 { s1 with heap := h2, toks := tk } := I1.kept keep
    refine sorted_txts all (I2.ok.hd hc) (by omega) fun s' r out c k gn os hr hat hout => ?_
    have fresh : H1 r = none := I2.hok.fresh hr
    have hlen : ((sortS (nubS xs)).map V.str).length ≤ sizeLine := by
      have h1 := (sortS_perm (nubS xs)).length_eq
      have h2 := len_nubS xs
      rw [List.length_map, sizeLine_eq]
      omega
    have J : Inv X pins σ (upd H1 r (.lst ((sortS (nubS xs)).map V.str))) ⟨s'.heap, s'.gens, s'.drawn, s'.toks, s1.os⟩ :=
      Inv.call (s := ⟨h2, s1.gens, s1.drawn, tk, s1.os⟩) (h' := s'.heap) (g' := s'.gens) (d' := s'.drawn) (t' := s'.toks) I2 (ch := []) (Un.laid k hr fresh) (I2.hok.laid k hr ⟨hlen, out.toList, c, vals_of_strs hout, hat⟩) (by rw [gn]; exact I2.bare) (fun _ z => nomatch z)
    have e : s' = ⟨s'.heap, s'.gens, s'.drawn, s'.toks, s1.os⟩ := by
      cases s'
      cases s1
      cases os
      rfl
    rw [e]
    exact ⟨.ref r, _, J, rfl, q1 r fresh⟩
  rcases hq with hq | hq
  · obtain ⟨its, r, pl, hz⟩ := I1.list hq
    exact txt_set_list xs (I1.ok.hd hc) pl.isList (by simpa using r.strs) bound fin
  · obtain ⟨its, r, pl, hz⟩ := I1.tuple hq
    exact txt_set_tuple xs (I1.ok.hd hc) pl (by simpa using r.strs) bound fin
end
/-- sorted(set(xs)) -/
def srtSetD : D → Option D
  | .lst ds => (strsOf ds).bind fun xs => if xs.length < 63 then some (.lst ((sortS (nubS xs)).map .str)) else none
  | .tup ds => (strsOf ds).bind fun xs => if xs.length < 63 then some (.lst ((sortS (nubS xs)).map .str)) else none
  | _ => none
def mSortSet (m : M) : M := fun env u => bnd (m env u) fun d u1 => lft (srtSetD d) u1
theorem dv_sortSet {X : Cx} {G : Gx X.K} {a : Expr} {ma : M} {p p2 pos qpos : Pos} (hc : X.calm = true) (hg : Gl X "sorted") (hm : X.mg "sorted" = none) (hg2 : Gl X "set") (hm2 : X.mg "set" = none) (ha : PE X a (tEv G ma))
    (na : starEach [a] X.env = (false, eval a X.env) :: starEach [] X.env := by rfl) : PE X (.Call (.Name "sorted" p) [.Call (.Name "set" p2) [a] [] qpos] [] pos) (tEv G (mSortSet ma)) :=
  (pe_sortSet hc hg hm hg2 hm2 ha na).imp fun σ H Q h => by
    obtain ⟨ua, u, B, env, d, u', hE, hW, hm, q⟩ := h
    obtain ⟨d0, u1, h1, h2⟩ := bnd_some hm
    obtain ⟨h3, rfl⟩ := lft_some h2
    refine ⟨ua, u, B, env, d0, _, hE, hW, h1, fun v H1 ⟨B1, g1, w1, r1⟩ => ?_⟩
    unfold srtSetD at h3
    split at h3
    · obtain ⟨xs, hx, h4⟩ := Option.bind_eq_some_iff.mp h3
      split at h4
      · cases h4
        obtain ⟨l, vs, rfl, hl, rs⟩ := r1.lst
        rw [strsOf_eq hx] at rs
        rw [rs.strs_of] at hl
        exact ⟨l, xs, rfl, .inl (.of (w1.sub _ _ hl)), ‹_›, fun r hr => q _ _ (.up g1 (.lst w1 hr Reps.strs))⟩
      · cases h4
    · obtain ⟨xs, hx, h4⟩ := Option.bind_eq_some_iff.mp h3
      split at h4
      · cases h4
        obtain ⟨l, vs, rfl, hl, rs⟩ := r1.tup
        rw [strsOf_eq hx] at rs
        rw [rs.strs_of] at hl
        exact ⟨l, xs, rfl, .inr (hl.mono w1.sub).sq, ‹_›, fun r hr => q _ _ (.up g1 (.lst w1 hr Reps.strs))⟩
      · cases h4
    · cases h3
end Dv

/-! Rv: t[::-1] of a tuple; C(k = v); xs.append and x[0][1] = of lists that are not read again. -/
namespace Dv
open PySem PySem.Spec PyProof.Rows L2
section
variable {P : Program} {w : World} {A : Around} {E : Value → Shared → Prop} {s : Shared}
theorem back_places (n : Nat) : Builtin.Slice.sliceAdjust none none (-1) (n : Int) = ((n : Int) - 1, -1) ∧ Builtin.Slice.slicePlaces ((n : Int) - 1) (-1) (-1) = n := by
  constructor
  · unfold Builtin.Slice.sliceAdjust
    simp
  · unfold Builtin.Slice.slicePlaces
    simp
    omega
theorem filterMap_in {α β : Type} {f g : α → Option β} : ∀ {l : List α}, (∀ m ∈ l, f m = g m) → l.filterMap f = l.filterMap g
  | [], _ => rfl
  | a :: r, h => by
    rw [List.filterMap_cons, List.filterMap_cons, h a List.mem_cons_self, filterMap_in fun m hm => h m (List.mem_cons_of_mem _ hm)]
theorem back_pick (xs : Array Value) : ((List.range xs.size).filterMap fun (m : Nat) => xs[(((xs.size : Int) - 1) + (m : Int) * (-1)).toNat]?).toArray = xs.toList.reverse.toArray := by
  congr 1
  have h := List.filterMap_getElem?_range_length xs.toList.reverse
  rw [List.length_reverse, Array.length_toList] at h
  rw [← h]
  refine filterMap_in fun m hm => ?_
  have lt := List.mem_range.mp hm
  rw [List.getElem?_reverse (by rw [Array.length_toList]; exact lt), Array.length_toList, Array.getElem?_toList]
  congr 1
  omega
theorem item_back {t sl : Addr} {items : Array Value} {vl vu vs : Value} {Q : Value → Shared → Prop} (ht : IsTup s.heap t items) (hs : s.heap.IsSliceOf sl vl vu vs) (pl : IsPart vl none) (pu : IsPart vu none) (ps : IsPart vs (some (-1)))
    (q : Q (.ref s.heap.objs.size) { s with heap := s.heap.push { cls := .type "tuple", data := .seq items.toList.reverse.toArray } }) (few : items.size ≤ sizeLine) : wpAny (model P w) A (getItem (.ref t) (.ref sl)) Q E s := by
  have small : sizeOk (.seq items.toList.reverse.toArray) := by
    show items.toList.reverse.toArray.size ≤ sizeLine
    rw [List.size_toArray, List.length_reverse, Array.length_toList]
    exact few
  obtain ⟨o, ho, hc, hd⟩ := id hs
  have ty : s.TypeIs (.ref sl) "slice" := ⟨o, ho, hc⟩
  unfold getItem
  try with_reducible refine wpAny_holding ?_
  first | refine wpAny_bind (wpAny_pure ?_) | skip
  refine wpAny_bind (wpAny_sequenceKey ht.typeIs (by decide) ?_)
  refine wpAny_bind (wpAny_callSpecial?_slot (name := Str.ofString "__getitem__") ht.typeIs PyProof.Rows.slot_tuple_getitem (wpAny_call_entry PyProof.Rows.slot_tuple_getitem ht.typeIs entry_tuple_getitem ?_ (args_tuple_getitem _ _)))
  show wpAny _ _ (Builtin.Tuple.tupleItemsOf (.ref t) >>= _) _ _ s
  refine wpAny_bind (PyProof.Rows.tupleItemsOf_ ht (wpAny_bind (wpAny_typeOf ty ?_)))
  rw [if_pos (by decide)]
  refine wpAny_bind ?_
  unfold Builtin.Slice.sliceApplied Builtin.Slice.sliceFields
  refine wpAny_bind (wpAny_bind (wpAny_field ho hd (x := vl) rfl (wpAny_bind (wpAny_field ho hd (x := vu) rfl (wpAny_bind (wpAny_field ho hd (x := vs) rfl (wpAny_pure ?_)))))))
  refine wpAny_bind (HT.slicePart_ ps ?_)
  show wpAny _ _ (if ((-1 : Int) == 0) = true then _ else _) _ _ s
  rw [if_neg (by decide)]
  refine wpAny_bind (HT.slicePart_ pl (wpAny_bind (HT.slicePart_ pu (wpAny_bind (wpAny_pure ?_)))))
  show wpAny _ _ (match Builtin.Slice.sliceAdjust none none (-1) (items.size : Int) with | (lo, hi) => pure (lo, (-1 : Int), Builtin.Slice.slicePlaces lo hi (-1))) _ _ s
  rw [(back_places items.size).1]
  show wpAny _ _ (pure ((items.size : Int) - 1, (-1 : Int), Builtin.Slice.slicePlaces ((items.size : Int) - 1) (-1) (-1))) _ _ s
  rw [(back_places items.size).2]
  refine wpAny_pure ?_
  show wpAny _ _ (if (((items.size : Int) - 1) == 0 && (-1 : Int) == 1 && items.size == items.size) = true then _ else _) _ _ s
  rw [if_neg (by simp), back_pick]
  first
    | exact wpAny_bind (m := Builtin.Tuple.tupleExact _) (wpAny_newObj_type (wpAny_pure ⟨_, rfl, wpAny_pure q⟩) small)
    | exact wpAny_bind (m := Builtin.Tuple.tupleExact _) (wpAny_newObj_type (wpAny_bind (wpAny_pure (wpAny_pure ⟨_, rfl, wpAny_pure q⟩))) small)
    | exact wpAny_bind (wpAny_bind (m := Builtin.Tuple.tupleExact _) (wpAny_newObj_type (wpAny_pure (wpAny_pure ⟨_, rfl, wpAny_pure q⟩)) small))
    | exact wpAny_bind (wpAny_bind (m := Builtin.Tuple.tupleExact _) (wpAny_newObj_type (wpAny_pure ⟨_, rfl, wpAny_pure q⟩) small))
end
section
variable {X : Cx} {e : Expr} {te : TE} {k : Nat} {p1 p2 p3 pos : Pos}
theorem pe_back (he : PE X e te) : PE X (.Subscript e (.Slice none none (some (.UnaryOp .USub (.Constant (.int 1) k p1) p2)) p3) pos) (fun σ H Q => te σ H fun x H1 => ∃ a xs, x = .ref a ∧ SqT X.K H1 a xs ∧ Tp H1 xs.reverse Q) := by
  refine ⟨fun pins s σ H Q I h => Subscript_ (thn (he.run pins s σ H _ I h) fun v s1 ⟨x, H1, I1, r1, a, xs, ex, hx, q⟩ => ?_)⟩
  subst ex
  cases r1
  have step : PO X (some (.UnaryOp .USub (.Constant (.int 1) k p1) p2)) (tPart (tUn (rU fun i => .int (-i)) (tC (.int 1)))) := po_some (pe_un un_neg pe_int)
  refine wpAny_Slice (thn (po_none.run pins s1 σ H1 (fun o H2 => o = none ∧ H2 = H1) I1 ⟨rfl, rfl⟩) fun vl s2 ⟨l, H2, I2, pl, el, e2⟩ => ?_)
  subst el e2
  refine thn (po_none.run pins s2 σ H2 (fun o H3 => o = none ∧ H3 = H2) I2 ⟨rfl, rfl⟩) fun vu s3 ⟨u, H3, I3, pu, eu, e3⟩ => ?_
  subst eu e3
  refine thn (step.run pins s3 σ H3 (fun o H4 => o = some (-1) ∧ H4 = H3) I3 ⟨1, rfl, -1, rfl, rfl, rfl⟩) fun vs s4 ⟨o, H4, I4, ps, eo, e4⟩ => ?_
  subst eo e4
  have I5 : Inv X pins σ H4 { s4 with heap := s4.heap.push { cls := .type "slice", data := .fields #[vl, vu, vs] } } := I4.kept (t' := s4.toks) fun b ob z => Heap.get?_push_of_some _ z
  obtain ⟨its, r, ht, hz⟩ := I5.tuple hx
  have hlen := r.length
  show wpAny (model X.prog X.w) X.A (subscriptTail e (.Slice none none (some (.UnaryOp .USub (.Constant (.int 1) k p1) p2)) p3) (.ref a) (.ref s4.heap.objs.size)) (EP X pins σ Q) X.xe { s4 with heap := s4.heap.push { cls := .type "slice", data := .fields #[vl, vu, vs] } }
  refine tail_any (ops := [.ref a, .ref s4.heap.objs.size]) ht.typeIs (PyProof.Rows.slot_tuple_getitem.lookup) ?_ (by with_unfolding_all rfl)
  refine item_back ht (Heap.IsSliceOf.new _ vl vu vs) pl pu ps ?_ (by rw [List.size_toArray]; omega)
  exact tup_laid I5 (its := its.reverse) (by simpa using r.reverse) (by rw [List.length_reverse]; exact hz) q
end
/-- t[::-1], t a tuple -/
def mBack (m : M) : M := fun env u => bnd (m env u) fun d u1 => match d with
  | .tup ds => some (.tup ds.reverse, u1)
  | _ => none
theorem Reps.reverse {K : PySem.W.Frag} {G : Gx K} {ua : Option Addr} {B : Hp} : ∀ {ds : List D} {vs : List V}, Reps G ua ds vs B → Reps G ua ds.reverse vs.reverse B
  | [], vs, h => by rw [h.of_nil]; exact .nil
  | d :: ds, vs, h => by
    obtain ⟨v, r, rfl, q, t⟩ := h.of_cons
    rw [List.reverse_cons, List.reverse_cons]
    exact (Reps.reverse t).append (.cons q .nil)
theorem dv_back {X : Cx} {G : Gx X.K} {e : Expr} {me : M} {k : Nat} {p1 p2 p3 pos : Pos} (he : PE X e (tEv G me)) : PE X (.Subscript e (.Slice none none (some (.UnaryOp .USub (.Constant (.int 1) k p1) p2)) p3) pos) (tEv G (mBack me)) :=
  (pe_back he).imp fun σ H Q h => by
    obtain ⟨ua, u, B, env, d, u', hE, hW, hm, q⟩ := h
    obtain ⟨d0, u1, h1, h2⟩ := bnd_some hm
    split at h2
    · cases h2
      refine ⟨ua, u, B, env, _, _, hE, hW, h1, fun v H1 ⟨B1, g1, w1, r1⟩ => ?_⟩
      obtain ⟨a, vs, rfl, ha, rs⟩ := r1.tup
      exact ⟨a, vs, rfl, (ha.mono w1.sub).sq, fun p o hp ho => q _ _ (.up g1 (.tup w1 hp ho rs.reverse))⟩
    · cases h2
/-! ### C(k = v) -/
def MakeK (P : Program) (w : World) {K : PySem.W.Frag} (mg : Str → Option Value) (base : Heap) (G : Gx K) (x : Str) (ks : List Str) (k : Nat) (F : List D → U → Option (D × U)) : Prop :=
  ∃ C f fd ps sp g, Mk K C f ∧ FnOk P w K mg base CX0 k f fd ps sp ∧ mg x = some (.ref C) ∧ KBn K fd ps 1 ks g (fun vs zs => vs ++ zs) ∧
    ∀ (ua : Option Addr) (u u' : U) (B H : Hp) (as : List D) (vs : List V) (d : D), as.length = ks.length → F as u = some (d, u') → Reps G ua as vs B → Wd ua u B H → ∀ (y dx : Addr), H y = none → H dx = none → dx ≠ y →
      ∀ Q : VK, (∀ H', Aft G ua B H u' d (.ref y) H' → Q (.ref y) H') → sp (.ref y :: vs) (upd (upd H dx (.own y)) y (.ins C dx [])) (fun v H2 => v = .non ∧ Q (.ref y) H2) E0
theorem MakeK.mono {P : Program} {w : World} {K : PySem.W.Frag} {mg : Str → Option Value} {base : Heap} {G : Gx K} {x : Str} {ks : List Str} {j k : Nat} {F : List D → U → Option (D × U)} (h : MakeK P w mg base G x ks j F) (l : j ≤ k) : MakeK P w mg base G x ks k F := by
  obtain ⟨C, f, fd, ps, sp, g, h1, h2, h3⟩ := h
  exact ⟨C, f, fd, ps, sp, g, h1, h2.mono l, h3⟩
theorem dv_makeK {X : Cx} {G : Gx X.K} {kws : List Keyword} {ms : Ms} {p pos : Pos} {x : Str} {ks : List Str} {k n : Nat} {F : List D → U → Option (D × U)} (D0 : MakeK X.prog X.w X.mg X.base G x ks k F) (hr : Room (k + 1) X.A) (hg : Gl X x) (hn : ks.length = n) (ha : PK X kws (tEvs G ms))
    (hall : (backToKw pos (keywordEach kws X.env)).all (·.1.isSome) = true := by rfl) (hks : (backToKw pos (keywordEach kws X.env)).filterMap (·.1) = ks := by rfl) (hdb : (x == ("__debug__" : Str)) = false := by decide)
    (hpl : ((backTo pos (starEach [] X.env)).any (·.1) || (backToKw pos (keywordEach kws X.env)).any (·.1.isNone)) = false := by rfl) : PE X (.Call (.Name x p) [] kws pos) (tEv G (mCall n F ms)) := by
  subst hn
  obtain ⟨C, f, fd, ps, sp, g, hM, hf, hm, hb, hsp⟩ := D0
  refine (pe_makeK0 hM hf hr hg hm hb pass0 ha hall hks hdb hpl).imp fun σ H Q h => ?_
  obtain ⟨ua, u, B, env, d, u', hE, hW, hm2, q⟩ := h
  obtain ⟨ds, u1, h1, h2⟩ := bnd_some hm2
  split at h2
  · rename_i hl
    refine ⟨ua, u, B, env, ds, u1, hE, hW, h1, fun vs H1 ⟨B1, g1, w1, r1⟩ => ⟨rfl, by rw [← r1.len]; exact hl, fun y dx hy hdx hne => ?_⟩⟩
    exact hsp ua u1 u' B1 H1 ds vs d hl h2 r1 w1 y dx hy hdx hne Q fun H' a => q _ _ (.up g1 a)
  · cases h2
end Dv

/-! Jk: a list of lists is handed to C(..), then changed, and not read again. -/
namespace Dv
open PySem PySem.Spec PyProof.Rows L2
mutual
/-- without lists -/
def noLst : D → Bool
  | .lst _ => false
  | .tup ds => noLsts ds
  | .pr ds => noLsts ds
  | .ins _ _ ds => noLsts ds
  | .exc _ _ ds => noLsts ds
  | .dct _ ds => noLsts ds
  | _ => true
def noLsts : List D → Bool
  | [] => true
  | d :: ds => noLst d && noLsts ds
end
section
variable {K : PySem.W.Frag} {G : Gx K} {ua : Option Addr} {B B' : Hp}
mutual
theorem Rep.trim (s : ∀ a o, B a = some o → (∀ xs, o ≠ .lst xs) → B' a = some o) : ∀ (d : D) (v : V), noLst d = true → Rep G ua d v B → Rep G ua d v B'
  | .non, v, _, h => by unfold Rep at h ⊢; exact h
  | .bl _, v, _, h => by unfold Rep at h ⊢; exact h
  | .int _, v, _, h => by unfold Rep at h ⊢; exact h
  | .str _, v, _, h => by unfold Rep at h ⊢; exact h
  | .lst _, v, e, h => by cases e
  | .tup ds, v, e, h => by
    unfold Rep at h ⊢
    obtain ⟨a, vs, h1, ⟨o, h2, h3⟩, r⟩ := h
    exact ⟨a, vs, h1, ⟨o, h2, s _ _ h3 (fun _ z => by cases z)⟩, Reps.trim s ds vs e r⟩
  | .pr ds, v, e, h => by
    unfold Rep at h ⊢
    obtain ⟨a, vs, h1, h3, r⟩ := h
    exact ⟨a, vs, h1, s _ _ h3 (fun _ z => by cases z), Reps.trim s ds vs e r⟩
  | .ins c ns ds, v, e, h => by
    unfold Rep at h ⊢
    obtain ⟨a, C, dx, vs, h1, c1, h3, l, r⟩ := h
    exact ⟨a, C, dx, vs, h1, c1, s _ _ h3 (fun _ z => by cases z), l, Reps.trim s ds vs e r⟩
  | .fn x, v, e, h => by unfold Rep at h ⊢; exact h
  | .dct ks ds, v, e, h => by
    unfold Rep at h ⊢
    obtain ⟨a, vs, h1, h3, l, r⟩ := h
    refine ⟨a, vs, h1, ?_, l, Reps.trim s ds vs e r⟩
    obtain ⟨o, h3⟩ := h3
    exact ⟨o, s _ _ h3 (fun _ z => by cases z)⟩
  | .exc c ns ds, v, e, h => by
    unfold Rep at h ⊢
    obtain ⟨a, C, d, vs, h1, c1, h3, ⟨l, l2⟩, r⟩ := h
    refine ⟨a, C, d, vs, h1, c1, s _ _ h3 (fun _ z => by have z' : HO.ext _ = HO.lst _ := z; cases z'), ⟨l, ?_⟩, Reps.trim s ds vs e r⟩
    rcases l2 with l2 | ⟨dd, l2, l3⟩
    · exact .inl l2
    · exact .inr ⟨dd, l2, s _ _ l3 (fun _ z => by cases z)⟩
  | .urn, v, _, h => by unfold Rep at h ⊢; exact h
theorem Reps.trim (s : ∀ a o, B a = some o → (∀ xs, o ≠ .lst xs) → B' a = some o) : ∀ (ds : List D) (vs : List V), noLsts ds = true → Reps G ua ds vs B → Reps G ua ds vs B'
  | [], vs, _, h => by unfold Reps at h ⊢; exact h
  | d :: ds, vs, e, h => by
    unfold noLsts at e
    rw [Bool.and_eq_true] at e
    unfold Reps at h ⊢
    obtain ⟨v, r, h1, q, t⟩ := h
    exact ⟨v, r, h1, Rep.trim s d v e.1 q, Reps.trim s ds r e.2 t⟩
end
end
def isNo : Sl → Bool
  | .no => true
  | _ => false
section
variable {X : Cx} {G : Gx X.K} {W : WX} {rest : List Stmt} {m : MS} {x y z : Str} {a1 a2 a3 a4 b1 b2 b3 b4 c1 c2 t0 : Str} {k1 k2 k3 k4 j1 j2 j3 j4 m1 m2 m3 : Nat} {p1 p2 p3 p4 p5 p6 p7 p8 : Pos}
def row2 (a b : Str) : D := .lst [.str a, .str b]
/-- x = four lists; y = C(x); then x is changed -/
def sJunk (F : List D → U → Option (D × U)) (a1 b1 a2 b2 a3 b3 a4 b4 : Str) (m : MS) : MS := fun env u => if env.all isNo = true ∧ 2 ≤ env.length then (match F [.lst [row2 a1 b1, row2 a2 b2, row2 a3 b3, row2 a4 b4]] u with
  | some (d, u1) => if noLst d = true then m (env.set 1 (.pub d)) u1 else none
  | none => none) else none
theorem env_no {K : PySem.W.Frag} {G : Gx K} {ua : Option Addr} {env : List Sl} {σ : L2.St} {B B' H H' : Hp} (h : env.all isNo = true) (e : EnvOk G ua env σ B H) (τ : L2.St) (hl : τ.length = σ.length) : EnvOk G ua env τ B' H' := by
  have no : ∀ (i : Nat) s, env[i]? = some s → s = .no := fun i s hi => by
    have := List.all_eq_true.mp h s (List.mem_of_getElem? hi)
    cases s with
    | no => rfl
    | pub d => cases this
    | own ds => cases this
  exact ⟨e.len.trans hl.symm, fun i d hi => (by have z := no i _ hi; cases z), fun i d hi => (by have z := no i _ hi; cases z), fun i j d e p hi => (by have z := no i _ hi; cases z)⟩
theorem junk_few {K : PySem.W.Frag} {G : Gx K} {W : WX} {m : MS} {F : List D → U → Option (D × U)} {Dn : Ends} {σ : L2.St} {H : Hp} (h : tSt G W (sJunk F a1 b1 a2 b2 a3 b3 a4 b4 m) Dn σ H) : 2 ≤ σ.length := by
  obtain ⟨ua, u, B, env, fl, u', B0, H0, hg, hO, hE, hW, hm, q⟩ := h
  unfold sJunk at hm
  split at hm
  · rename_i hno
    rw [← hE.len]; exact hno.2
  · cases hm
theorem env_blank {K : PySem.W.Frag} {G : Gx K} {ua : Option Addr} {τ : L2.St} {B H : Hp} : EnvOk G ua (List.replicate τ.length Sl.no) τ B H := by
  have no : ∀ (i : Nat) s, (List.replicate τ.length Sl.no)[i]? = some s → s = .no := fun i s hi => by
    rw [List.getElem?_replicate] at hi
    split at hi
    · exact (Option.some.inj hi).symm
    · cases hi
  exact ⟨List.length_replicate, fun i d hi => (by have z := no i _ hi; cases z), fun i d hi => (by have z := no i _ hi; cases z), fun i j d e p hi => (by have z := no i _ hi; cases z)⟩
theorem junk_read {K : PySem.W.Frag} {G : Gx K} {W : WX} {m : MS} {F : List D → U → Option (D × U)} {Dn : Ends} {σ : L2.St} {H : Hp} (h : tSt G W (sJunk F a1 b1 a2 b2 a3 b3 a4 b4 m) Dn σ H) (q1 q2 q3 q4 p : Addr)
    (h1 : H q1 = none) (h2 : upd H q1 (.lst [.str a1, .str b1]) q2 = none) (h3 : upd (upd H q1 (.lst [.str a1, .str b1])) q2 (.lst [.str a2, .str b2]) q3 = none)
    (h4 : upd (upd (upd H q1 (.lst [.str a1, .str b1])) q2 (.lst [.str a2, .str b2])) q3 (.lst [.str a3, .str b3]) q4 = none)
    (h5 : upd (upd (upd (upd H q1 (.lst [.str a1, .str b1])) q2 (.lst [.str a2, .str b2])) q3 (.lst [.str a3, .str b3])) q4 (.lst [.str a4, .str b4]) p = none) :
    ∃ ua u B H1 d u1, H1 = upd (upd (upd (upd (upd H q1 (.lst [.str a1, .str b1])) q2 (.lst [.str a2, .str b2])) q3 (.lst [.str a3, .str b3])) q4 (.lst [.str a4, .str b4])) p (.lst [.ref q1, .ref q2, .ref q3, .ref q4]) ∧
      Wd ua u B H1 ∧ Rep G ua (.lst [row2 a1 b1, row2 a2 b2, row2 a3 b3, row2 a4 b4]) (.ref p) B ∧ B p = some (.lst [.ref q1, .ref q2, .ref q3, .ref q4]) ∧ B q1 = some (.lst [.str a1, .str b1]) ∧ p ≠ q1 ∧ F [.lst [row2 a1 b1, row2 a2 b2, row2 a3 b3, row2 a4 b4]] u = some (d, u1) ∧
      ∀ v B2 H2, Grow ua B H1 B2 H2 → Wd ua u1 B2 H2 → Rep G ua d v B2 → ∀ (r : Addr) (o1 o2 o3 : HO), H2 r = none → ∀ τ : L2.St, τ.length = σ.length → τ[1]? = some (some v) → tSt G W m Dn τ (upd (upd (upd H2 r o1) p o2) q1 o3) := by
  obtain ⟨ua, u, B, env, fl, u', B0, H0, hg, hO, hE, hW, hm, q⟩ := h
  unfold sJunk at hm
  split at hm
  · rename_i hno2
    obtain ⟨hno, few⟩ := hno2
    split at hm
    · rename_i d u1 hF
      split at hm
      · rename_i hnl
        have n1 : q1 ≠ q2 := fun e => by rw [← e, upd_same] at h2; cases h2
        have n2 : q1 ≠ p := fun e => by
          rw [← e] at h5
          by_cases e4 : q1 = q4
          · rw [e4, upd_same] at h5; cases h5
          rw [upd_ne e4] at h5
          by_cases e3 : q1 = q3
          · rw [e3, upd_same] at h5; cases h5
          rw [upd_ne e3, upd_ne n1, upd_same] at h5; cases h5
        have nH : H p = none := by
          by_cases e4 : p = q4
          · rw [e4, upd_same] at h5; cases h5
          rw [upd_ne e4] at h5
          by_cases e3 : p = q3
          · rw [e3, upd_same] at h5; cases h5
          rw [upd_ne e3] at h5
          by_cases e2 : p = q2
          · rw [e2, upd_same] at h5; cases h5
          rw [upd_ne e2, upd_ne (Ne.symm n2)] at h5
          exact h5
        have w1 := hW.new1 (o := .lst [.str a1, .str b1]) h1
        have w2 := w1.new1 (o := .lst [.str a2, .str b2]) h2
        have w3 := w2.new1 (o := .lst [.str a3, .str b3]) h3
        have w4 := w3.new1 (o := .lst [.str a4, .str b4]) h4
        have w5 := w4.new1 (o := .lst [.ref q1, .ref q2, .ref q3, .ref q4]) h5
        have g1 := Grow.new1 (o := .lst [.str a1, .str b1]) hW h1
        have g2 := Grow.new1 (o := .lst [.str a2, .str b2]) w1 h2
        have g3 := Grow.new1 (o := .lst [.str a3, .str b3]) w2 h3
        have g4 := Grow.new1 (o := .lst [.str a4, .str b4]) w3 h4
        have g5 := Grow.new1 (o := .lst [.ref q1, .ref q2, .ref q3, .ref q4]) w4 h5
        have gg := g1.trans (g2.trans (g3.trans (g4.trans g5)))
        have two : ∀ (a b : Str) (q : Addr) (B : Hp), B q = some (.lst [.str a, .str b]) → Rep G ua (row2 a b) (.ref q) B := fun a b q B hB => by
          unfold row2 Rep
          exact ⟨q, _, rfl, hB, .cons rep_str (.cons rep_str .nil)⟩
        have s5 := g5.pub
        have s4 := g4.pub
        have s3 := g3.pub
        have s2 := g2.pub
        have rp : ∀ B', Same _ B' → Rep G ua (.lst [row2 a1 b1, row2 a2 b2, row2 a3 b3, row2 a4 b4]) (.ref p) B' := fun B' s => by
          unfold Rep
          refine ⟨p, _, rfl, s _ _ upd_same, .cons (two _ _ _ _ (s _ _ (s5 _ _ (s4 _ _ (s3 _ _ (s2 _ _ upd_same)))))) (.cons (two _ _ _ _ (s _ _ (s5 _ _ (s4 _ _ (s3 _ _ upd_same))))) (.cons (two _ _ _ _ (s _ _ (s5 _ _ (s4 _ _ upd_same)))) (.cons (two _ _ _ _ (s _ _ (s5 _ _ upd_same))) .nil)))⟩
        refine ⟨ua, u, _, _, d, u1, rfl, w5, rp _ fun _ _ z => z, upd_same, s5 _ _ (s4 _ _ (s3 _ _ (s2 _ _ upd_same))), Ne.symm n2, hF, fun v B2 H2 g w r2 r o1 o2 o3 hr τ hτ hv => ?_⟩
        have gt := hg.trans (gg.trans g)
        let B3 : Hp := fun a => if a = p ∨ a = q1 then none else B2 a
        have b3 : ∀ {a : Addr} {o : HO}, B3 a = some o → a ≠ p ∧ a ≠ q1 ∧ B2 a = some o := fun {a o} e => by
          dsimp only [B3] at e
          split at e
          · cases e
          · rename_i hn
            exact ⟨fun z => hn (.inl z), fun z => hn (.inr z), e⟩
        have b3' : ∀ {a : Addr}, a ≠ p → a ≠ q1 → B3 a = B2 a := fun {a} e1 e2 => if_neg (fun z => z.elim e1 e2)
        have pB : B2 p = some (.lst [.ref q1, .ref q2, .ref q3, .ref q4]) := g.pub _ _ upd_same
        have qB : B2 q1 = some (.lst [.str a1, .str b1]) := g.pub _ _ (s5 _ _ (s4 _ _ (s3 _ _ (s2 _ _ upd_same))))
        have H3 : ∀ {a : Addr}, a ≠ p → a ≠ q1 → a ≠ r → upd (upd (upd H2 r o1) p o2) q1 o3 a = H2 a := fun e1 e2 e3 => by rw [upd_ne e2, upd_ne e1, upd_ne e3]
        have live : ∀ {a : Addr}, H a = none → H0 a = none := fun e => hg.live _ e
        have wd : Wd ua u1 B3 (upd (upd (upd H2 r o1) p o2) q1 o3) := by
          refine ⟨fun a o e => ?_, fun a e => ?_⟩
          · obtain ⟨e1, e2, e3⟩ := b3 e
            have z := w.sub _ _ e3
            rw [H3 e1 e2 (fun e => by rw [e, hr] at z; cases z)]
            exact z
          · obtain ⟨z1, z2⟩ := w.urn a e
            have e1 : a ≠ p := fun e => by rw [e, pB] at z1; cases z1
            have e2 : a ≠ q1 := fun e => by rw [e, qB] at z1; cases z1
            refine ⟨by rw [b3' e1 e2]; exact z1, ?_⟩
            rw [H3 e1 e2 (fun e => by rw [e, hr] at z2; cases z2)]
            exact z2
        have grow : Grow ua B0 H0 B3 (upd (upd (upd H2 r o1) p o2) q1 o3) := by
          refine ⟨fun a o e hu => ?_, fun a e => ?_, fun a o e => ?_, fun a o e => ?_⟩
          · have z := gt.keep a o e hu
            have z0 := hg.keep a o e hu
            rw [H3 (fun e => by rw [e, nH] at z0; cases z0) (fun e => by rw [e, h1] at z0; cases z0) (fun e => by rw [e, hr] at z; cases z)]
            exact z
          · by_cases e1 : a = p
            · rw [e1]; exact live nH
            by_cases e2 : a = q1
            · rw [e2]; exact live h1
            by_cases e3 : a = r
            · rw [e3]; exact gt.live _ hr
            rw [H3 e1 e2 e3] at e
            exact gt.live _ e
          · have z := hW.sub _ _ (hg.pub _ _ e)
            rw [b3' (fun e => by rw [e, nH] at z; cases z) (fun e => by rw [e, h1] at z; cases z)]
            exact gt.pub _ _ e
          · exact gt.new _ _ (b3 e).2.2
        have e3 : EnvOk G ua env τ B3 (upd (upd (upd H2 r o1) p o2) q1 o3) := env_no hno hE τ hτ
        have rv : Rep G ua d v B3 := Rep.trim (fun a o e no => by rw [b3' (fun z => by rw [z, pB] at e; cases e; exact no _ rfl) (fun z => by rw [z, qB] at e; cases e; exact no _ rfl)]; exact e) d v hnl r2
        have es := e3.set rv 1
        have same : τ.set 1 (some v) = τ := set_same hv
        rw [same] at es
        refine ⟨ua, u1, B3, env.set 1 (.pub d), fl, u', B0, H0, grow, fun i ds p' z1 z2 => ?_, es, wd, hm, q⟩
        rcases get_set z1 with ⟨_, z⟩ | ⟨_, z1⟩
        · cases z
        · have := List.all_eq_true.mp hno _ (List.mem_of_getElem? z1)
          cases this
      · cases hm
    · cases hm
  · cases hm
end
end Dv

/-! Tq: removeprefix, startswith, split, text * int; C.m(..) of a static method; + and >> by the class's own defs. -/
namespace Dv
open PySem PySem.Spec PyProof.Rows L2
section
variable {X : Cx} {G : Gx X.K} {a b : Expr} {ma mb : M} {pos apos : Pos}
theorem dv_s1 {name : Str} {id : String} {r : V → List V → Hp → VK → Prop} {f : D → D → Option D} (slot : PySem.Slot "str" name id) (ty : typeOf (.builtin id) = pure (.type "method_descriptor")) (rule : MtR X id r)
    (h0 : ∀ x y d, f x y = some d → ∃ s t, x = .str s ∧ y = .str t) (h1 : ∀ (ua : Option Addr) (u : U) (B H : Hp) (s t : Str) (d : D) (Q : VK), f (.str s) (.str t) = some d → Wd ua u B H → (∀ v H', Aft G ua B H u d v H' → Q v H') → r (.str s) [.str t] H Q)
    (ha : PE X a (tEv G ma)) (hb : PE X b (tEv G mb)) (hs : starEach [b] X.env = [(false, eval b X.env)] := by rfl) (hbase : attributeBase a name X.env (eval a X.env) = eval a X.env := by rfl) (hline : (apos.endLine == pos.line) = true := by rfl) :
    PE X (.Call (.Attribute a name apos) [b] [] pos) (tEv G (mBin f ma mb)) := by
  refine (pe_m1 slot ty rule ha hb hs hbase hline).imp fun σ H Q h => ?_
  obtain ⟨ua, u, B, env, d, u', hE, hW, hm, q⟩ := h
  obtain ⟨x, u1, e1, e2⟩ := bnd_some hm
  obtain ⟨y, u2, e4, e3⟩ := bnd_some e2
  obtain ⟨l3, rfl⟩ := lft_some e3
  refine ⟨ua, u, B, env, x, u1, hE, hW, e1, fun v H1 ⟨B1, g1, w1, r1⟩ => ?_⟩
  obtain ⟨s, t, rfl, rfl⟩ := h0 _ _ _ l3
  cases r1.str
  refine ⟨⟨_, rfl⟩, ua, u1, B1, env, _, u', hE.grow g1, w1, e4, fun v2 H2 ⟨B2, g2, w2, r2⟩ => ?_⟩
  cases r2.str
  exact h1 ua u' B2 H2 s t d Q l3 w2 fun v3 H3 a3 => q _ _ (.up (g1.trans g2) a3)
def rmpD : D → D → Option D
  | .str a, .str b => if a.length ≤ sizeLine then some (.str (Txt.removeprefix a b)) else none
  | _, _ => none
def stwD : D → D → Option D
  | .str a, .str b => some (.bl (Txt.startswith a b))
  | _, _ => none
def splD : D → D → Option D
  | .str a, .str b => if (b.length == 0) = false ∧ a.length + 2 ≤ sizeLine then some (.lst ((Txt.split a b).map .str)) else none
  | _, _ => none
theorem rmp_str {x y d : D} (h : rmpD x y = some d) : ∃ s t, x = .str s ∧ y = .str t := by
  unfold rmpD at h
  split at h
  · exact ⟨_, _, rfl, rfl⟩
  · cases h
theorem stw_str {x y d : D} (h : stwD x y = some d) : ∃ s t, x = .str s ∧ y = .str t := by
  unfold stwD at h
  split at h
  · exact ⟨_, _, rfl, rfl⟩
  · cases h
theorem spl_str {x y d : D} (h : splD x y = some d) : ∃ s t, x = .str s ∧ y = .str t := by
  unfold splD at h
  split at h
  · exact ⟨_, _, rfl, rfl⟩
  · cases h
theorem dv_rmp (ha : PE X a (tEv G ma)) (hb : PE X b (tEv G mb)) (hs : starEach [b] X.env = [(false, eval b X.env)] := by rfl) (hbase : attributeBase a "removeprefix" X.env (eval a X.env) = eval a X.env := by rfl) (hline : (apos.endLine == pos.line) = true := by rfl) :
    PE X (.Call (.Attribute a "removeprefix" apos) [b] [] pos) (tEv G (mBin rmpD ma mb)) :=
  dv_s1 PySem.F.slot_str_removeprefix PySem.F.type_str_removeprefix mt_removeprefix (fun _ _ _ h => rmp_str h) (fun ua u B H s t d Q h w q => by
    simp only [rmpD] at h
    split at h
    · cases h; exact ⟨s, t, rfl, rfl, ‹_›, q _ _ (.here w rep_str)⟩
    · cases h) ha hb hs hbase hline
theorem dv_stw (ha : PE X a (tEv G ma)) (hb : PE X b (tEv G mb)) (hs : starEach [b] X.env = [(false, eval b X.env)] := by rfl) (hbase : attributeBase a "startswith" X.env (eval a X.env) = eval a X.env := by rfl) (hline : (apos.endLine == pos.line) = true := by rfl) :
    PE X (.Call (.Attribute a "startswith" apos) [b] [] pos) (tEv G (mBin stwD ma mb)) :=
  dv_s1 PySem.F.slot_str_startswith PySem.F.type_str_startswith mt_startswith (fun _ _ _ h => stw_str h) (fun ua u B H s t d Q h w q => by
    simp only [stwD] at h
    cases h; exact ⟨s, t, rfl, rfl, q _ _ (.here w rep_bl)⟩) ha hb hs hbase hline
theorem dv_split (ha : PE X a (tEv G ma)) (hb : PE X b (tEv G mb)) (hs : starEach [b] X.env = [(false, eval b X.env)] := by rfl) (hbase : attributeBase a "split" X.env (eval a X.env) = eval a X.env := by rfl) (hline : (apos.endLine == pos.line) = true := by rfl) :
    PE X (.Call (.Attribute a "split" apos) [b] [] pos) (tEv G (mBin splD ma mb)) :=
  dv_s1 PySem.F.slot_str_split PySem.F.type_str_split mt_split (fun _ _ _ h => spl_str h) (fun ua u B H s t d Q h w q => by
    simp only [splD] at h
    split at h
    · rename_i hh
      cases h; exact ⟨s, t, rfl, rfl, hh.1, hh.2, fun p hp => q _ _ (.lst w hp .strs)⟩
    · cases h) ha hb hs hbase hline
/-! ### text * int -/
def mulS (x : Str) (n : Nat) : Str := ⟨(List.replicate n x.cps).foldl (· ++ ·) #[]⟩
def fMulS : D → D → Option D
  | .str x, .int n => if 2 ≤ n ∧ n ≤ 1000 ∧ 1 ≤ x.length ∧ x.length ≤ 1000 then some (.str (mulS x n.toNat)) else none
  | _, _ => none
def rMulS : R2 := fun x y H Q => ∃ (s : Str) (n : Int), x = .str s ∧ y = .int n ∧ (2 ≤ n ∧ n ≤ 1000 ∧ 1 ≤ s.length ∧ s.length ≤ 1000) ∧ Q (.str (mulS s n.toNat)) H
theorem rep_size (xs : Array Nat) : ∀ (n : Nat) (acc : Array Nat), ((List.replicate n xs).foldl (· ++ ·) acc).size = acc.size + n * xs.size
  | 0, acc => by simp
  | n + 1, acc => by
    rw [List.replicate_succ, List.foldl_cons, rep_size xs n, Array.size_append, Nat.succ_mul]
    omega
theorem mulS_len (x : Str) (n : Nat) : (mulS x n).length = n * x.length := by
  show ((List.replicate n x.cps).foldl (· ++ ·) #[]).size = n * x.cps.size
  rw [rep_size]
  simp
theorem op_mulS : OpR X (binaryOp .Mult) rMulS := by
  intro pins s σ H x y v u Q I rx ry h
  obtain ⟨st, n, rfl, rfl, ⟨h1, h2, h3, h4⟩, q⟩ := h
  obtain ⟨t, rfl⟩ := rx
  obtain ⟨t2, rfl⟩ := ry
  have hle : st.length * n.toNat ≤ 1000 * 1000 := Nat.mul_le_mul h4 (by omega)
  have e1 : (n == 1 || st.length == 0) = false := by
    rw [Bool.or_eq_false_iff]
    exact ⟨beq_eq_false_iff_ne.mpr (by omega), beq_eq_false_iff_ne.mpr (by omega)⟩
  refine PySem.P.mul_str ?_ (fun _ _ => ?_) (fun _ _ => ?_) ?_
  · rw [decide_eq_false (by omega), decide_eq_false (by omega)]; rfl
  · have : (st.length : Int) ≤ 1000 := by omega
    have h5 : (1000 : Int) ≤ (2 ^ 63 - 1) / n := by
      rw [Int.le_ediv_iff_mul_le (by omega)]
      omega
    omega
  · exact decide_eq_false (by have : sizeLine = 16777216 := rfl; omega)
  · rw [if_neg (by omega), e1, if_neg Bool.false_ne_true]
    have hz := mulS_len st n.toNat
    rw [Nat.mul_comm] at hz
    have hs : sizeLine = 16777216 := rfl
    exact ⟨by show (mulS st n.toNat).length ≤ _; omega, ⟨V.str (mulS st n.toNat), H, I.tok _, ⟨_, rfl⟩, q⟩⟩
theorem ok_mulS : BinOk G (binaryOp .Mult) fMulS := by
  intro ua u B H da db d va vb e ra rb w
  unfold fMulS at e
  split at e
  · split at e
    · cases e; cases ra.str; cases rb.int
      exact ⟨_, op_mulS, _, _, rfl, rfl, ‹_›, .here w rep_str⟩
    · cases e
  · cases e
end
end Dv

/-! Ts: C.m(..) of a static method; + and >> by the class's own defs. -/
namespace PySem.W
open PySem PySem.Calls PyProof.Rows Builtin
section
variable {prog : Program} {w : World} {A : Around} {E : Value → Shared → Prop} {s : Shared} {K : Frag} {x C L f : Addr} {h₀ : Heap} {m : Str → Option Value} {ox : Obj} {od : Option Obj}
/-- x op b, b of a built-in type that has no such operator -/
theorem binop_KB {op : Operator} {b : Value} {T : String} {Q : Value → Shared → Prop} (F : Fr h₀ L s.heap m) (X₀ : K.In h₀) (I : InstAt s.heap x ox C od) (hb : Looks (model prog w) s.heap (typeOf b) (.type T)) (hn : fillsNumberSlot (.type T) op.info.2 = pure false) (hc : selfFirst K C = true)
    (hs : findIn K (.ref C) (PySem.dunder op.info.2) = some (some (.ref f))) (hf : isFn K (.ref f) = true)
    (h : wpAny (model prog w) A (call (.ref f) [.ref x, b]) (CmpBack Q) E s) : wpAny (model prog w) A (binaryOp op (.ref x) b) Q E s := by
  have X := X₀.keeps F.keep
  obtain ⟨cd, hcd, hm⟩ := any_some hc
  obtain ⟨rest, hm⟩ : ∃ rest, cd.mro = .ref C :: rest := by
    cases q : cd.mro with
    | nil => rw [q] at hm; cases hm
    | cons a r => rw [q] at hm; exact ⟨r, by rw [List.head?_cons] at hm; cases (beq_iff_eq.mp hm); rfl⟩
  unfold binaryOp
  refine wpAny_holding (wpAny_bind ?_)
  unfold binaryOp1
  refine wpAny_bind (I.type.here (wpAny_bind (hb.here (wpAny_bind ((fills_K X hcd hm hs).here ?_)))))
  have ne : (Value.ref C == Value.type T) = false := rfl
  rw [ne, if_neg Bool.false_ne_true]
  refine wpAny_bind (wpAny_of_eq hn ?_)
  simp only [Bool.and_false, Bool.false_eq_true, if_false, Bool.false_and]
  refine wpAny_bind (wpAny_pure ?_)
  simp only [Bool.false_eq_true, if_false]
  refine wpAny_bind (m := tryMethod (.ref x) _ b) ?_
  unfold tryMethod
  refine wpAny_bind (special_fn X I hs (beq_iff_eq.mp hf) (wpAny_mono h (fun v s' hv => ?_) fun _ _ e => e))
  cases v <;> first | exact hv.elim | exact wpAny_pure (wpAny_pure (wpAny_pure hv))
end
theorem noFill_tup_rshift : fillsNumberSlot (.type "tuple") "rshift" = pure false := by
  have a : typeLookup (.type "tuple") (PySem.dunder "rshift") = pure none := by rw [typeLookup_type, builtinLookup_eq_fast]; kernel_rfl
  have b : typeLookup (.type "tuple") (dunderR "rshift") = pure none := by rw [typeLookup_type, builtinLookup_eq_fast]; kernel_rfl
  simp only [fillsNumberSlot, a, b, pure_bind, Option.isSome_none, Bool.false_and, Bool.or_self]
theorem noFill_list_rshift : fillsNumberSlot (.type "list") "rshift" = pure false := by
  have a : typeLookup (.type "list") (PySem.dunder "rshift") = pure none := by rw [typeLookup_type, builtinLookup_eq_fast]; kernel_rfl
  have b : typeLookup (.type "list") (dunderR "rshift") = pure none := by rw [typeLookup_type, builtinLookup_eq_fast]; kernel_rfl
  simp only [fillsNumberSlot, a, b, pure_bind, Option.isSome_none, Bool.false_and, Bool.or_self]
end PySem.W
namespace Dv
open PySem PySem.Spec PyProof.Rows L2
section
variable {X : Cx} {G : Gx X.K} {a b e : Expr} {es : List Expr} {ma mb : M} {ms : Ms} {pos apos p1 : Pos}
theorem cmpBack_of {Q : Value → Shared → Prop} {v : V} {u : Value} {s : Shared} (r : RelV v u) (h : Q u s) : PySem.W.CmpBack Q u s := by
  unfold PySem.W.CmpBack
  cases u <;> first | exact h | (cases v <;> first | (rcases r with ⟨_, ⟨⟩⟩; done) | (cases r; done))
/-- C1 + C2, both of the class c -/
def adO (c : Str) (F : List D → U → Option (D × U)) (f : D → D → Option D) (x y : D) (u : U) : Option (D × U) := match x, y with
  | .ins c' ns xs, .ins c2 ns2 xs2 => if c' = c ∧ c2 = c then F [.ins c' ns xs, .ins c2 ns2 xs2] u else none
  | x, y => lft (f x y) u
/-- C1 >> row -/
def shO (c : Str) (F : List D → U → Option (D × U)) (x y : D) (u : U) : Option (D × U) := match x, y with
  | .ins c' ns xs, .tup ys => if c' = c then F [.ins c' ns xs, .tup ys] u else none
  | .ins c' ns xs, .lst ys => if c' = c then F [.ins c' ns xs, .lst ys] u else none
  | _, _ => none
def SelfF {K : PySem.W.Frag} (G : Gx K) (c : Str) : Prop := ∀ C, G.cls c = some C → PySem.W.selfFirst K C = true
theorem ok_addU {c : Str} {k : Nat} {F : List D → U → Option (D × U)} (h0 : SpcOk X.prog X.w X.mg X.base G c ("__add__" : Str) k 2 F) (hsf : SelfF G c) (hr : Room k X.A) {f : D → D → Option D} (hf : BinOk G (binaryOp .Add) f) : BinUOk G (binaryOp .Add) (adO c F f) := by
  intro ua u u' B H da db d va vb e ra rb w
  unfold adO at e
  split at e
  · rename_i c' ns xs c2 ns2 xs2
    split at e
    · rename_i hc
      obtain ⟨rfl, rfl⟩ := hc
      obtain ⟨C, f0, fd, ps, hC, hs, hfn, hfi, hfo, hb⟩ := h0
      have ra0 := ra
      have rb0 := rb
      unfold Rep at ra rb
      obtain ⟨y, C', dx, vs, rfl, hC', hB, hl, rs⟩ := ra
      obtain ⟨y2, C2, dx2, vs2, rfl, hC2, hB2, hl2, rs2⟩ := rb
      rw [hC] at hC' hC2
      cases hC'
      cases hC2
      refine ⟨fun x y' H2 Q => x = V.ref y ∧ y' = V.ref y2 ∧ H2 = H ∧ ∀ v H', Aft G ua B H u' d v H' → Q v H', ?_, rfl, rfl, rfl, fun _ _ z => z⟩
      intro pins s σ H2 x y' v u2 Q I rx ry hq
      obtain ⟨rfl, rfl, rfl, q⟩ := hq
      cases rx
      cases ry
      obtain ⟨mA, J, _⟩ := ins_get I.hok (w.sub _ _ hB)
      obtain ⟨od, J, _⟩ := J.look
      obtain ⟨mA2, J2, _⟩ := ins_get I.hok (w.sub _ _ hB2)
      obtain ⟨od2, J2, _⟩ := J2.look
      obtain ⟨m, hF⟩ := I.fr
      refine PySem.W.binop_K (op := .Add) hF I.ok.mod.kin J J2.type (hsf _ hC) hs hfn ?_
      refine wpAny_mono (call_fnA hfo hb hr rfl I (.cons (show RelV (V.ref y) (Value.ref y) from rfl) (.cons (show RelV (V.ref y2) (Value.ref y2) from rfl) .nil)) ⟨ua, u, B, _, _, u', .cons ra0 (.cons rb0 .nil), rfl, w, e, fun v H' a => a⟩) (fun r s' hv => ?_) fun _ _ z => z
      obtain ⟨z, H', I', rz, a⟩ := hv
      exact cmpBack_of rz ⟨z, H', I', rz, q _ _ a⟩
    · cases e
  · obtain ⟨e2, rfl⟩ := lft_some e
    exact hf ua _ B H _ db d va vb e2 ra rb w
theorem ok_shrU {c : Str} {k : Nat} {F : List D → U → Option (D × U)} (h0 : SpcOk X.prog X.w X.mg X.base G c ("__rshift__" : Str) k 2 F) (hsf : SelfF G c) (hr : Room k X.A) : BinUOk G (binaryOp .RShift) (shO c F) := by
  intro ua u u' B H da db d va vb e ra rb w
  have main : ∀ (c' : Str) (ns : List Str) (xs : List D) (T : String), da = .ins c' ns xs → c' = c → F [.ins c' ns xs, db] u = some (d, u') → fillsNumberSlot (.type T) (Operator.RShift).info.2 = pure false →
      (∀ {pins : List (Addr × Obj)} {s : Shared} {σ : L2.St} {u2 : Value}, Inv X pins σ H s → RelV vb u2 → PySem.W.Looks (model X.prog X.w) s.heap (typeOf u2) (.type T)) → ∃ r : R2, OpR X (binaryOp .RShift) r ∧ r va vb H (Aft G ua B H u' d) := by
    intro c' ns xs T e0 hc e9 hn hty
    subst e0 hc
    obtain ⟨C, f0, fd, ps, hC, hs, hfn, hfi, hfo, hb⟩ := h0
    have ra0 := ra
    unfold Rep at ra
    obtain ⟨y, C', dx, vs, rfl, hC', hB, hl, rs⟩ := ra
    rw [hC] at hC'
    cases hC'
    refine ⟨fun x y' H2 Q => x = V.ref y ∧ y' = vb ∧ H2 = H ∧ ∀ v H', Aft G ua B H u' d v H' → Q v H', ?_, rfl, rfl, rfl, fun _ _ z => z⟩
    intro pins s σ H2 x y' v u2 Q I rx ry hq
    obtain ⟨rfl, rfl, rfl, q⟩ := hq
    cases rx
    obtain ⟨mA, J, _⟩ := ins_get I.hok (w.sub _ _ hB)
    obtain ⟨od, J, _⟩ := J.look
    obtain ⟨m, hF⟩ := I.fr
    refine PySem.W.binop_KB (op := .RShift) hF I.ok.mod.kin J (hty I ry) hn (hsf _ hC) hs hfn ?_
    refine wpAny_mono (call_fnA hfo hb hr rfl I (.cons (show RelV (V.ref y) (Value.ref y) from rfl) (.cons ry .nil)) ⟨ua, u, B, _, _, u', .cons ra0 (.cons rb .nil), rfl, w, e9, fun v H' a => a⟩) (fun r s' hv => ?_) fun _ _ z => z
    obtain ⟨z, H', I', rz, a⟩ := hv
    exact cmpBack_of rz ⟨z, H', I', rz, q _ _ a⟩
  unfold shO at e
  split at e
  · rename_i c' ns xs ys
    split at e
    · refine main _ _ _ "tuple" rfl ‹_› e PySem.W.noFill_tup_rshift fun I ry => ?_
      obtain ⟨a, vs, rfl, ha, _⟩ := rb.tup
      cases ry
      obtain ⟨its, _, ⟨o, e, hc, _⟩, _⟩ := I.tuple (ha.mono w.sub).sq
      have := looks_ty (M := model X.prog X.w) e hc
      exact this
    · cases e
  · rename_i c' ns xs ys
    split at e
    · refine main _ _ _ "list" rfl ‹_› e PySem.W.noFill_list_rshift fun I ry => ?_
      obtain ⟨a, vs, rfl, ha, _⟩ := rb.lst
      cases ry
      obtain ⟨its, n, _, e, _⟩ := I.lst (w.sub _ _ ha)
      have := looks_ty (M := model X.prog X.w) e rfl
      exact this
    · cases e
  · cases e
theorem dv_binU {op : Operator} {f : D → D → U → Option (D × U)} (hf : BinUOk G (binaryOp op) f) (ha : PE X a (tEv G ma)) (hb : PE X b (tEv G mb)) : PE X (.BinOp a op b pos) (tEv G (mBinU f ma mb)) :=
  (pe_op (opU_of hf) ha hb).imp fun _ _ _ h => binU_read h
/-! ### C.m(e), a static method -/
/-- the class x has F as its static method m -/
def StOk (P : Program) (w : World) {K : PySem.W.Frag} (mg : Str → Option Value) (base : Heap) (G : Gx K) (x m : Str) (k n : Nat) (F : List D → U → Option (D × U)) : Prop :=
  ∃ C p f fd ps, mg x = some (.ref C) ∧ PySem.W.specialIn K (.ref C) "__getattribute__" = some (some (.builtin "type.__getattribute__")) ∧ PySem.W.readsIn K C (.type "type") = true ∧
    PySem.W.findCls K (.ref C) (.type "type") m = some (.get (.builtin "staticmethod.__get__") (.ref p) .none (.ref C)) ∧ (∃ rest, PySem.W.recIn K p "staticmethod" = some (.ref f :: rest)) ∧ FnOk P w K mg base CX0 k f fd ps (spF G F n) ∧ PySem.W.keepIn K (.ref f) = true ∧ Binds K fd ps []
theorem StOk.mono {P : Program} {w : World} {K : PySem.W.Frag} {mg : Str → Option Value} {base : Heap} {G : Gx K} {x m : Str} {j k n : Nat} {F : List D → U → Option (D × U)} (h : StOk P w mg base G x m j n F) (l : j ≤ k) : StOk P w mg base G x m k n F := by
  obtain ⟨C, p, f, fd, ps, h1, h2, h3, h4, h5, h6, h7⟩ := h
  exact ⟨C, p, f, fd, ps, h1, h2, h3, h4, h5, h6.mono l, h7⟩
theorem dv_sm {x m : Str} {k n : Nat} {F : List D → U → Option (D × U)} {pl : Sem Bool} (D0 : StOk X.prog X.w X.mg X.base G x m k n F) (hr : Room k X.A) (hg : Gl X x) (ha : PA X (e :: es) (tEvs G ms))
    (hdb : (x == ("__debug__" : Str)) = false := by decide) (he : starEach (e :: es) X.env = (false, eval e X.env) :: starEach es X.env := by rfl) (hpl : (backTo pos (starEach es X.env)).any (·.1) = false := by rfl)
    (ht : eval (.Call (.Attribute (.Name x p1) m apos) (e :: es) [] pos) X.env = (do
      let ov ← eval (.Name x p1) X.env
      standAt apos.atName
      let (f, first) ← holding [ov] (getMethod ov m pl)
      callWith pos f first (backTo pos (starEach (e :: es) X.env)) (backToKw pos (keywordEach [] X.env))) := by rfl) :
    PE X (.Call (.Attribute (.Name x p1) m apos) (e :: es) [] pos) (tEv G (mCall n F ms)) := by
  obtain ⟨C, p, f, fd, ps, hm, h1, h2, h3, ⟨rest, h4⟩, hf, hk, hb⟩ := D0
  refine ⟨fun pins s σ H Q I h => ?_⟩
  obtain ⟨ua, u, B, env, d, u', hE, hW, hm2, q⟩ := h
  obtain ⟨ds, u1, c1, c2⟩ := bnd_some hm2
  split at c2
  · rename_i hl
    refine PySem.W.methodCall_KW (pl := pl) (ld_glob I hg hm ?_ hdb) ht
    refine PySem.W.method_cls I.kIn h1 (PySem.W.cls_bind I.kIn h2 h3 (wpAny_call (PySem.W.sm_get (s := { s with toks := s.toks + 1 }) I.kIn h4 (PySem.W.handed_on rfl ?_))))
    have I1 := I.tok (s.toks + 1)
    refine PySem.W.callWith_K (first := []) (h₀ := X.base) I.ok.mod.kin hk (thn (ha.run pos pins _ σ H (fun vs H1 => spF G F n vs H1 Q E0) I1 ⟨ua, u, B, env, ds, u1, hE, hW, c1, fun vs H1 ⟨B1, g1, w1, r1⟩ => ⟨ua, u1, B1, ds, d, u', r1, hl, w1, c2, fun v H2 a => q _ _ (.up g1 a)⟩⟩) fun us s2 ⟨vs, H2, I2, r, q2⟩ => ⟨I2.kIn, ?_⟩) he hpl
    exact run_fn (us := us) (vs := vs) hf hr hb .nil pass0 I2 r (by rw [List.append_nil]; exact q2)
  · cases c2
end
end Dv

/-! Tk: f(k2 = .., k1 = ..): keywords alone, in any order. -/
namespace Dv
open PySem PySem.Spec PyProof.Rows L2
def perm {α : Type} (π : List Nat) (l : List α) : List α := π.filterMap fun i => l[i]?
theorem Reps.at_or {K : PySem.W.Frag} {G : Gx K} {ua : Option Addr} {B : Hp} : ∀ {ds : List D} {vs : List V} (i : Nat), Reps G ua ds vs B → (ds[i]? = Option.none ∧ vs[i]? = Option.none) ∨ ∃ d v, ds[i]? = some d ∧ vs[i]? = some v ∧ Rep G ua d v B
  | [], vs, i, r => by rw [r.of_nil]; exact .inl ⟨rfl, rfl⟩
  | d :: ds, vs, i, r => by
    obtain ⟨v, t, rfl, r1, r2⟩ := r.of_cons
    cases i with
    | zero => exact .inr ⟨d, v, rfl, rfl, r1⟩
    | succ i => exact Reps.at_or i r2
theorem Reps.perm {K : PySem.W.Frag} {G : Gx K} {ua : Option Addr} {B : Hp} {ds : List D} {vs : List V} (r : Reps G ua ds vs B) : ∀ π : List Nat, Reps G ua (perm π ds) (perm π vs) B
  | [] => .nil
  | i :: π => by
    unfold Dv.perm
    rw [List.filterMap_cons, List.filterMap_cons]
    rcases r.at_or i with ⟨e1, e2⟩ | ⟨d, v, e1, e2, r1⟩
    · rw [e1, e2]; exact r.perm π
    · rw [e1, e2]; exact .cons r1 (r.perm π)
theorem vals_at {vs : List V} {us : List Value} (r : Vals vs us) : ∀ i : Nat, (vs[i]? = none ∧ us[i]? = none) ∨ ∃ v u, vs[i]? = some v ∧ us[i]? = some u ∧ RelV v u := by
  induction r with
  | nil => exact fun i => .inl ⟨rfl, rfl⟩
  | cons a b ih =>
    intro i
    cases i with
    | zero => exact .inr ⟨_, _, rfl, rfl, a⟩
    | succ i => exact ih i
theorem vals_perm {vs : List V} {us : List Value} (r : Vals vs us) : ∀ π : List Nat, Vals (perm π vs) (perm π us)
  | [] => .nil
  | i :: π => by
    unfold Dv.perm
    rw [List.filterMap_cons, List.filterMap_cons]
    rcases vals_at r i with ⟨e1, e2⟩ | ⟨v, u, e1, e2, r1⟩
    · rw [e1, e2]; exact vals_perm r π
    · rw [e1, e2]; exact .cons r1 (vals_perm r π)
def mCallP (n : Nat) (π : List Nat) (F : List D → U → Option (D × U)) (m : Ms) : M := fun env u => bnd (m env u) fun ds u1 => if ds.length = n ∧ (perm π ds).length = π.length then F (perm π ds) u1 else none
def DefKp (P : Program) (w : World) {K : PySem.W.Frag} (mg : Str → Option Value) (base : Heap) (G : Gx K) (x : Str) (ks : List Str) (π : List Nat) (k : Nat) (F : List D → U → Option (D × U)) : Prop :=
  ∃ f fd ps, FnOk P w K mg base CX0 k f fd ps (spF G F π.length) ∧ mg x = some (.ref f) ∧ PySem.W.keepIn K (.ref f) = true ∧ ∀ (s : Shared) (ws : List Value), K.In s.heap → ws.length = ks.length → BindsTo s fd ⟨[], ks.zip ws⟩ (ps.zip (perm π ws))
theorem DefKp.mono {P : Program} {w : World} {K : PySem.W.Frag} {mg : Str → Option Value} {base : Heap} {G : Gx K} {x : Str} {ks : List Str} {π : List Nat} {j k : Nat} {F : List D → U → Option (D × U)} (h : DefKp P w mg base G x ks π j F) (l : j ≤ k) : DefKp P w mg base G x ks π k F := by
  obtain ⟨f, fd, ps, h1, h2⟩ := h
  exact ⟨f, fd, ps, h1.mono l, h2⟩
section
variable {X : Cx} {G : Gx X.K} {kws : List Keyword} {ms : Ms} {p pos : Pos}
theorem dv_callKp {x : Str} {k n : Nat} {ks : List Str} {π : List Nat} {F : List D → U → Option (D × U)} (D0 : DefKp X.prog X.w X.mg X.base G x ks π k F) (hr : Room k X.A) (hg : Gl X x) (hn : ks.length = n) (ha : PK X kws (tEvs G ms))
    (hall : (backToKw pos (keywordEach kws X.env)).all (·.1.isSome) = true := by rfl) (hks : (backToKw pos (keywordEach kws X.env)).filterMap (·.1) = ks := by rfl) (hdb : (x == ("__debug__" : Str)) = false := by decide)
    (hpl : ((backTo pos (starEach [] X.env)).any (·.1) || (backToKw pos (keywordEach kws X.env)).any (·.1.isNone)) = false := by rfl) :
    PE X (.Call (.Name x p) [] kws pos) (tEv G (mCallP n π F ms)) := by
  subst hn
  obtain ⟨f, fd, ps, hf, hm, hk, hb⟩ := D0
  refine ⟨fun pins s σ H Q I h => ?_⟩
  obtain ⟨ua, u, B, env, d, u', hE, hW, hm2, q⟩ := h
  obtain ⟨ds, u1, h1, h2⟩ := bnd_some hm2
  split at h2
  · rename_i hl
    obtain ⟨hl, hl2⟩ := hl
    refine wpAny_Call_Name_kw (ld_glob I hg hm ?_ hdb)
    refine PySem.W.callWith_KW0 (h₀ := X.base) I.ok.mod.kin hk hall (thn (ha.run pos pins s σ H _ I ⟨ua, u, B, env, ds, u1, hE, hW, h1, fun _ _ z => z⟩) fun ws s2 ⟨zs, H2, I2, rz, B2, g2, w2, r2⟩ => ⟨I2.kIn, ?_⟩) hpl
    rw [hks]
    have lw : ws.length = ks.length := by rw [← rz.length, ← r2.len]; exact hl
    refine wpAny_call (codeAny_mono (hf.run X.A X.stack s2 H2 ⟨[] ++ [], ks.zip ws⟩ (perm π ws) (perm π zs) Q E0 hr I2.env0 (hb s2 ws I2.kIn lw) (vals_perm rz π) ⟨ua, u1, B2, perm π ds, d, u', r2.perm π, hl2, w2, h2, fun v H3 a => q v H3 (.up g2 a)⟩) fun r s' hq => ?_)
    cases r with
    | error e => exact hq.elim
    | ok fl =>
      cases fl with
      | ret u => exact I2.after hq
      | next => exact False.elim hq
      | brk => exact False.elim hq
      | cont => exact False.elim hq
  · cases h2
end
end Dv

/-! Tf: defs as values; a for over range(f(..), n) where f may raise. -/
namespace Dv
open PySem PySem.Spec PyProof.Rows L2
section
variable {X : Cx} {G : Gx X.K} {W : WX} {e : Expr} {es : List Expr} {ms : Ms} {pos p : Pos}
/-- the name of a def, as a value -/
def FnN {K : PySem.W.Frag} (G : Gx K) (mg : Str → Option Value) (x : Str) : Prop := ∃ f, mg x = some (.ref f) ∧ G.fns x = some f
theorem dv_fnG {x : Str} (h0 : FnN G X.mg x) (hg : Gl X x) (hdb : (x == ("__debug__" : Str)) = false := by decide) : PE X (.Name x p) (tEv G (mC (.fn x))) := ⟨fun pins s σ H Q I h => by
  obtain ⟨f, hm, hf⟩ := h0
  obtain ⟨ua, u, B, env, d, u', hE, hW, hmc, q⟩ := h
  cases hmc
  exact ld_glob I hg hm ⟨V.ref f, H, I, rfl, q (.ref f) H (.here hW (by unfold Rep; exact ⟨f, hf, rfl⟩))⟩ hdb⟩
/-- tab tells what the defs do that a name may hold -/
def FnX (P : Program) (w : World) {K : PySem.W.Frag} (mg : Str → Option Value) (base : Heap) (G : Gx K) (tab : Str → Option (List D → U → Option (R × U))) (k n : Nat) : Prop :=
  ∀ y F, tab y = some F → ∃ f fd ps, FnOk P w K mg base (L2.CX P w) k f fd ps (spX G F n) ∧ PySem.W.keepIn K (.ref f) = true ∧ Binds K fd ps [] ∧ G.fns y = some f
def xCallV (n : Nat) (tab : Str → Option (List D → U → Option (R × U))) (i : Nat) (ms : Ms) : MX := fun env u => match env[i]? with
  | some (Sl.pub (.fn y)) => (match tab y with
    | some F => bnd (ms env u) fun ds u1 => if ds.length = n then F ds u1 else none
    | none => none)
  | _ => none
theorem dx_callV {x : Str} {k n i : Nat} {tab : Str → Option (List D → U → Option (R × U))} (D0 : FnX X.prog X.w X.mg X.base G tab k n) (tk : Takes X W) (hr : Room k X.A) (hN : X.N[i]? = some x) (hv : Vis X.env.scope x) (ha : PA X (e :: es) (tEvs G ms))
    (hdb : (x == ("__debug__" : Str)) = false := by decide) (hcd : (x == ("__classdict__" : Str)) = false := by decide)
    (he : starEach (e :: es) X.env = (false, eval e X.env) :: starEach es X.env := by rfl) (hpl : (backTo pos (starEach es X.env)).any (·.1) = false := by rfl) :
    PE X (.Call (.Name x p) (e :: es) [] pos) (tEvX G W (xCallV n tab i ms)) := by
  refine ⟨fun pins s σ H Q I h => ?_⟩
  obtain ⟨ua, u, B, env, r, u', hE, hW, hm, q⟩ := h
  unfold xCallV at hm
  split at hm
  · rename_i y hy
    split at hm
    · rename_i F hF
      obtain ⟨ds, u1, h1, h2⟩ := bnd_some hm
      split at h2
      · rename_i hl
        obtain ⟨f, fd, ps, hf, hk, hb, hG⟩ := D0 y F hF
        obtain ⟨v, hs, hv2⟩ := hE.pub i _ hy
        unfold Rep at hv2
        obtain ⟨f2, hf2, rfl⟩ := hv2
        rw [hG] at hf2
        cases hf2
        refine wpAny_Call_Name_kw (thn ((pe_var (pos := p) hN hv hdb hcd).run pins s σ H (fun v H1 => v = .ref f ∧ H1 = H) I ⟨.ref f, hs, rfl, rfl⟩) fun uu s1 ⟨v, H1, I1, r1, q1⟩ => ?_)
        obtain ⟨rfl, rfl⟩ := q1
        cases r1
        refine PySem.W.callWith_K (h₀ := X.base) I.ok.mod.kin hk (thn (ha.run pos pins s1 σ _ (fun vs H2 => spX G F n vs H2 Q (fun c d H' => W c d σ H')) I1 ⟨ua, u, B, env, ds, u1, hE, hW, h1, fun vs H2 ⟨B1, g1, w1, r1⟩ => ⟨ua, u1, B1, ds, r, u', r1, hl, w1, h2, q.up g1⟩⟩) fun us s2 ⟨vs, H2, I2, rr, q2⟩ => ⟨I2.kIn, ?_⟩) he hpl
        exact call_fnX tk hf hb hr rfl I2 rr q2
      · cases h2
    · cases hm
  · cases hm
/-! ### for x in range(a, b), a may raise -/
theorem rng2_read {m m2 : M} {σ : L2.St} {H : Hp} {R : It → Hp → Prop} (h : tIt G (mRange2 m m2) σ H R) : iRng2 (tCons (tEv G m) (tCons (tEv G m2) tNil)) σ H R := by
  obtain ⟨ua, u, B, env, ds, u', hE, hW, hm, q⟩ := h
  obtain ⟨d, u1, h1, h2⟩ := bnd_some hm
  obtain ⟨d2, u2, h3, h2⟩ := bnd_some h2
  refine ⟨ua, u, B, env, d, u1, hE, hW, h1, fun v H1 ⟨B1, g1, w1, r1⟩ => ⟨ua, u1, B1, env, d2, u2, hE.grow g1, w1, h3, fun v2 H2 ⟨B2, g2, w2, r2⟩ => ?_⟩⟩
  split at h2
  · split at h2
    · rename_i hj
      cases h2
      cases r1.int
      cases r2.int
      exact ⟨_, _, rfl, hj, q _ _ _ (g1.trans g2) w2 wk_range⟩
    · cases h2
  · cases h2
theorem mRange2_int {d : D} {m2 : M} {env : List Sl} {u u' : U} {ds : List D} (h : mRange2 (mC d) m2 env u = some (ds, u')) : ∃ i, d = .int i := by
  unfold mRange2 at h
  obtain ⟨x, u1, h1, h2⟩ := bnd_some h
  cases h1
  obtain ⟨y, u2, h3, h4⟩ := bnd_some h2
  split at h4
  · exact ⟨_, rfl⟩
  · cases h4
theorem dsx_for2 {fpos : Pos} (t : Tgt) {a b tg : Expr} {mx : MX} {m2 : M} {m1 : MS} {body : List Stmt} (hp : PassesOwn (model X.prog X.w) X.A X.env X.xe) (hc : X.calm = true) (hgr : Gl X "range") (hmr : X.mg "range" = none) (ha : PE X a (tEvX G W mx)) (hb2 : PE X b (tEv G m2)) (hgt : PG X tg (gOf X.K t)) (hb : PSs X body (tSt G W m1))
    (hs1 : starEach [a, b] X.env = (false, eval a X.env) :: starEach [b] X.env := by rfl) (hs2 : starEach [b] X.env = [(false, eval b X.env)] := by rfl) (hs : ∀ x, foldedSetIterable (.Call (.Name "range" p) [a, b] [] pos) X.env x = pure x := by intro _; rfl) :
    PS X (.For tg (.Call (.Name "range" p) [a, b] [] pos) body [] fpos) (tSt G W (sUpX mx fun env d u => sFor t (mRange2 (mC d) m2) m1 env u)) :=
  (ps_for hp hc (pi_range2 hgr hmr (pa_cons ha (pa_cons hb2 pa_nil hs2) hs1) (by rw [hs1, hs2]) hs2) hgt hb hs).imp fun Dn σ H h => by
    show iRng2 (tCons (tEvX G W mx) (tCons (tEv G m2) tNil)) σ H _
    refine up_read h fun ua u1 H0 B0 B1 H1 env fl u' d v g o e w r k z => ?_
    have h2 : tFor (tIt G (mRange2 (mC d) m2)) (gOf X.K t) (tSt G W m1) Dn σ H1 := for_read ⟨ua, u1, B1, env, fl, u', B0, H0, g, o, e, w, k, z⟩
    have h3 := rng2_read (show tIt G (mRange2 (mC d) m2) σ H1 _ from h2)
    obtain ⟨ds, u2, c1, _⟩ := bnd_some (show bnd (mRange2 (mC d) m2 env u1) _ = _ from k)
    obtain ⟨i, rfl⟩ := mRange2_int c1
    cases r.int
    obtain ⟨ua', u3, B', env', d', u4, hE', hW', hm', q'⟩ := h3
    cases hm'
    exact q' (.int i) H1 (.here hW' rep_int)
/-! ### a, b = x where x is a tuple or a list -/
def bindS (is : List Nat) : D → List Sl → Option (List Sl)
  | .tup ds, env => bindT (.many is) (.tup ds) env
  | .lst ds, env => bindT (.many is) (.tup ds) env
  | _, _ => none
def sTgtS (is : List Nat) (m : M) : MS := fun env u => bnd (m env u) fun d u1 => match bindS is d env with
  | some env' => some (.nx env', u1)
  | none => none
def gSq (K : PySem.W.Frag) (n : Nat) (t : TGs) : TG := fun v σ H Q => ∃ a xs, v = .ref a ∧ (SqT K H a xs ∨ SqL K H a xs) ∧ xs.length = n ∧ t xs σ H Q
theorem pg_sq {es : List Expr} {k n : Nat} {t : TGs} {tpos : Pos} (hc : X.calm = true) (h : PGs X es t) (hn : (assignEach es X.env).length = n := by rfl) (hst : (assignEach es X.env).findIdx? (·.1) = none := by rfl) : PG X (.Tuple es k tpos) (gSq X.K n t) := by
  refine ⟨fun pins s σ H v u Q I r hw => ?_⟩
  obtain ⟨a, xs, e1, hq | hq, hl, hw⟩ := hw
  · exact (pg_tup hc h hn hst).run pins s σ H v u Q I r ⟨a, xs, e1, hq, hl, hw⟩
  · exact (pg_lst hc h hn hst).run pins s σ H v u Q I r ⟨a, xs, e1, hq, hl, hw⟩
theorem names_ok {ua : Option Addr} {u : U} {B H : Hp} {env : List Sl} {Q : L2.St → Hp → Prop} : ∀ {is : List Nat} {ds : List D} {vs : List V} {σ : List (Option V)}, EnvOk G ua env σ B H → Reps G ua ds vs B → ds.length = is.length →
    (∀ σ' : List (Option V), EnvOk G ua (setE env is ds) σ' B H → (∀ (j : Nat) x, σ'[j]? = some (some x) → j ∉ is → σ[j]? = some (some x)) → Q σ' H) → gNames is vs σ H Q := by
  intro is ds vs σ e rs hl q
  have hlv : vs.length = is.length := by rw [← rs.len]; exact hl
  refine gNames_ok is vs σ H Q hlv (q _ (setE_ok is ds vs env σ e rs) ?_)
  clear q e hl hlv rs
  induction is generalizing σ vs with
  | nil => intro j x hx _; exact hx
  | cons i is ih =>
    intro j x hx hj
    cases vs with
    | nil => exact hx
    | cons v vs =>
      have hj' : j ∉ i :: is := hj
      have := ih (σ := σ.set i (some v)) (vs := vs) j x hx (fun z => hj' (List.mem_cons_of_mem _ z))
      rw [List.getElem?_set_ne (fun z => hj' (by rw [z]; exact List.mem_cons_self))] at this
      exact this
theorem ds_tgtS (is : List Nat) {e : Expr} {me : M} {tg : Expr} (he : PE X e (tEv G me)) (hg : PG X tg (gSq X.K is.length (gNames is))) (hs : swapsWithSole [tg] e pos.line X.env = pure false := by rfl) (hw : swappedStores [tg] e X.env = pure none := by rfl)
    (h1 : (assignEach [tg] X.env).map (·.2) = [assign tg X.env] := by rfl) : PS X (.Assign [tg] e pos) (tSt G W (sTgtS is me)) := (ps_asg he hg hs hw h1).imp fun Dn σ H h => by
  obtain ⟨ua, u, B, env, fl, u', B0, H0, hg, hO, hE, hW, hm, q⟩ := h
  obtain ⟨d, u1, c1, c2⟩ := bnd_some hm
  split at c2
  · rename_i env' hb
    cases c2
    refine ⟨ua, u, B, env, d, _, hE, hW, c1, fun v H1 ⟨B1, g1, w1, r1⟩ => ?_⟩
    have fin : ∀ (ds : List D) (vs : List V), Reps G ua ds vs B1 → bindT (.many is) (.tup ds) env = some env' → gNames is vs σ H1 (fun σ' H' => Dn.nx σ' H') ∧ vs.length = is.length := fun ds vs rs hb' => by
      have hb0 := hb'
      dsimp only [bindT] at hb'
      split at hb'
      · rename_i hl
        cases hb'
        exact ⟨names_ok (u := u) (hE.grow g1) rs hl fun σ' e' hk => q _ B1 H1 (hg.trans g1) (fun j es p z1 z2 => by
          obtain ⟨z3, z4⟩ := bindT_own hb0 j es z1
          exact hO j es p z3 (hk j _ z2 z4)) e' w1, by rw [← rs.len]; exact hl⟩
      · cases hb'
    unfold bindS at hb
    split at hb
    · obtain ⟨a, vs, rfl, h, rs⟩ := r1.tup
      obtain ⟨f1, f2⟩ := fin _ vs rs hb
      exact ⟨a, vs, rfl, .inl (h.mono w1.sub).sq, f2, f1⟩
    · obtain ⟨a, vs, rfl, h, rs⟩ := r1.lst
      obtain ⟨f1, f2⟩ := fin _ vs rs hb
      exact ⟨a, vs, rfl, .inr (.of (w1.sub _ _ h)), f2, f1⟩
    · cases hb
  · cases c2
end
end Dv
namespace Dv
open PySem PySem.Spec PyProof.Rows L2
/-! ### a, b, c = x, y, z -/
def sPar3 (i j l : Nat) (a b c : M) : MS := fun env u => bnd (a env u) fun d u1 => bnd (b env u1) fun d2 u2 => bnd (c env u2) fun d3 u3 => some (.nx (((env.set i (Sl.pub d)).set j (Sl.pub d2)).set l (Sl.pub d3)), u3)
theorem ds_par3 {X : Cx} {G : Gx X.K} {W : WX} {a b c : Expr} {ma mb mc : M} {pos : Pos} (i j l : Nat) {x y z : Str} {px py pz pt pt2 : Pos} {kt k2 : Nat} (ha : PE X a (tEv G ma)) (hb : PE X b (tEv G mb)) (hc : PE X c (tEv G mc)) (h : ∀ {ta : TA}, PA X [a, b, c] ta → PS X (.Assign [.Tuple [.Name x px, .Name y py, .Name z pz] kt pt] (.Tuple [a, b, c] k2 pt2) pos) (tPar3 i j l ta))
    (hs : starEach (a :: [b, c]) X.env = (false, eval a X.env) :: starEach [b, c] X.env := by rfl) (hs2 : starEach (b :: [c]) X.env = (false, eval b X.env) :: starEach [c] X.env := by rfl) (hs3 : starEach (c :: []) X.env = (false, eval c X.env) :: starEach [] X.env := by rfl) :
    PS X (.Assign [.Tuple [.Name x px, .Name y py, .Name z pz] kt pt] (.Tuple [a, b, c] k2 pt2) pos) (tSt G W (sPar3 i j l ma mb mc)) := (h (pa_cons ha (pa_cons hb (pa_cons hc pa_nil hs3) hs2) hs)).imp fun Dn σ H h => by
  obtain ⟨ua, u, B, env, fl, u', B0, H0, hg, hO, hE, hW, hm, q⟩ := h
  obtain ⟨d, u1, c1, c2⟩ := bnd_some hm
  obtain ⟨d2, u2, c3, c4⟩ := bnd_some c2
  obtain ⟨d3, u3, c5, c6⟩ := bnd_some c4
  cases c6
  refine ⟨ua, u, B, env, d, u1, hE, hW, c1, fun v H1 ⟨B1, g1, w1, r1⟩ => ⟨ua, u1, B1, env, d2, u2, hE.grow g1, w1, c3, fun v2 H2 ⟨B2, g2, w2, r2⟩ => ⟨ua, u2, B2, env, d3, _, (hE.grow g1).grow g2, w2, c5, fun v3 H3 ⟨B3, g3, w3, r3⟩ => ?_⟩⟩⟩
  refine ⟨v, v2, v3, rfl, ?_⟩
  exact q _ B3 H3 (((hg.trans g1).trans g2).trans g3) (((hO.set i d v).set j d2 v2).set l d3 v3) ((((((hE.grow g1).grow g2).grow g3).set ((r1.mono _ _ g2.pub).mono _ _ g3.pub) i).set (r2.mono _ _ g3.pub) j).set r3 l) w3
theorem sPar3_eq {i j l : Nat} {a b c : M} {env : List Sl} {u u1 u2 u3 : U} {x y z : D} (h : a env u = some (x, u1)) (h2 : b env u1 = some (y, u2)) (h3 : c env u2 = some (z, u3)) : sPar3 i j l a b c env u = some (.nx (((env.set i (Sl.pub x)).set j (Sl.pub y)).set l (Sl.pub z)), u3) := by
  unfold sPar3; rw [h]; show bnd (b env u1) _ = _; rw [h2]; show bnd (c env u2) _ = _; rw [h3]; rfl
end Dv
namespace Dv
open PySem PySem.Spec PyProof.Rows L2
theorem FnX.mono {P : Program} {w : World} {K : PySem.W.Frag} {mg : Str → Option Value} {base : Heap} {G : Gx K} {tab : Str → Option (List D → U → Option (R × U))} {j k n : Nat} (h : FnX P w mg base G tab j n) (l : j ≤ k) : FnX P w mg base G tab k n := fun y F e => by
  obtain ⟨f, fd, ps, h1, h2⟩ := h y F e
  exact ⟨f, fd, ps, h1.mono l, h2⟩
end Dv

/-! Dc: dicts with int and text keys as data: get, d[k], in. -/
namespace Dv
open PySem PySem.Spec PyProof.Rows L2
def valD (ks : List Key) (ds : List D) (k : Key) : Option D := ((ks.zip ds).find? fun kd => decide (kd.1 = k)).map (·.2)
theorem Reps.val {K : PySem.W.Frag} {G : Gx K} {ua : Option Addr} {B : Hp} {k : Key} : ∀ {ks : List Key} {ds : List D} {vs : List V}, Reps G ua ds vs B → ks.length = vs.length →
    (valD ks ds k = Option.none ∧ valV (ks.zip vs) k = Option.none) ∨ ∃ d v, valD ks ds k = some d ∧ valV (ks.zip vs) k = some v ∧ Rep G ua d v B
  | [], ds, vs, r, l => .inl ⟨rfl, rfl⟩
  | j :: ks, [], vs, r, l => by rw [r.of_nil] at l; cases l
  | j :: ks, d :: ds, vs, r, l => by
    obtain ⟨v, t, rfl, r1, r2⟩ := r.of_cons
    unfold valD valV
    rw [List.zip_cons_cons, List.zip_cons_cons]
    by_cases e : j = k
    · refine .inr ⟨d, v, ?_, ?_, r1⟩
      · rw [List.find?_cons_of_pos (by exact decide_eq_true e)]; rfl
      · rw [List.find?_cons_of_pos (by exact decide_eq_true e)]; rfl
    · rw [List.find?_cons_of_neg (by simpa using e), List.find?_cons_of_neg (by simpa using e)]
      exact Reps.val r2 (Nat.succ.inj l)
theorem DctB.rd {H : Hp} {a : Addr} {kvs : List (Key × V)} (h : DctB H a kvs) : Rd H a (.dK kvs) := by
  obtain ⟨o, h⟩ := h
  exact .inr ⟨o, h⟩
theorem rep_dct {K : PySem.W.Frag} {G : Gx K} {ua : Option Addr} {B : Hp} {ks : List Key} {ds : List D} {v : V} (r : Rep G ua (.dct ks ds) v B) : ∃ a vs, v = .ref a ∧ DctB B a (ks.zip vs) ∧ ks.length = vs.length ∧ Reps G ua ds vs B := by
  unfold Rep at r; exact r
section
variable {X : Cx} {G : Gx X.K} {o e f i : Expr} {mo me mf : M} {pos cpos apos : Pos}
def mGet2 (mo me mf : M) : M := fun env u => bnd (mo env u) fun d u1 => bnd (me env u1) fun k u2 => bnd (mf env u2) fun x u3 => match d, keyOf k with
  | .dct ks ds, some key => some ((valD ks ds key).getD x, u3)
  | _, _ => none
theorem mGet2_inv {x k z d : D} {u3 u' : U} (h : (match x, keyOf k with | .dct ks ds, some key => some ((valD ks ds key).getD z, u3) | _, _ => (Option.none : Option (D × U))) = some (d, u')) : ∃ ks ds key, x = .dct ks ds ∧ keyOf k = some key ∧ d = (valD ks ds key).getD z ∧ u3 = u' := by
  cases hk : keyOf k with
  | none => rw [hk] at h; cases x <;> cases h
  | some key =>
    rw [hk] at h
    cases x with
    | dct ks ds => cases h; exact ⟨ks, ds, key, rfl, rfl, rfl, rfl⟩
    | _ => cases h
theorem dv_get2 (hu : X.A.units + 1 < cLine) (m : M2 X o "get" apos e f cpos) (ho : PE X o (tEv G mo)) (he : PE X e (tEv G me)) (hf : PE X f (tEv G mf)) : PE X (.Call (.Attribute o "get" apos) [e, f] [] cpos) (tEv G (mGet2 mo me mf)) := by
  refine (pe_dget2 hu ho he hf m).imp fun σ H Q h => ?_
  obtain ⟨ua, u, B, env, d, u', hE, hW, hm, q⟩ := h
  obtain ⟨x, u1, c1, c2⟩ := bnd_some hm
  obtain ⟨k, u2, c3, c4⟩ := bnd_some c2
  obtain ⟨z, u3, c5, c6⟩ := bnd_some c4
  refine ⟨ua, u, B, env, x, u1, hE, hW, c1, fun v H1 ⟨B1, g1, w1, r1⟩ => ?_⟩
  obtain ⟨ks, ds, key, rfl, hk, rfl, rfl⟩ := mGet2_inv c6
  · obtain ⟨a, vs, rfl, hd, hl, rs⟩ := rep_dct r1
    refine ⟨a, rfl, ?_, ua, u1, B1, env, k, u2, hE.grow g1, w1, c3, fun v2 H2 ⟨B2, g2, w2, r2⟩ => ⟨ua, u2, B2, env, z, _, (hE.grow g1).grow g2, w2, c5, fun v3 H3 ⟨B3, g3, w3, r3⟩ => ?_⟩⟩
    · exact .inl ⟨_, (hd.mono w1.sub).rd⟩
    · have hd3 := ((hd.mono g2.pub).mono g3.pub).mono w3.sub
      refine ⟨valV (ks.zip vs) key, .inl ⟨_, key, hd3.rd, keyOf_rep hk r2, rfl⟩, ?_⟩
      rcases rs.val (k := key) hl with ⟨e1, e2⟩ | ⟨dv, vv, e1, e2, rr⟩
      · rw [e2]; exact q _ _ (.up g1 (.up g2 ⟨B3, g3, w3, by rw [e1]; exact r3⟩))
      · rw [e2]; exact q _ _ (.up g1 (.up g2 ⟨B3, g3, w3, by rw [e1]; exact (rr.mono _ _ g2.pub).mono _ _ g3.pub⟩))
def dixD : D → D → Option D
  | .dct ks ds, k => (keyOf k).bind fun key => valD ks ds key
  | _, _ => none
theorem dv_dix (hu : X.A.units + 1 < cLine) (ho : PE X o (tEv G mo)) (he : PE X i (tEv G me)) (hs : NoSl i := by exact fun _ _ => rfl) : PE X (.Subscript o i pos) (tEv G (mBin dixD mo me)) := by
  refine (pe_dget hu ho he hs).imp fun σ H Q h => ?_
  obtain ⟨ua, u, B, env, d, u', hE, hW, hm, q⟩ := h
  obtain ⟨x, u1, c1, c2⟩ := bnd_some hm
  obtain ⟨k, u2, c3, c4⟩ := bnd_some c2
  obtain ⟨l4, rfl⟩ := lft_some c4
  refine ⟨ua, u, B, env, x, u1, hE, hW, c1, fun v H1 ⟨B1, g1, w1, r1⟩ => ⟨ua, u1, B1, env, k, _, hE.grow g1, w1, c3, fun v2 H2 ⟨B2, g2, w2, r2⟩ => ?_⟩⟩
  cases x with
  | dct ks ds =>
    obtain ⟨a, vs, rfl, hd, hl, rs⟩ := rep_dct r1
    have l4 : ((keyOf k).bind fun key => valD ks ds key) = some d := l4
    cases hk : keyOf k with
    | none => rw [hk] at l4; cases l4
    | some key =>
      rw [hk] at l4
      have l4 : valD ks ds key = some d := l4
      rcases rs.val (k := key) hl with ⟨e1, e2⟩ | ⟨dv, vv, e1, e2, rr⟩
      · rw [e1] at l4; cases l4
      · rw [e1] at l4; cases l4
        exact ⟨a, vv, rfl, .inl ⟨_, key, ((hd.mono g2.pub).mono w2.sub).rd, keyOf_rep hk r2, e2.symm⟩, q _ _ (.up g1 ⟨B2, g2, w2, rr.mono _ _ g2.pub⟩)⟩
  | _ => cases l4
end
end Dv

/-! Dk: going through a dict (its keys, its items); a def out of a tuple of defs, called. -/
namespace Dv
open PySem PySem.Spec PyProof.Rows L2
section
variable {X : Cx} {G : Gx X.K} {ua : Option Addr} {B H : Hp} {ds : List D} {vs : List V} {ks : List Key}
def itemsK (ks : List Key) (ds : List D) : List D := (ks.zip ds).map fun kd => .pr [keyD kd.1, kd.2]
theorem keyD_kV {K : PySem.W.Frag} {G : Gx K} {ua : Option Addr} {B : Hp} (k : Key) : Rep G ua (keyD k) (kV k) B := by
  cases k with
  | inl i => exact rep_int
  | inr x => exact rep_str
theorem zip_get {α β γ : Type} {ks : List α} {ds : List β} {vs : List γ} (hl : ks.length = vs.length) (hd : ds.length = vs.length) {i : Nat} {k : α} {d : β} (h : (ks.zip ds)[i]? = some (k, d)) : ks[i]? = some k ∧ ds[i]? = some d := by
  rw [List.getElem?_zip_eq_some] at h
  exact h
theorem wk_ditems {a : Addr} {o : Obj} (h : B a = some (.frz o (.dK (ks.zip vs)))) (hl : ks.length = vs.length) (r : Reps G ua ds vs B) : Wk G ua (Iti a o (ks.zip vs)) B (itemsK ks ds) := fun i B' H' u s w => by
  have hq : H' a = some (.frz o (.dK (ks.zip vs))) := w.sub _ _ (s _ _ h)
  have hlen : (itemsK ks ds).length = (ks.zip vs).length := by
    unfold itemsK
    rw [List.length_map, List.length_zip, List.length_zip, r.len]
  refine ⟨fun d hd => ?_, fun hn => ⟨hq, by rw [← hlen]; exact List.getElem?_eq_none_iff.mp hn⟩⟩
  unfold itemsK at hd
  rw [List.getElem?_map] at hd
  obtain ⟨⟨k, e⟩, hke, rfl⟩ := map_some hd
  obtain ⟨hk, he⟩ := zip_get hl (r.len ▸ rfl) hke
  obtain ⟨v, hv, rv⟩ := r.get he
  have hz : (ks.zip vs)[i]? = some (k, v) := List.getElem?_zip_eq_some.mpr ⟨hk, hv⟩
  refine ⟨⟨hq, (List.getElem?_eq_some_iff.mp hz).1⟩, fun x H2 y => ?_⟩
  obtain ⟨T, k', v', h1, rfl, hT, rfl⟩ := y
  rw [hz] at h1; cases h1
  exact .pr w hT (.cons (keyD_kV k) (.cons (rv.mono _ _ s) .nil))
theorem wk_dkeys {a : Addr} {o : Obj} (h : B a = some (.frz o (.dK (ks.zip vs)))) (hl : ks.length = vs.length) : Wk G ua (Itk a o (ks.zip vs)) B (ks.map keyD) := fun i B' H' u s w => by
  have hq : H' a = some (.frz o (.dK (ks.zip vs))) := w.sub _ _ (s _ _ h)
  have hlen : (ks.zip vs).length = ks.length := by rw [List.length_zip, hl, Nat.min_self]
  refine ⟨fun d hd => ?_, fun hn => ⟨hq, by rw [hlen, ← List.length_map (f := keyD)]; exact List.getElem?_eq_none_iff.mp hn⟩⟩
  rw [List.getElem?_map] at hd
  obtain ⟨k, hk, rfl⟩ := map_some hd
  have hi : i < ks.length := (List.getElem?_eq_some_iff.mp hk).1
  refine ⟨⟨hq, by rw [hlen]; exact hi⟩, fun x H2 y => ?_⟩
  obtain ⟨rfl, k', v', h1, rfl⟩ := y
  have : k' = k := by
    have := (List.getElem?_zip_eq_some.mp h1).1
    rw [hk] at this; cases this; rfl
  subst this
  exact .here w (keyD_kV _)
def mDItems (m : M) : MI := fun env u => bnd (m env u) fun d u1 => match d with
  | .dct ks ds => some (itemsK ks ds, u1)
  | _ => none
theorem di_ditems {e : Expr} {m : M} {apos cpos tpos : Pos} {elts : List Expr} {kk : Nat} (he : PE X e (tEv G m)) (hbase : attributeBase e "items" X.env (eval e X.env) = eval e X.env := by rfl) (hline : (apos.endLine == cpos.line) = true := by rfl) :
    PI X (.Tuple elts kk tpos) (.Call (.Attribute e "items" apos) [] [] cpos) (tIt G (mDItems m)) := (pi_items he hbase hline).imp fun σ H R h => by
  obtain ⟨ua, u, B, env, ds, u', hE, hW, hm, q⟩ := h
  obtain ⟨d, u1, h1, h2⟩ := bnd_some hm
  split at h2
  · cases h2
    refine ⟨ua, u, B, env, _, u', hE, hW, h1, fun v H1 ⟨B1, g1, w1, r1⟩ => ?_⟩
    obtain ⟨a, vs, rfl, ⟨o, h⟩, hl, rs⟩ := rep_dct r1
    exact ⟨a, o, _, rfl, w1.sub _ _ h, q _ _ _ g1 w1 (wk_ditems h hl rs)⟩
  · cases h2
/-- going through a list, a tuple, a text, or a dict's keys -/
def mItemsK (m : M) : MI := fun env u => bnd (m env u) fun d u1 => match d with
  | .dct ks _ => some (ks.map keyD, u1)
  | d => lft (itemsD d) u1
theorem di_itemsK {tg e : Expr} {m : M} (he : PE X e (tEv G m)) : PI X tg e (tIt G (mItemsK m)) := by
  refine PI.by fun σ H R h => ?_
  obtain ⟨ua, u, B, env, ds, u', hE, hW, hm, q⟩ := h
  obtain ⟨d, u1, h1, h2⟩ := bnd_some hm
  have other : (∀ ks es, d ≠ .dct ks es) → ∃ t, PI X tg e t ∧ t σ H R := fun hn => by
    have h2 : lft (itemsD d) u1 = some (ds, u') := by
      cases d with
      | dct ks es => exact absurd rfl (hn ks es)
      | _ => exact h2
    exact ⟨_, di_items he, ua, u, B, env, ds, u', hE, hW, by unfold mItems; rw [h1]; exact h2, q⟩
  cases d with
  | dct ks es =>
    cases h2
    refine ⟨_, pi_keys he, ua, u, B, env, _, u', hE, hW, h1, fun v H1 ⟨B1, g1, w1, r1⟩ => ?_⟩
    obtain ⟨a, vs, rfl, ⟨o, h⟩, hl, rs⟩ := rep_dct r1
    exact ⟨a, o, rfl, .inl ⟨_, w1.sub _ _ h, q _ _ _ g1 w1 (wk_dkeys h hl)⟩⟩
  | _ => exact other fun _ _ z => by cases z
end
section
variable {X : Cx} {G : Gx X.K} {W : WX} {c e : Expr} {es : List Expr} {ms : Ms} {mc : M} {pos : Pos}
/-- f(..), f any expression that gives a def -/
def xCallE (n : Nat) (tab : Str → Option (List D → U → Option (R × U))) (mc : M) (ms : Ms) : MX := fun env u => bnd (mc env u) fun d u0 => match d with
  | .fn y => (match tab y with
    | some F => bnd (ms env u0) fun ds u1 => if ds.length = n then F ds u1 else none
    | none => none)
  | _ => none
theorem dx_callE {k n : Nat} {tab : Str → Option (List D → U → Option (R × U))} {a i : Expr} {spos : Pos} (D0 : FnX X.prog X.w X.mg X.base G tab k n) (tk : Takes X W) (hr : Room k X.A) (hc : PE X (.Subscript a i spos) (tEv G mc)) (ha : PA X (e :: es) (tEvs G ms))
    (he : starEach (e :: es) X.env = (false, eval e X.env) :: starEach es X.env := by rfl) (hpl : (backTo pos (starEach es X.env)).any (·.1) = false := by rfl) :
    PE X (.Call (.Subscript a i spos) (e :: es) [] pos) (tEvX G W (xCallE n tab mc ms)) := by
  refine ⟨fun pins s σ H Q I h => ?_⟩
  obtain ⟨ua, u, B, env, r, u', hE, hW, hm, q⟩ := h
  obtain ⟨d, u0, h0, hm⟩ := bnd_some hm
  split at hm
  · rename_i y
    split at hm
    · rename_i F hF
      obtain ⟨ds, u1, h1, h2⟩ := bnd_some hm
      split at h2
      · rename_i hl
        obtain ⟨f, fd, ps, hf, hk, hb, hG⟩ := D0 y F hF
        refine Call_ (thn (hc.run pins s σ H (fun v H1 => Aft G ua B H u0 (.fn y) v H1) I ⟨ua, u, B, env, _, u0, hE, hW, h0, fun v H1 ha => ha⟩) fun uu s1 ⟨v, H1, I1, r1, B1, g1, w1, q1⟩ => ?_)
        unfold Rep at q1
        obtain ⟨f2, hf2, rfl⟩ := q1
        rw [hG] at hf2
        cases hf2
        cases r1
        refine PySem.W.callWith_K (h₀ := X.base) I1.ok.mod.kin hk (thn (ha.run pos pins s1 σ _ (fun vs H2 => spX G F n vs H2 Q (fun c d H' => W c d σ H')) I1 ⟨ua, u0, B1, env, ds, u1, hE.grow g1, w1, h1, fun vs H2 ⟨B2, g2, w2, r2⟩ => ⟨ua, u1, B2, ds, r, u', r2, hl, w2, h2, q.up (g1.trans g2)⟩⟩) fun us s2 ⟨vs, H2, I2, rr, q2⟩ => ⟨I2.kIn, ?_⟩) he hpl
        exact call_fnX tk hf hb hr rfl I2 rr q2
      · cases h2
    · cases hm
  · cases hm
end
end Dv
namespace Dv
open PySem L2
theorem hU1 {A : Around} {k : Nat} (hr : Room k A) : A.units + 1 < cLine := by have := hU64 hr; omega
end Dv
namespace Dv
theorem xCallE_eq {n : Nat} {tab : PySem.Str → Option (List D → U → Option (R × U))} {mc : M} {ms : Ms} {env : List Sl} {u u0 u1 : U} {y : PySem.Str} {F : List D → U → Option (R × U)} {ds : List D} {r : Option (R × U)} (h : mc env u = some (.fn y, u0)) (ht : tab y = some F) (h2 : ms env u0 = some (ds, u1)) (hl : ds.length = n) (h3 : F ds u1 = r) : xCallE n tab mc ms env u = r := by
  unfold xCallE
  rw [h]
  show (match tab y with | some F => bnd (ms env u0) fun ds u1 => if ds.length = n then F ds u1 else none | none => none) = r
  rw [ht]
  show bnd (ms env u0) _ = _
  rw [h2]
  show (if ds.length = n then F ds u1 else none) = r
  rw [if_pos hl]
  exact h3
end Dv

/-! Dd: {k: v for ..}, a dict of one's own; a value of one's own, made with a look into another. -/
namespace Dv
open PySem PySem.Spec PyProof.Rows L2
def turnD (t : Tgt) (own : List Nat) (env : List Sl) (mc : MB) (mk mv : M) : D → U → Option (Option (Key × D) × U) := fun d u => match bindT t d (wipeE env own) with
  | none => none
  | some env' => bnd (mc env' u) fun b u1 => if b = true then bnd (mk env' u1) fun k u2 => bnd (mv env' u2) fun v u3 => match keyOf k with
      | some key => some (some (key, v), u3)
      | none => none
    else some (none, u1)
def foldD (f : D → U → Option (Option (Key × D) × U)) : List D → List Key → List D → U → Option ((List Key × List D) × U)
  | [], ks, vs, u => some ((ks, vs), u)
  | d :: ds, ks, vs, u => bnd (f d u) fun o u1 => match o with
    | some kv => if ks.length < sizeLine then foldD f ds (putD ks vs kv.1 kv.2).1 (putD ks vs kv.1 kv.2).2 u1 else none
    | none => foldD f ds ks vs u1
def vDC (t : Tgt) (own : List Nat) (mi : MI) (mc : MB) (mk mv : M) : MSl := fun env u => bnd (mi env u) fun ds u1 => bnd (foldD (turnD t own env mc mk mv) ds [] [] u1) fun r u2 => some (.own (.dct r.1 r.2), u2)
section
variable {X : Cx} {G : Gx X.K} {mi : MI} {mc : MB} {mk mv : M}
theorem dc_read {t : Tgt} {own : List Nat} {σ : L2.St} {H : Hp} {Q : VK} (ht : ∀ i ∈ t.ids, i ∈ own) (h : tSv G (vDC t own mi mc mk mv) σ H Q) : tDc (tIt G mi) (gOf X.K t) (tTst G mc) (tEv G mk) (tEv G mv) own σ H Q := by
  obtain ⟨ua, u, B, env, s, u', hE, hW, hm, q⟩ := h
  obtain ⟨ds, u1, h1, h2⟩ := bnd_some hm
  obtain ⟨r, u2, h3, h4⟩ := bnd_some h2
  cases h4
  refine ⟨ua, u, B, env, ds, u1, hE, hW, h1, fun J B1 H1 g1 w1 wk Dp hD => ?_⟩
  have hE1 := hE.grow g1
  refine ⟨fun i m H' => m = ds.length - i ∧ i ≤ ds.length ∧ ∃ B' uu ks es vs, Grow ua B1 H1 B' H' ∧ Wd ua uu B' H' ∧ H' Dp = some (.dK (ks.zip vs)) ∧ B' Dp = none ∧ ks.Nodup ∧ ks.length = vs.length ∧ Reps G ua es vs B' ∧ foldD (turnD t own env mc mk mv) (ds.drop i) ks es uu = some (r, u'),
    ⟨ds.length, by omega, by omega, B1, u1, [], [], [], .own1 w1 hD, w1.own1 hD, upd_same, w1.none_of hD, List.nodup_nil, rfl, .nil, h3⟩, ?_⟩
  rintro i m H' ⟨rfl, hi, B', uu, ks, es, vs, g2, w2, hv, hb, hn, hl, rs, hc⟩
  have sB : Same B1 B' := g2.pub
  have nu : ua ≠ some Dp := w1.ne_urn hD
  have hk := wk i B' H' uu sB w2
  by_cases hlt : i < ds.length
  · have hd : ds[i]? = some ds[i] := List.getElem?_eq_getElem hlt
    obtain ⟨hgo, hy⟩ := hk.1 _ hd
    rw [List.drop_eq_getElem_cons hlt] at hc
    obtain ⟨o, u3, c1, c2⟩ := bnd_some (show bnd (turnD t own env mc mk mv ds[i] uu) _ = _ from hc)
    refine .inr ⟨hgo, fun H2 => ∃ B' uu ks es vs, Grow ua B1 H1 B' H2 ∧ Wd ua uu B' H2 ∧ H2 Dp = some (.dK (ks.zip vs)) ∧ B' Dp = none ∧ ks.Nodup ∧ ks.length = vs.length ∧ Reps G ua es vs B' ∧ foldD (turnD t own env mc mk mv) (ds.drop (i + 1)) ks es uu = some (r, u'),
      fun H2 h2 => ⟨ds.length - (i + 1), by omega, rfl, hlt, h2⟩, fun x H2 y => ?_⟩
    obtain ⟨B2, g3, w3, r3⟩ := hy x H2 y
    have hv2 : H2 Dp = some (.dK (ks.zip vs)) := g3.keep _ _ hv nu
    have hb2 : B2 Dp = none := g3.none_of hv hb
    have rs2 := rs.mono _ _ g3.pub
    have hE2 : EnvOk G ua (wipeE env own) (wipe σ own) B2 H2 := ((hE1.wipe own).grow g2).grow g3
    unfold turnD at c1
    split at c1
    · cases c1
    · rename_i env' hbt
      refine bindT_ok hE2 w3 r3 hbt fun σ' hE3 hwp hback => ⟨by rw [hwp own ht, wipe_wipe], ?_⟩
      obtain ⟨b, u5, c5, c6⟩ := bnd_some c1
      refine ⟨ua, uu, B2, env', b, u5, hE3, w3, c5, fun H3 ⟨B3, g4, w4⟩ => ?_⟩
      have hv3 : H3 Dp = some (.dK (ks.zip vs)) := g4.keep _ _ hv2 nu
      have hb3 : B3 Dp = none := g4.none_of hv2 hb2
      have rs3 := rs2.mono _ _ g4.pub
      have gg := g2.trans (g3.trans g4)
      cases b with
      | true =>
        rw [if_pos rfl] at c6
        refine iteT ?_
        obtain ⟨k0, u6, c7, c8⟩ := bnd_some c6
        obtain ⟨v0, u7, c9, c10⟩ := bnd_some c8
        cases hky : keyOf k0 with
        | none => rw [hky] at c10; cases c10
        | some key =>
          rw [hky] at c10
          have c10 : some (some (key, v0), u7) = some (o, u3) := c10
          cases c10
          have c2 : (if ks.length < sizeLine then foldD (turnD t own env mc mk mv) (ds.drop (i + 1)) (putD ks es key v0).1 (putD ks es key v0).2 u3 else none) = some (r, u') := c2
          split at c2
          · rename_i hz
            refine ⟨ua, u5, B3, env', k0, u6, hE3.grow g4, w4, c7, fun yv H4 ⟨B4, g5, w5, r5⟩ => ⟨ua, u6, B4, env', v0, u3, (hE3.grow g4).grow g5, w5, c9, fun zv H5 ⟨B5, g6, w6, r6⟩ => ?_⟩⟩
            have hv4 : H4 Dp = some (.dK (ks.zip vs)) := g5.keep _ _ hv3 nu
            have hb4 : B4 Dp = none := g5.none_of hv3 hb3
            have hv5 : H5 Dp = some (.dK (ks.zip vs)) := g6.keep _ _ hv4 nu
            have hb5 : B5 Dp = none := g6.none_of hv4 hb4
            have rs5 := (rs3.mono _ _ g5.pub).mono _ _ g6.pub
            obtain ⟨ws, q1, q2, q3, _, q5⟩ := putD_rep (j := key) r6 hn hl rs5
            refine ⟨_, key, keyOf_rep hky r5, hv5, by rw [List.length_zip, ← hl, Nat.min_self]; exact hz, B5, u3, (putD ks es key v0).1, (putD ks es key v0).2, ws, ((gg.trans g5).trans g6).put hD, w6.put hb5 nu, ?_, hb5, q5, q2, q3, c2⟩
            rw [upd_same, q1]
          · cases c2
      | false =>
        rw [if_neg Bool.false_ne_true] at c6
        refine iteF ?_
        cases c6
        exact ⟨B3, _, ks, es, vs, gg, w4, hv3, hb3, hn, hl, rs3, c2⟩
  · have e : i = ds.length := by omega
    subst e
    rw [List.drop_length] at hc
    cases hc
    refine .inl ⟨hk.2 (List.getElem?_eq_none (Nat.le_refl _)), q _ _ ⟨B', g1.trans g2, w2, Dp, _, rfl, g1.live _ hD, hv, hb, nu, vs, rfl, hl, rs, hn⟩⟩
variable {kx vx tg iter : Expr} {ifs : List Expr} {scope : Scope} {own : List (Str × Nat)} {pos : Pos}
theorem dv_dc (t : Tgt) (ids : List Nat) (hc : X.calm = true) (hN : X.N.Nodup) (hi : PI X tg iter (tIt G mi)) (ok : BlkOk X.N X.env.scope scope own) (hid : own.map (·.2) = ids) (ht : ∀ i ∈ t.ids, i ∈ ids)
    (hg : ∀ (s : Shared) (H : Hp) (C : Addr) (cl : List (Str × Addr)) (fp : List Addr), PG (X.blk s H scope (compEnvC scope cl C X.env) fp) tg (gOf X.K t)) (hq : ∀ (s : Shared) (H : Hp) (C : Addr) (cl : List (Str × Addr)) (fp : List Addr), PTs (X.blk s H scope (compEnvC scope cl C X.env) fp) ifs (tTst (K := X.K) G mc))
    (hk : ∀ (s : Shared) (H : Hp) (C : Addr) (cl : List (Str × Addr)) (fp : List Addr), PE (X.blk s H scope (compEnvC scope cl C X.env) fp) kx (tEv (K := X.K) G mk))
    (he : ∀ (s : Shared) (H : Hp) (C : Addr) (cl : List (Str × Addr)) (fp : List Addr), PE (X.blk s H scope (compEnvC scope cl C X.env) fp) vx (tEv (K := X.K) G mv)) (hs : ∀ x, foldedSetIterable iter X.env x = pure x := by intro _; rfl) :
    PE X (.DictComp kx vx [⟨tg, iter, ifs, 0⟩] scope pos) (tSv G (vDC t ids mi mc mk mv)) := by
  subst hid
  exact (pe_dc hc hN hi ok hg hq hk he hs).imp fun _ _ _ h => dc_read ht h
end
/-! ### a value of one's own made with a look into one's own dict -/
def scalO : Oo → Bool
  | .lst ds => ds.all scalD
  | .dct _ ds => ds.all scalD
theorem reps_scal {K : PySem.W.Frag} {G : Gx K} {ua : Option Addr} {B B1 : Hp} : ∀ {ds : List D} {vs : List V}, ds.all scalD = true → Reps G ua ds vs B → Reps G ua ds vs B1
  | [], vs, _, r => by rw [r.of_nil]; exact .nil
  | d :: ds, vs, h, r => by
    obtain ⟨v, t, rfl, r1, r2⟩ := r.of_cons
    rw [List.all_cons, Bool.and_eq_true] at h
    exact .cons (r1.scal h.1) (reps_scal h.2 r2)
theorem RepO.scal {K : PySem.W.Frag} {G : Gx K} {ua : Option Addr} {B B1 : Hp} {o : Oo} {ho : HO} (h : scalO o = true) (r : RepO G ua o ho B) : RepO G ua o ho B1 := by
  cases o with
  | lst ds =>
    obtain ⟨vs, rfl, rs⟩ := r
    exact ⟨vs, rfl, reps_scal h rs⟩
  | dct ks ds =>
    obtain ⟨vs, rfl, hl, rs, hn⟩ := r
    exact ⟨vs, rfl, hl, reps_scal h rs, hn⟩
section
variable {X : Cx} {G : Gx X.K} {e : Expr} {mv : MSl}
def vPeek (i : Nat) (m : MSl) : MSl := fun env u => match env[i]? with
  | some (.own o) => bnd (m (env.set i (.pub (ooD o))) u) fun s u1 => match s with
    | .own o' => if scalO o' = true then some (.own o', u1) else none
    | _ => none
  | _ => none
theorem sv_peek (i : Nat) (h : PE X e (tSv G mv)) : PE X e (tSv G (vPeek i mv)) := by
  refine PE.by fun σ H Q z => ?_
  obtain ⟨ua, u, B, env, d, u', hE, hW, hm, q⟩ := z
  unfold vPeek at hm
  split at hm
  · rename_i o hi
    obtain ⟨s, u1, c1, c2⟩ := bnd_some hm
    split at c2
    · rename_i o' 
      split at c2
      · rename_i hsc
        cases c2
        obtain ⟨l, ho, s1, s2, s3, s4, s5⟩ := hE.own i o hi
        rcases s4.show s3 with ⟨ds, rfl, r⟩ | ⟨ks, ds, rfl, mu, r⟩
        · refine ⟨_, h, ?_⟩
          have eS := hE.show hi s1 s3 r
          have wS := hW.showU (ho' := ho) s3 s5
          have id := upd_id s2
          rw [id] at eS wS
          refine ⟨ua, u, _, _, _, _, eS, wS, c1, fun v H1 ⟨B1, g1, w1, r1⟩ => ?_⟩
          have g1' : Grow ua (upd B l ho) (upd H l ho) B1 H1 := by rw [id]; exact g1
          obtain ⟨g2, w2⟩ := peek_back hW s2 s3 s5 g1' w1
          have k1 : H1 l = some ho := g1.keep _ _ s2 s5
          rw [upd_id k1] at g2 w2
          obtain ⟨p, hp, e1, e2, e3, e4, e5, e6⟩ := r1
          refine q v H1 ⟨B, g2, w2, p, hp, e1, e2, e3, ?_, e5, e6.scal hsc⟩
          exact hW.none_of e2
        · refine ⟨_, pe_lock h, l, ho, s2, mu, fun od => ?_⟩
          refine ⟨ua, u, _, _, _, _, hE.show hi s1 s3 (r od), hW.showU s3 s5, c1, fun v H1 ⟨B1, g1, w1, r1⟩ => ?_⟩
          obtain ⟨g2, w2⟩ := peek_back hW s2 s3 s5 g1 w1
          obtain ⟨p, hp, e1, e2, e3, e4, e5, e6⟩ := r1
          have np : p ≠ l := fun z => by rw [z, upd_same] at e2; cases e2
          rw [upd_ne np] at e2
          exact ⟨g1.keep _ _ upd_same s5, q v _ ⟨B, g2, w2, p, hp, e1, e2, by rw [upd_ne np]; exact e3, hW.none_of e2, e5, e6.scal hsc⟩⟩
      · cases c2
    · cases c2
  · cases hm
end
end Dv

/-! Sg: sorted of any data of one kind. -/
namespace Dv
open PySem PySem.Spec PyProof.Rows L2
def pyD (d : D) : PyData := (toPy d).getD .none
def leG (a b : D) : Bool := W.dataLe false pyD a b
theorem leG_total : W.TotalLe leG := by
  have := W.sortLe_total (PyProof.Rows.listOrd PyProof.Rows.itemOrd) false (fun d : D => W.keyToks (pyD d))
  exact ⟨fun a b c h g => this.trans a b c h g, fun a b => this.total a b⟩
def insG (x : D) : List D → List D
  | [] => [x]
  | y :: r => if leG x y = true then x :: y :: r else y :: insG x r
def sortG : List D → List D
  | [] => []
  | x :: r => insG x (sortG r)
theorem insG_perm (x : D) : ∀ l, (insG x l).Perm (x :: l)
  | [] => .refl _
  | y :: r => by
    unfold insG
    split
    · exact .refl _
    · exact ((insG_perm x r).cons y).trans (.swap x y r)
theorem sortG_perm : ∀ l, (sortG l).Perm l
  | [] => .refl _
  | x :: r => (insG_perm x _).trans ((sortG_perm r).cons x)
abbrev LeG (a b : D) : Prop := leG a b = true
theorem insG_sorted (x : D) : ∀ l : List D, l.Pairwise LeG → (insG x l).Pairwise LeG
  | [], _ => List.pairwise_singleton _ _
  | y :: r, h => by
    have h1 := List.pairwise_cons.mp h
    unfold insG
    split
    · rename_i hl
      refine List.pairwise_cons.mpr ⟨fun z hz => ?_, h⟩
      rcases List.mem_cons.mp hz with rfl | hz
      · exact hl
      · exact leG_total.trans _ _ _ hl (h1.1 z hz)
    · rename_i hl
      refine List.pairwise_cons.mpr ⟨fun z hz => ?_, insG_sorted x r h1.2⟩
      rcases List.mem_cons.mp ((insG_perm x r).subset hz) with rfl | hz
      · exact (leG_total.total _ _).resolve_left hl
      · exact h1.1 z hz
theorem sortG_sorted : ∀ l : List D, (sortG l).Pairwise LeG
  | [] => .nil
  | x :: r => insG_sorted x _ (sortG_sorted r)
theorem insG_rank (x c : D) : ∀ l : List D, (insG x l).filter (W.sameRank leG c) = (x :: l).filter (W.sameRank leG c)
  | [] => rfl
  | y :: r => by
    unfold insG
    split
    · rfl
    · rename_i hl
      rw [List.filter_cons, insG_rank x c r, List.filter_cons, List.filter_cons, List.filter_cons]
      by_cases hx : W.sameRank leG c x = true
      · have hy : ¬ W.sameRank leG c y = true := fun hy => hl (by
          unfold W.sameRank at hx hy
          rw [Bool.and_eq_true] at hx hy
          exact leG_total.trans _ _ _ hx.2 hy.1)
        rw [if_neg hy, if_pos hx, if_pos hx, if_neg hy]
      · rw [if_neg hx, if_neg hx]
theorem sortG_rank (c : D) : ∀ l : List D, (sortG l).filter (W.sameRank leG c) = l.filter (W.sameRank leG c)
  | [] => rfl
  | x :: r => by
    show (insG x (sortG r)).filter _ = _
    rw [insG_rank, List.filter_cons, List.filter_cons, sortG_rank c r]
theorem sortG_eq (l : List D) : sortG l = l.mergeSort leG := W.sort_unique leG_total (sortG_sorted l) fun c => sortG_rank c l
/-! ### the rule -/
def alikeB (ps : List PyData) : Bool := ps.all fun p => ps.all fun q => W.alike p q
def tupB : PyData → Bool
  | .tuple (_ :: _) => true
  | _ => false
def flatP : PyData → Bool
  | .none => false
  | .tuple _ => false
  | _ => true
def sortableB (ps : List PyData) : Bool := ps.all tupB || ps.all flatP
def okG (ps : List PyData) : Bool := alikeB ps && sortableB ps && ps.all fun p => decide (p.depth ≤ 60)
theorem okG_al {ps : List PyData} (h : okG ps = true) : W.AllAlike ps := fun d hd d' hd' => by
  unfold okG alikeB at h
  rw [Bool.and_eq_true, Bool.and_eq_true] at h
  exact List.all_eq_true.mp (List.all_eq_true.mp h.1.1 d hd) d' hd'
theorem okG_so {ps : List PyData} (h : okG ps = true) : W.Sortable ps := by
  unfold okG sortableB at h
  rw [Bool.and_eq_true, Bool.and_eq_true, Bool.or_eq_true] at h
  rcases h.1.2 with h | h
  · refine .inl fun d hd => ?_
    have := List.all_eq_true.mp h d hd
    unfold tupB at this
    split at this
    · exact ⟨_, _, rfl⟩
    · cases this
  · refine .inr fun d hd => ?_
    have := List.all_eq_true.mp h d hd
    unfold flatP at this
    split at this
    · cases this
    · cases this
    · rename_i h1 h2
      exact ⟨h1, h2⟩
theorem okG_dep {ps : List PyData} (h : okG ps = true) : ∀ p ∈ ps, p.depth ≤ 60 := fun p hp => by
  unfold okG at h
  rw [Bool.and_eq_true] at h
  exact of_decide_eq_true (List.all_eq_true.mp h.2 p hp)
theorem toPys_pyD : ∀ {ds : List D} {ps : List PyData}, toPys ds = some ps → ps = ds.map pyD ∧ ∀ d ∈ ds, toPy d = some (pyD d)
  | [], ps, h => by unfold toPys at h; cases h; exact ⟨rfl, fun d hd => by cases hd⟩
  | d :: ds, ps, h => by
    unfold toPys at h
    cases q : toPy d with
    | none => rw [q] at h; cases h
    | some p =>
      rw [q] at h
      cases q2 : toPys ds with
      | none => rw [q2] at h; cases h
      | some r =>
        rw [q2] at h
        have h : some (p :: r) = some ps := h
        cases h
        obtain ⟨h1, h2⟩ := toPys_pyD q2
        have e : pyD d = p := by unfold pyD; rw [q]; rfl
        refine ⟨by rw [List.map_cons, e, h1], fun x hx => ?_⟩
        rcases List.mem_cons.mp hx with rfl | hx
        · rw [e]; exact q
        · exact h2 x hx
def rSortedG (X : Cx) : List V → Hp → VK → Prop := fun vs H Q => ∃ (a : Addr) (zs : List (V × D)), vs = [.ref a] ∧ SqL X.K H a (zs.map (·.1)) ∧ (∀ z ∈ zs, Dp X.K H z.1 (pyD z.2)) ∧ okG (zs.map fun z => pyD z.2) = true ∧
  ∀ (p : Addr), H p = none → Q (.ref p) (upd H p (.lst ((zs.mergeSort fun x y => leG x.2 y.2).map (·.1))))
theorem vals_eachD {R : Value → V × D → Prop} (hR : ∀ u z, R u z → RelV z.1 u) : ∀ {us : List Value} {zs : List (V × D)}, W.EachIs R us zs → Vals (zs.map (·.1)) us
  | _, _, .nil => .nil
  | _, _, .cons h t => .cons (hR _ _ h) (vals_eachD hR t)
theorem each_valsD : ∀ {zs : List (V × D)} {us : List Value}, Vals (zs.map (·.1)) us → W.EachIs (fun u (z : V × D) => RelV z.1 u) us zs
  | [], us, h => by cases us with
    | nil => exact .nil
    | cons u us => cases h
  | z :: zs, us, h => by cases us with
    | nil => cases h
    | cons u us => cases h with
      | cons h1 h2 => exact .cons h1 (each_valsD h2)
theorem each_readsD {R S : Value → V × D → Prop} : ∀ {us : List Value} {zs : List (V × D)}, W.EachIs R us zs → (∀ u z, z ∈ zs → R u z → S u z) → W.EachIs S us zs
  | _, _, .nil, _ => .nil
  | _, _, .cons h t, f => .cons (f _ _ List.mem_cons_self h) (each_readsD t fun u z hz => f u z (List.mem_cons_of_mem _ hz))
theorem cr_sortedG {X : Cx} (hu : X.A.units + 64 < cLine) : CallR X (.builtin "sorted") (rSortedG X) := by
  intro pins s σ H vs us Q I r h
  obtain ⟨a, zs, rfl, hs, hd, hok, q⟩ := h
  obtain ⟨its, rv, hl, hz⟩ := I.list hs
  obtain ⟨u, rfl, ru⟩ := vals1 r
  obtain rfl : u = Value.ref a := ru
  have e0 := each_valsD rv
  have er : W.EachIs (fun u (z : V × D) => ∃ as, Reads s.heap u (pyD z.2) as) its zs := each_readsD e0 fun u z hz' ru => Dp.reads I _ _ _ (hd z hz') ru
  have hlen : its.length = zs.length := by rw [← rv.length, List.length_map]
  refine W.sorted_data (enc := fun z : V × D => pyD z.2) (R := fun u z => RelV z.1 u) hl.isList e0 er (okG_al hok) (okG_so hok) (by rw [← hlen, ← rv.length]; exact hz) (fun b hb => by
    have := okG_dep hok (pyD b.2) (List.mem_map.mpr ⟨b, hb, rfl⟩)
    omega) fun out ho eo => ?_
  obtain ⟨ys, hys⟩ : ∃ ys, ys = zs.mergeSort (W.dataLe false fun z : V × D => pyD z.2) := ⟨_, rfl⟩
  have hperm : ys.Perm zs := by rw [hys]; exact List.mergeSort_perm _ _
  rw [← hys] at eo
  obtain ⟨c, hc⟩ := PyProof.Rows.sortedAll_at s.heap its out.toArray
  refine ⟨.ref (s.heap.objs.size + 1), upd H (s.heap.objs.size + 1) (.lst (ys.map (·.1))), I.laid (t' := s.toks) (fun b o e => PyProof.Rows.sortedAll_old e) (Nat.le_succ _) ⟨?_, out, c, vals_eachD (fun _ _ h => h) eo, hc⟩, rfl, ?_⟩
  · rw [List.length_map, hperm.length_eq, ← hlen, ← rv.length]; exact hz
  · have := q (s.heap.objs.size + 1) (I.hok.fresh (Nat.le_succ _))
    rw [hys]
    exact this
/-! ### as data -/
def sortP (ds : List D) : Option D := (toPys ds).bind fun ps => if okG ps = true then some (.lst (sortG ds)) else none
def bSortB : List D → Option D
  | [.lst ds] => match bSortA [.lst ds] with
    | some d => some d
    | none => sortP ds
  | _ => none
theorem rep_all {K : PySem.W.Frag} {G : Gx K} {ua : Option Addr} {B H : Hp} (sub : Same B H) : ∀ {ds : List D} {vs : List V}, (∀ d ∈ ds, toPy d = some (pyD d)) → Reps G ua ds vs B → ∃ zs : List (V × D), zs.map (·.1) = vs ∧ zs.map (·.2) = ds ∧ ∀ z ∈ zs, Rep G ua z.2 z.1 B ∧ Dp K H z.1 (pyD z.2)
  | [], vs, _, r => ⟨[], by rw [r.of_nil]; rfl, rfl, fun z hz => by cases hz⟩
  | d :: ds, vs, h, r => by
    obtain ⟨v, t, rfl, r1, r2⟩ := r.of_cons
    obtain ⟨zs, h1, h2, h3⟩ := rep_all sub (fun x hx => h x (List.mem_cons_of_mem _ hx)) r2
    refine ⟨(v, d) :: zs, by rw [List.map_cons, h1], by rw [List.map_cons, h2], fun z hz => ?_⟩
    rcases List.mem_cons.mp hz with rfl | hz
    · exact ⟨r1, rep_dp sub _ _ _ (h d List.mem_cons_self) r1⟩
    · exact h3 z hz
theorem reps_ofD {K : PySem.W.Frag} {G : Gx K} {ua : Option Addr} {B : Hp} : ∀ {zs : List (V × D)}, (∀ z ∈ zs, Rep G ua z.2 z.1 B) → Reps G ua (zs.map (·.2)) (zs.map (·.1)) B
  | [], _ => .nil
  | z :: zs, h => .cons (h z List.mem_cons_self) (reps_ofD fun y hy => h y (List.mem_cons_of_mem _ hy))
theorem ok_sortB {X : Cx} {G : Gx X.K} (hu : X.A.units + 64 < cLine) : BiOk G (.builtin "sorted") bSortB := by
  intro ua u B H ds d vs e rs w
  unfold bSortB at e
  split at e
  · rename_i ds
    split at e
    · rename_i d' hd
      cases e
      exact ok_sortA hu ua u B H _ _ vs hd rs w
    · unfold sortP at e
      cases q : toPys ds with
      | none => rw [q] at e; cases e
      | some ps =>
        rw [q] at e
        have e : (if okG ps = true then some (D.lst (sortG ds)) else none) = some d := e
        split at e
        · rename_i hok
          cases e
          obtain ⟨hp, hpy⟩ := toPys_pyD q
          obtain ⟨v, t, rfl, r1, r2⟩ := rs.of_cons
          rw [r2.of_nil]
          obtain ⟨a, ys, rfl, h, r3⟩ := r1.lst
          obtain ⟨zs, h1, h2, h3⟩ := rep_all w.sub hpy r3
          refine ⟨_, cr_sortedG hu, a, zs, rfl, by rw [h1]; exact .of (w.sub _ _ h), fun z hz => (h3 z hz).2, ?_, fun p hn => ?_⟩
          · rw [show (zs.map fun z => pyD z.2) = (zs.map (·.2)).map pyD from by rw [List.map_map]; rfl, h2, ← hp]; exact hok
          · have hm : (zs.mergeSort fun x y => leG x.2 y.2).map (·.2) = sortG ds := by
              rw [sortG_eq, ← h2]
              exact W.sort_maps (f := fun z : V × D => z.2) fun a _ b _ => rfl
            rw [← hm]
            exact .lst w hn (reps_ofD fun z hz => (h3 z ((List.mergeSort_perm _ _).mem_iff.mp hz)).1)
        · cases e
  · cases e
end Dv

/-! Kn: int of a text; x += e; a + b as a list of one's own. -/
namespace Dv
open PySem PySem.Spec PyProof.Rows L2
def bIntS (ds : List D) : Option D := match bInt ds with
  | some d => some d
  | none => match ds with
    | [.str a] => if a.length ≤ 640 then (PySem.intText? a).map .int else none
    | _ => none
theorem ok_intS {X : Cx} {G : Gx X.K} : BiOk G (.type "int") bIntS := by
  intro ua u B H ds d vs e rs w
  unfold bIntS at e
  cases hb : bInt ds with
  | some d' =>
    rw [hb] at e
    cases e
    exact ok_int ua u B H ds _ vs hb rs w
  | none =>
    rw [hb] at e
    dsimp only at e
    split at e
    · rename_i a
      split at e
      · rename_i hl
        obtain ⟨v, t, rfl, r1, r2⟩ := rs.of_cons
        rw [r2.of_nil]
        cases r1.str
        cases q : PySem.intText? a with
        | none => rw [q] at e; cases e
        | some n =>
          rw [q] at e
          cases e
          exact ⟨_, call_int_str, a, n, rfl, q, hl, .here w rep_int⟩
      · cases e
    · cases e
section
variable {X : Cx} {G : Gx X.K} {W : WX} {a b e : Expr} {ma mb me : M} {pos : Pos}
/-- a + b, lists: a new list -/
def vAdd (ma mb : M) : MSl := fun env u => bnd (ma env u) fun x u1 => bnd (mb env u1) fun y u2 => match x, y with
  | .lst ds, .lst es => if ds.length + es.length ≤ sizeLine then some (.own (.lst (ds ++ es)), u2) else none
  | _, _ => none
theorem dv_oAdd (ha : PE X a (tEv G ma)) (hb : PE X b (tEv G mb)) : PE X (.BinOp a .Add b pos) (tSv G (vAdd ma mb)) := by
  refine (pe_op op_cat ha hb).imp fun σ H Q z => ?_
  obtain ⟨ua, u, B, env, s, u', hE, hW, hm, q⟩ := z
  obtain ⟨x, u1, c1, c2⟩ := bnd_some hm
  obtain ⟨y, u2, c3, c4⟩ := bnd_some c2
  refine ⟨ua, u, B, env, x, u1, hE, hW, c1, fun v H1 ⟨B1, g1, w1, r1⟩ => ⟨ua, u1, B1, env, y, u2, hE.grow g1, w1, c3, fun v2 H2 ⟨B2, g2, w2, r2⟩ => ?_⟩⟩
  split at c4
  · split at c4
    · cases c4
      obtain ⟨p, xs, rfl, h1, s1⟩ := r1.lst
      obtain ⟨p2, ys, rfl, h2, s2⟩ := r2.lst
      have s1' := s1.mono _ _ g2.pub
      refine ⟨p, p2, xs, ys, rfl, rfl, w2.sub _ _ (g2.pub _ _ h1), w2.sub _ _ h2, by rw [← s1.len, ← s2.len]; assumption, fun l hl => ?_⟩
      exact q _ _ ⟨B2, (g1.trans g2).trans (.own1 w2 hl), w2.own1 hl, l, _, rfl, g1.live _ (g2.live _ hl), upd_same, w2.none_of hl, w2.ne_urn hl, _, rfl, s1'.append s2⟩
    · cases c4
  · cases c4
/-- x += e, ints -/
def sAugI (i : Nat) (me : M) : MS := fun env u => match env[i]? with
  | some (Sl.pub (.int x)) => bnd (me env u) fun y u1 => match y with
    | .int y => some (.nx (env.set i (Sl.pub (.int (x + y)))), u1)
    | _ => none
  | _ => none
theorem ds_augI (i : Nat) {x : Str} {pos' : Pos} (hN : X.N.Nodup) (he : PE X e (tEv G me)) (hi : X.N[i]? = some x := by rfl) (hx : Loc X.env.scope x := by first | exact Or.inl rfl | exact Or.inr rfl) (hf : X.fn x = true ∨ X.env.scope.names.lookup x = some .local := by first | exact .inl rfl | exact .inr rfl | assumption) :
    PS X (.AugAssign (.Name x pos') .Add e pos) (tSt G W (sAugI i me)) := (ps_aug hN hi hx he ip_add hf).imp fun Dn σ H h => by
  obtain ⟨ua, u, B, env, fl, u', B0, H0, hg, hO, hE, hW, hm, q⟩ := h
  unfold sAugI at hm
  split at hm
  · rename_i x hx
    obtain ⟨y, u1, c1, c2⟩ := bnd_some hm
    split at c2
    · cases c2
      obtain ⟨v, hs, hv⟩ := hE.pub i _ hx
      cases hv.int
      refine ⟨_, hs, ua, u, B, env, _, _, hE, hW, c1, fun v2 H1 ⟨B1, g1, w1, r1⟩ => ?_⟩
      cases r1.int
      exact ⟨_, _, rfl, rfl, q _ B1 H1 (hg.trans g1) (hO.set i _ _) ((hE.grow g1).set rep_int i) w1⟩
    · cases c2
  · cases hm
/-- a, b = e, f by way of a tuple -/
theorem ds_parvC (i j : Nat) {f : Expr} {mv mw : MSl} {x y : Str} {px py pt pt2 : Pos} {kt k2 : Nat} (hc : X.calm = true) (hN : X.N.Nodup) (ha : PE X e (tSv G mv)) (hb : PE X f (tSv G mw)) (hi : X.N[i]? = some x := by rfl) (hj : X.N[j]? = some y := by rfl) (hx : Loc X.env.scope x := by first | exact Or.inl rfl | exact Or.inr rfl) (hy : Loc X.env.scope y := by first | exact Or.inl rfl | exact Or.inr rfl)
    (hfx : X.fn x = true ∨ X.env.scope.names.lookup x = some .local := by first | exact .inl rfl | exact .inr rfl | assumption) (hfy : X.fn y = true ∨ X.env.scope.names.lookup y = some .local := by first | exact .inl rfl | exact .inr rfl | assumption)
    (hs : swapsWithSole [.Tuple [.Name x px, .Name y py] kt pt] (.Tuple [e, f] k2 pt2) pos.line X.env = pure false := by rfl) (hw : swappedStores [.Tuple [.Name x px, .Name y py] kt pt] (.Tuple [e, f] k2 pt2) X.env = pure none := by rfl)
    (h1 : (assignEach [.Tuple [.Name x px, .Name y py] kt pt] X.env).map (·.2) = [assign (.Tuple [.Name x px, .Name y py] kt pt) X.env] := by rfl)
    (he1 : starEach (e :: [f]) X.env = (false, eval e X.env) :: starEach [f] X.env := by rfl) (he2 : starEach (f :: []) X.env = (false, eval f X.env) :: starEach [] X.env := by rfl) :
    PS X (.Assign [.Tuple [.Name x px, .Name y py] kt pt] (.Tuple [e, f] k2 pt2) pos) (tSt G W (sParv i j mv mw)) :=
  (ps_asg (pe_tup (pa_cons ha (pa_cons hb pa_nil he2) he1)) (pg_tup hc (pgs_cons (pg_name hN hi hx hfx) (pgs_cons (pg_name hN hj hy hfy) pgs_nil)) (n := 2)) hs hw h1).imp fun Dn σ H h => by
  obtain ⟨ua, u, B, env, fl, u', B0, H0, hg, hO, hE, hW, hm, q⟩ := h
  obtain ⟨s, u1, c1, c2⟩ := bnd_some hm
  obtain ⟨s2, u2, c3, c4⟩ := bnd_some c2
  cases c4
  refine ⟨ua, u, B, env, s, u1, hE, hW, c1, fun v H1 ⟨B1, g1, w1, r1⟩ => ⟨ua, u1, B1, env, s2, _, hE.grow g1, w1, c3, fun v2 H2 ⟨B2, g2, w2, r2⟩ => ⟨by show 2 ≤ sizeLine; decide, fun T hT => ?_⟩⟩⟩
  have g3 : Grow ua B2 H2 B2 (upd H2 T (.tup [v, v2])) := .own1 w2 hT
  have w3 : Wd ua u' B2 (upd H2 T (.tup [v, v2])) := w2.own1 hT
  refine ⟨T, [v, v2], rfl, .of upd_same, rfl, _, _, rfl, _, _, rfl, rfl, ?_⟩
  have gg := (g1.trans g2).trans g3
  have r1' := (r1.grow g2).grow g3
  have r2' := r2.grow g3
  have ea := r1'.store (hE.grow gg) i hE.far
  have oa := r1.news hO hg.live i
  refine q _ B2 _ (hg.trans gg) (r2.news oa (fun a z => hg.live _ (g1.live _ z)) j) (r2'.store ea j fun k es p z1 z2 => ?_) w3
  exact ((r1.store (hE.grow g1) i hE.far).far k es p z1 z2)
end
end Dv

/-! Cq: comprehensions of two clauses; tuple * int. -/
namespace Dv
open PySem PySem.Spec PyProof.Rows L2
def turnL2 (t : Tgt) (own : List Nat) (env : List Sl) (mc : MB) (t2 : Tgt) (own2 : List Nat) (mi2 : MI) (mc2 : MB) (me : M) : D → U → Option (List D × U) := fun d u => match bindT t d (wipeE env own) with
  | none => none
  | some env' => bnd (mc env' u) fun b u1 => if b = true then bnd (mi2 env' u1) fun ds u2 => compL (turnL t2 own2 env' mc2 me) ds u2 else some ([], u1)
def compL2 (f : D → U → Option (List D × U)) : List D → U → Option (List D × U)
  | [], u => some ([], u)
  | d :: ds, u => bnd (f d u) fun r u1 => bnd (compL2 f ds u1) fun r2 u2 => some (r ++ r2, u2)
def mLc2 (t : Tgt) (own : List Nat) (mi : MI) (mc : MB) (t2 : Tgt) (own2 : List Nat) (mi2 : MI) (mc2 : MB) (me : M) : M := fun env u => bnd (mi env u) fun ds u1 => bnd (compL2 (turnL2 t own env mc t2 own2 mi2 mc2 me) ds u1) fun r u2 => if r.length ≤ sizeLine then some (.lst r, u2) else none
section
variable {X : Cx} {G : Gx X.K} {mi mi2 : MI} {mc mc2 : MB} {me : M}
theorem EnvOk.updN {K : PySem.W.Frag} {G : Gx K} {ua : Option Addr} {env : List Sl} {σ : List (Option V)} {B H : Hp} {p : Addr} {o : HO} (e : EnvOk G ua env σ B H) (far : ∀ (j : Nat) es q, env[j]? = some (Sl.own es) → σ[j]? = some (some (V.ref q)) → q ≠ p) : EnvOk G ua env σ B (upd H p o) :=
  ⟨e.len, e.pub, fun i ds h => by
    obtain ⟨q, ho, h1, h2, h3⟩ := e.own i ds h
    exact ⟨q, ho, h1, by rw [upd_ne (far i ds q h h1)]; exact h2, h3⟩, e.inj⟩
theorem lc2_read {t t2 : Tgt} {own own2 : List Nat} {σ : L2.St} {H : Hp} {Q : VK} (ht : ∀ i ∈ t.ids, i ∈ own) (ht2 : ∀ i ∈ t2.ids, i ∈ own2) (h22 : ∀ i ∈ t2.ids, i ∈ own) (h : tEv G (mLc2 t own mi mc t2 own2 mi2 mc2 me) σ H Q) : tLc2 (tIt G mi) (gOf X.K t) (tTst G mc) (tIt G mi2) (gOf X.K t2) (tTst G mc2) (tEv G me) own own2 σ H Q := by
  obtain ⟨ua, u, B, env, d, u', hE, hW, hm, q⟩ := h
  obtain ⟨ds, u1, h1, h2⟩ := bnd_some hm
  obtain ⟨r, u2, h3, h4⟩ := bnd_some h2
  split at h4
  · rename_i hr
    cases h4
    refine ⟨ua, u, B, env, ds, u1, hE, hW, h1, fun J B1 H1 g1 w1 wk => ?_⟩
    have hE1 := hE.grow g1
    have q : ∀ v H', Aft G ua B1 H1 u' (.lst r) v H' → Q v H' := fun v H' a => q v H' (.up g1 a)
    intro Dp hD
    refine ⟨fun i m H' => m = ds.length - i ∧ i ≤ ds.length ∧ ∃ B' uu done vs rest, Grow ua B1 H1 B' H' ∧ Wd ua uu B' H' ∧ H' Dp = some (.lst vs) ∧ B' Dp = none ∧ Reps G ua done vs B' ∧ compL2 (turnL2 t own env mc t2 own2 mi2 mc2 me) (ds.drop i) uu = some (rest, u') ∧ done ++ rest = r,
      ⟨ds.length, by omega, by omega, B1, u1, [], [], r, .own1 w1 hD, w1.own1 hD, upd_same, w1.none_of hD, .nil, h3, rfl⟩, ?_⟩
    rintro i m H' ⟨rfl, hi, B', uu, done, vs, rest, g2, w2, hv, hb, rs, hc, hcat⟩
    have nu : ua ≠ some Dp := w1.ne_urn hD
    have hk := wk i B' H' uu g2.pub w2
    by_cases hlt : i < ds.length
    · have hd : ds[i]? = some ds[i] := List.getElem?_eq_getElem hlt
      obtain ⟨hgo, hy⟩ := hk.1 _ hd
      rw [List.drop_eq_getElem_cons hlt] at hc
      obtain ⟨ro, u3, c1, c2⟩ := bnd_some (show bnd (turnL2 t own env mc t2 own2 mi2 mc2 me ds[i] uu) _ = _ from hc)
      obtain ⟨rest', u4, c3, c4⟩ := bnd_some c2
      cases c4
      refine .inr ⟨hgo, fun H2 => ∃ B' uu done vs rest, Grow ua B1 H1 B' H2 ∧ Wd ua uu B' H2 ∧ H2 Dp = some (.lst vs) ∧ B' Dp = none ∧ Reps G ua done vs B' ∧ compL2 (turnL2 t own env mc t2 own2 mi2 mc2 me) (ds.drop (i + 1)) uu = some (rest, u') ∧ done ++ rest = r,
        fun H2 h2 => ⟨ds.length - (i + 1), by omega, rfl, hlt, h2⟩, fun x H2 y => ?_⟩
      obtain ⟨B2, g3, w3, r3⟩ := hy x H2 y
      have hv2 : H2 Dp = some (.lst vs) := g3.keep _ _ hv nu
      have hb2 : B2 Dp = none := g3.none_of hv hb
      have rs2 := rs.mono _ _ g3.pub
      have hE2 : EnvOk G ua (wipeE env own) (wipe σ own) B2 H2 := ((hE1.wipe own).grow g2).grow g3
      unfold turnL2 at c1
      split at c1
      · cases c1
      · rename_i env' hbt
        refine bindT_ok hE2 w3 r3 hbt fun σ' hE3 hwp hback => ⟨by rw [hwp own ht, wipe_wipe], ?_⟩
        obtain ⟨b, u5, c5, c6⟩ := bnd_some c1
        have farp : ∀ (j : Nat) es p, env'[j]? = some (Sl.own es) → σ'[j]? = some (some (V.ref p)) → p ≠ Dp := fun j es p z1 z2 e => by
          obtain ⟨z3, z4⟩ := bindT_own hbt j es z1
          exact (hE1.wipe own).far j es p z3 (hback j _ z2 z4) (by rw [e]; exact hD)
        refine ⟨ua, uu, B2, env', b, u5, hE3, w3, c5, fun H3 ⟨B3, g4, w4⟩ => ?_⟩
        have hv3 : H3 Dp = some (.lst vs) := g4.keep _ _ hv2 nu
        have hb3 : B3 Dp = none := g4.none_of hv2 hb2
        have rs3 := rs2.mono _ _ g4.pub
        have gg := g2.trans (g3.trans g4)
        cases b with
        | true =>
          rw [if_pos rfl] at c6
          refine iteT ?_
          obtain ⟨ds2, u6, c7, c8⟩ := bnd_some c6
          refine ⟨ua, u5, B3, env', ds2, u6, hE3.grow g4, w4, c7, fun J1 B4 H4 g5 w5 wk1 => ?_⟩
          have hv4 : H4 Dp = some (.lst vs) := g5.keep _ _ hv3 nu
          have hb4 : B4 Dp = none := g5.none_of hv3 hb3
          have rs4 := rs3.mono _ _ g5.pub
          have gg4 := gg.trans g5
          have hE4 := (hE3.grow g4).grow g5
          refine ⟨fun j k H => k = ds2.length - j ∧ j ≤ ds2.length ∧ ∃ B' uu done2 vs rest2, (Same B4 B' ∧ EnvOk G ua env' σ' B' H) ∧ Grow ua B1 H1 B' H ∧ Wd ua uu B' H ∧ H Dp = some (.lst vs) ∧ B' Dp = none ∧ Reps G ua (done ++ done2) vs B' ∧ compL (turnL t2 own2 env' mc2 me) (ds2.drop j) uu = some (rest2, u3) ∧ done2 ++ rest2 = ro,
            ⟨ds2.length, by omega, by omega, B4, u6, [], vs, ro, ⟨fun _ _ z => z, hE4⟩, gg4, w5, hv4, hb4, by rw [List.append_nil]; exact rs4, c8, rfl⟩, ?_⟩
          rintro j k H5 ⟨rfl, hj, B5, uu5, done2, vs5, rest2, ⟨gl, hE5⟩, gt, w6, hv5, hb5, rs5, hc5, hcat5⟩
          have hk1 := wk1 j B5 H5 uu5 gl w6
          by_cases hlt2 : j < ds2.length
          · have hd2 : ds2[j]? = some ds2[j] := List.getElem?_eq_getElem hlt2
            obtain ⟨hgo2, hy2⟩ := hk1.1 _ hd2
            rw [List.drop_eq_getElem_cons hlt2] at hc5
            obtain ⟨o, u7, e1, e2⟩ := bnd_some (show bnd (turnL t2 own2 env' mc2 me ds2[j] uu5) _ = _ from hc5)
            obtain ⟨rest3, u8, e3, e4⟩ := bnd_some e2
            refine .inr ⟨hgo2, fun H => ∃ B' uu done2 vs rest2, (Same B4 B' ∧ EnvOk G ua env' σ' B' H) ∧ Grow ua B1 H1 B' H ∧ Wd ua uu B' H ∧ H Dp = some (.lst vs) ∧ B' Dp = none ∧ Reps G ua (done ++ done2) vs B' ∧ compL (turnL t2 own2 env' mc2 me) (ds2.drop (j + 1)) uu = some (rest2, u3) ∧ done2 ++ rest2 = ro,
              fun H z => ⟨ds2.length - (j + 1), by omega, rfl, hlt2, z⟩, fun x2 H6 y2 => ?_⟩
            obtain ⟨B6, g6, w7, r6⟩ := hy2 x2 H6 y2
            have hv6 : H6 Dp = some (.lst vs5) := g6.keep _ _ hv5 nu
            have hb6 : B6 Dp = none := g6.none_of hv5 hb5
            have rs6 := rs5.mono _ _ g6.pub
            have hE6 : EnvOk G ua (wipeE env' own2) (wipe σ' own2) B6 H6 := (hE5.wipe own2).grow g6
            unfold turnL at e1
            split at e1
            · cases e1
            · rename_i env2 hbt2
              refine bindT_ok hE6 w7 r6 hbt2 fun σ3 hE7 hwp2 hback2 => ⟨by rw [hwp2 own2 ht2, wipe_wipe], ?_⟩
              obtain ⟨b2, u9, e5, e6⟩ := bnd_some e1
              refine ⟨ua, uu5, B6, env2, b2, u9, hE7, w7, e5, fun H7 ⟨B7, g7, w8⟩ => ?_⟩
              have hv7 : H7 Dp = some (.lst vs5) := g7.keep _ _ hv6 nu
              have hb7 : B7 Dp = none := g7.none_of hv6 hb6
              have rs7 := rs6.mono _ _ g7.pub
              have gl7 : Same B4 B7 := fun a o z => g7.pub _ _ (g6.pub _ _ (gl a o z))
              have hE57 := (hE5.grow g6).grow g7
              have gt7 := gt.trans (g6.trans g7)
              cases b2 with
              | true =>
                rw [if_pos rfl] at e6
                refine iteT ?_
                obtain ⟨x', u10, e7, e8⟩ := bnd_some e6
                cases e8
                cases e4
                refine ⟨ua, u9, B7, env2, x', u7, hE7.grow g7, w8, e7, fun yv H8 ⟨B8, g8, w9, r8⟩ => ?_⟩
                have hv8 : H8 Dp = some (.lst vs5) := g8.keep _ _ hv7 nu
                have hb8 : B8 Dp = none := g8.none_of hv7 hb7
                have rs8 := rs7.mono _ _ g8.pub
                refine ⟨vs5, hv8, ?_, B8, u7, done2 ++ [x'], vs5 ++ [yv], rest3, ⟨fun a o z => g8.pub _ _ (gl7 a o z), (hE57.grow g8).updN farp⟩, (gt7.trans g8).put hD, w9.put hb8 nu, upd_same, hb8, by rw [← List.append_assoc]; exact rs8.append (.cons r8 .nil), e3, by rw [← hcat5]; simp⟩
                have z1 := congrArg List.length hcat
                have z2 := congrArg List.length hcat5
                have z3 := rs8.len
                simp only [List.length_append, List.length_cons] at z1 z2 z3
                omega
              | false =>
                rw [if_neg Bool.false_ne_true] at e6
                refine iteF ?_
                cases e6
                cases e4
                exact ⟨B7, _, done2, vs5, rest3, ⟨gl7, hE57⟩, gt7, w8, hv7, hb7, rs7, e3, hcat5⟩
          · have e : j = ds2.length := by omega
            subst e
            rw [List.drop_length] at hc5
            cases hc5
            rw [List.append_nil] at hcat5
            subst hcat5
            exact .inl ⟨hk1.2 (List.getElem?_eq_none (Nat.le_refl _)), B5, u3, done ++ done2, vs5, rest', gt, w6, hv5, hb5, rs5, c3, by rw [← hcat, List.append_assoc]⟩
        | false =>
          rw [if_neg Bool.false_ne_true] at c6
          refine iteF ?_
          cases c6
          exact ⟨B3, _, done, vs, rest', gg, w4, hv3, hb3, rs3, c3, hcat⟩
    · have e : i = ds.length := by omega
      subst e
      rw [List.drop_length] at hc
      cases hc
      rw [List.append_nil] at hcat
      subst hcat
      refine .inl ⟨hk.2 (List.getElem?_eq_none (Nat.le_refl _)), q _ _ ⟨upd B' Dp (.lst vs), g2.show hD hb, w2.show hv nu, ?_⟩⟩
      unfold Rep
      exact ⟨Dp, vs, rfl, upd_same, rs.mono _ _ (same_new hb)⟩
  · cases h4
variable {elt tg iter tg1 iter1 : Expr} {ifs ifs1 : List Expr} {scope : Scope} {own : List (Str × Nat)} {pos : Pos}
theorem dv_lc2 (t : Tgt) (ids : List Nat) (t2 : Tgt) (ids2 : List Nat) (hc : X.calm = true) (hN : X.N.Nodup) (hi : PI X tg iter (tIt G mi)) (ok : BlkOk X.N X.env.scope scope own) (hid : own.map (·.2) = ids) (ht : ∀ i ∈ t.ids, i ∈ ids) (ht2 : ∀ i ∈ t2.ids, i ∈ ids2) (hv : ∀ i ∈ ids2, i ∈ ids)
    (hg : ∀ (s : Shared) (H : Hp) (C : Addr) (cl : List (Str × Addr)) (fp : List Addr), PG (X.blk s H scope (compEnvC scope cl C X.env) fp) tg (gOf X.K t)) (hq : ∀ (s : Shared) (H : Hp) (C : Addr) (cl : List (Str × Addr)) (fp : List Addr), PTs (X.blk s H scope (compEnvC scope cl C X.env) fp) ifs (tTst (K := X.K) G mc))
    (hi1 : ∀ (s : Shared) (H : Hp) (C : Addr) (cl : List (Str × Addr)) (fp : List Addr), PI (X.blk s H scope (compEnvC scope cl C X.env) fp) tg1 iter1 (tIt (K := X.K) G mi2)) (hg1 : ∀ (s : Shared) (H : Hp) (C : Addr) (cl : List (Str × Addr)) (fp : List Addr), PG (X.blk s H scope (compEnvC scope cl C X.env) fp) tg1 (gOf X.K t2)) (hq1 : ∀ (s : Shared) (H : Hp) (C : Addr) (cl : List (Str × Addr)) (fp : List Addr), PTs (X.blk s H scope (compEnvC scope cl C X.env) fp) ifs1 (tTst (K := X.K) G mc2))
    (he : ∀ (s : Shared) (H : Hp) (C : Addr) (cl : List (Str × Addr)) (fp : List Addr), PE (X.blk s H scope (compEnvC scope cl C X.env) fp) elt (tEv (K := X.K) G me)) (hs : ∀ x, foldedSetIterable iter X.env x = pure x := by intro _; rfl) (hs1 : ∀ env x, foldedSetIterable iter1 env x = pure x := by intro _ _; rfl) :
    PE X (.ListComp elt [⟨tg, iter, ifs, 0⟩, ⟨tg1, iter1, ifs1, 0⟩] scope pos) (tEv G (mLc2 t ids mi mc t2 ids2 mi2 mc2 me)) := by
  subst hid
  exact (pe_lc2 (hc := hc) (hN := hN) (hi := hi) (ok := ok) (hv := hv) (hg := hg) (ht := hq) (hi1 := hi1) (hg1 := hg1) (ht1 := hq1) (he := he) (hs := hs) (hs1 := hs1)).imp fun _ _ _ h => lc2_read ht ht2 (fun i hi => hv i (ht2 i hi)) h
theorem ds_setLc2 {W : WX} (i : Nat) {y : Str} {py spos : Pos} (t : Tgt) (ids : List Nat) (t2 : Tgt) (ids2 : List Nat) (hc : X.calm = true) (hN : X.N.Nodup)
    (hsw : swapsWith (.ListComp elt [⟨tg, iter, ifs, 0⟩, ⟨tg1, iter1, ifs1, 0⟩] scope pos) (some (.Name y py)) spos.line X.env = pure true) (hi : PI X tg iter (tIt G mi)) (ok : BlkOk X.N X.env.scope scope own) (hid : own.map (·.2) = ids) (ht : ∀ i ∈ t.ids, i ∈ ids) (ht2 : ∀ i ∈ t2.ids, i ∈ ids2) (hv : ∀ i ∈ ids2, i ∈ ids)
    (hg : ∀ (s : Shared) (H : Hp) (C : Addr) (cl : List (Str × Addr)) (fp : List Addr), PG (X.blk s H scope (compEnvC scope cl C X.env) fp) tg (gOf X.K t)) (hq : ∀ (s : Shared) (H : Hp) (C : Addr) (cl : List (Str × Addr)) (fp : List Addr), PTs (X.blk s H scope (compEnvC scope cl C X.env) fp) ifs (tTst (K := X.K) G mc))
    (hi1 : ∀ (s : Shared) (H : Hp) (C : Addr) (cl : List (Str × Addr)) (fp : List Addr), PI (X.blk s H scope (compEnvC scope cl C X.env) fp) tg1 iter1 (tIt (K := X.K) G mi2)) (hg1 : ∀ (s : Shared) (H : Hp) (C : Addr) (cl : List (Str × Addr)) (fp : List Addr), PG (X.blk s H scope (compEnvC scope cl C X.env) fp) tg1 (gOf X.K t2)) (hq1 : ∀ (s : Shared) (H : Hp) (C : Addr) (cl : List (Str × Addr)) (fp : List Addr), PTs (X.blk s H scope (compEnvC scope cl C X.env) fp) ifs1 (tTst (K := X.K) G mc2))
    (he : ∀ (s : Shared) (H : Hp) (C : Addr) (cl : List (Str × Addr)) (fp : List Addr), PE (X.blk s H scope (compEnvC scope cl C X.env) fp) elt (tEv (K := X.K) G me)) (hy : X.N[i]? = some y := by rfl) (hyl : X.env.scope.names.lookup y = some .local := by rfl) (hs : ∀ x, foldedSetIterable iter X.env x = pure x := by intro _; rfl) (hs1 : ∀ env x, foldedSetIterable iter1 env x = pure x := by intro _ _; rfl) :
    PS X (.Assign [.Name y py] (.ListComp elt [⟨tg, iter, ifs, 0⟩, ⟨tg1, iter1, ifs1, 0⟩] scope pos) spos) (tSt G W (sSet i (mLc2 t ids mi mc t2 ids2 mi2 mc2 me))) := by
  subst hid
  refine (ps_setLc2 (hc := hc) (hN := hN) (hy := hy) (hyl := hyl) (hsw := hsw) (hi := hi) (ok := ok) (hv := hv) (hg := hg) (ht := hq) (hi1 := hi1) (hg1 := hg1) (ht1 := hq1) (he := he) (hs := hs) (hs1 := hs1)).imp fun Dn σ H h => ?_
  obtain ⟨ua, u, B, env, fl, u', B0, H0, hg, hO, hE, hW, hm, q⟩ := h
  obtain ⟨d, u1, c1, c2⟩ := bnd_some hm
  cases c2
  exact lc2_read ht ht2 (fun i hi => hv i (ht2 i hi)) ⟨ua, u, B, env, d, _, hE, hW, c1, fun v H1 ⟨B1, g1, w1, r1⟩ => q _ B1 H1 (hg.trans g1) (hO.set i d v) ((hE.grow g1).set r1 i) w1⟩
end
/-! ### tuple * int -/
section
variable {X : Cx} {G : Gx X.K}
theorem op_repTF : OpR X (binaryOp .Mult) (fun x y H Q => ∃ a n xs, x = .ref a ∧ y = .int n ∧ SqT X.K H a xs ∧ xs ≠ [] ∧ 2 ≤ n ∧ n ≤ 1000 ∧ xs.length ≤ 1000 ∧ Tp H (List.replicate n.toNat xs).flatten Q) := by
  rintro pins s σ H _ _ v u Q I rx ry ⟨a, n, xs, rfl, rfl, ha, hn0, lo, hi, hz, q⟩
  cases rx
  obtain ⟨tk, rfl⟩ := ry
  obtain ⟨us, r, ⟨⟨kl, dct, dat, slt⟩, ho, hcl, m, hda⟩, hs⟩ := I.tuple ha
  simp only at hcl hda
  subst hcl hda
  have el : us.length = xs.length := r.length.symm
  have ne : us ≠ [] := fun z => hn0 (List.eq_nil_of_length_eq_zero (by rw [← el, z]; rfl))
  have emp : us.toArray.isEmpty = false := by
    match us, ne with
    | _ :: _, _ => rfl
  have sz : us.toArray.size = xs.length := by rw [List.size_toArray]; exact el
  have bnd1 : n.toNat * xs.length ≤ 1000000 := Nat.mul_le_mul (show n.toNat ≤ 1000 by omega) hz
  have bnd2 : ((us.toArray.size : Nat) : Int) * n ≤ 1000000 := by
    rw [sz]
    have z1 : ((xs.length : Nat) : Int) * n ≤ 1000 * n := Int.mul_le_mul_of_nonneg_right (show ((xs.length : Nat) : Int) ≤ 1000 by omega) (show 0 ≤ n by omega)
    omega
  have few : (List.replicate n.toNat us).flatten.length ≤ sizeLine := by rw [PyProof.Rows.lm_len_rep_flat, el, sizeLine_eq]; omega
  have q0 : (decide (n < -(2 ^ 63)) || decide (n ≥ 2 ^ 63)) = false := by simp; omega
  have q1 : (us.toArray.isEmpty || n == 1) = false := by rw [emp]; simp; omega
  have q2 : (decide (n ≤ 0) || us.toArray.isEmpty) = false := by rw [emp]; simp; omega
  have q4 : Builtin.Tuple.tupleTooMany (((us.toArray.size : Nat) : Int) * n) = false := by
    unfold Builtin.Tuple.tupleTooMany; exact decide_eq_false (by rw [sizeLine_eq]; omega)
  have ty : s.TypeIs (.ref a) "tuple" := ⟨_, ho, rfl⟩
  have step := tuple_mulW a us.toArray m dct slt n tk q0 q1 q2 (by omega) q4 (by rw [size_rep, List.size_toArray]; exact few)
  refine wpAny_binaryOp_repeat_ref (T := "tuple") (U := "int") (by decide) ty (fun s2 => typeIs_int s2 n tk) noFill_tuple_mul F.fills_int_mul F.slot_int_rmul repeat_tuple F.slot_int_index.lookup ?_
  refine call_meets F.slot_int_rmul (typeIs_int s n tk) F.entry_int_rmul (F.args_int_rmul_2 _ _) (int_rmul_tuple n tk a us.toArray m dct slt) ⟨ho, rfl, ty, ?_⟩
  refine call_meets F.slot_tuple_mul ty F.entry_tuple_mul (F.args_tuple_mul_2 _ _) step ⟨ho, ?_⟩
  rw [size_rep]
  exact tup_laid I (r.rep n.toNat) (by rw [PyProof.Rows.lm_len_rep_flat, sizeLine_eq]; omega) q
theorem Reps.ne_nil {K : PySem.W.Frag} {G : Gx K} {ua : Option Addr} {B : Hp} {ds : List D} {vs : List V} (r : Reps G ua ds vs B) (h : ds ≠ []) : vs ≠ [] := fun z => h (List.eq_nil_of_length_eq_zero (by rw [r.len, z]; rfl))
def fMulT : D → D → Option D
  | .tup xs, .int k => if xs ≠ [] ∧ 2 ≤ k ∧ k ≤ 1000 ∧ xs.length ≤ 1000 then some (.tup (List.replicate k.toNat xs).flatten) else none
  | _, _ => none
theorem ok_mulT : BinOk G (binaryOp .Mult) fMulT := by
  intro ua u B H da db d va vb e ra rb w
  unfold fMulT at e
  split at e
  · split at e
    · rename_i xs k h
      obtain ⟨h0, h1, h2, h3⟩ := h
      cases e
      cases rb.int
      obtain ⟨a, vs, rfl, ht, rs⟩ := ra.tup
      exact ⟨_, op_repTF, a, k, vs, rfl, rfl, (ht.mono w.sub).sq, rs.ne_nil h0, h1, h2, by rw [← rs.len]; exact h3, fun p o hp ho => .tup w hp ho (rs.replicate _)⟩
    · cases e
  · cases e
end
end Dv

/-! Mp: mathematics of plain data: == of data, counting, DEEDs and LINEs as data. -/
namespace Dv
open PySem PySem.Spec PyProof.Rows L2
/-- a text of real code points -/
def TxO (x : Str) : Prop := PyData.strOk x = true
theorem toPys_map {α : Type} {f : α → D} {g : α → PyData} : ∀ {l : List α}, (∀ a ∈ l, toPy (f a) = some (g a)) → toPys (l.map f) = some (l.map g)
  | [], _ => by simp [toPys]
  | a :: l, h => by
    rw [List.map_cons, List.map_cons]
    unfold toPys
    rw [h a List.mem_cons_self, toPys_map fun b hb => h b (List.mem_cons_of_mem _ hb)]
    rfl
theorem lay_map {α : Type} {g : α → PyData} : ∀ {l : List α}, (∀ a ∈ l, (g a).canLay0 = true) → PyData.canLayAll0 (l.map g) = true
  | [], _ => by simp [PyData.canLayAll0]
  | a :: l, h => by
    rw [List.map_cons]
    unfold PyData.canLayAll0
    rw [h a List.mem_cons_self, lay_map fun b hb => h b (List.mem_cons_of_mem _ hb)]
    rfl
theorem depth_map {α : Type} {g : α → PyData} {n : Nat} : ∀ {l : List α}, (∀ a ∈ l, (g a).depth ≤ n) → PyData.depthAll (l.map g) ≤ n
  | [], _ => by simp [PyData.depthAll]
  | a :: l, h => by
    rw [List.map_cons]
    unfold PyData.depthAll
    exact Nat.max_le.mpr ⟨h a List.mem_cons_self, depth_map fun b hb => h b (List.mem_cons_of_mem _ hb)⟩
theorem shaped_tup {α : Type} {g : α → PyData} {n : Nat} {l : List α} (h : ∀ a ∈ l, (g a).canLay0 = true) (d : ∀ a ∈ l, (g a).depth ≤ n) (hn : n < 64) : SeqAt.shaped (.tuple (l.map g)) = true := by
  unfold SeqAt.shaped
  rw [Bool.and_eq_true]
  refine ⟨by simp only [PyData.canLay0]; exact lay_map h, decide_eq_true ?_⟩
  have := depth_map d
  unfold PyData.depth
  omega
theorem eqvAll_map {α β : Type} {f : α → PyData} {g : β → PyData} {r : α → β → Prop} [∀ a b, Decidable (r a b)] : ∀ {l : List α} {m : List β}, (∀ a ∈ l, ∀ b ∈ m, PyData.eqv (f a) (g b) = decide (r a b)) → PyData.eqvAll (l.map f) (m.map g) = true → l.length = m.length
  | [], [], _, _ => rfl
  | [], b :: m, _, h => by simp [PyData.eqvAll] at h
  | a :: l, [], _, h => by simp [PyData.eqvAll] at h
  | a :: l, b :: m, h, e => by
    rw [List.map_cons, List.map_cons] at e
    unfold PyData.eqvAll at e
    rw [Bool.and_eq_true] at e
    rw [List.length_cons, List.length_cons, eqvAll_map (fun x hx y hy => h x (List.mem_cons_of_mem _ hx) y (List.mem_cons_of_mem _ hy)) e.2]
theorem eqvAll_dec {α : Type} [DecidableEq α] {f : α → PyData} : ∀ {l m : List α}, (∀ a ∈ l, ∀ b ∈ m, PyData.eqv (f a) (f b) = decide (a = b)) → PyData.eqvAll (l.map f) (m.map f) = decide (l = m)
  | [], [], _ => by simp [PyData.eqvAll]
  | [], b :: m, _ => by simp [PyData.eqvAll]
  | a :: l, [], _ => by simp [PyData.eqvAll]
  | a :: l, b :: m, h => by
    rw [List.map_cons, List.map_cons]
    unfold PyData.eqvAll
    rw [h a List.mem_cons_self b List.mem_cons_self, eqvAll_dec fun x hx y hy => h x (List.mem_cons_of_mem _ hx) y (List.mem_cons_of_mem _ hy)]
    rw [← Bool.decide_and]
    exact decide_eq_decide.mpr ⟨fun ⟨h1, h2⟩ => by rw [h1, h2], fun h => ⟨(List.cons.inj h).1, (List.cons.inj h).2⟩⟩
/-! ### DEEDs -/
abbrev Dd := Bool × Str
def wdS (b : Bool) : Str := if b = true then ("write" : Str) else ("flush" : Str)
theorem wdS_inj {a b : Bool} : (wdS a = wdS b) ↔ a = b := by
  cases a <;> cases b <;> simp only [wdS, if_true, Bool.false_eq_true, if_false, reduceCtorEq, iff_false, iff_true] <;> first | trivial | decide +kernel
theorem wdS_ok (b : Bool) : PyData.strOk (wdS b) = true := by cases b <;> decide +kernel
def deedD (p : Dd) : D := .tup [.str (wdS p.1), .str p.2]
def deedL (p : Dd) : D := .lst [.str (wdS p.1), .str p.2]
def deedP (p : Dd) : PyData := .tuple [.str (wdS p.1), .str p.2]
theorem deed_py (p : Dd) : toPy (deedD p) = some (deedP p) := by simp [deedD, deedP, toPy, toPys]
theorem deed_lay {p : Dd} (h : TxO p.2) : (deedP p).canLay0 = true := by
  have h : PyData.strOk p.2 = true := h
  simp [deedP, PyData.canLay0, PyData.canLayAll0, wdS_ok, h]
theorem deed_dep (p : Dd) : (deedP p).depth ≤ 1 := by simp [deedP, PyData.depth, PyData.depthAll]
theorem deed_eqv (p q : Dd) : PyData.eqv (deedP p) (deedP q) = decide (p = q) := by
  simp only [deedP, PyData.eqv, PyData.eqvAll, Bool.and_true]
  have e : p = q ↔ p.1 = q.1 ∧ p.2 = q.2 := ⟨fun h => by rw [h]; exact ⟨rfl, rfl⟩, fun h => Prod.ext h.1 h.2⟩
  rw [show (wdS p.1 == wdS q.1) = decide (p.1 = q.1) from by rw [← decide_eq_decide.mpr (wdS_inj (a := p.1) (b := q.1))]; rfl, show (p.2 == q.2) = decide (p.2 = q.2) from rfl, ← Bool.decide_and]
  exact (decide_eq_decide.mpr e).symm
def AllTx (ds : List Dd) : Prop := ∀ p ∈ ds, TxO p.2
theorem deeds_py {ds : List Dd} : toPys (ds.map deedD) = some (ds.map deedP) := toPys_map fun p _ => deed_py p
theorem deeds_shaped {ds : List Dd} (h : AllTx ds) : SeqAt.shaped (.tuple (ds.map deedP)) = true := shaped_tup (n := 1) (fun p hp => deed_lay (h p hp)) (fun p _ => deed_dep p) (by decide)
theorem eq_deeds {ds es : List Dd} (h : AllTx ds) (g : AllTx es) : eqD (.tup (ds.map deedD)) (.tup (es.map deedD)) = some (decide (ds = es)) := by
  have e : ∀ ds : List Dd, toPy (.tup (ds.map deedD)) = some (.tuple (ds.map deedP)) := fun ds => by unfold toPy; rw [deeds_py]; rfl
  unfold eqD
  simp only [e]
  rw [if_pos ⟨deeds_shaped h, deeds_shaped g⟩]
  simp only [PyData.eqv]
  rw [eqvAll_dec fun a _ b _ => deed_eqv a b]
theorem deed_shaped {p : Dd} (h : TxO p.2) : SeqAt.shaped (deedP p) = true := by
  unfold SeqAt.shaped
  rw [Bool.and_eq_true]
  exact ⟨deed_lay h, decide_eq_true (Nat.le_trans (deed_dep p) (by decide))⟩
theorem cnt_deeds {ds : List Dd} {p : Dd} (h : AllTx ds) (hp : TxO p.2) : cntD (.tup (ds.map deedD)) (deedD p) = some (.int (ds.countP (fun q => decide (q = p)) : Nat)) := by
  unfold cntD
  simp only [deed_py, deeds_py]
  rw [if_pos ⟨deed_shaped hp, deeds_shaped h⟩, List.countP_map]
  have : ((fun z => PyData.eqv z (deedP p)) ∘ deedP) = fun q => decide (q = p) := funext fun q => deed_eqv q p
  rw [this]
/-! ### LINEs -/
def lineD (l : Str × Int) : D := .tup [.str l.1, .int l.2]
def lineP (l : Str × Int) : PyData := .tuple [.str l.1, .int l.2]
theorem line_py (l : Str × Int) : toPy (lineD l) = some (lineP l) := by simp [lineD, lineP, toPy, toPys]
theorem line_lay {l : Str × Int} (h : TxO l.1) : (lineP l).canLay0 = true := by
  have h : PyData.strOk l.1 = true := h
  simp [lineP, PyData.canLay0, PyData.canLayAll0, h]
theorem line_dep (l : Str × Int) : (lineP l).depth ≤ 1 := by simp [lineP, PyData.depth, PyData.depthAll]
theorem line_eqv (p q : Str × Int) : PyData.eqv (lineP p) (lineP q) = decide (p = q) := by
  simp only [lineP, PyData.eqv, PyData.eqvAll, Bool.and_true]
  have e : p = q ↔ p.1 = q.1 ∧ p.2 = q.2 := ⟨fun h => by rw [h]; exact ⟨rfl, rfl⟩, fun h => Prod.ext h.1 h.2⟩
  rw [show (p.1 == q.1) = decide (p.1 = q.1) from rfl, show (p.2 == q.2) = decide (p.2 = q.2) from rfl, ← Bool.decide_and]
  exact (decide_eq_decide.mpr e).symm
theorem in_lines {ls : List (Str × Int)} {l : Str × Int} (h : ∀ p ∈ ls, TxO p.1) (hl : TxO l.1) : inD (lineD l) (.tup (ls.map lineD)) = some (decide (l ∈ ls)) := by
  unfold inD
  simp only [line_py, toPys_map (f := lineD) (g := lineP) fun p _ => line_py p]
  have s1 : SeqAt.shaped (lineP l) = true := by
    unfold SeqAt.shaped
    rw [Bool.and_eq_true]
    exact ⟨line_lay hl, decide_eq_true (Nat.le_trans (line_dep l) (by decide))⟩
  rw [if_pos ⟨s1, shaped_tup (n := 1) (fun p hp => line_lay (h p hp)) (fun p _ => line_dep p) (by decide)⟩, List.any_map]
  have : ((fun z => PyData.eqv z (lineP l)) ∘ lineP) = fun q => decide (q = l) := funext fun q => line_eqv q l
  rw [this]
  congr 1
  rw [Bool.eq_iff_iff, List.any_eq_true, decide_eq_true_iff]
  exact ⟨fun ⟨x, hx, e⟩ => by rw [← of_decide_eq_true e]; exact hx, fun hx => ⟨l, hx, decide_eq_true rfl⟩⟩
/-- of each write, its stream and its number -/
def linG (seen : List Str) : List Str → List (Str × Int)
  | [] => []
  | x :: r => (x, (cntS x seen : Nat) + 1) :: linG (x :: seen) r
theorem numG_lin : ∀ (ws seen : List Str), numG seen ws = (linG seen ws).map lineD
  | [], _ => rfl
  | x :: r, seen => by
    unfold numG linG
    rw [List.map_cons, numG_lin r (x :: seen)]
    rfl
theorem linG_pos : ∀ (ws seen : List Str) (l : Str × Int), l ∈ linG seen ws → 1 ≤ l.2 ∧ l.1 ∈ ws
  | [], _, l, h => by simp [linG] at h
  | x :: r, seen, l, h => by
    unfold linG at h
    rcases List.mem_cons.mp h with rfl | h
    · exact ⟨by show (1 : Int) ≤ _ + 1; omega, List.mem_cons_self⟩
    · obtain ⟨h1, h2⟩ := linG_pos r _ l h
      exact ⟨h1, List.mem_cons_of_mem _ h2⟩
theorem linG_fst : ∀ (ws seen : List Str), (linG seen ws).map (·.1) = ws
  | [], _ => rfl
  | x :: r, seen => by
    unfold linG
    rw [List.map_cons, linG_fst r]
theorem linG_len (ws seen : List Str) : (linG seen ws).length = ws.length := by
  have := congrArg List.length (linG_fst ws seen)
  rw [List.length_map] at this
  exact this
def writesOf (ds : List Dd) : List Str := ds.filterMap fun p => if p.1 = true then some p.2 else none
theorem writesOf_mem {ds : List Dd} {x : Str} (h : x ∈ writesOf ds) : ∃ p ∈ ds, p.2 = x := by
  unfold writesOf at h
  obtain ⟨p, hp, e⟩ := List.mem_filterMap.mp h
  split at e
  · exact ⟨p, hp, Option.some.inj e⟩
  · cases e
theorem writesOf_len (ds : List Dd) : (writesOf ds).length ≤ ds.length := List.length_filterMap_le _ _
/-- how often a write of x stands in a row -/
theorem cnt_writes (x : Str) : ∀ (ds : List Dd) (seen : List Str), ds.countP (fun q => decide (q = (true, x))) + cntS x seen = cntS x (revOn (writesOf ds) seen)
  | [], seen => by simp [writesOf, revOn]
  | (b, y) :: ds, seen => by
    rw [List.countP_cons]
    cases b with
    | false =>
      have h := cnt_writes x ds seen
      have e : writesOf ((false, y) :: ds) = writesOf ds := by simp [writesOf]
      rw [e, ← h]
      simp
    | true =>
      have h := cnt_writes x ds (y :: seen)
      have e : writesOf ((true, y) :: ds) = y :: writesOf ds := by simp [writesOf]
      rw [e]
      show _ = cntS x (revOn (writesOf ds) (y :: seen))
      rw [← h]
      have es : cntS x (y :: seen) = if y = x then cntS x seen + 1 else cntS x seen := rfl
      rw [es]
      by_cases hy : y = x
      · subst hy
        rw [if_pos rfl, decide_eq_true rfl, if_pos rfl]
        omega
      · have : ¬ ((true, y) = (true, x)) := fun z => hy (congrArg Prod.snd z)
        rw [if_neg hy, decide_eq_false this, if_neg Bool.false_ne_true, Nat.add_zero]
def progD (ds : List Dd) : D := .ins "Program" ["_deeds", "_writes", "_lines"] [.tup (ds.map deedD), .tup ((writesOf ds).map .str), .tup ((linG [] (writesOf ds)).map lineD)]
/-! ### plain data of a bounded depth -/
def plainN : Nat → D → Bool
  | _, .non => true
  | _, .bl _ => true
  | _, .int _ => true
  | _, .str _ => true
  | n + 1, .lst ds => decide (ds.length ≤ 1000) && ds.all (plainN n)
  | n + 1, .tup ds => decide (ds.length ≤ 1000) && ds.all (plainN n)
  | _, _ => false
end Dv

/-! Kg: equations and small lemmas that every law wants. -/
namespace Dv
open PySem PySem.Spec PyProof.Rows L2
theorem fMul_r {i j : Int} (h : -(2 ^ 64) < j ∧ j < 2 ^ 64) : fMul (.int i) (.int j) = some (.int (i * j)) := by
  simp only [fMul]; rw [if_pos (.inr h)]
theorem fMod_p {i j : Int} (h : 0 < j) : fMod (.int i) (.int j) = some (.int (i % j)) := by simp only [fMod]; rw [if_pos h]
theorem fDiv_p {i j : Int} (h : 0 < j ∧ j < 1073741824) : fDiv (.int i) (.int j) = some (.int (i / j)) := by simp only [fDiv]; rw [if_pos h]
theorem compL_pure {f : D → U → Option (Option D × U)} {g : D → D} {u : U} : ∀ {ds : List D}, (∀ d ∈ ds, f d u = some (some (g d), u)) → compL f ds u = some (ds.map g, u)
  | [], _ => rfl
  | d :: ds, h => by
    unfold compL
    rw [h d List.mem_cons_self]
    show bnd (compL f ds u) _ = _
    rw [compL_pure fun d hd => h d (List.mem_cons_of_mem _ hd)]
    rfl
theorem compL_inv {f : D → U → Option (Option D × U)} {P : D → Prop} {I : Int → U → Prop} {N : Int} : ∀ {ds : List D} {i : Int} {u : U}, (∀ d ∈ ds, ∀ i u, i ≤ N → I i u → ∃ x u', f d u = some (some x, u') ∧ P x ∧ I (i + 1) u') → I i u → i + ds.length ≤ N + 1 →
    ∃ xs u', compL f ds u = some (xs, u') ∧ xs.length = ds.length ∧ (∀ x ∈ xs, P x) ∧ I (i + ds.length) u'
  | [], i, u, _, hi, _ => ⟨[], u, rfl, rfl, by simp, by simpa using hi⟩
  | d :: ds, i, u, h, hi, hN => by
    rw [List.length_cons] at hN
    obtain ⟨x, u1, e, p, hi1⟩ := h d List.mem_cons_self i u (by omega) hi
    obtain ⟨xs, u2, e2, l2, p2, hi2⟩ := compL_inv (i := i + 1) (fun d hd => h d (List.mem_cons_of_mem _ hd)) hi1 (by omega)
    refine ⟨x :: xs, u2, ?_, by rw [List.length_cons, List.length_cons, l2], fun y hy => ?_, ?_⟩
    · unfold compL
      rw [e]
      show bnd (compL f ds u1) _ = _
      rw [e2]; rfl
    · rcases List.mem_cons.mp hy with rfl | hy
      · exact p
      · exact p2 y hy
    · rw [List.length_cons, show i + ((ds.length + 1 : Nat) : Int) = i + 1 + ds.length by omega]
      exact hi2
theorem strsOf_map : ∀ (xs : List Str), strsOf (xs.map .str) = some xs
  | [] => rfl
  | x :: xs => by
    show (strsOf (xs.map .str)).map _ = _
    rw [strsOf_map xs]; rfl
theorem strs_of_all : ∀ {ds : List D} {P : Str → Prop}, (∀ d ∈ ds, ∃ x, d = .str x ∧ P x) → ∃ xs : List Str, ds = xs.map .str ∧ ∀ x ∈ xs, P x
  | [], _, _ => ⟨[], rfl, by simp⟩
  | d :: ds, P, h => by
    obtain ⟨x, rfl, p⟩ := h d List.mem_cons_self
    obtain ⟨xs, rfl, q⟩ := strs_of_all fun d hd => h d (List.mem_cons_of_mem _ hd)
    exact ⟨x :: xs, rfl, fun y hy => by
      rcases List.mem_cons.mp hy with rfl | hy
      · exact p
      · exact q y hy⟩
def AZ (x : Str) : Prop := ∀ c ∈ x.cps.toList, 97 ≤ c ∧ c ≤ 122
def ltr (z : Int) : Str := ⟨#[97 + (z % 26).toNat]⟩
theorem ltr_az (z : Int) : AZ (ltr z) := by
  intro c hc
  have h1 := Int.emod_nonneg z (show (26 : Int) ≠ 0 by decide)
  have h2 := Int.emod_lt_of_pos z (show (0 : Int) < 26 by decide)
  have e : c = 97 + (z % 26).toNat := by simpa [ltr] using hc
  omega
theorem abc_at : ∀ j : Fin 26, atI (("abcdefghijklmnopqrstuvwxyz" : Str)).cps.toList ((j.val : Nat) : Int) = some (97 + j.val) := by decide +kernel
theorem abc_ix (z : Int) : ixD (.str ("abcdefghijklmnopqrstuvwxyz" : Str)) (.int (z % 26)) = some (.str (ltr z)) := by
  have h1 := Int.emod_nonneg z (show (26 : Int) ≠ 0 by decide)
  have h2 := Int.emod_lt_of_pos z (show (0 : Int) < 26 by decide)
  have := abc_at ⟨(z % 26).toNat, by omega⟩
  simp only [Int.toNat_of_nonneg h1] at this
  show (if (("abcdefghijklmnopqrstuvwxyz" : Str)).length ≤ sizeLine then (atI (("abcdefghijklmnopqrstuvwxyz" : Str)).cps.toList (z % 26)).map (fun c => D.str ⟨#[c]⟩) else none) = _
  rw [if_pos (by decide +kernel), this]
  rfl
theorem abc_ix' {z : Int} (h0 : 0 ≤ z) (h1 : z < 26) : ixD (.str ("abcdefghijklmnopqrstuvwxyz" : Str)) (.int z) = some (.str (ltr z)) := by
  have := abc_ix z
  rw [Int.emod_eq_of_lt h0 h1] at this
  exact this
theorem len_cps (x : Str) : x.length = x.cps.toList.length := by
  show x.cps.size = _
  rw [Array.length_toList]
theorem app_cps (x y : Str) : (x ++ y).cps.toList = x.cps.toList ++ y.cps.toList := by
  show (x.cps ++ y.cps).toList = _
  simp
theorem join_cps (ys : List Str) : (Txt.join ("" : Str) ys).cps.toList = (ys.map (·.cps.toList)).flatten := by
  have h : ∀ ps : List (List Nat), TL.joinL [] ps = ps.flatten := by
    intro ps
    induction ps with
    | nil => rfl
    | cons p r ih =>
      cases r with
      | nil => simp [TL.joinL]
      | cons q r => simp only [TL.joinL, List.nil_append, ih, List.flatten_cons]
  have e := TL.tl_join ("" : Str) ys
  rw [show TL.tl ("" : Str) = [] from by decide +kernel, h] at e
  rw [TL.join_eq]
  exact e
theorem AZ.app {x y : Str} (h : AZ x) (g : AZ y) : AZ (x ++ y) := by
  intro c hc
  rw [app_cps] at hc
  rcases List.mem_append.mp hc with hc | hc
  · exact h c hc
  · exact g c hc
theorem AZ.join {ys : List Str} (h : ∀ y ∈ ys, AZ y) : AZ (Txt.join ("" : Str) ys) := by
  intro c hc
  rw [join_cps] at hc
  obtain ⟨l, hl, hc⟩ := List.mem_flatten.mp hc
  obtain ⟨y, hy, rfl⟩ := List.mem_map.mp hl
  exact h y hy c hc
theorem join_len {ys : List Str} (h : ∀ y ∈ ys, y.length = 1) : (Txt.join ("" : Str) ys).length = ys.length := by
  rw [len_cps, join_cps]
  induction ys with
  | nil => rfl
  | cons y r ih =>
    rw [List.map_cons, List.flatten_cons, List.length_append, ← len_cps, h y List.mem_cons_self, ih fun z hz => h z (List.mem_cons_of_mem _ hz), List.length_cons]
    omega
theorem sum_ones {ys : List Str} (h : ∀ y ∈ ys, y.length = 1) : (ys.map (·.length)).sum = ys.length := by
  induction ys with
  | nil => rfl
  | cons y r ih =>
    rw [List.map_cons, List.sum_cons, h y List.mem_cons_self, ih fun z hz => h z (List.mem_cons_of_mem _ hz), List.length_cons]
    omega
theorem cutS_az {z : Str} (h : AZ z) (lo hi : Option Int) : AZ (cutS z lo hi) := by
  intro c hc
  have : c ∈ z.cps.toList := by
    have hc : c ∈ ((z.cps.toList.drop (HT.sIx z.length 0 lo)).take (HT.sIx z.length z.length hi - HT.sIx z.length 0 lo)).toArray.toList := hc
    rw [List.toList_toArray] at hc
    exact List.mem_of_mem_drop (List.mem_of_mem_take hc)
  exact h c this
theorem cut_to {z : Str} {at_ : Nat} (h : at_ ≤ z.length) : (cutS z none (some (at_ : Int))).cps.toList = z.cps.toList.take at_ := by
  show ((z.cps.toList.drop (HT.sIx z.length 0 none)).take (HT.sIx z.length z.length (some (at_ : Int)) - HT.sIx z.length 0 none)).toArray.toList = _
  rw [List.toList_toArray, HT.sIx_none, HT.sIx_nat, List.drop_zero, Nat.sub_zero, Nat.min_eq_left h]
theorem cut_from {z : Str} {at_ : Nat} (h : at_ ≤ z.length) : (cutS z (some (at_ : Int)) none).cps.toList = z.cps.toList.drop at_ := by
  show ((z.cps.toList.drop (HT.sIx z.length 0 (some (at_ : Int)))).take (HT.sIx z.length z.length none - HT.sIx z.length 0 (some (at_ : Int)))).toArray.toList = _
  rw [List.toList_toArray, HT.sIx_none, HT.sIx_nat, Nat.min_eq_left h, len_cps, ← List.length_drop, List.take_length]
theorem line : sizeLine = 16777216 := rfl
theorem isiz {n : Nat} (h : n ≤ 1000) : n ≤ sizeLine := by rw [line]; omega
def Nm (k : Nat) (x : Str) : Prop := AZ x ∧ 1 ≤ x.length ∧ (x.length ≤ k ∨ x.length = 1 ∨ x.length = 2 ∨ x.length = 6 ∨ x.length = 8)
theorem sorted_ok {xs : List Str} (h : xs.length < 64) : bSorted [.lst (xs.map .str)] = some (.lst ((sortS xs).map .str)) := by
  show (strsOf (xs.map D.str)).bind _ = _
  rw [strsOf_map]
  exact if_pos h
theorem joinD_ok {ys : List Str} (h : ∀ y ∈ ys, y.length = 1) (hl : ys.length ≤ 1000) : joinD (.str ("" : Str)) (.lst (ys.map .str)) = some (.str (Txt.join ("" : Str) ys)) := by
  show (strsOf (ys.map D.str)).bind _ = _
  rw [strsOf_map]
  refine if_pos ?_
  rw [sum_ones h, show ("" : Str).length = 0 from by decide +kernel]
  omega
abbrev abc : Str := ("abcdefghijklmnopqrstuvwxyz" : Str)
theorem abc_mem (c : Nat) : c ∈ abc.cps.toList ↔ 97 ≤ c ∧ c ≤ 122 := by
  rw [show abc.cps.toList = (List.range 26).map (97 + ·) from by decide +kernel]
  simp only [List.mem_map, List.mem_range]
  constructor
  · rintro ⟨a, h, rfl⟩; omega
  · rintro ⟨h1, h2⟩; exact ⟨c - 97, by omega, by omega⟩
def bitB (c : Nat) : Bool := decide (c ∈ abc.cps.toList)
def allB (x : Str) : Bool := (x.cps.toList.map bitB).all id
theorem blsOf_map : ∀ bs : List Bool, blsOf (bs.map .bl) = some bs
  | [] => rfl
  | b :: bs => by
    show (blsOf (bs.map D.bl)).map _ = _
    rw [blsOf_map bs]; rfl
theorem mChain_t {f g : D → D → Option D} {a b c : M} {env : List Sl} {u u1 u2 u3 : U} {x y z w : D} (h1 : a env u = some (x, u1)) (h2 : b env u1 = some (y, u2)) (h3 : f x y = some (.bl true)) (h4 : c env u2 = some (z, u3)) (h5 : g y z = some w) : mChain f g a b c env u = some (w, u3) := by
  unfold mChain; rw [h1]; show bnd (b env u1) _ = _; rw [h2]; dsimp only [bnd]; rw [h3]; dsimp only; rw [h4]; dsimp only [bnd]; rw [h5]; rfl
theorem mChain_f {f g : D → D → Option D} {a b c : M} {env : List Sl} {u u1 u2 : U} {x y : D} (h1 : a env u = some (x, u1)) (h2 : b env u1 = some (y, u2)) (h3 : f x y = some (.bl false)) : mChain f g a b c env u = some (.bl false, u2) := by
  unfold mChain; rw [h1]; show bnd (b env u1) _ = _; rw [h2]; dsimp only [bnd]; rw [h3]
theorem isi_str (x : Str) : isiD (.str x) ["str"] = some true := by show kitAnyB "str" ["str"] = some true; decide +kernel
theorem isi_tup (x : List D) : isiD (.tup x) ["str"] = some false := by show kitAnyB "tuple" ["str"] = some false; decide +kernel
theorem isi_int (x : Int) : isiD (.int x) ["str"] = some false := by show kitAnyB "int" ["str"] = some false; decide +kernel
theorem isi_tt (x : List D) : isiD (.tup x) ["tuple"] = some true := by show kitAnyB "tuple" ["tuple"] = some true; decide +kernel
theorem isi_lt (x : List D) : isiD (.lst x) ["tuple"] = some false := by show kitAnyB "list" ["tuple"] = some false; decide +kernel
theorem isi_ii (x : Int) : isiD (.int x) ["int"] = some true := by show kitAnyB "int" ["int"] = some true; decide +kernel
theorem isi_ib (x : Int) : isiD (.int x) ["bool"] = some false := by show kitAnyB "int" ["bool"] = some false; decide +kernel
theorem len_str {x : Str} (h : x.length ≤ 1000) : bLen [.str x] = some (.int x.length) := if_pos (isiz h)
theorem allB_az {x : Str} (h : AZ x) : allB x = true := by
  unfold allB
  rw [List.all_eq_true]
  intro b hb
  obtain ⟨c, hc, rfl⟩ := List.mem_map.mp hb
  exact decide_eq_true ((abc_mem c).mpr (h c hc))
theorem allB_no {x : Str} {c : Nat} (hc : c ∈ x.cps.toList) (h : ¬ (97 ≤ c ∧ c ≤ 122)) : allB x = false := by
  unfold allB
  rw [← Bool.not_eq_true, List.all_eq_true]
  intro q
  have := q _ (List.mem_map.mpr ⟨c, hc, rfl⟩)
  exact h ((abc_mem c).mp (of_decide_eq_true this))
theorem c1 {x : D} {env : List Sl} {u u1 : U} {a : M} (h : a env u = some (x, u1)) : mCons a mNil env u = some ([x], u1) := mCons_eq h mNil_eq
theorem az_ok {x : Str} (h : AZ x) : PyData.strOk x = true := by
  unfold PyData.strOk
  rw [← Array.all_toList, List.all_eq_true]
  intro c hc
  have := h c hc
  exact decide_eq_true (by omega)
theorem forL_inv {t : Tgt} {f : MS} {I : Int → List Sl → U → Prop} {N : Int} : ∀ {ds : List D} {i : Int} {env : List Sl} {u : U}, (∀ d ∈ ds, ∀ i env u, i ≤ N → I i env u → ∃ env1 env2 u2, bindT t d env = some env1 ∧ f env1 u = some (.nx env2, u2) ∧ I (i + 1) env2 u2) → I i env u → i + ds.length ≤ N + 1 →
    ∃ env' u', forL t f ds env u = some (.nx env', u') ∧ I (i + ds.length) env' u'
  | [], i, env, u, _, hi, _ => ⟨env, u, rfl, by simpa using hi⟩
  | d :: ds, i, env, u, h, hi, hN => by
    rw [List.length_cons] at hN
    obtain ⟨env1, env2, u2, e1, e2, hi2⟩ := h d List.mem_cons_self i env u (by omega) hi
    obtain ⟨env', u', e3, hi3⟩ := forL_inv (i := i + 1) (fun d hd => h d (List.mem_cons_of_mem _ hd)) hi2 (by omega)
    refine ⟨env', u', ?_, by rw [List.length_cons, show i + ((ds.length + 1 : Nat) : Int) = i + 1 + ds.length by omega]; exact hi3⟩
    unfold forL
    rw [e1]
    show bnd (f env1 u) _ = _
    rw [e2]
    exact e3
theorem isi2_str (x : Str) : isiD (.str x) ["list", "tuple"] = some false := by show kitAnyB "str" ["list", "tuple"] = some false; decide +kernel
theorem isi2_int (x : Int) : isiD (.int x) ["list", "tuple"] = some false := by show kitAnyB "int" ["list", "tuple"] = some false; decide +kernel
theorem isi2_lst (x : List D) : isiD (.lst x) ["list", "tuple"] = some true := by show kitAnyB "list" ["list", "tuple"] = some true; decide +kernel
theorem isi2_tup (x : List D) : isiD (.tup x) ["list", "tuple"] = some true := by show kitAnyB "tuple" ["list", "tuple"] = some true; decide +kernel
theorem mFld_eq {c f : Str} {m : M} {env : List Sl} {u u1 : U} {x d : D} (h : m env u = some (x, u1)) (h2 : fldD c f x = some d) : mFld c f m env u = some (d, u1) := by
  unfold mFld; rw [h]; show lft (fldD c f x) u1 = _; rw [h2]; rfl
theorem mPrp_eq {c : Str} {F : List D → U → Option (D × U)} {m : M} {env : List Sl} {u u1 u2 : U} {ns : List Str} {xs : List D} {d : D} (h : m env u = some (.ins c ns xs, u1)) (h2 : F [.ins c ns xs] u1 = some (d, u2)) : mPrp c F m env u = some (d, u2) := by
  unfold mPrp; rw [h]; show (if c = c then F [.ins c ns xs] u1 else none) = _; rw [if_pos rfl]; exact h2
theorem mBinU_eq {f : D → D → U → Option (D × U)} {a b : M} {env : List Sl} {u u1 u2 u3 : U} {x y z : D} (h : a env u = some (x, u1)) (h2 : b env u1 = some (y, u2)) (h3 : f x y u2 = some (z, u3)) : mBinU f a b env u = some (z, u3) := by
  unfold mBinU; rw [h]; show bnd (b env u1) _ = _; rw [h2]; exact h3
theorem mBiU_eq {f : List D → U → Option (D × U)} {m : Ms} {env : List Sl} {u u1 u2 : U} {ds : List D} {z : D} (h : m env u = some (ds, u1)) (h2 : f ds u1 = some (z, u2)) : mBiU f m env u = some (z, u2) := by
  unfold mBiU; rw [h]; exact h2
theorem mIsC_eq {c : Str} {m : M} {env : List Sl} {u u1 : U} {x : D} {k : Bool} (h : m env u = some (x, u1)) (h2 : isC c x = some k) : mIsC c m env u = some (.bl k, u1) := by
  unfold mIsC; rw [h]; show lft ((isC c x).map D.bl) u1 = _; rw [h2]; rfl
theorem mSortSet_eq {m : M} {env : List Sl} {u u1 : U} {x d : D} (h : m env u = some (x, u1)) (h2 : srtSetD x = some d) : mSortSet m env u = some (d, u1) := by
  unfold mSortSet; rw [h]; show lft (srtSetD x) u1 = _; rw [h2]; rfl
theorem mXf_eq {c f : Str} {m : M} {env : List Sl} {u u1 : U} {ns : List Str} {xs : List D} {d : D} (h : m env u = some (.exc c ns xs, u1)) (h2 : (ns.zip xs).lookup f = some d) : mXf c f m env u = some (d, u1) := by
  unfold mXf; rw [h]; show (if c = c then lft ((ns.zip xs).lookup f) u1 else none) = _; rw [if_pos rfl, h2]; rfl
theorem mIsE_eq {c : Str} {b : Bool} {m : M} {env : List Sl} {u u1 : U} {ns : List Str} {xs : List D} (h : m env u = some (.exc c ns xs, u1)) : mIsE c b m env u = some (.bl b, u1) := by
  unfold mIsE; rw [h]; show (if c = c then some (D.bl b, u1) else none) = _; rw [if_pos rfl]
theorem mEnumA_t {m : M} {env : List Sl} {u u1 : U} {ds : List D} (h : m env u = some (.tup ds, u1)) : mEnumA m env u = some (enumD 0 ds, u1) := by
  unfold mEnumA; rw [h]; rfl
theorem mZip_l {m m2 : M} {env : List Sl} {u u1 u2 : U} {ds es : List D} (h : m env u = some (.lst ds, u1)) (h2 : m2 env u1 = some (.lst es, u2)) : mZip m m2 env u = some (zipD ds es, u2) := by
  unfold mZip; rw [h]; show bnd (m2 env u1) _ = _; rw [h2]; rfl
theorem mZip_t {m m2 : M} {env : List Sl} {u u1 u2 : U} {ds es : List D} (h : m env u = some (.tup ds, u1)) (h2 : m2 env u1 = some (.tup es, u2)) : mZip m m2 env u = some (zipD ds es, u2) := by
  unfold mZip; rw [h]; show bnd (m2 env u1) _ = _; rw [h2]; rfl
theorem mNeg_eq {m : M} {env : List Sl} {u u1 : U} {i : Int} (h : m env u = some (.int i, u1)) : mNeg m env u = some (.int (-i), u1) := by
  unfold mNeg; rw [h]; rfl
theorem sc_er {p q : MS} {env env1 : List Sl} {u u1 : U} {c : Str} {ns : List Str} {xs : List D} (h : p env u = some (.er env1 c ns xs, u1)) : sCons p q env u = some (.er env1 c ns xs, u1) := by
  unfold sCons; rw [h]; rfl
theorem cutD_to {xs : List D} {k : Nat} (h : k ≤ xs.length) : cutD xs none (some (k : Int)) = xs.take k := by
  unfold cutD
  rw [HT.sIx_none, HT.sIx_nat, List.drop_zero, Nat.sub_zero, Nat.min_eq_left h]
theorem cutD_from {xs : List D} {k : Nat} (h : k ≤ xs.length) : cutD xs (some (k : Int)) none = xs.drop k := by
  unfold cutD
  rw [HT.sIx_none, HT.sIx_nat, Nat.min_eq_left h, ← List.length_drop, List.take_length]
theorem cutD_from1 {xs : List D} : cutD xs (some (1 : Int)) none = xs.drop 1 := by
  unfold cutD
  rw [HT.sIx_none, show (some (1 : Int)) = some (((1 : Nat) : Int)) from rfl, HT.sIx_nat]
  by_cases q : 1 ≤ xs.length
  · rw [Nat.min_eq_left q, ← List.length_drop, List.take_length]
  · have : xs = [] := List.eq_nil_of_length_eq_zero (by omega)
    subst this; rfl
theorem cutD_to1 {xs : List D} : cutD xs none (some (1 : Int)) = xs.take 1 := by
  unfold cutD
  rw [HT.sIx_none, show (some (1 : Int)) = some (((1 : Nat) : Int)) from rfl, HT.sIx_nat, List.drop_zero, Nat.sub_zero]
  by_cases q : 1 ≤ xs.length
  · rw [Nat.min_eq_left q]
  · have : xs = [] := List.eq_nil_of_length_eq_zero (by omega)
    subst this; rfl
theorem fAdd_t {a b : List D} (h : a.length + b.length ≤ 1000) : fAdd (.tup a) (.tup b) = some (.tup (a ++ b)) := by simp only [fAdd]; rw [if_pos (isiz h)]
theorem fAdd_l {a b : List D} (h : a.length + b.length ≤ 1000) : fAdd (.lst a) (.lst b) = some (.lst (a ++ b)) := by simp only [fAdd]; rw [if_pos (isiz h)]
theorem srt_t {xs : List Str} (h : xs.length < 63) : srtSetD (.tup (xs.map .str)) = some (.lst ((sortS (nubS xs)).map .str)) := by
  show (strsOf (xs.map D.str)).bind _ = _
  rw [strsOf_map]; exact if_pos h
theorem len_t {xs : List D} (h : xs.length ≤ 1000) : bLen [.tup xs] = some (.int xs.length) := by
  first
  | exact if_pos (isiz h)
  | rfl
theorem isi_bs_non : isiD .non ["bool", "str"] = some false := by decide +kernel
theorem isi_bs_bl (b : Bool) : isiD (.bl b) ["bool", "str"] = some true := by show kitAnyB "bool" ["bool", "str"] = some true; decide +kernel
theorem isi_bs_str (b : Str) : isiD (.str b) ["bool", "str"] = some true := by show kitAnyB "str" ["bool", "str"] = some true; decide +kernel
theorem isi_bs_int (b : Int) : isiD (.int b) ["bool", "str"] = some false := by show kitAnyB "int" ["bool", "str"] = some false; decide +kernel
theorem isi2_non : isiD .non ["list", "tuple"] = some false := by decide +kernel
theorem isi2_bl (b : Bool) : isiD (.bl b) ["list", "tuple"] = some false := by show kitAnyB "bool" ["list", "tuple"] = some false; decide +kernel
theorem isi_l_l (x : List D) : isiD (.lst x) ["list"] = some true := by show kitAnyB "list" ["list"] = some true; decide +kernel
theorem isi_t_l (x : List D) : isiD (.tup x) ["list"] = some false := by show kitAnyB "tuple" ["list"] = some false; decide +kernel
theorem isi_b_non : isiD .non ["bool"] = some false := by decide +kernel
theorem isi_b_bl (b : Bool) : isiD (.bl b) ["bool"] = some true := by show kitAnyB "bool" ["bool"] = some true; decide +kernel
theorem isi_b_str (b : Str) : isiD (.str b) ["bool"] = some false := by show kitAnyB "str" ["bool"] = some false; decide +kernel
theorem ceq_bl (b : Bool) : cEq (.bl b) (.bl b) = some (.bl true) := by show some (D.bl (decide (b = b))) = _; rw [decide_eq_true rfl]
theorem ceq_str (b : Str) : cEq (.str b) (.str b) = some (.bl true) := by show some (D.bl (decide (b = b))) = _; rw [decide_eq_true rfl]
theorem ceq_int (b : Int) : cEq (.int b) (.int b) = some (.bl true) := by show some (D.bl (decide (b = b))) = _; rw [decide_eq_true rfl]
theorem cne_bl (b : Bool) : cNe (.bl b) (.bl b) = some (.bl false) := by show some (D.bl (!decide (b = b))) = _; rw [decide_eq_true rfl]; rfl
theorem bAll_ts {α : Type} (l : List α) : bAll [.lst (l.map fun _ => .bl true)] = some (.bl true) := by
  have : ∀ l : List α, blsOf (l.map fun _ => D.bl true) = some (l.map fun _ => true) := fun l => by
    induction l with
    | nil => rfl
    | cons a l ih =>
      show (blsOf (l.map fun _ => D.bl true)).map _ = _
      rw [ih]; rfl
  show (blsOf _).map _ = _
  rw [this]
  show some (D.bl _) = _
  have : (l.map fun _ => true).all id = true := by simp
  rw [this]
theorem zip_mem {xs : List D} {d : D} (h : d ∈ zipD xs xs) : ∃ x ∈ xs, d = .pr [x, x] := by
  unfold zipD at h
  induction xs with
  | nil => simp at h
  | cons x xs ih =>
    rw [List.zipWith_cons_cons] at h
    rcases List.mem_cons.mp h with rfl | h
    · exact ⟨x, List.mem_cons_self, rfl⟩
    · obtain ⟨y, hy, e⟩ := ih h
      exact ⟨y, List.mem_cons_of_mem _ hy, e⟩
theorem zip_len (xs : List D) : (zipD xs xs).length = xs.length := by unfold zipD; simp
theorem len_l {xs : List D} (h : xs.length ≤ 1000) : bLen [.lst xs] = some (.int xs.length) := by
  first
  | exact if_pos (isiz h)
  | rfl
theorem same_go {f : List D → U → Option (D × U)} {xs : List D} {a b : D} {u : U} (h : ∀ x ∈ xs, f [x, x] u = some (.bl true, u)) :
    compL (turnL (.many [2, 3]) [2, 3] [Sl.pub a, .pub b, .no, .no] mYes (mCall 2 f (mCons (mVar 2) (mCons (mVar 3) mNil)))) (zipD xs xs) u = some ((zipD xs xs).map fun _ => .bl true, u) :=
  compL_pure (g := fun _ => .bl true) fun d hd => by
    obtain ⟨x, hx, rfl⟩ := zip_mem hd
    exact turnL_eq rfl (mCall_eq (mCons_eq rfl (c1 rfl)) rfl (h x hx))
theorem compL_filter {f : D → U → Option (Option D × U)} {P : D → Bool} {u : U} : ∀ {l : List D}, (∀ d ∈ l, f d u = some (if P d = true then some d else none, u)) → compL f l u = some (l.filter P, u)
  | [], _ => rfl
  | d :: l, h => by
    unfold compL
    rw [h d List.mem_cons_self]
    show bnd (compL f l u) _ = _
    rw [compL_filter fun e he => h e (List.mem_cons_of_mem _ he)]
    by_cases e : P d = true
    · rw [if_pos e, List.filter_cons_of_pos e]; rfl
    · rw [if_neg e, List.filter_cons_of_neg e]; rfl
theorem mRange2_eq {m m2 : M} {env : List Sl} {u u1 u2 : U} {i j : Int} (h : m env u = some (.int i, u1)) (h2 : m2 env u1 = some (.int j, u2)) (hb : -(2 ^ 62) ≤ i ∧ i < 2 ^ 62 ∧ -(2 ^ 62) ≤ j ∧ j < 2 ^ 62) : mRange2 m m2 env u = some (rangeD i (j - i).toNat, u2) := by
  unfold mRange2; rw [h]; show bnd (m2 env u1) _ = _; rw [h2]; exact if_pos hb
theorem xCall_eq {n : Nat} {F : List D → U → Option (R × U)} {ms : Ms} {env : List Sl} {u u1 u2 : U} {ds : List D} {r : R} (h : ms env u = some (ds, u1)) (hl : ds.length = n) (h2 : F ds u1 = some (r, u2)) : xCall n F ms env u = some (r, u2) := by
  unfold xCall; rw [h]; show (if ds.length = n then F ds u1 else none) = _; rw [if_pos hl]; exact h2
theorem sUpX_ok {m : MX} {k : List Sl → D → U → Option (Fl × U)} {env : List Sl} {u u1 : U} {d : D} (h : m env u = some (.ok d, u1)) : sUpX m k env u = k env d u1 := by unfold sUpX; rw [h]
theorem sUpX_er {m : MX} {k : List Sl → D → U → Option (Fl × U)} {env : List Sl} {u u1 : U} {c : Str} {ns : List Str} {xs : List D} (h : m env u = some (.er c ns xs, u1)) : sUpX m k env u = some (.er env c ns xs, u1) := by unfold sUpX; rw [h]
theorem okF_eq {F : List D → U → Option (R × U)} {ds : List D} {u u1 : U} {d : D} (h : F ds u = some (.ok d, u1)) : okF F ds u = some (d, u1) := by unfold okF; rw [h]
theorem plain_row {α : Type} {n : Nat} {f : α → D} {l : List α} (h : ∀ a, plainN n (f a) = true) (few : l.length ≤ 1000) : plainN (n + 1) (.tup (l.map f)) = true := by
  unfold plainN
  rw [Bool.and_eq_true]
  exact ⟨decide_eq_true (by rw [List.length_map]; exact few), List.all_eq_true.mpr fun d hd => by obtain ⟨a, _, rfl⟩ := List.mem_map.mp hd; exact h a⟩
theorem plain_l {n : Nat} {l : List D} (h : ∀ d ∈ l, plainN n d = true) (few : l.length ≤ 1000) : plainN (n + 1) (.lst l) = true := by
  unfold plainN
  rw [Bool.and_eq_true]
  exact ⟨decide_eq_true few, List.all_eq_true.mpr h⟩
def P4 (l : List D) : Prop := ∀ d ∈ l, plainN 4 d = true
theorem P4.app {a b : List D} (h : P4 a) (g : P4 b) : P4 (a ++ b) := fun d hd => (List.mem_append.mp hd).elim (h d) (g d)
theorem P4.cons {a : D} {b : List D} (h : plainN 4 a = true) (g : P4 b) : P4 (a :: b) := fun d hd => (List.mem_cons.mp hd).elim (fun e => by rw [e]; exact h) (g d)
theorem P4.nil : P4 [] := fun d hd => by cases hd
theorem ex_nx {S : List Sl → Prop} {p q : MS} {env env' : List Sl} {u u1 u2 : U} (h : p env u = some (.nx env', u1)) (h2 : ∃ e2, S e2 ∧ q env' u1 = some (.nx e2, u2)) : ∃ e2, S e2 ∧ sCons p q env u = some (.nx e2, u2) := by
  obtain ⟨e2, s, e⟩ := h2
  exact ⟨e2, s, sc_nx h e⟩
theorem ex_for {S : List Sl → Prop} {t : Tgt} {it : MI} {f q : MS} {env : List Sl} {u u2 : U} {xs : List D} {I : Int → List Sl → U → Prop} {N : Int} (h1 : it env u = some (xs, u)) (step : ∀ d ∈ xs, ∀ i env u, i ≤ N → I i env u → ∃ env1 env2 u2, bindT t d env = some env1 ∧ f env1 u = some (.nx env2, u2) ∧ I (i + 1) env2 u2)
    (h0 : I 0 env u) (hN : (0 : Int) + xs.length ≤ N + 1) (h3 : ∀ env' u', I (0 + xs.length) env' u' → ∃ e2, S e2 ∧ q env' u' = some (.nx e2, u2)) : ∃ e2, S e2 ∧ sCons (sFor t it f) q env u = some (.nx e2, u2) := by
  obtain ⟨env', u', e, hi⟩ := forL_inv (t := t) (f := f) (I := I) (N := N) (ds := xs) (i := 0) step h0 hN
  obtain ⟨e2, s, e3⟩ := h3 env' u' hi
  exact ⟨e2, s, sc_nx (sFor_eq h1 e) e3⟩
def IsInts (l : List D) : Prop := ∃ is : List Int, l = is.map .int
theorem ne_nil {l : List D} (h : IsInts l) : cNe (.lst l) (.lst []) = some (.bl (!l.isEmpty)) := by
  obtain ⟨is, rfl⟩ := h
  have e1 : toPy (.lst (is.map .int)) = some (.list (is.map PyData.int)) := by
    unfold toPy
    rw [toPys_map (f := D.int) (g := PyData.int) fun a _ => by unfold toPy; rfl]; rfl
  have e2 : toPy (.lst []) = some (.list []) := by unfold toPy; simp [toPys]
  have sh : ∀ js : List Int, SeqAt.shaped (.list (js.map PyData.int)) = true := fun js => by
    unfold SeqAt.shaped
    rw [Bool.and_eq_true]
    refine ⟨by simp only [PyData.canLay0]; exact lay_map fun a _ => by simp [PyData.canLay0], decide_eq_true ?_⟩
    have := depth_map (g := PyData.int) (n := 0) (l := js) fun a _ => by simp [PyData.depth]
    unfold PyData.depth
    omega
  have : eqD (.lst (is.map .int)) (.lst []) = some (is.map D.int).isEmpty := by
    show (match toPy (.lst (is.map .int)), toPy (.lst []) with | some x, some y => if SeqAt.shaped x = true ∧ SeqAt.shaped y = true then some (PyData.eqv x y) else none | _, _ => none) = _
    rw [e1, e2]
    show (if _ then _ else _) = _
    rw [if_pos ⟨sh is, sh []⟩]
    cases is with
    | nil => simp [PyData.eqv, PyData.eqvAll]
    | cons i is => simp [PyData.eqv, PyData.eqvAll]
  show (eqD _ _).map (fun k => D.bl (!k)) = _
  rw [this]; rfl
end Dv

/-! Kh: what the laws' own helpers do: draws, choices, mixing, comparing. -/
namespace Dv
open PySem PySem.Spec PyProof.Rows L2
section
variable {env env' : List Sl} {u u1 u2 u3 : U} {m a b : M} {ms : Ms} {mb : MB} {p q : MS} {d x y z : D} {ds es : List D} {i j n : Nat} {s s2 : Sl} {mv mv2 : MSl} {fl : Fl} {k : Bool} {o : Oo}
theorem sSv_eq (h : mv env u = some (s, u1)) : sSv i mv env u = some (.nx (env.set i s), u1) := by unfold sSv; rw [h]; rfl
theorem sParv_eq (h : mv env u = some (s, u1)) (h2 : mv2 env u1 = some (s2, u2)) : sParv i j mv mv2 env u = some (.nx ((env.set i s).set j s2), u2) := by
  unfold sParv; rw [h]; show bnd (mv2 env u1) _ = _; rw [h2]; rfl
theorem vP_eq (h : m env u = some (d, u1)) : vP m env u = some (.pub d, u1) := by unfold vP; rw [h]; rfl
theorem vLst_eq (h : ms env u = some (ds, u1)) (hl : ds.length ≤ sizeLine) : vLst ms env u = some (.own (.lst ds), u1) := by unfold vLst; rw [h]; exact if_pos hl
theorem vList_l (h : m env u = some (.lst ds, u1)) : vList m env u = some (.own (.lst ds), u1) := by unfold vList; rw [h]; rfl
theorem vList_t (h : m env u = some (.tup ds, u1)) : vList m env u = some (.own (.lst ds), u1) := by unfold vList; rw [h]; rfl
theorem sApp_eq (hi : env[i]? = some (.own (.lst ds))) (h : m env u = some (d, u1)) (hl : ds.length < sizeLine) : sApp i m env u = some (.nx (env.set i (.own (.lst (ds ++ [d])))), u1) := by
  unfold sApp; rw [hi]; show bnd (m env u) _ = _; rw [h]; exact if_pos hl
theorem sPub_eq (hi : env[i]? = some (.own o)) (h : p (env.set i (.pub (ooD o))) u = some (fl, u1)) : sPub i p env u = some (fl, u1) := by unfold sPub; rw [hi]; exact h
theorem mPeek_eq (hi : env[i]? = some (.own o)) (h : m (env.set i (.pub (ooD o))) u = some (d, u1)) (hs : scalD d = true) : mPeek i m env u = some (d, u1) := by
  unfold mPeek; rw [hi]; show bnd (m _ u) _ = _; rw [h]; exact if_pos hs
theorem tPeek_eq (hi : env[i]? = some (.own o)) (h : mb (env.set i (.pub (ooD o))) u = some (k, u1)) : tPeek i mb env u = some (k, u1) := by unfold tPeek; rw [hi]; exact h
theorem sAppPop_eq {n : Nat} (hi : env[i]? = some (.own (.lst ds))) (hj : env[j]? = some (.own (.lst es))) (h : m env u = some (.int n, u1)) (hn : n < es.length) (hb : es.length ≤ 2 ^ 62) (hl : ds.length < sizeLine) (ne : i ≠ j) :
    sAppPop i j m env u = some (.nx ((env.set j (.own (.lst (es.eraseIdx n)))).set i (.own (.lst (ds ++ [es[n]])))), u1) := by
  unfold sAppPop; rw [hi, hj]; show bnd (m env u) _ = _; rw [h]
  show (if (0 : Int) ≤ (n : Int) ∧ (n : Int) < es.length ∧ es.length ≤ 2 ^ 62 ∧ ds.length < sizeLine ∧ i ≠ j then _ else _) = _
  rw [if_pos ⟨by omega, by omega, hb, hl, ne⟩]
  show (match es[n]? with | some d => _ | none => _) = _
  rw [List.getElem?_eq_getElem hn]; rfl
theorem sTgtS_eq {is : List Nat} (h : m env u = some (d, u1)) (h2 : bindS is d env = some env') : sTgtS is m env u = some (.nx env', u1) := by
  unfold sTgtS; rw [h]; show (match bindS is d env with | some env' => some (Fl.nx env', u1) | none => none) = _; rw [h2]
theorem mCallP_eq {π : List Nat} {F : List D → U → Option (D × U)} (h : ms env u = some (ds, u1)) (hl : ds.length = n ∧ (perm π ds).length = π.length) (h2 : F (perm π ds) u1 = some (d, u2)) : mCallP n π F ms env u = some (d, u2) := by
  unfold mCallP; rw [h]; show (if ds.length = n ∧ (perm π ds).length = π.length then F (perm π ds) u1 else none) = _; rw [if_pos hl]; exact h2
theorem mLc2_eq {t t2 : Tgt} {own own2 : List Nat} {mi mi2 : MI} {mc mc2 : MB} {me : M} {r : List D} (h : mi env u = some (ds, u1)) (h2 : compL2 (turnL2 t own env mc t2 own2 mi2 mc2 me) ds u1 = some (r, u2)) (hl : r.length ≤ sizeLine) : mLc2 t own mi mc t2 own2 mi2 mc2 me env u = some (.lst r, u2) := by
  unfold mLc2; rw [h]; show bnd (compL2 (turnL2 t own env mc t2 own2 mi2 mc2 me) ds u1) _ = _; rw [h2]; exact if_pos hl
theorem turnL2_eq {t t2 : Tgt} {own own2 : List Nat} {mi2 : MI} {mc2 : MB} {me : M} {r : List D} (h : bindT t d (wipeE env own) = some env') (h2 : mi2 env' u = some (ds, u1)) (h3 : compL (turnL t2 own2 env' mc2 me) ds u1 = some (r, u2)) : turnL2 t own env mYes t2 own2 mi2 mc2 me d u = some (r, u2) := by
  unfold turnL2; rw [h]; show bnd (mi2 env' u) _ = _; rw [h2]; exact h3
theorem compL2_pure {f : D → U → Option (List D × U)} {g : D → List D} {u : U} : ∀ {ds : List D}, (∀ d ∈ ds, f d u = some (g d, u)) → compL2 f ds u = some (ds.flatMap g, u)
  | [], _ => rfl
  | d :: ds, h => by
    unfold compL2
    rw [h d List.mem_cons_self]
    show bnd (compL2 f ds u) _ = _
    rw [compL2_pure fun d hd => h d (List.mem_cons_of_mem _ hd)]
    simp [bnd]
end
theorem forX_inv {t : Tgt} {f : MS} {I : Nat → List Sl → U → Prop} : ∀ {ds : List D} {i : Nat} {env : List Sl} {u : U}, (∀ (j : Nat) (h : j < ds.length) env u, I (i + j) env u → ∃ env1 env2 u2, bindT t ds[j] env = some env1 ∧ f env1 u = some (.nx env2, u2) ∧ I (i + j + 1) env2 u2) → I i env u →
    ∃ env' u', forL t f ds env u = some (.nx env', u') ∧ I (i + ds.length) env' u'
  | [], i, env, u, _, hi => ⟨env, u, rfl, hi⟩
  | d :: ds, i, env, u, h, hi => by
    obtain ⟨env1, env2, u2, e1, e2, hi2⟩ := h 0 (Nat.zero_lt_succ _) env u hi
    obtain ⟨env', u', e3, hi3⟩ := forX_inv (ds := ds) (i := i + 1) (env := env2) (u := u2) (fun j hj env u hI => by
      have := h (j + 1) (Nat.succ_lt_succ hj) env u (by rw [show i + (j + 1) = i + 1 + j by omega]; exact hI)
      rw [show i + (j + 1) + 1 = i + 1 + j + 1 by omega] at this
      exact this) hi2
    refine ⟨env', u', ?_, by rw [List.length_cons, show i + (ds.length + 1) = i + 1 + ds.length by omega]; exact hi3⟩
    unfold forL
    rw [show bindT t d env = some env1 from e1]
    show bnd (f env1 u) _ = _
    rw [e2]
    exact e3
theorem forR_inv {t : Tgt} {f : MS} {I : Nat → List Sl → U → Prop} {n : Nat} {env : List Sl} {u : U} (h : ∀ (j : Nat), j < n → ∀ env u, I j env u → ∃ env1 env2 u2, bindT t (.int j) env = some env1 ∧ f env1 u = some (.nx env2, u2) ∧ I (j + 1) env2 u2) (h0 : I 0 env u) :
    ∃ env' u', forL t f (rangeD 0 n) env u = some (.nx env', u') ∧ I n env' u' := by
  have := forX_inv (t := t) (f := f) (I := I) (ds := rangeD 0 n) (i := 0) (env := env) (u := u) (fun j hj env u hI => by
    rw [rangeD_len] at hj
    have e : (rangeD 0 n)[j]'(by rw [rangeD_len]; exact hj) = .int j := by
      unfold rangeD
      rw [List.getElem_map, List.getElem_range, Int.zero_add]
    rw [e]
    have := h j hj env u (by rw [Nat.zero_add] at hI; exact hI)
    rw [Nat.zero_add]; exact this) h0
  rw [rangeD_len, Nat.zero_add] at this
  exact this
structure OkU (n : Int) (u : U) : Prop where
  a : 0 ≤ u.a
  b : 0 ≤ u.b ∧ u.b < 2 ^ 62
  c : 0 ≤ u.c ∧ u.c ≤ n
theorem OkU.mono {n k : Int} {u : U} (h : OkU n u) (l : n ≤ k) : OkU k u := ⟨h.a, h.b, h.c.1, by have := h.c.2; omega⟩
def m_takeG : MS := (sCons (sIf (mTru (mBin cGt (mUrn0 0) (mC (.int (0))))) (sCons (sSet 2 (mBin fMod (mBi bInt (mCons (mUrn0 0) mNil)) (mVar 1)))
    (sCons (sUrn0 0 (mBin fDiv (mUrn0 0) (mVar 1)))
    (sCons (sRet (mVar 2))
    sNil))) sNil)
    (sCons (sUrn2 0 (mBin fAdd (mUrn2 0) (mC (.int (1)))))
    (sCons (sSet 3 (mBin fMod (mBi bInt (mCons (mBin fMul (mBin fAdd (mUrn1 0) (mBin fMul (mC (.int (48271))) (mUrn2 0))) (mBin fAdd (mC (.int (39373))) (mUrn2 0))) mNil)) (mC (.int (2147483647)))))
    (sCons (sSet 4 (mBin fAdd (mBin fMod (mBi bInt (mCons (mVar 3) mNil)) (mC (.int (40009)))) (mC (.int (7)))))
    (sCons (sSet 5 (mBin fMod (mBi bInt (mCons (mBin fMul (mBin fAdd (mBin fAdd (mVar 3) (mUrn2 0)) (mBin fDiv (mUrn1 0) (mC (.int (1000003))))) (mVar 4)) mNil)) (mC (.int (2147483629)))))
    (sCons (sRet (mBin fMod (mBi bInt (mCons (mBin fDiv (mBin fMod (mBi bInt (mCons (mBin fAdd (mBin fMul (mVar 5) (mC (.int (48271)))) (mVar 3)) mNil)) (mC (.int (2147483587)))) (mC (.int (64)))) mNil)) (mVar 1)))
    sNil))))))
def F_takeG : List D → U → Option (D × U) := runB m_takeG 6
theorem takeG_ok {n low : Int} {u : U} (h : OkU n u) (hn : n ≤ 2 ^ 40) (h0 : 0 < low) (h1 : low < 1073741824) :
    ∃ r u', F_takeG [.urn, .int low] u = some (.int r, u') ∧ 0 ≤ r ∧ r < low ∧ OkU (n + 1) u' := by
  obtain ⟨ha, ⟨hb1, hb2⟩, hc1, hc2⟩ := h
  obtain ⟨a, b, c⟩ := u
  dsimp only at ha hb1 hb2 hc1 hc2
  by_cases q : 0 < a
  · refine ⟨a % low, ⟨a / low, b, c⟩, ?_, Int.emod_nonneg _ (by omega), Int.emod_lt_of_pos _ h0, ⟨Int.ediv_nonneg ha (by omega), ⟨hb1, hb2⟩, hc1, by show c ≤ n + 1; omega⟩⟩
    simp [F_takeG, runB, m_takeG, sCons, sIf, mTru, mBin, mUrn0, isUrn, bnd, lft, mC, cGt, truD, q, sSet, sRet, mBi, mCons, mNil, bInt, mVar, fMod_p h0, fDiv_p ⟨h0, h1⟩, sUrn0, sNil]
  · obtain ⟨k, hk⟩ : ∃ k, k = c + 1 := ⟨_, rfl⟩
    obtain ⟨once, ho⟩ : ∃ z, z = (b + 48271 * k) * (39373 + k) % 2147483647 := ⟨_, rfl⟩
    obtain ⟨far, hf⟩ : ∃ z, z = once % 40009 + 7 := ⟨_, rfl⟩
    obtain ⟨twice, ht⟩ : ∃ z, z = (once + k + b / 1000003) * far % 2147483629 := ⟨_, rfl⟩
    have o1 : 0 ≤ once ∧ once < 2147483647 := by rw [ho]; exact ⟨Int.emod_nonneg _ (by decide), Int.emod_lt_of_pos _ (by decide)⟩
    have f1 : 0 ≤ far ∧ far < 50000 := by omega
    have t1 : 0 ≤ twice ∧ twice < 2147483629 := by rw [ht]; exact ⟨Int.emod_nonneg _ (by decide), Int.emod_lt_of_pos _ (by decide)⟩
    have e0 := fMul_r (i := 48271) (j := k) (by omega)
    have e1 := fMul_r (i := b + 48271 * k) (j := 39373 + k) (by omega)
    have e2 := fMul_r (i := once + k + b / 1000003) (j := far) (by omega)
    have e3 := fMul_r (i := twice) (j := 48271) (by decide)
    have m1 := fMod_p (i := (b + 48271 * k) * (39373 + k)) (j := 2147483647) (by decide)
    have m2 := fMod_p (i := once) (j := 40009) (by decide)
    have m3 := fMod_p (i := (once + k + b / 1000003) * far) (j := 2147483629) (by decide)
    have m4 := fMod_p (i := twice * 48271 + once) (j := 2147483587) (by decide)
    have d1 := fDiv_p (i := b) (j := 1000003) (by decide)
    have d2 := fDiv_p (i := (twice * 48271 + once) % 2147483587) (j := 64) (by decide)
    rw [← ho] at m1
    rw [← ht] at m3
    refine ⟨(twice * 48271 + once) % 2147483587 / 64 % low, ⟨a, b, k⟩, ?_, Int.emod_nonneg _ (by omega), Int.emod_lt_of_pos _ h0, ⟨ha, ⟨hb1, hb2⟩, by show 0 ≤ k; omega, by show k ≤ n + 1; omega⟩⟩
    simp only [F_takeG, runB, m_takeG, sCons, sIf, mTru, mBin, mUrn0, mUrn1, mUrn2, isUrn, bnd, lft, mC, cGt, truD, q, sSet, sRet, mBi, mCons, mNil, bInt, mVar, fMod_p h0, fDiv_p ⟨h0, h1⟩, sUrn0, sUrn2, sNil, fAdd, List.map, List.length, List.replicate, List.append, List.cons_append, List.nil_append, List.getElem?_cons_zero, List.getElem?_cons_succ, List.set, decide_false, if_true, Bool.false_eq_true, if_false, ← hk, ← hf, e0, e1, e2, e3, m1, m2, m3, m4, d1, d2, Nat.reduceSub, List.replicate_succ, List.replicate_zero]
def m_ofG : MS := (sCons (sRet (mBin ixD (mVar 1) (mCall 2 F_takeG (mCons (mVar 0) (mCons (mBi bLen (mCons (mVar 1) mNil)) mNil)))))
    sNil)
def F_ofG : List D → U → Option (D × U) := runB m_ofG 2
theorem ofG_ok {n : Int} {u : U} {ds : List D} (h : OkU n u) (hn : n ≤ 2 ^ 40) (h0 : 0 < ds.length) (h1 : ds.length < 1000) :
    ∃ d u', F_ofG [.urn, .lst ds] u = some (d, u') ∧ d ∈ ds ∧ OkU (n + 1) u' := by
  obtain ⟨r, u', e, r0, r1, hu⟩ := takeG_ok (low := ds.length) h hn (by omega) (by omega)
  have hr : r.toNat < ds.length := by omega
  have e2 : ixD (.lst ds) (.int r) = some ds[r.toNat] := by
    have := atI_nat (List.getElem?_eq_getElem hr)
    rw [Int.toNat_of_nonneg r0] at this
    exact this
  refine ⟨_, u', ?_, List.getElem_mem hr, hu⟩
  simp only [F_ofG, m_ofG, runB, sCons, sSet, sTgt, sPar, sRet, sIf, sNil, sDrop, mVar, mC, mCons, mNil, mLst, mTup, mBin, mCall, mBi, mAnd, mOr, mNot, mIte, mTru, mNotB, mAndB, mOrB, mChain, mNeg, mSl, moNo, moAt, mIsi, bnd, lft, bindT, setE, List.map_cons, List.map_nil, List.length_cons, List.length_nil, List.cons_append, List.nil_append, List.getElem?_cons_zero, List.getElem?_cons_succ, List.set_cons_zero, List.set_cons_succ, if_true, if_false, Bool.false_eq_true, List.replicate_succ, List.replicate_zero, Nat.reduceSub, Nat.reduceAdd, reduceIte, Option.map_some, Option.map_none, Nat.zero_add, bLen, e, e2]
def m_sameB (F_same_ : List D → U → Option (D × U)) : MS := (sCons (sIf (mTru (mIsi ["list", "tuple"] (mVar 1))) (sCons (sIf (mOrB (mTru (mBin cNe (mIsi ["list"] (mVar 0)) (mIsi ["list"] (mVar 1)))) (mTru (mBin cNe (mIsi ["tuple"] (mVar 0)) (mIsi ["tuple"] (mVar 1))))) (sCons (sRet (mC (.bl false)))
    sNil) sNil)
    (sCons (sRet (mAnd (mBin cEq (mBi bLen (mCons (mVar 0) mNil)) (mBi bLen (mCons (mVar 1) mNil))) (mBi bAll (mCons (mLc (.many [2, 3]) [2, 3] (mZip (mVar 0) (mVar 1)) mYes (mCall 2 F_same_ (mCons (mVar 2) (mCons (mVar 3) mNil)))) mNil))))
    sNil)) sNil)
    (sCons (sIf (mTru (mBin cIs (mVar 1) (mC .non))) (sCons (sRet (mBin cIs (mVar 0) (mC .non)))
    sNil) sNil)
    (sCons (sIf (mTru (mIsi ["bool", "str"] (mVar 1))) (sCons (sRet (mAnd (mBin cEq (mVar 0) (mVar 1)) (mBin cEq (mIsi ["bool"] (mVar 0)) (mIsi ["bool"] (mVar 1)))))
    sNil) sNil)
    (sCons (sRet (mAnd (mIsi ["int"] (mVar 0)) (mAnd (mNot (mIsi ["bool"] (mVar 0))) (mBin cEq (mVar 0) (mVar 1)))))
    sNil))))
def FR_sameB : Nat → List D → U → Option (D × U)
  | 0 => fun _ _ => none
  | n + 1 => runB (m_sameB (FR_sameB n)) 4
theorem sameB_self {u : U} : ∀ (n : Nat) (d : D), plainN n d = true → FR_sameB (n + 1) [d, d] u = some (.bl true, u) := by
  intro n
  induction n with
  | zero =>
    intro d h
    cases d with
    | non => exact runB_rt (sc_nx (sIf_f (mTru_eq (mIsi_eq rfl isi2_non) rfl) rfl) (sc_rt (sIf_t (mTru_eq (mBin_eq rfl rfl rfl) rfl) (sc_rt (sRet_eq (mBin_eq rfl rfl rfl))))))
    | bl b => exact runB_rt (sc_nx (sIf_f (mTru_eq (mIsi_eq rfl (isi2_bl b)) rfl) rfl) (sc_nx (sIf_f (mTru_eq (mBin_eq rfl rfl rfl) rfl) rfl) (sc_rt (sIf_t (mTru_eq (mIsi_eq rfl (isi_bs_bl b)) rfl) (sc_rt (sRet_eq (mAnd_t (mBin_eq rfl rfl (ceq_bl b)) rfl (mBin_eq (mIsi_eq rfl (isi_b_bl b)) (mIsi_eq rfl (isi_b_bl b)) rfl))))))))
    | str x => exact runB_rt (sc_nx (sIf_f (mTru_eq (mIsi_eq rfl (isi2_str x)) rfl) rfl) (sc_nx (sIf_f (mTru_eq (mBin_eq rfl rfl rfl) rfl) rfl) (sc_rt (sIf_t (mTru_eq (mIsi_eq rfl (isi_bs_str x)) rfl) (sc_rt (sRet_eq (mAnd_t (mBin_eq rfl rfl (ceq_str x)) rfl (mBin_eq (mIsi_eq rfl (isi_b_str x)) (mIsi_eq rfl (isi_b_str x)) rfl))))))))
    | int i => exact runB_rt (sc_nx (sIf_f (mTru_eq (mIsi_eq rfl (isi2_int i)) rfl) rfl) (sc_nx (sIf_f (mTru_eq (mBin_eq rfl rfl rfl) rfl) rfl) (sc_nx (sIf_f (mTru_eq (mIsi_eq rfl (isi_bs_int i)) rfl) rfl) (sc_rt (sRet_eq (mAnd_t (mIsi_eq rfl (isi_ii i)) rfl (mAnd_t (mNot_eq (k := false) (mIsi_eq rfl (isi_ib i)) rfl) rfl (mBin_eq rfl rfl (ceq_int i)))))))))
    | _ => simp [plainN] at h
  | succ n ih =>
    intro d h
    cases d with
    | non => exact runB_rt (sc_nx (sIf_f (mTru_eq (mIsi_eq rfl isi2_non) rfl) rfl) (sc_rt (sIf_t (mTru_eq (mBin_eq rfl rfl rfl) rfl) (sc_rt (sRet_eq (mBin_eq rfl rfl rfl))))))
    | bl b => exact runB_rt (sc_nx (sIf_f (mTru_eq (mIsi_eq rfl (isi2_bl b)) rfl) rfl) (sc_nx (sIf_f (mTru_eq (mBin_eq rfl rfl rfl) rfl) rfl) (sc_rt (sIf_t (mTru_eq (mIsi_eq rfl (isi_bs_bl b)) rfl) (sc_rt (sRet_eq (mAnd_t (mBin_eq rfl rfl (ceq_bl b)) rfl (mBin_eq (mIsi_eq rfl (isi_b_bl b)) (mIsi_eq rfl (isi_b_bl b)) rfl))))))))
    | str x => exact runB_rt (sc_nx (sIf_f (mTru_eq (mIsi_eq rfl (isi2_str x)) rfl) rfl) (sc_nx (sIf_f (mTru_eq (mBin_eq rfl rfl rfl) rfl) rfl) (sc_rt (sIf_t (mTru_eq (mIsi_eq rfl (isi_bs_str x)) rfl) (sc_rt (sRet_eq (mAnd_t (mBin_eq rfl rfl (ceq_str x)) rfl (mBin_eq (mIsi_eq rfl (isi_b_str x)) (mIsi_eq rfl (isi_b_str x)) rfl))))))))
    | int i => exact runB_rt (sc_nx (sIf_f (mTru_eq (mIsi_eq rfl (isi2_int i)) rfl) rfl) (sc_nx (sIf_f (mTru_eq (mBin_eq rfl rfl rfl) rfl) rfl) (sc_nx (sIf_f (mTru_eq (mIsi_eq rfl (isi_bs_int i)) rfl) rfl) (sc_rt (sRet_eq (mAnd_t (mIsi_eq rfl (isi_ii i)) rfl (mAnd_t (mNot_eq (k := false) (mIsi_eq rfl (isi_ib i)) rfl) rfl (mBin_eq rfl rfl (ceq_int i)))))))))
    | lst xs =>
      unfold plainN at h
      rw [Bool.and_eq_true] at h
      have few := of_decide_eq_true h.1
      have hx := same_go (f := FR_sameB (n + 1)) (xs := xs) (a := .lst xs) (b := .lst xs) (u := u) fun x hx => ih x (List.all_eq_true.mp h.2 x hx)
      exact runB_rt (sc_rt (sIf_t (mTru_eq (mIsi_eq rfl (isi2_lst xs)) rfl) (sc_nx (sIf_f (mOrB_f (mTru_eq (mBin_eq (mIsi_eq rfl (isi_l_l xs)) (mIsi_eq rfl (isi_l_l xs)) rfl) rfl) (mTru_eq (mBin_eq (mIsi_eq rfl (isi_lt xs)) (mIsi_eq rfl (isi_lt xs)) rfl) rfl)) rfl)
        (sc_rt (sRet_eq (mAnd_t (mBin_eq (mBi_eq (c1 rfl) (len_l few)) (mBi_eq (c1 rfl) (len_l few)) (ceq_int _)) rfl (mBi_eq (c1 (mLc_eq (mZip_l rfl rfl) hx (by rw [List.length_map, zip_len]; exact isiz few))) (bAll_ts _))))))))
    | tup xs =>
      unfold plainN at h
      rw [Bool.and_eq_true] at h
      have few := of_decide_eq_true h.1
      have hx := same_go (f := FR_sameB (n + 1)) (xs := xs) (a := .tup xs) (b := .tup xs) (u := u) fun x hx => ih x (List.all_eq_true.mp h.2 x hx)
      exact runB_rt (sc_rt (sIf_t (mTru_eq (mIsi_eq rfl (isi2_tup xs)) rfl) (sc_nx (sIf_f (mOrB_f (mTru_eq (mBin_eq (mIsi_eq rfl (isi_t_l xs)) (mIsi_eq rfl (isi_t_l xs)) rfl) rfl) (mTru_eq (mBin_eq (mIsi_eq rfl (isi_tt xs)) (mIsi_eq rfl (isi_tt xs)) rfl) rfl)) rfl)
        (sc_rt (sRet_eq (mAnd_t (mBin_eq (mBi_eq (c1 rfl) (len_t few)) (mBi_eq (c1 rfl) (len_t few)) (ceq_int _)) rfl (mBi_eq (c1 (mLc_eq (mZip_t rfl rfl) hx (by rw [List.length_map, zip_len]; exact isiz few))) (bAll_ts _))))))))
    | _ => simp [plainN] at h
def m_mixedG : MS := (sCons (sParv 2 3 (vList (mVar 1)) (vLst mNil))
    (sCons (sFor (.one 4) (mRange1 (mBi bLen (mCons (mVar 1) mNil))) (sCons (sAppPop 3 2 (mCall 2 F_takeG (mCons (mVar 0) (mCons (mPeek 2 (mBi bLen (mCons (mVar 2) mNil))) mNil))))
    sNil))
    (sPub 3
    (sCons (sRet (mBi bTuple (mCons (mVar 3) mNil)))
    sNil))))
def F_mixedG : List D → U → Option (D × U) := runB m_mixedG 5

theorem perm_erase {α : Type} : ∀ {l : List α} {k : Nat} (h : k < l.length), (l[k] :: l.eraseIdx k).Perm l
  | a :: l, 0, _ => .refl _
  | a :: l, k + 1, h => (List.Perm.swap a _ _).trans (.cons a (perm_erase (Nat.lt_of_succ_lt_succ h)))
theorem mixedG_ok {n : Int} {u : U} {ds : List D} (h : OkU n u) (hn : n ≤ 2 ^ 39) (hl : ds.length ≤ 1000) : ∃ es u', F_mixedG [.urn, .lst ds] u = some (.tup es, u') ∧ es.Perm ds ∧ OkU (n + ds.length) u' := by
  obtain ⟨env', u', e, o', left, found, x, rfl, hp, hf⟩ := forL_inv (t := .one 4) (f := (sCons (sAppPop 3 2 (mCall 2 F_takeG (mCons (mVar 0) (mCons (mPeek 2 (mBi bLen (mCons (mVar 2) mNil))) mNil)))) sNil))
    (I := fun i env u => OkU (n + i) u ∧ ∃ left found x, env = [Sl.pub .urn, .pub (.lst ds), .own (.lst left), .own (.lst found), x] ∧ (found ++ left).Perm ds ∧ (found.length : Int) = i) (N := (ds.length : Int) - 1) (ds := rangeD 0 ds.length) (i := 0) (env := [Sl.pub .urn, .pub (.lst ds), .own (.lst ds), .own (.lst []), .no]) (u := u) (fun d _ i env u hi hI => by
      obtain ⟨ou, left, found, x, rfl, hp, hf⟩ := hI
      have hlen := hp.length_eq
      rw [List.length_append] at hlen
      obtain ⟨r, u2, e, r0, r1, o2⟩ := takeG_ok (low := left.length) ou (by omega) (by omega) (by omega)
      obtain ⟨k, rfl⟩ : ∃ k : Nat, r = k := ⟨r.toNat, by omega⟩
      have hk : k < left.length := by omega
      refine ⟨[Sl.pub .urn, .pub (.lst ds), .own (.lst left), .own (.lst found), .pub d], [Sl.pub .urn, .pub (.lst ds), .own (.lst (left.eraseIdx k)), .own (.lst (found ++ [left[k]])), .pub d], u2, rfl, ?_, o2.mono (by omega), left.eraseIdx k, found ++ [left[k]], _, rfl, ?_, by rw [List.length_append]; simp; omega⟩
      · exact sc_nx (sAppPop_eq (i := 3) (j := 2) (n := k) rfl rfl (mCall_eq (mCons_eq rfl (c1 (mPeek_eq (o := .lst left) rfl (mBi_eq (c1 rfl) rfl) rfl))) rfl e) hk (by omega) (by rw [line]; omega) (by decide)) rfl
      · have h1 : (left[k] :: left.eraseIdx k).Perm left := perm_erase hk
        rw [List.append_assoc]
        exact (List.Perm.append_left found h1).trans hp) ⟨by simpa using h, ds, [], _, rfl, by simp, rfl⟩ (by rw [rangeD_len]; omega)
  rw [rangeD_len] at o' hf
  have hlen := hp.length_eq
  rw [List.length_append] at hlen
  have l0 : left = [] := List.eq_nil_of_length_eq_zero (by omega)
  subst l0
  rw [List.append_nil] at hp
  refine ⟨found, u', runB_rt (sc_nx (sParv_eq (vList_l rfl) (vLst_eq rfl (isiz (by simp)))) (sc_nx (sFor_eq (mRange1_eq (j := (ds.length : Int)) (mBi_eq (c1 rfl) rfl) ⟨by omega, by omega⟩) (by rw [Int.toNat_natCast]; exact e)) (sPub_eq rfl (sc_rt (sRet_eq (mBi_eq (c1 rfl) rfl)))))), hp, o'.mono (by omega)⟩
end Dv

/-! Ki: texts in lists and tuples: in, ==, sorted. -/
namespace Dv
open PySem PySem.Spec PyProof.Rows L2
def AllT (xs : List Str) : Prop := ∀ x ∈ xs, TxO x
theorem AllT.sub {xs ys : List Str} (h : AllT ys) (s : ∀ x ∈ xs, x ∈ ys) : AllT xs := fun x hx => h x (s x hx)
theorem strs_py (xs : List Str) : toPys (xs.map D.str) = some (xs.map PyData.str) := toPys_map fun a _ => by unfold toPy; rfl
theorem strs_lay {xs : List Str} (h : AllT xs) : PyData.canLayAll0 (xs.map PyData.str) = true := lay_map fun a ha => by unfold PyData.canLay0; exact h a ha
theorem strs_dep (xs : List Str) : PyData.depthAll (xs.map PyData.str) ≤ 0 := depth_map fun a _ => by simp [PyData.depth]
theorem strs_shT {xs : List Str} (h : AllT xs) : SeqAt.shaped (.tuple (xs.map PyData.str)) = true := shaped_tup (n := 0) (fun p hp => by unfold PyData.canLay0; exact h p hp) (fun p _ => by simp [PyData.depth]) (by decide)
theorem strs_shL {xs : List Str} (h : AllT xs) : SeqAt.shaped (.list (xs.map PyData.str)) = true := by
  unfold SeqAt.shaped
  rw [Bool.and_eq_true]
  refine ⟨by simp only [PyData.canLay0]; exact strs_lay h, decide_eq_true ?_⟩
  have := strs_dep xs
  unfold PyData.depth
  omega
theorem str_sh {x : Str} (h : TxO x) : SeqAt.shaped (.str x) = true := by
  unfold SeqAt.shaped
  rw [show (PyData.str x).canLay0 = true by unfold PyData.canLay0; exact h]
  rfl
theorem any_strs (x : Str) (ys : List Str) : ((ys.map PyData.str).any fun z => PyData.eqv z (.str x)) = decide (x ∈ ys) := by
  rw [List.any_map]
  induction ys with
  | nil => rfl
  | cons y ys ih =>
    rw [List.any_cons, ih]
    show ((y == x) || decide (x ∈ ys)) = _
    by_cases e : y = x
    · subst e; simp
    · have e' : ¬ x = y := fun z => e z.symm
      rw [beq_eq_false_iff_ne.mpr e]; simp [e']
theorem in_strT {x : Str} {ys : List Str} (h : TxO x) (g : AllT ys) : inD (.str x) (.tup (ys.map .str)) = some (decide (x ∈ ys)) := by
  show (match toPy (.str x), toPys (ys.map D.str) with | some x, some ys => if SeqAt.shaped x = true ∧ SeqAt.shaped (.tuple ys) = true then some (ys.any fun z => PyData.eqv z x) else none | _, _ => none) = _
  rw [strs_py]
  show (if SeqAt.shaped (.str x) = true ∧ _ then _ else _) = _
  rw [if_pos ⟨str_sh h, strs_shT g⟩, any_strs]
theorem in_strL {x : Str} {ys : List Str} (h : TxO x) (g : AllT ys) : inD (.str x) (.lst (ys.map .str)) = some (decide (x ∈ ys)) := by
  show (match toPy (.str x), toPys (ys.map D.str) with | some x, some ys => if SeqAt.shaped x = true ∧ SeqAt.shaped (.list ys) = true then some (ys.any fun z => PyData.eqv z x) else none | _, _ => none) = _
  rw [strs_py]
  show (if SeqAt.shaped (.str x) = true ∧ _ then _ else _) = _
  rw [if_pos ⟨str_sh h, strs_shL g⟩, any_strs]
theorem ceqS (x y : Str) : cEq (.str x) (.str y) = some (.bl (decide (x = y))) := rfl
theorem cneS (x y : Str) : cNe (.str x) (.str y) = some (.bl (!decide (x = y))) := rfl
theorem eqvAll_nil (ps : List PyData) : PyData.eqvAll ps [] = ps.isEmpty := by cases ps <;> simp [PyData.eqvAll]
theorem eqD_nilS {ys : List Str} (g : AllT ys) : eqD (.lst (ys.map .str)) (.lst []) = some ys.isEmpty := by
  show (match toPy (.lst (ys.map D.str)), toPy (.lst []) with | some x, some y => if SeqAt.shaped x = true ∧ SeqAt.shaped y = true then some (PyData.eqv x y) else none | _, _ => none) = _
  have e1 : toPy (.lst (ys.map D.str)) = some (.list (ys.map .str)) := by unfold toPy; rw [strs_py]; rfl
  have e2 : toPy (.lst []) = some (.list []) := by unfold toPy; simp [toPys]
  rw [e1, e2]
  show (if _ then _ else _) = _
  rw [if_pos ⟨strs_shL g, by decide⟩]
  show some (PyData.eqvAll (ys.map PyData.str) []) = _
  rw [eqvAll_nil]
  cases ys <;> rfl
theorem ceq_nilS {ys : List Str} (g : AllT ys) : cEq (.lst (ys.map .str)) (.lst []) = some (.bl ys.isEmpty) := by
  show (eqD _ _).map D.bl = _; rw [eqD_nilS g]; rfl
theorem cne_nilS {ys : List Str} (g : AllT ys) : cNe (.lst (ys.map .str)) (.lst []) = some (.bl (!ys.isEmpty)) := by
  show (eqD _ _).map (fun k => D.bl (!k)) = _; rw [eqD_nilS g]; rfl
theorem srt_l {xs : List Str} (h : xs.length < 63) : srtSetD (.lst (xs.map .str)) = some (.lst ((sortS (nubS xs)).map .str)) := by
  show (strsOf (xs.map D.str)).bind _ = _
  rw [strsOf_map]; exact if_pos h
theorem nub_sub : ∀ {xs : List Str} {x : Str}, x ∈ sortS (nubS xs) → x ∈ nubS xs := fun h => (sortS_perm _).subset h
theorem slT_to {xs : List Str} {k : Nat} (h : k ≤ xs.length) : slD (.tup (xs.map .str)) none (some (k : Int)) = some (.tup ((xs.take k).map .str)) := by
  show some (D.tup (cutD _ none (some (k : Int)))) = _
  rw [cutD_to (by rw [List.length_map]; exact h), List.map_take]
theorem slL_to {xs : List Str} {k : Nat} (h : k ≤ xs.length) : slD (.lst (xs.map .str)) none (some (k : Int)) = some (.lst ((xs.take k).map .str)) := by
  show some (D.lst (cutD _ none (some (k : Int)))) = _
  rw [cutD_to (by rw [List.length_map]; exact h), List.map_take]
theorem slT_from {xs : List Str} {k : Nat} (h : k ≤ xs.length) : slD (.tup (xs.map .str)) (some (k : Int)) none = some (.tup ((xs.drop k).map .str)) := by
  show some (D.tup (cutD _ (some (k : Int)) none)) = _
  rw [cutD_from (by rw [List.length_map]; exact h), List.map_drop]
theorem slL_from {xs : List Str} {k : Nat} (h : k ≤ xs.length) : slD (.lst (xs.map .str)) (some (k : Int)) none = some (.lst ((xs.drop k).map .str)) := by
  show some (D.lst (cutD _ (some (k : Int)) none)) = _
  rw [cutD_from (by rw [List.length_map]; exact h), List.map_drop]
theorem bAll_bls (bs : List Bool) : bAll [.lst (bs.map .bl)] = some (.bl (bs.all id)) := by
  show (blsOf _).map _ = _
  rw [blsOf_map]; rfl
end Dv

/-! Ke: dicts of texts and ints, as lists of pairs; what is sorted of them. -/
namespace Dv
open PySem PySem.Spec L2
abbrev Al := List (Str × Int)
def alK (al : Al) : List Key := al.map fun p => .inr p.1
def alD (al : Al) : List D := al.map fun p => .int p.2
def putA (x : Str) (v : Int) : Al → Al
  | [] => [(x, v)]
  | p :: r => if p.1 = x then (p.1, v) :: r else p :: putA x v r
def getA (x : Str) : Al → Option Int
  | [] => none
  | p :: r => if p.1 = x then some p.2 else getA x r
theorem putA_cons (x : Str) (v : Int) (p : Str × Int) (r : Al) : putA x v (p :: r) = if p.1 = x then (p.1, v) :: r else p :: putA x v r := by rw [putA]
theorem getA_cons (x : Str) (p : Str × Int) (r : Al) : getA x (p :: r) = if p.1 = x then some p.2 else getA x r := by rw [getA]
theorem inr_eq {x y : Str} : ((Sum.inr x : Key) = Sum.inr y) = (x = y) := propext ⟨fun h => Sum.inr.inj h, fun h => by rw [h]⟩
theorem put_al (x : Str) (v : Int) : ∀ al : Al, putD (alK al) (alD al) (.inr x) (.int v) = (alK (putA x v al), alD (putA x v al))
  | [] => rfl
  | p :: r => by
    show (if (Sum.inr p.1 : Key) = Sum.inr x then _ else _) = _
    by_cases e : p.1 = x
    · rw [if_pos (by rw [e]), putA_cons, if_pos e]; rfl
    · rw [if_neg (fun z => e (Sum.inr.inj z))]
      show (Sum.inr p.1 :: (putD (alK r) (alD r) (.inr x) (.int v)).1, D.int p.2 :: (putD (alK r) (alD r) (.inr x) (.int v)).2) = _
      rw [put_al x v r, putA_cons, if_neg e]; rfl
theorem val_al (x : Str) : ∀ al : Al, valD (alK al) (alD al) (.inr x) = (getA x al).map .int
  | [] => rfl
  | p :: r => by
    show Option.map _ (((((Sum.inr p.1 : Key), D.int p.2) :: (alK r).zip (alD r)).find? fun kd => decide (kd.1 = (Sum.inr x : Key)))) = _
    by_cases e : p.1 = x
    · rw [List.find?_cons_of_pos (by rw [e]; exact decide_eq_true rfl), getA_cons, if_pos e]; rfl
    · rw [List.find?_cons_of_neg (by simpa [inr_eq] using e), getA_cons, if_neg e]
      exact val_al x r
theorem get_put (x y : Str) (v : Int) : ∀ al : Al, getA y (putA x v al) = if y = x then some v else getA y al
  | [] => by
    show (if x = y then some v else none) = _
    by_cases e : y = x
    · rw [if_pos e, if_pos e.symm]
    · rw [if_neg e, if_neg (fun z => e z.symm)]; rfl
  | p :: r => by
    rw [putA_cons]
    by_cases e : p.1 = x
    · rw [if_pos e, getA_cons, getA_cons]
      show (if p.1 = y then some v else getA y r) = _
      by_cases f : y = x
      · rw [if_pos f, if_pos (e.trans f.symm)]
      · rw [if_neg f, if_neg (fun z => f (z.symm.trans e)), if_neg (fun z => f (z.symm.trans e))]
    · rw [if_neg e, getA_cons, getA_cons]
      by_cases f : p.1 = y
      · rw [if_pos f, if_pos f, if_neg (fun z => e (f.trans z))]
      · rw [if_neg f, if_neg f, get_put x y v r]
def NdA (al : Al) : Prop := (al.map (·.1)).Nodup
theorem put_keys (x : Str) (v : Int) : ∀ al : Al, (putA x v al).map (·.1) = if x ∈ al.map (·.1) then al.map (·.1) else al.map (·.1) ++ [x]
  | [] => rfl
  | p :: r => by
    rw [putA_cons]
    by_cases e : p.1 = x
    · rw [if_pos e, if_pos (by rw [← e]; exact List.mem_cons_self)]; rfl
    · rw [if_neg e, List.map_cons, put_keys x v r, List.map_cons]
      by_cases f : x ∈ r.map (·.1)
      · rw [if_pos f, if_pos (List.mem_cons_of_mem _ f)]
      · rw [if_neg f, if_neg (fun z => (List.mem_cons.mp z).elim (fun w => e w.symm) f)]; rfl
theorem NdA.put {al : Al} (h : NdA al) (x : Str) (v : Int) : NdA (putA x v al) := by
  unfold NdA
  rw [put_keys]
  split
  · exact h
  · rename_i hx
    refine List.nodup_append.mpr ⟨h, List.nodup_cons.mpr ⟨by simp, .nil⟩, fun a ha b hb => ?_⟩
    simp only [List.mem_cons, List.not_mem_nil, or_false] at hb
    rw [hb]
    intro z
    exact hx (z ▸ ha)
theorem put_len (x : Str) (v : Int) (al : Al) : (putA x v al).length ≤ al.length + 1 := by
  rw [← List.length_map (f := fun p : Str × Int => p.1), put_keys]
  split
  · rw [List.length_map]; omega
  · rw [List.length_append, List.length_map]; exact Nat.le_refl _
theorem mem_get {al : Al} (h : NdA al) {x : Str} {v : Int} : (x, v) ∈ al ↔ getA x al = some v := by
  induction al with
  | nil => exact ⟨fun z => (by cases z), fun z => (by cases (show (none : Option Int) = some v from z))⟩
  | cons p r ih =>
    obtain ⟨h1, h2⟩ := List.nodup_cons.mp (show (p.1 :: r.map (·.1)).Nodup from h)
    rw [getA_cons]
    by_cases e : p.1 = x
    · rw [if_pos e]
      constructor
      · intro m
        rcases List.mem_cons.mp m with rfl | m
        · rfl
        · exact absurd (List.mem_map.mpr ⟨_, m, rfl⟩) (by rw [← e] at *; exact h1)
      · intro z
        have : p = (x, v) := by
          obtain ⟨a, b⟩ := p
          cases z; cases e; rfl
        rw [this]; exact List.mem_cons_self
    · rw [if_neg e, ← ih h2]
      exact ⟨fun m => (List.mem_cons.mp m).elim (fun z => absurd (by rw [← z]) e) id, fun m => List.mem_cons_of_mem _ m⟩
/-! ### the items, sorted -/
def pairK (p : Str × Int) : List Key := [.inr p.1, .inl p.2]
theorem items_al (al : Al) : itemsK (alK al) (alD al) = al.map fun p => .pr [.str p.1, .int p.2] := by
  unfold itemsK alK alD
  rw [List.zip_map', List.map_map]
  rfl
theorem pairK_inj {p q : Str × Int} (h : pairK p = pairK q) : p = q := by
  obtain ⟨a, b⟩ := p
  obtain ⟨c, d⟩ := q
  unfold pairK at h
  simp only [List.cons.injEq, and_true] at h
  rw [Sum.inr.inj h.1, Sum.inl.inj h.2]
theorem pair_shape (p : Str × Int) : shapeR (pairK p) = [false, true] := rfl
theorem pair_row (p : Str × Int) : rowD (pairK p) = lineD p := rfl
/-- strictly rising texts -/
def Rising (xs : List Str) : Prop := xs.Pairwise fun a b => a.cps.toList < b.cps.toList
theorem Rising.nodup {xs : List Str} (h : Rising xs) : xs.Nodup := h.imp fun hl e => by rw [e] at hl; exact List.lt_irrefl _ hl
def told (xs : List Str) (f : Str → Int) : Al := (xs.map fun x => (x, f x)).filter fun p => decide (0 < p.2)
theorem told_le {xs : List Str} (h : Rising xs) (f : Str → Int) : ((told xs f).map pairK).Pairwise LeR := by
  rw [List.pairwise_map]
  refine List.Pairwise.sublist List.filter_sublist ?_
  rw [List.pairwise_map]
  refine h.imp fun {a b} hl => ?_
  show leR [.inr a, .inl (f a)] [.inr b, .inl (f b)] = true
  rw [leR_cons, if_neg (fun z => by rw [Sum.inr.inj z] at hl; exact List.lt_irrefl _ hl)]
  exact decide_eq_true hl
theorem told_nodup {xs : List Str} (h : Rising xs) (f : Str → Int) : (told xs f).Nodup := by
  refine List.Nodup.sublist List.filter_sublist ?_
  exact List.Pairwise.map _ (fun a b (hab : a ≠ b) z => hab (congrArg Prod.fst z)) h.nodup
theorem al_nodup {al : Al} (h : NdA al) : al.Nodup := by
  have := h
  unfold NdA at this
  exact (List.pairwise_map.mp this).imp fun hab z => hab (by rw [z])
theorem tally_sort {al : Al} {xs : List Str} {f : Str → Int} (h : NdA al) (hx : Rising xs) (hf : ∀ x, (getA x al).getD 0 = f x) (h0 : ∀ x, x ∉ xs → f x = 0) :
    sortR ((al.filter fun p => decide (0 < p.2)).map pairK) = (told xs f).map pairK := by
  refine (sortR_uniq ?_ (told_le hx f)).symm
  refine List.Perm.map _ ?_
  refine (List.perm_ext_iff_of_nodup (told_nodup hx f) ((al_nodup h).sublist List.filter_sublist)).mpr fun p => ?_
  obtain ⟨x, v⟩ := p
  unfold told
  rw [List.mem_filter, List.mem_filter, mem_get h]
  constructor
  · rintro ⟨h1, h2⟩
    obtain ⟨y, hy, e⟩ := List.mem_map.mp h1
    cases e
    have hp := of_decide_eq_true h2
    refine ⟨?_, h2⟩
    have := hf x
    cases q : getA x al with
    | none => rw [q] at this; have : (0 : Int) = f x := this; dsimp only at hp; omega
    | some w => rw [q] at this; have : w = f x := this; rw [this]
  · rintro ⟨h1, h2⟩
    have hv : v = f x := by have := hf x; rw [h1] at this; exact this
    have hp : 0 < v := of_decide_eq_true h2
    refine ⟨List.mem_map.mpr ⟨x, ?_, by rw [hv]⟩, h2⟩
    by_cases m : x ∈ xs
    · exact m
    · have := h0 x m; omega
/-! ### equations -/
theorem mGet2_eq {mo me mf : M} {env : List Sl} {u u1 u2 u3 : U} {al : Al} {x : Str} {d : D} (h : mo env u = some (.dct (alK al) (alD al), u1)) (h2 : me env u1 = some (.str x, u2)) (h3 : mf env u2 = some (d, u3)) : mGet2 mo me mf env u = some (((getA x al).map D.int).getD d, u3) := by
  unfold mGet2
  rw [h]
  show bnd (me env u1) _ = _
  rw [h2]
  show bnd (mf env u2) _ = _
  rw [h3]
  show some ((valD (alK al) (alD al) (.inr x)).getD d, u3) = _
  rw [val_al]
theorem mDItems_eq {m : M} {env : List Sl} {u u1 : U} {al : Al} (h : m env u = some (.dct (alK al) (alD al), u1)) : mDItems m env u = some (al.map fun p => .pr [.str p.1, .int p.2], u1) := by
  unfold mDItems
  rw [h, ← items_al]; rfl
theorem vDct_eq {env : List Sl} {u : U} : vDct env u = some (.own (.dct (alK []) (alD [])), u) := rfl
theorem sPutD_eq {i : Nat} {mk mv : M} {env : List Sl} {u u1 u2 : U} {al : Al} {x : Str} {v : Int} (hi : env[i]? = some (.own (.dct (alK al) (alD al)))) (h : mv env u = some (.int v, u1)) (h2 : mk env u1 = some (.str x, u2)) (hl : al.length ≤ 1000) :
    sPutD i mk mv env u = some (.nx (env.set i (.own (.dct (alK (putA x v al)) (alD (putA x v al))))), u2) := by
  unfold sPutD
  rw [hi]
  show bnd (mv env u) _ = _
  rw [h]
  show bnd (mk env u1) _ = _
  rw [h2]
  show (if (alK al).length < sizeLine then _ else _) = _
  rw [if_pos (by unfold alK; rw [List.length_map, line]; omega), put_al]
theorem getD_map (o : Option Int) : (o.map D.int).getD (.int 0) = .int (o.getD 0) := by cases o <;> rfl
theorem compL_fm {α : Type} {f : D → U → Option (Option D × U)} {g h : α → D} {P : α → Bool} {u : U} : ∀ {l : List α}, (∀ a ∈ l, f (g a) u = some (if P a = true then some (h a) else none, u)) → compL f (l.map g) u = some ((l.filter P).map h, u)
  | [], _ => rfl
  | a :: l, hf => by
    rw [List.map_cons]
    unfold compL
    rw [hf a List.mem_cons_self]
    show bnd (compL f (l.map g) u) _ = _
    rw [compL_fm fun b hb => hf b (List.mem_cons_of_mem _ hb)]
    cases q : P a with
    | true => rw [List.filter_cons_of_pos q]; rfl
    | false => rw [List.filter_cons_of_neg (by rw [q]; decide)]; rfl
theorem rising_sort {xs : List Str} (h : xs.Nodup) : Rising (sortS xs) := by
  have hn : (sortS xs).Nodup := (sortS_perm xs).nodup_iff.mpr h
  refine ((sortS_sorted xs).and hn).imp fun {a b} hab => ?_
  by_cases e : a.cps.toList < b.cps.toList
  · exact e
  · exact absurd (leS_anti hab.1 (List.not_lt.mp e)) hab.2
theorem compL_mp {α : Type} {f : D → U → Option (Option D × U)} {g h : α → D} {u : U} {l : List α} (hf : ∀ a ∈ l, f (g a) u = some (some (h a), u)) : compL f (l.map g) u = some (l.map h, u) := by
  have := compL_fm (P := fun _ => true) (h := h) (f := f) (g := g) (u := u) (l := l) fun a ha => by rw [if_pos rfl]; exact hf a ha
  rw [this, List.filter_eq_self.mpr fun _ _ => rfl]
theorem last_int {l : List Nat} {s : Nat} (h : l.getLast? = some s) : ixD (.lst (l.map fun j : Nat => .int (j : Int))) (.int (-1)) = some (.int (s : Int)) := by
  show atI _ (-1) = _
  have hn : l ≠ [] := fun z => by rw [z] at h; cases h
  have hl : 0 < l.length := List.length_pos_iff.mpr hn
  unfold atI ixN
  rw [List.length_map, if_neg (by omega), if_pos (by omega)]
  show (l.map fun j : Nat => D.int (j : Int))[((-1 : Int) + l.length).toNat]? = _
  rw [show ((-1 : Int) + l.length).toNat = l.length - 1 by omega, List.getElem?_map, ← List.getLast?_eq_getElem?, h]; rfl
theorem mul3 {h : D} : fMul (.lst [h]) (.int 3) = some (.lst [h, h, h]) := by
  simp only [fMul]
  rw [if_pos ⟨by decide, by decide, by rw [line]; show 1 * 3 ≤ 16777216; decide⟩]
  rfl
end Dv

/-! Kr: things told by data (lines, flushes): in, ==, empty; loops that end early; a prefix of a row. -/
namespace Dv
open PySem PySem.Spec L2
structure Cod {α : Type} [DecidableEq α] (e : α → D) (p : α → PyData) (ok : α → Prop) (n : Nat) : Prop where
  py : ∀ a, toPy (e a) = some (p a)
  lay : ∀ a, ok a → (p a).canLay0 = true
  dep : ∀ a, (p a).depth ≤ n
  eqv : ∀ a b, PyData.eqv (p a) (p b) = decide (a = b)
  tup : ∀ a, ∃ xs, e a = .tup xs
section
variable {α : Type} [DecidableEq α] {e : α → D} {p : α → PyData} {ok : α → Prop} {n : Nat}
theorem Cod.sh (c : Cod e p ok n) (hn : n < 63) {a : α} (h : ok a) : SeqAt.shaped (p a) = true := by
  unfold SeqAt.shaped
  rw [Bool.and_eq_true]
  exact ⟨c.lay a h, decide_eq_true (by have := c.dep a; omega)⟩
theorem Cod.pys (c : Cod e p ok n) (l : List α) : toPys (l.map e) = some (l.map p) := toPys_map fun a _ => c.py a
theorem Cod.shT (c : Cod e p ok n) (hn : n < 63) {l : List α} (h : ∀ a ∈ l, ok a) : SeqAt.shaped (.tuple (l.map p)) = true := shaped_tup (n := n) (fun a ha => c.lay a (h a ha)) (fun a _ => c.dep a) (by omega)
theorem Cod.shL (c : Cod e p ok n) (hn : n < 63) {l : List α} (h : ∀ a ∈ l, ok a) : SeqAt.shaped (.list (l.map p)) = true := by
  unfold SeqAt.shaped
  rw [Bool.and_eq_true]
  refine ⟨by simp only [PyData.canLay0]; exact lay_map fun a ha => c.lay a (h a ha), decide_eq_true ?_⟩
  have := depth_map (g := p) (n := n) (l := l) fun a _ => c.dep a
  unfold PyData.depth
  omega
theorem Cod.any (c : Cod e p ok n) (a : α) (l : List α) [Decidable (a ∈ l)] : ((l.map p).any fun z => PyData.eqv z (p a)) = decide (a ∈ l) := by
  rw [List.any_map]
  have : ((fun z => PyData.eqv z (p a)) ∘ p) = fun q => decide (q = a) := funext fun q => c.eqv q a
  rw [this, Bool.eq_iff_iff, List.any_eq_true, decide_eq_true_iff]
  exact ⟨fun ⟨x, hx, h⟩ => by rw [← of_decide_eq_true h]; exact hx, fun hx => ⟨a, hx, decide_eq_true rfl⟩⟩
theorem Cod.inT (c : Cod e p ok n) (hn : n < 63) {a : α} {l : List α} [Decidable (a ∈ l)] (h : ok a) (g : ∀ b ∈ l, ok b) : inD (e a) (.tup (l.map e)) = some (decide (a ∈ l)) := by
  show (match toPy (e a), toPys (l.map e) with | some x, some ys => if SeqAt.shaped x = true ∧ SeqAt.shaped (.tuple ys) = true then some (ys.any fun z => PyData.eqv z x) else none | _, _ => none) = _
  rw [c.py, c.pys]
  show (if _ then _ else _) = _
  rw [if_pos ⟨c.sh hn h, c.shT hn g⟩, c.any]
theorem Cod.inL (c : Cod e p ok n) (hn : n < 63) {a : α} {l : List α} [Decidable (a ∈ l)] (h : ok a) (g : ∀ b ∈ l, ok b) : inD (e a) (.lst (l.map e)) = some (decide (a ∈ l)) := by
  show (match toPy (e a), toPys (l.map e) with | some x, some ys => if SeqAt.shaped x = true ∧ SeqAt.shaped (.list ys) = true then some (ys.any fun z => PyData.eqv z x) else none | _, _ => none) = _
  rw [c.py, c.pys]
  show (if _ then _ else _) = _
  rw [if_pos ⟨c.sh hn h, c.shL hn g⟩, c.any]
theorem Cod.cinT (c : Cod e p ok n) (hn : n < 63) {a : α} {l : List α} [Decidable (a ∈ l)] (h : ok a) (g : ∀ b ∈ l, ok b) : cIn (e a) (.tup (l.map e)) = some (.bl (decide (a ∈ l))) := by
  show (inD _ _).map D.bl = _; rw [c.inT hn h g]; rfl
theorem Cod.cinL (c : Cod e p ok n) (hn : n < 63) {a : α} {l : List α} [Decidable (a ∈ l)] (h : ok a) (g : ∀ b ∈ l, ok b) : cIn (e a) (.lst (l.map e)) = some (.bl (decide (a ∈ l))) := by
  show (inD _ _).map D.bl = _; rw [c.inL hn h g]; rfl
theorem Cod.cniT (c : Cod e p ok n) (hn : n < 63) {a : α} {l : List α} [Decidable (a ∈ l)] (h : ok a) (g : ∀ b ∈ l, ok b) : cNotIn (e a) (.tup (l.map e)) = some (.bl (!decide (a ∈ l))) := by
  show (inD _ _).map (fun k => D.bl (!k)) = _; rw [c.inT hn h g]; rfl
theorem Cod.cniL (c : Cod e p ok n) (hn : n < 63) {a : α} {l : List α} [Decidable (a ∈ l)] (h : ok a) (g : ∀ b ∈ l, ok b) : cNotIn (e a) (.lst (l.map e)) = some (.bl (!decide (a ∈ l))) := by
  show (inD _ _).map (fun k => D.bl (!k)) = _; rw [c.inL hn h g]; rfl
theorem Cod.eq (c : Cod e p ok n) (hn : n < 63) {a b : α} [Decidable (a = b)] (h : ok a) (g : ok b) : eqD (e a) (e b) = some (decide (a = b)) := by
  have ea := c.py a
  have eb := c.py b
  obtain ⟨xs, hx⟩ := c.tup a
  rw [hx] at ea ⊢
  show (match toPy (.tup xs), toPy (e b) with | some x, some y => if SeqAt.shaped x = true ∧ SeqAt.shaped y = true then some (PyData.eqv x y) else none | _, _ => none) = _
  rw [ea, eb]
  show (if _ then _ else _) = _
  rw [if_pos ⟨c.sh hn h, c.sh hn g⟩, c.eqv]
  exact congrArg some (decide_eq_decide.mpr Iff.rfl)
theorem Cod.ceq (c : Cod e p ok n) (hn : n < 63) {a b : α} [Decidable (a = b)] (h : ok a) (g : ok b) : cEq (e a) (e b) = some (.bl (decide (a = b))) := by
  show (eqD _ _).map D.bl = _; rw [c.eq hn h g]; rfl
theorem Cod.cne (c : Cod e p ok n) (hn : n < 63) {a b : α} [Decidable (a = b)] (h : ok a) (g : ok b) : cNe (e a) (e b) = some (.bl (!decide (a = b))) := by
  show (eqD _ _).map (fun k => D.bl (!k)) = _; rw [c.eq hn h g]; rfl
theorem Cod.cneNil (c : Cod e p ok n) (hn : n < 63) {l : List α} (g : ∀ b ∈ l, ok b) : cNe (.lst (l.map e)) (.lst []) = some (.bl (!l.isEmpty)) := by
  have h0 : eqD (.lst (l.map e)) (.lst []) = some l.isEmpty := by
    show (match toPy (.lst (l.map e)), toPy (.lst []) with | some x, some y => if SeqAt.shaped x = true ∧ SeqAt.shaped y = true then some (PyData.eqv x y) else none | _, _ => none) = _
    have e1 : toPy (.lst (l.map e)) = some (.list (l.map p)) := by unfold toPy; rw [c.pys]; rfl
    have e2 : toPy (.lst []) = some (.list []) := by unfold toPy; simp [toPys]
    rw [e1, e2]
    show (if _ then _ else _) = _
    rw [if_pos ⟨c.shL hn g, by decide⟩]
    show some (PyData.eqvAll (l.map p) []) = _
    rw [eqvAll_nil]
    cases l <;> rfl
  show (eqD _ _).map (fun k => D.bl (!k)) = _; rw [h0]; rfl
end
theorem lineCod : Cod lineD lineP (fun l => TxO l.1) 1 := ⟨line_py, fun _ h => line_lay h, line_dep, line_eqv, fun a => ⟨_, rfl⟩⟩
/-! ### (a moment, a stream) -/
abbrev Fl2 := Nat × Str
def flD (p : Fl2) : D := .tup [.int p.1, .str p.2]
def flL (p : Fl2) : D := .lst [.int p.1, .str p.2]
def flP (p : Fl2) : PyData := .tuple [.int p.1, .str p.2]
theorem flCod : Cod flD flP (fun p => TxO p.2) 1 := by
  refine ⟨fun p => by simp [flD, flP, toPy, toPys], fun p h => ?_, fun p => by simp [flP, PyData.depth, PyData.depthAll], fun p q => ?_, fun a => ⟨_, rfl⟩⟩
  · have h : PyData.strOk p.2 = true := h
    simp [flP, PyData.canLay0, PyData.canLayAll0, h]
  · simp only [flP, PyData.eqv, PyData.eqvAll, Bool.and_true]
    have e : p = q ↔ ((p.1 : Int) = (q.1 : Int)) ∧ p.2 = q.2 := ⟨fun h => by rw [h]; exact ⟨rfl, rfl⟩, fun h => Prod.ext (by omega) h.2⟩
    rw [show ((p.1 : Int) == (q.1 : Int)) = decide ((p.1 : Int) = (q.1 : Int)) from rfl, show (p.2 == q.2) = decide (p.2 = q.2) from rfl, ← Bool.decide_and]
    exact (decide_eq_decide.mpr e).symm
/-! ### loops that end early -/
def firstC (C : Nat → Bool) : Nat → Nat → Option Nat
  | _, 0 => none
  | i, n + 1 => if C i = true then some i else firstC C (i + 1) n
theorem forL_first {t : Tgt} {f : MS} {I : Nat → List Sl → Prop} {C : Nat → Bool} {val : Nat → D} {u : U} : ∀ {ds : List D} {i : Nat} {env : List Sl},
    (∀ (j : Nat) (h : j < ds.length) env, I (i + j) env → ∃ env1, bindT t ds[j] env = some env1 ∧ (C (i + j) = true → f env1 u = some (.rt (val (i + j)), u)) ∧ (C (i + j) = false → ∃ env2, f env1 u = some (.nx env2, u) ∧ I (i + j + 1) env2)) → I i env →
    match firstC C i ds.length with
    | some j => forL t f ds env u = some (.rt (val j), u)
    | none => ∃ env', forL t f ds env u = some (.nx env', u) ∧ I (i + ds.length) env'
  | [], i, env, _, h0 => ⟨env, rfl, h0⟩
  | d :: ds, i, env, h, h0 => by
    obtain ⟨env1, b1, b2, b3⟩ := h 0 (Nat.zero_lt_succ _) env h0
    rw [Nat.add_zero] at b2 b3
    have b1 : bindT t d env = some env1 := b1
    show match (if C i = true then some i else firstC C (i + 1) ds.length) with | some j => _ | none => _
    cases hc : C i with
    | true =>
      rw [if_pos rfl]
      show forL t f (d :: ds) env u = _
      unfold forL
      rw [b1]
      show bnd (f env1 u) _ = _
      rw [b2 hc]; rfl
    | false =>
      rw [if_neg Bool.false_ne_true]
      obtain ⟨env2, c1, c2⟩ := b3 hc
      have ih := forL_first (ds := ds) (i := i + 1) (env := env2) (C := C) (val := val) (I := I) (t := t) (f := f) (u := u) (fun j hj env hI => by
        have := h (j + 1) (Nat.succ_lt_succ hj) env (by rw [show i + (j + 1) = i + 1 + j by omega]; exact hI)
        rw [show i + (j + 1) = i + 1 + j by omega] at this
        exact this) c2
      have hs : forL t f (d :: ds) env u = forL t f ds env2 u := by
        conv => lhs; unfold forL
        rw [b1]
        show bnd (f env1 u) _ = _
        rw [c1]; rfl
      rw [hs]
      cases hf : firstC C (i + 1) ds.length with
      | some j => rw [hf] at ih; exact ih
      | none =>
        rw [hf] at ih
        obtain ⟨env', q1, q2⟩ := ih
        exact ⟨env', q1, by rw [List.length_cons, show i + (ds.length + 1) = i + 1 + ds.length by omega]; exact q2⟩
theorem firstC_spec {C : Nat → Bool} : ∀ {n i j : Nat}, firstC C i n = some j → i ≤ j ∧ j < i + n ∧ C j = true
  | 0, _, _, h => by cases h
  | n + 1, i, j, h => by
    unfold firstC at h
    split at h
    · rename_i hc
      cases h
      exact ⟨Nat.le_refl _, by omega, hc⟩
    · obtain ⟨a, b, c⟩ := firstC_spec h
      exact ⟨by omega, by omega, c⟩
/-! ### prefixes of rows without repeats -/
theorem filter_prefix {α : Type} {l : List α} (hn : l.Nodup) {a b : Nat} [∀ z, Decidable (z ∈ l.take b)] : (l.take a).filter (fun z => !decide (z ∈ l.take b)) = (l.take a).drop b := by
  have e : l.take a = (l.take a).take b ++ (l.take a).drop b := (List.take_append_drop b _).symm
  have h1 : ((l.take a).take b).filter (fun z => !decide (z ∈ l.take b)) = [] := by
    rw [List.filter_eq_nil_iff]
    intro z hz
    rw [List.take_take, Nat.min_comm, ← List.take_take] at hz
    have := List.mem_of_mem_take hz
    simp [this]
  have h2 : ((l.take a).drop b).filter (fun z => !decide (z ∈ l.take b)) = (l.take a).drop b := by
    rw [List.filter_eq_self]
    intro z hz
    have hz2 : z ∈ l.drop b := by
      rw [List.drop_take] at hz
      exact List.mem_of_mem_take hz
    have := List.nodup_append.mp (show (l.take b ++ l.drop b).Nodup by rw [List.take_append_drop]; exact hn)
    have nz : z ∉ l.take b := fun hz3 => this.2.2 z hz3 z hz2 rfl
    simp [nz]
  conv => lhs; rw [e]
  rw [List.filter_append, h1, h2, List.nil_append]
theorem ix0L {d : D} {r : List D} : ixD (.lst (d :: r)) (.int 0) = some d := by
  show atI (d :: r) 0 = _
  unfold atI ixN
  rw [if_pos (by decide), if_pos (by rw [List.length_cons]; omega)]; rfl
end Dv

/-! Si: sorted(d.items()), d a dict of texts and ints. -/
namespace Dv
open PySem PySem.Spec PyProof.Rows L2
section
variable {X : Cx}
theorem raw_of {pins : List (Addr × Obj)} {σ : L2.St} {H : Hp} {s : Shared} {a : Addr} {o : Obj} {kvs : List (Key × V)} (I : Inv X pins σ H s) (ha : H a = some (.frz o (.dK kvs))) : ∃ es ep, (a == sysModules) = false ∧ DT.Raw s.heap a es ep ∧ es.size = kvs.length ∧
    ∀ (j : Nat) (k : Key) (v : V) (e : DictEntry), kvs[j]? = some (k, v) → es[j]? = some e → RelV (kV k) e.key ∧ RelV v e.val := by
  obtain ⟨hs, hgd, hx, es, ep, vs, hdt, hsz, kv, hm⟩ := I.frzK ha
  obtain ⟨o', es', ho', hx', hd', hko, hpr, hnd⟩ := hm
  rw [hgd] at ho'
  cases ho'
  rw [hdt] at hd'
  cases hd'
  refine ⟨es, ep, hs, ⟨o, hgd, hx, hdt⟩, hsz, fun j k v e hj he => ?_⟩
  obtain ⟨u, hu, ru⟩ := kv_get kv hj
  have he2 : es.toList[j]? = some e := by rw [Array.getElem?_toList]; exact he
  obtain ⟨h1, h2⟩ := hpr.get? he2 hu
  exact ⟨relV_key h1, by rw [h2]; exact ru⟩
/-- d.items(), d locked -/
def rItemsK : V → List V → Hp → VK → Prop := fun x xs H Q => ∃ (a : Addr) (o : Obj) (kvs : List (Key × V)), x = .ref a ∧ xs = [] ∧ H a = some (.frz o (.dK kvs)) ∧ ∀ p, H p = none → Q (.ref p) (upd H p (L2.DX.itemsO p a))
theorem mt_itemsK : MtR X "dict.items" rItemsK := by
  intro pins s σ H x xs v us Q I rx rxs h
  obtain ⟨a, o, kvs, rfl, rfl, ha, q⟩ := h
  cases rx
  cases rxs
  obtain ⟨es, ep, hd, hraw, _, _⟩ := raw_of I ha
  refine DT.callItems (es := es) (ep := ep) hd hraw ?_
  have hf : H s.heap.objs.size = none := I.hok.fresh (Nat.le_refl _)
  exact ⟨.ref s.heap.objs.size, upd H s.heap.objs.size (L2.DX.itemsO s.heap.objs.size a), I.laid (t' := s.toks) (fun b u e => Heap.get?_push_of_some _ e) (Nat.le_refl _) (L2.DX.itemsO_ok (Heap.get?_push_size _ rfl)), rfl, q _ hf⟩
abbrev alV (al : Al) : List (Key × V) := al.map fun q => (.inr q.1, .int q.2)
abbrev Ys := List (Addr × (Str × Int))
def rSortK : List V → Hp → VK → Prop := fun vs H Q => ∃ (p a : Addr) (o : Obj) (al : Al), vs = [.ref p] ∧ H p = some (L2.DX.itemsO p a) ∧ H a = some (.frz o (.dK (alV al))) ∧ al.length ≤ 1000 ∧
  ∀ (H' : Hp) (l : Addr) (ys : Ys), (∀ b o, H b = some o → H' b = some o) → (ys.map (·.2)).Perm al → (ys.map fun y => pairK y.2).Pairwise LeR → H l = none → H' l = some (.lst (ys.map fun y => V.ref y.1)) →
    (∀ y ∈ ys, H y.1 = none ∧ ∃ ot : Obj, ot.dict = none ∧ H' y.1 = some (.frz ot (.tup [.str y.2.1, .int y.2.2]))) → Q (.ref l) H'
theorem each_zip {R : Value → Addr × (Str × Int) → Prop} : ∀ {as : List Addr} {al : Al}, as.length = al.length → (∀ (j : Nat) (b : Addr) (p : Str × Int), as[j]? = some b → al[j]? = some p → R (.ref b) (b, p)) → W.EachIs R (as.map Value.ref) (as.zip al)
  | [], [], _, _ => .nil
  | [], _ :: _, h, _ => by cases h
  | _ :: _, [], h, _ => by cases h
  | b :: as, p :: al, h, hR => .cons (hR 0 b p rfl rfl) (each_zip (Nat.succ.inj h) fun j b' p' h1 h2 => hR (j + 1) b' p' h1 h2)
theorem each_refs : ∀ {out : List Value} {ys : Ys}, W.EachIs (fun v (y : Addr × (Str × Int)) => v = Value.ref y.1) out ys → out = ys.map fun y => Value.ref y.1
  | _, _, .nil => rfl
  | _, _, .cons h t => by rw [h, each_refs t]; rfl
theorem takeF {pins : List (Addr × Obj)} {σ : L2.St} {H0 : Hp} {s : Shared} {h' : Heap} {tk : Nat} (I0 : Inv X pins σ H0 s) : ∀ (L : Ys) (H1 : Hp), Inv X pins σ H1 { s with heap := h', toks := tk } → (L.map (·.1)).Nodup →
    (∀ y ∈ L, s.heap.objs.size ≤ y.1 ∧ H1 y.1 = none ∧ ∃ ot : Obj, ot.dict = none ∧ ∀ H2, ObjOk X.prog X.w H2 h' y.1 (.frz ot (.tup [.str y.2.1, .int y.2.2]))) →
    ∃ H2, Inv X pins σ H2 { s with heap := h', toks := tk } ∧ (∀ b o, H1 b = some o → H2 b = some o) ∧ ∀ y ∈ L, ∃ ot : Obj, ot.dict = none ∧ H2 y.1 = some (.frz ot (.tup [.str y.2.1, .int y.2.2]))
  | [], H1, I1, _, _ => ⟨H1, I1, fun _ _ e => e, fun _ h => nomatch h⟩
  | y :: L, H1, I1, hn, h => by
    obtain ⟨hb, hnone, ot, hot, ok⟩ := h y List.mem_cons_self
    have I2 : Inv X pins σ (upd H1 y.1 (.frz ot (.tup [.str y.2.1, .int y.2.2]))) { s with heap := h', toks := tk } := I1.take (h' := h') (t' := tk) (fun b ob _ e => e) (I0.fpOk hb hnone) (ok _)
    rw [List.map_cons, List.nodup_cons] at hn
    obtain ⟨H2, I3, g, q⟩ := takeF I0 L (upd H1 y.1 (.frz ot (.tup [.str y.2.1, .int y.2.2]))) I2 hn.2 fun c hc => by
      obtain ⟨c1, c2, c3⟩ := h c (List.mem_cons_of_mem _ hc)
      exact ⟨c1, by rw [upd_ne (fun z => hn.1 (by rw [← z]; exact List.mem_map.mpr ⟨c, hc, rfl⟩))]; exact c2, c3⟩
    refine ⟨H2, I3, fun b o e => g b o (by rw [upd_ne (ne_of_none e hnone)]; exact e), fun c hc => ?_⟩
    rcases List.mem_cons.mp hc with rfl | hc
    · exact ⟨ot, hot, g _ _ upd_same⟩
    · exact q c hc
theorem cr_sortedK (hc : X.calm = true) (hu : X.A.units + 64 < cLine) : CallR X (.builtin "sorted") rSortK := by
  intro pins s σ H xs us Q I r h
  obtain ⟨p, a, o, al, rfl, hp, ha, few, q⟩ := h
  obtain rfl := Vals.ref1 r
  have view : s.heap.IsItemsView p a := (show ObjOk X.prog X.w H s.heap p (L2.DX.itemsO p a) from I.hok p _ hp).1
  obtain ⟨es, ep, hd, hraw, hsz, hent⟩ := raw_of I ha
  rw [List.length_map] at hsz
  have hh : X.A.handled = none := I.ok.hd hc
  refine DT.sortedI (es := es) (ep := ep) hh view hraw (by rw [sizeLine_eq]; omega) fun h' tk as hk hlt hl hG => ?_
  have lak : as.length = al.length := by omega
  have nd : as.Nodup := List.Pairwise.imp (fun h => Nat.ne_of_lt h) hG.rise
  have pr : ∀ (j : Nat) (b : Addr) (z : Str × Int), as[j]? = some b → al[j]? = some z → ∃ t t', h'.get? b = some { cls := .type "tuple", data := .seq #[Value.str z.1 t, Value.int z.2 t'] } := by
    intro j b z hj hz
    obtain ⟨en, he, hg⟩ := hG.pairs j b hj
    obtain ⟨r1, r2⟩ := hent j (.inr z.1) (.int z.2) en (by rw [List.getElem?_map, hz]; rfl) he
    obtain ⟨t, e1⟩ := (show RelV (.str z.1) en.key from r1)
    obtain ⟨t', e2⟩ := (show RelV (.int z.2) en.val from r2)
    exact ⟨t, t', by rw [hg, e1, e2]⟩
  have hob : (h'.push { cls := .type "list", data := .seq (as.map Value.ref).toArray }).get? h'.objs.size = some (seqObj "list" (as.map Value.ref).toArray 0) := Heap.get?_push_size _ rfl
  have kb : ∀ b o, s.heap.get? b = some o → (h'.push { cls := .type "list", data := .seq (as.map Value.ref).toArray }).get? b = some o := fun b o e => Heap.get?_push_of_some _ (hk b o e)
  have ne0 : ∀ b o, h'.get? b = some o → b ≠ h'.objs.size := fun b o e => Nat.ne_of_lt (Heap.lt_size e)
  generalize hh2 : h'.push { cls := .type "list", data := .seq (as.map Value.ref).toArray } = h2 at hob kb ⊢
  have ka : ∀ b o, h'.get? b = some o → h2.get? b = some o := fun b o e => by rw [← hh2]; exact Heap.get?_push_of_some _ e
  have e0 : W.EachIs (fun v (y : Addr × (Str × Int)) => v = Value.ref y.1) (as.map Value.ref) (as.zip al) := each_zip lak fun _ _ _ _ _ => rfl
  have er : W.EachIs (fun v (y : Addr × (Str × Int)) => ∃ ads, Reads h2 v (rowPy (pairK y.2)) ads ∧ h'.objs.size ∉ ads) (as.map Value.ref) (as.zip al) := each_zip lak fun j b z hj hz => by
    obtain ⟨t, t', hg⟩ := pr j b z hj hz
    refine ⟨_, .tuple (ka _ _ hg) rfl rfl (.cons (.str _ _) (.cons (.int _ _) .nil)), by simp⟩
  have hal : W.AllAlike ((as.zip al).map fun y => rowPy (pairK y.2)) := W.AllAlike.of fun y y' => by
    show W.alike (.tuple _) (.tuple _) = true
    rw [W.alike]
    exact row_alike rfl
  have hso : W.Sortable ((as.zip al).map fun y => rowPy (pairK y.2)) := W.Sortable.tuples fun y => ⟨_, _, rfl⟩
  have hdep : ∀ y : Addr × (Str × Int), (rowPy (pairK y.2)).depth = 1 := fun y => by show PyData.depth (.tuple ((pairK y.2).map keyPy)) = 1; rw [PyData.depth, row_depth]
  refine W.list_sort_data (s := { s with heap := h2, toks := tk }) (enc := fun y : Addr × (Str × Int) => rowPy (pairK y.2)) (R := fun v y => v = Value.ref y.1) hob e0 er hal hso (by rw [List.length_zip, lak, Nat.min_self, sizeLine_eq]; omega) (fun y _ => by
    rw [hdep]; show X.A.units + 1 + 1 + 1 < cLine; omega) fun out ho eo => ?_
  obtain ⟨ys, hys⟩ : ∃ ys : Ys, ys = (as.zip al).mergeSort (W.dataLe false fun y : Addr × (Str × Int) => rowPy (pairK y.2)) := ⟨_, rfl⟩
  rw [← hys] at eo
  have hperm : ys.Perm (as.zip al) := by rw [hys]; exact List.mergeSort_perm _ _
  have hout := each_refs eo
  have hle : ∀ x y : Addr × (Str × Int), W.dataLe false (fun y : Addr × (Str × Int) => rowPy (pairK y.2)) x y = leR (pairK x.2) (pairK y.2) := fun x y => by
    show (!W.dataLt (rowPy (pairK y.2)) (rowPy (pairK x.2))) = _
    have : W.dataLt (rowPy (pairK y.2)) (rowPy (pairK x.2)) = W.rowLt ((pairK y.2).map keyPy) ((pairK x.2).map keyPy) := W.dataLt_tuple _ _
    rw [this, row_lt (a := pairK x.2) (b := pairK y.2) rfl, Bool.not_not]
  have hsort : (ys.map fun y => pairK y.2).Pairwise LeR := by
    rw [List.pairwise_map, hys, W.sort_congr (s := fun x y : Addr × (Str × Int) => leR (pairK x.2) (pairK y.2)) fun a _ b _ => hle a b]
    exact W.sort_pairwise (le := fun x y : Addr × (Str × Int) => leR (pairK x.2) (pairK y.2)) ⟨fun _ _ _ h g => leR_trans h g, fun _ _ => leR_total _ _⟩ _
  have kF : ∀ b o, b ≠ h'.objs.size → h2.get? b = some o → (sortedHeap h2 h'.objs.size (as.map Value.ref) out.toArray).get? b = some o := fun b o hb e => (PyProof.Rows.sortedHeap_old hb (Heap.lt_size e)).trans e
  have kS : ∀ b o, s.heap.get? b = some o → (sortedHeap h2 h'.objs.size (as.map Value.ref) out.toArray).get? b = some o := fun b o e => kF b o (ne0 _ _ (hk b o e)) (kb b o e)
  obtain ⟨eF, heF⟩ := PyProof.Rows.sortedHeap_at (vs := as.map Value.ref) (out := out.toArray) hob
  have I1 : Inv X pins σ H { s with heap := sortedHeap h2 h'.objs.size (as.map Value.ref) out.toArray, toks := tk } := I.kept (t' := tk) kS
  have hn0 : H h'.objs.size = none := I.hok.fresh (Nat.le_of_lt hlt)
  have hylen : ys.length = al.length := by rw [hperm.length_eq, List.length_zip, lak, Nat.min_self]
  have rv : Vals (ys.map fun y => V.ref y.1) out := by
    rw [hout]
    exact vals_maps (fun y : Addr × (Str × Int) => V.ref y.1) (fun y => Value.ref y.1) ys fun _ _ => rfl
  have I2 : Inv X pins σ (upd H h'.objs.size (.lst (ys.map fun y => V.ref y.1))) { s with heap := sortedHeap h2 h'.objs.size (as.map Value.ref) out.toArray, toks := tk } :=
    I1.take (h' := sortedHeap h2 h'.objs.size (as.map Value.ref) out.toArray) (t' := tk) (fun b ob _ e => e) (I.fpOk (Nat.le_of_lt hlt) hn0) ⟨by rw [List.length_map, hylen, sizeLine_eq]; omega, out, eF, rv, heF⟩
  have hm1 : (as.zip al).map (·.1) = as := List.map_fst_zip (by rw [lak]; exact Nat.le_refl _)
  have hm2 : (as.zip al).map (·.2) = al := List.map_snd_zip (by rw [lak]; exact Nat.le_refl _)
  have idx : ∀ y ∈ ys, ∃ j : Nat, as[j]? = some y.1 ∧ al[j]? = some y.2 := by
    intro y hy
    obtain ⟨j, hj⟩ := List.mem_iff_getElem?.mp (hperm.mem_iff.mp hy)
    exact ⟨j, List.getElem?_zip_eq_some.mp hj⟩
  obtain ⟨H2, I3, g, qt⟩ := takeF I ys _ I2 (by have := hperm.map (·.1); rw [hm1] at this; exact this.nodup_iff.mpr nd) fun y hy => by
    obtain ⟨j, j1, j2⟩ := idx y hy
    obtain ⟨t, t', hg⟩ := pr j _ _ j1 j2
    have hbl : s.heap.objs.size ≤ y.1 := Nat.le_of_lt (hG.above _ (List.mem_of_getElem? j1))
    refine ⟨hbl, by rw [upd_ne (ne0 _ _ hg)]; exact I.hok.fresh hbl, _, rfl, fun H3 => ⟨kF _ _ (ne0 _ _ hg) (ka _ _ hg), ?_⟩⟩
    exact ⟨by rw [sizeLine_eq]; show 2 ≤ 16777216; omega, [Value.str y.2.1 t, Value.int y.2.2 t'], .cons ⟨t, rfl⟩ (.cons ⟨t', rfl⟩ .nil), ⟨_, kF _ _ (ne0 _ _ hg) (ka _ _ hg), rfl, 0, rfl⟩⟩
  have gr : ∀ b o, H b = some o → H2 b = some o := fun b o e => g b o (by rw [upd_ne (ne_of_none e hn0)]; exact e)
  refine ⟨.ref h'.objs.size, H2, I3, rfl, q H2 h'.objs.size ys gr ?_ hsort hn0 (g _ _ upd_same) fun y hy => ?_⟩
  · have := hperm.map (·.2)
    rw [hm2] at this
    exact this
  · obtain ⟨j, j1, _⟩ := idx y hy
    exact ⟨I.hok.fresh (Nat.le_of_lt (hG.above _ (List.mem_of_getElem? j1))), qt y hy⟩
end
/-! ### as data -/
def alOf : List Key → List D → Option Al
  | [], [] => some []
  | .inr x :: ks, .int i :: ds => (alOf ks ds).map fun r => (x, i) :: r
  | _, _ => none
theorem alOf_al : ∀ al : Al, alOf (alK al) (alD al) = some al
  | [] => rfl
  | p :: r => by
    show (alOf (alK r) (alD r)).map _ = _
    rw [alOf_al r]; rfl
theorem alOf_eq : ∀ {ks : List Key} {ds : List D} {al : Al}, alOf ks ds = some al → ks = alK al ∧ ds = alD al
  | [], [], al, h => by cases h; exact ⟨rfl, rfl⟩
  | [], _ :: _, al, h => by cases h
  | .inl _ :: _, _, al, h => by cases h
  | .inr _ :: _, [], al, h => by cases h
  | .inr x :: ks, d :: ds, al, h => by
    cases d with
    | int i =>
      have h : (alOf ks ds).map (fun r => (x, i) :: r) = some al := h
      cases q : alOf ks ds with
      | none => rw [q] at h; cases h
      | some r =>
        rw [q] at h; cases h
        obtain ⟨h1, h2⟩ := alOf_eq q
        exact ⟨by rw [h1]; rfl, by rw [h2]; rfl⟩
    | _ => cases h
theorem ints_reps {K : PySem.W.Frag} {G : Gx K} {ua : Option Addr} {B : Hp} : ∀ {al : Al} {vs : List V}, Reps G ua (alD al) vs B → vs = al.map fun p => .int p.2
  | [], vs, r => r.of_nil
  | p :: al, vs, r => by
    obtain ⟨v, t, rfl, r1, r2⟩ := (show Reps G ua (.int p.2 :: alD al) vs B from r).of_cons
    rw [r1.int, ints_reps r2]; rfl
def sortI (d : D) : Option D := match d with
  | .dct ks ds => (alOf ks ds).bind fun al => if al.length ≤ 1000 then some (.lst ((sortR (al.map pairK)).map rowD)) else none
  | _ => none
def mSortI (m : M) : M := fun env u => bnd (m env u) fun d u1 => lft (sortI d) u1
def tItV (td : TE) : TE := fun σ H Q => td σ H fun x H1 => ∃ d o kvs, x = .ref d ∧ H1 d = some (.frz o (.dK kvs)) ∧ ∀ p, H1 p = none → Q (.ref p) (upd H1 p (L2.DX.itemsO p d))
theorem pe_itemsV {X : Cx} {e : Expr} {td : TE} {apos cpos : Pos} (he : PE X e td) (hbase : attributeBase e "items" X.env (eval e X.env) = eval e X.env := by rfl) (hline : (apos.endLine == cpos.line) = true := by rfl) :
    PE X (.Call (.Attribute e "items" apos) [] [] cpos) (tItV td) := by
  refine ⟨fun pins s σ H Q I h => ?_⟩
  refine wpAny_Call_method (T := "dict") (id := "dict.items") hbase rfl hline PySem.F.plainAttrs_dict PySem.F.slot_dict_items PySem.F.type_dict_items (thn (he.run pins s σ H _ I h) fun u s1 ⟨x, H1, I1, rx, d, o, kvs, ex, hd, q⟩ => ?_)
  subst ex
  obtain rfl : u = Value.ref d := rx
  obtain ⟨hs, hgd, hx, es, ep, vs, hdt, hsz, kv, hm⟩ := I1.frzK hd
  refine ⟨hm.dictOf.typeIs, hm.dictOf.mapOf.noDict, ?_⟩
  have hf : H1 s1.heap.objs.size = none := I1.hok.fresh (Nat.le_refl _)
  have fin : EP X pins σ Q (.ref s1.heap.objs.size) { s1 with heap := s1.heap.push { cls := .type "dict_items", data := .fields #[.ref d] } } :=
    ⟨.ref s1.heap.objs.size, upd H1 s1.heap.objs.size (L2.DX.itemsO s1.heap.objs.size d), I1.laid (t' := s1.toks) (fun b u e => Heap.get?_push_of_some _ e) (Nat.le_refl _) (L2.DX.itemsO_ok (Heap.get?_push_size _ rfl)), rfl, q _ hf⟩
  show wpAny _ _ (callWith cpos (.builtin "dict.items") [.ref d] [] []) _ X.xe s1
  exact method_meetsIn PySem.F.slot_dict_items PySem.F.entry_dict_items rfl (PySem.evalArgs_none ⟨rfl, hm.dictOf.typeIs, PySem.F.args_dict_items_1 _, _, meets_dict_items (mixKind X.prog X.w) d hs, ⟨vs, hm.dictOf⟩, fin⟩)
theorem dv_sortI {X : Cx} {G : Gx X.K} {e : Expr} {me : M} {p pos apos cpos : Pos} (hc : X.calm = true) (hu : X.A.units + 64 < cLine) (hg : Gl X "sorted") (hm : X.mg "sorted" = none) (he : PE X e (tEv G me)) (hbase : attributeBase e "items" X.env (eval e X.env) = eval e X.env := by rfl) (hline : (apos.endLine == cpos.line) = true := by rfl)
    (hs : starEach (.Call (.Attribute e "items" apos) [] [] cpos :: []) X.env = (false, eval (.Call (.Attribute e "items" apos) [] [] cpos) X.env) :: starEach [] X.env := by rfl) (hpl : (backTo pos (starEach [] X.env)).any (·.1) = false := by rfl) :
    PE X (.Call (.Name "sorted" p) [.Call (.Attribute e "items" apos) [] [] cpos] [] pos) (tEv G (mSortI me)) :=
  (pe_callB (cr_sortedK hc hu) hg hm (by decide +kernel) (pa_cons (pe_itemsV he hbase hline) pa_nil hs) (by decide) (by decide) hs hpl).imp fun σ H Q z => by
  obtain ⟨ua, u, B, env, d, u', hE, hW, hm2, q⟩ := z
  obtain ⟨x, u1, c1, c2⟩ := bnd_some hm2
  obtain ⟨c3, rfl⟩ := lft_some c2
  refine ⟨ua, u, B, env, x, _, hE, hW, c1, fun v H1 ⟨B1, g1, w1, r1⟩ => ?_⟩
  cases x with
  | dct ks ds =>
    have c3 : (alOf ks ds).bind (fun al => if al.length ≤ 1000 then some (D.lst ((sortR (al.map pairK)).map rowD)) else none) = some d := c3
    cases hq : alOf ks ds with
    | none => rw [hq] at c3; cases c3
    | some al =>
      rw [hq] at c3
      have c3 : (if al.length ≤ 1000 then some (D.lst ((sortR (al.map pairK)).map rowD)) else none) = some d := c3
      split at c3
      · rename_i few
        cases c3
        obtain ⟨e1, e2⟩ := alOf_eq hq
        subst e1 e2
        obtain ⟨a, vs, rfl, ⟨o, hd⟩, hl, rs⟩ := rep_dct r1
        have hvs := ints_reps rs
        have hkv : (alK al).zip vs = alV al := by
          rw [hvs]
          show (al.map fun p => (Sum.inr p.1 : Key)).zip (al.map fun p => V.int p.2) = _
          rw [List.zip_map']
        rw [hkv] at hd
        have hd1 : H1 a = some (.frz o (.dK (alV al))) := w1.sub _ _ hd
        refine ⟨a, o, alV al, rfl, hd1, fun p hp => ?_⟩
        have nap : a ≠ p := ne_of_none hd1 hp
        refine ⟨p, a, o, al, rfl, upd_same, by rw [upd_ne nap]; exact hd1, few, fun H' l ys kk hperm hsort hl0 hl1 hys => ?_⟩
        have k0 : ∀ b x, H1 b = some x → H' b = some x := fun b x e => kk b x (by rw [upd_ne (ne_of_none e hp)]; exact e)
        have n0 : ∀ b, (upd H1 p (L2.DX.itemsO p a)) b = none → H1 b = none := fun b e => by
          by_cases z : b = p
          · rw [z]; exact hp
          · rw [upd_ne z] at e; exact e
        have hl0' : H1 l = none := n0 l hl0
        obtain ⟨B2, hB2⟩ : ∃ B2 : Hp, B2 = fun b => if b = l ∨ b ∈ ys.map (·.1) then H' b else B1 b := ⟨_, rfl⟩
        have newN : ∀ b, (b = l ∨ b ∈ ys.map (·.1)) → H1 b = none := fun b hb => by
          rcases hb with rfl | hb
          · exact hl0'
          · obtain ⟨y, hy, rfl⟩ := List.mem_map.mp hb
            exact n0 _ (hys y hy).1
        have B2new : ∀ b, (b = l ∨ b ∈ ys.map (·.1)) → B2 b = H' b := fun b hb => by rw [hB2]; exact if_pos hb
        have B2old : ∀ b, ¬ (b = l ∨ b ∈ ys.map (·.1)) → B2 b = B1 b := fun b hb => by rw [hB2]; exact if_neg hb
        have pub : Same B1 B2 := fun b x e => by
          rw [B2old b (fun z => by rw [w1.none_of (newN b z)] at e; cases e)]; exact e
        have g2 : Grow ua B1 H1 B2 H' := by
          refine ⟨fun b x e _ => k0 b x e, fun b e => ?_, pub, fun b x e => ?_⟩
          · cases z : H1 b with
            | none => rfl
            | some x => rw [k0 b x z] at e; cases e
          · by_cases z : b = l ∨ b ∈ ys.map (·.1)
            · exact .inr (newN b z)
            · rw [B2old b z] at e; exact .inl e
        have w2 : Wd ua u' B2 H' := by
          refine ⟨fun b x e => ?_, fun b e => ?_⟩
          · by_cases z : b = l ∨ b ∈ ys.map (·.1)
            · rw [B2new b z] at e; exact e
            · rw [B2old b z] at e; exact k0 b x (w1.sub _ _ e)
          · have := w1.urn b e
            have nz : ¬ (b = l ∨ b ∈ ys.map (·.1)) := fun z => by rw [newN b z] at this; cases this.2
            exact ⟨by rw [B2old b nz]; exact this.1, k0 _ _ this.2⟩
        refine q _ _ ⟨B2, g1.trans g2, w2, ?_⟩
        have hsr : sortR (al.map pairK) = ys.map fun y => pairK y.2 := (sortR_uniq (by have := hperm.map pairK; rw [List.map_map] at this; exact this) hsort).symm
        rw [hsr]
        unfold Rep
        refine ⟨l, ys.map fun y => V.ref y.1, rfl, by rw [B2new l (.inl rfl)]; exact hl1, ?_⟩
        have : ∀ zs : Ys, (∀ y ∈ zs, y ∈ ys) → Reps G ua ((zs.map fun y => pairK y.2).map rowD) (zs.map fun y => V.ref y.1) B2 := fun zs => by
          induction zs with
          | nil => exact fun _ => .nil
          | cons y zs ih =>
            intro hz
            refine .cons ?_ (ih fun y' hy' => hz y' (List.mem_cons_of_mem _ hy'))
            obtain ⟨_, ot, hot, h⟩ := hys y (hz y List.mem_cons_self)
            show Rep G ua (.tup [.str y.2.1, .int y.2.2]) (.ref y.1) B2
            unfold Rep
            exact ⟨y.1, _, rfl, ⟨ot, hot, by rw [B2new _ (.inr (List.mem_map.mpr ⟨y, hz y List.mem_cons_self, rfl⟩))]; exact h⟩, .cons rep_str (.cons rep_int .nil)⟩
        exact this ys fun _ h => h
      · cases c3
  | _ => cases c3
end Dv

/-! Sd: name = {k: v for ..}, the name a local, on one line (the value is stored before the block's names come back). -/
namespace Dv
open PySem PySem.Spec PyProof.Rows L2
section
variable {X : Cx}
theorem ps_setDc {i : Nat} {y : Str} {py : Pos} {kx vx tg iter : Expr} {ifs : List Expr} {scope : Scope} {own : List (Str × Nat)} {pos spos : Pos} {wi : TI} {g : TG} {tt : TT} {tk tv : TE} (hc : X.calm = true) (hN : X.N.Nodup) (hy : X.N[i]? = some y) (hyl : X.env.scope.names.lookup y = some .local)
    (hsw : swapsWith (.DictComp kx vx [⟨tg, iter, ifs, 0⟩] scope pos) (some (.Name y py)) spos.line X.env = pure true) (hi : PI X tg iter wi) (ok : BlkOk X.N X.env.scope scope own)
    (hg : ∀ (s : Shared) (H : Hp) (C : Addr) (cl : List (Str × Addr)) (fp : List Addr), PG (X.blk s H scope (compEnvC scope cl C X.env) fp) tg g) (ht : ∀ (s : Shared) (H : Hp) (C : Addr) (cl : List (Str × Addr)) (fp : List Addr), PTs (X.blk s H scope (compEnvC scope cl C X.env) fp) ifs tt)
    (hk : ∀ (s : Shared) (H : Hp) (C : Addr) (cl : List (Str × Addr)) (fp : List Addr), PE (X.blk s H scope (compEnvC scope cl C X.env) fp) kx tk)
    (he : ∀ (s : Shared) (H : Hp) (C : Addr) (cl : List (Str × Addr)) (fp : List Addr), PE (X.blk s H scope (compEnvC scope cl C X.env) fp) vx tv) (hs : ∀ x, foldedSetIterable iter X.env x = pure x := by intro _; rfl) :
    PS X (.Assign [.Name y py] (.DictComp kx vx [⟨tg, iter, ifs, 0⟩] scope pos) spos) (tAsg (tDc wi g tt tk tv (own.map (·.2))) (gName i)) := by
  refine ⟨fun pins s σ H D I h => ?_⟩
  rw [exec_Assign_Name_used _ _ _ _ hsw]
  refine wpAny_bind (wpAny_standAt (wpAny_bind ?_))
  show wpAny _ X.A (do let _ ← comprehension (.DictComp kx vx [⟨tg, iter, ifs, 0⟩] scope pos) scope X.env (firstIterPos [⟨tg, iter, ifs, 0⟩] pos) newDict false (eval iter X.env) (some (assign (.Name y py) X.env))) _ _ s
  have h : tDc wi g tt tk tv (own.map (·.2)) σ H (fun x H1 => gName i x σ H1 D.nx) := h
  refine wpAny_bind (thn (dc_core (Qf := fun _ s' => SP X pins D .next s') hc hN I hi ok hg ht hk he hs h fun L C s' m H' I' q hn f => ?_) fun _ s' hq => wpAny_pure (wpAny_pure hq))
  show wpAny _ _ (assign (.Name y py) X.env (.ref L)) _ _ _
  refine wpAny_assign_Name (store_ok2 (v := V.ref L) I' hN hy (.inl hyl) rfl (fun s2 I2 ⟨a, sb, ha⟩ => ?_) (.inr hyl))
  obtain ⟨f0, f1, f2, f3, f4, f5⟩ := f
  have haC : C ≠ a := by
    rcases ha with z | z
    · rw [z]; exact f1
    · exact fun e => f4 y a z e.symm
  refine ⟨m, hn.sameBut sb haC, fun h3 sb3 => ?_⟩
  exact ⟨_, H', I2.turned (t' := s2.toks) (fun b o hb e => (sb3.2 b hb).trans e) f0 f1 f3 f4 f5, q⟩
theorem sw_trueD {kx vx : Expr} {gs : List Comprehension} {scope : Scope} {pos py : Pos} {y : Str} {l : Nat} {env : Env} (hk : env.scope.kind = .function) (hy : env.scope.names.lookup y = some .local) (hl : (py.line == pos.line) = true)
    (ha : (scope.names.any fun (n, k) => n == y && (k == .local || k == .cell)) = false) : swapsWith (.DictComp kx vx gs scope pos) (some (.Name y py)) l env = pure true := by
  have ky : env.kindOf y = some .local := hy
  have hb : env.blockKind = .function := by unfold Env.blockKind; rw [hk]; rfl
  unfold swapsWith
  simp only [hb, ky, ha, Expr.pos, hl]
  rfl
variable {G : Gx X.K} {W : WX} {mv : MSl} {st : Stmt} {mi : MI} {mc : MB} {mk : M}
theorem ds_ofAsg (i : Nat) (h : PS X st (tAsg (tSv G mv) (gName i))) : PS X st (tSt G W (sSv i mv)) := h.imp fun Dn σ H h => by
  obtain ⟨ua, u, B, env, fl, u', B0, H0, hg, hO, hE, hW, hm, q⟩ := h
  obtain ⟨s, u1, c1, c2⟩ := bnd_some hm
  cases c2
  refine ⟨ua, u, B, env, s, _, hE, hW, c1, fun v H1 a => ?_⟩
  obtain ⟨B', g, w, r⟩ := a
  exact q _ B' H1 (hg.trans g) (r.news hO hg.live i) (r.store (hE.grow g) i hE.far) w
theorem PS.by' {t : TS} (h : ∀ D σ H, t D σ H → ∃ t0 : TS, PS X st t0 ∧ t0 D σ H) : PS X st t := ⟨fun pins s σ H D I w => let ⟨_, p, w0⟩ := h D σ H w; p.run pins s σ H D I w0⟩
theorem asg_peek (i j : Nat) (h : PS X st (tAsg (tSv G mv) (gName i))) : PS X st (tAsg (tSv G (vPeek j mv)) (gName i)) := by
  refine PS.by' fun Dn σ H z => ?_
  obtain ⟨ua, u, B, env, d, u', hE, hW, hm, q⟩ := z
  unfold vPeek at hm
  split at hm
  · rename_i o hi
    obtain ⟨s, u1, c1, c2⟩ := bnd_some hm
    split at c2
    · rename_i o' 
      split at c2
      · rename_i hsc
        cases c2
        obtain ⟨l, ho, s1, s2, s3, s4, s5⟩ := hE.own j o hi
        rcases s4.show s3 with ⟨ds, rfl, r⟩ | ⟨ks, ds, rfl, mu, r⟩
        · refine ⟨_, h, ?_⟩
          have eS := hE.show hi s1 s3 r
          have wS := hW.showU (ho' := ho) s3 s5
          have id := upd_id s2
          rw [id] at eS wS
          refine ⟨ua, u, _, _, _, _, eS, wS, c1, fun v H1 ⟨B1, g1, w1, r1⟩ => ?_⟩
          have g1' : Grow ua (upd B l ho) (upd H l ho) B1 H1 := by rw [id]; exact g1
          obtain ⟨g2, w2⟩ := peek_back hW s2 s3 s5 g1' w1
          have k1 : H1 l = some ho := g1.keep _ _ s2 s5
          rw [upd_id k1] at g2 w2
          obtain ⟨p, hp, e1, e2, e3, e4, e5, e6⟩ := r1
          refine q v H1 ⟨B, g2, w2, p, hp, e1, e2, e3, ?_, e5, e6.scal hsc⟩
          exact hW.none_of e2
        · refine ⟨_, ps_lock h, l, ho, s2, mu, fun od => ?_⟩
          refine ⟨ua, u, _, _, _, _, hE.show hi s1 s3 (r od), hW.showU s3 s5, c1, fun v H1 ⟨B1, g1, w1, r1⟩ => ?_⟩
          obtain ⟨g2, w2⟩ := peek_back hW s2 s3 s5 g1 w1
          obtain ⟨p, hp, e1, e2, e3, e4, e5, e6⟩ := r1
          have np : p ≠ l := fun z => by rw [z, upd_same] at e2; cases e2
          rw [upd_ne np] at e2
          exact ⟨g1.keep _ _ upd_same s5, q v _ ⟨B, g2, w2, p, hp, e1, e2, by rw [upd_ne np]; exact e3, hW.none_of e2, e5, e6.scal hsc⟩⟩
      · cases c2
    · cases c2
  · cases hm
variable {kx vx tg iter : Expr} {ifs : List Expr} {scope : Scope} {own : List (Str × Nat)} {pos py spos : Pos} {y : Str} {mv : M}
theorem pa_dc (i : Nat) (t : Tgt) (ids : List Nat) (hc : X.calm = true) (hN : X.N.Nodup) 
    (hsw : swapsWith (.DictComp kx vx [⟨tg, iter, ifs, 0⟩] scope pos) (some (.Name y py)) spos.line X.env = pure true)
    (hi : PI X tg iter (tIt G mi)) (ok : BlkOk X.N X.env.scope scope own) (hid : own.map (·.2) = ids) (ht : ∀ i ∈ t.ids, i ∈ ids)
    (hg : ∀ (s : Shared) (H : Hp) (C : Addr) (cl : List (Str × Addr)) (fp : List Addr), PG (X.blk s H scope (compEnvC scope cl C X.env) fp) tg (gOf X.K t)) (hq : ∀ (s : Shared) (H : Hp) (C : Addr) (cl : List (Str × Addr)) (fp : List Addr), PTs (X.blk s H scope (compEnvC scope cl C X.env) fp) ifs (tTst (K := X.K) G mc))
    (hk : ∀ (s : Shared) (H : Hp) (C : Addr) (cl : List (Str × Addr)) (fp : List Addr), PE (X.blk s H scope (compEnvC scope cl C X.env) fp) kx (tEv (K := X.K) G mk))
    (he : ∀ (s : Shared) (H : Hp) (C : Addr) (cl : List (Str × Addr)) (fp : List Addr), PE (X.blk s H scope (compEnvC scope cl C X.env) fp) vx (tEv (K := X.K) G mv)) (hy : X.N[i]? = some y := by rfl) (hyl : X.env.scope.names.lookup y = some .local := by rfl) (hs : ∀ x, foldedSetIterable iter X.env x = pure x := by intro _; rfl) :
    PS X (.Assign [.Name y py] (.DictComp kx vx [⟨tg, iter, ifs, 0⟩] scope pos) spos) (tAsg (tSv G (vDC t ids mi mc mk mv)) (gName i)) := by
  subst hid
  exact (ps_setDc hc hN hy hyl hsw hi ok hg hq hk he hs).imp fun _ _ _ h => dc_read ht h
end
end Dv

/-! Tb: rows of tables as data: a LINE and a row of LINEs; their order. -/
namespace Dv
open PySem PySem.Spec PyProof.Rows L2
theorem perm_map_back {α β : Type} {f : α → β} : ∀ {l : List α} {ys : List β}, ys.Perm (l.map f) → ∃ qs : List α, ys = qs.map f ∧ qs.Perm l
  | [], ys, h => ⟨[], by rw [List.perm_nil.mp h]; rfl, .refl _⟩
  | x :: l, ys, h => by
    have hm : f x ∈ ys := h.symm.subset List.mem_cons_self
    obtain ⟨s, t, rfl⟩ := List.append_of_mem hm
    have h2 : (s ++ t).Perm (l.map f) := (List.perm_cons (f x)).mp ((List.perm_middle.symm.trans h))
    obtain ⟨qs, e, hp⟩ := perm_map_back h2
    obtain ⟨q1, q2, e1, e2, e3⟩ := List.append_eq_map_iff.mp e
    refine ⟨q1 ++ x :: q2, by rw [← e2, ← e3, List.map_append]; rfl, List.perm_middle.trans (.cons x (by rw [← e1]; exact hp))⟩
theorem sortB_s {xs : List Str} (h : xs.length < 64) : bSortB [.lst (xs.map .str)] = some (.lst ((sortS xs).map .str)) := by
  show (match bSortA [.lst (xs.map .str)] with | some d => some d | none => sortP (xs.map .str)) = _
  rw [sortA_s h]
theorem sortB_r {ks : List (List Key)} {sh : List Bool} (h : ∀ k ∈ ks, shapeR k = sh) (hn : sh ≠ []) : bSortB [.lst (ks.map rowD)] = some (.lst ((sortR ks).map rowD)) := by
  show (match bSortA [.lst (ks.map rowD)] with | some d => some d | none => sortP (ks.map rowD)) = _
  rw [sortA_r h hn]
theorem sortB_lines (ls : Al) : ∃ qs : Al, bSortB [.lst (ls.map lineD)] = some (.lst (qs.map lineD)) ∧ qs.Perm ls ∧ (qs.map pairK).Pairwise LeR := by
  have h := sortB_r (ks := ls.map pairK) (sh := [false, true]) (fun k hk => by
    obtain ⟨p, _, rfl⟩ := List.mem_map.mp hk
    exact pair_shape p) (by decide)
  obtain ⟨qs, hq, hp⟩ : ∃ qs : Al, sortR (ls.map pairK) = qs.map pairK ∧ qs.Perm ls := perm_map_back (sortR_perm _)
  refine ⟨qs, ?_, hp, by rw [← hq]; exact sortR_sorted _⟩
  rw [hq, List.map_map, List.map_map] at h
  exact h
abbrev TRow := (Str × Int) × Al
def rowT (r : TRow) : D := .tup [lineD r.1, .tup (r.2.map lineD)]
def rowTP (r : TRow) : PyData := .tuple [lineP r.1, .tuple (r.2.map lineP)]
theorem rowT_py (r : TRow) : toPy (rowT r) = some (rowTP r) := by
  have e : toPys (r.2.map lineD) = some (r.2.map lineP) := toPys_map fun a _ => line_py a
  unfold rowT rowTP
  simp [toPy, toPys, line_py, e]
theorem line_alike (a b : Str × Int) : W.alike (lineP a) (lineP b) = true := by simp [lineP, W.alike, W.alikeAll]
theorem lines_alike : ∀ as bs : Al, W.alikeAll (as.map lineP) (bs.map lineP) = true
  | [], bs => by rw [List.map_nil, W.alikeAll]
  | a :: as, [] => by rw [List.map_cons, List.map_nil, W.alikeAll]
  | a :: as, b :: bs => by rw [List.map_cons, List.map_cons, W.alikeAll, line_alike, lines_alike as bs]; rfl
theorem rowT_alike (a b : TRow) : W.alike (rowTP a) (rowTP b) = true := by
  unfold rowTP
  rw [W.alike, W.alikeAll, W.alikeAll, line_alike, W.alike, lines_alike]
  simp [W.alikeAll]
theorem rowTs_py (rs : List TRow) : toPys (rs.map rowT) = some (rs.map rowTP) := toPys_map fun a _ => rowT_py a
theorem rowT_dep (r : TRow) : (rowTP r).depth ≤ 60 := by
  have h : PyData.depthAll (r.2.map lineP) ≤ 1 := depth_map fun a _ => line_dep a
  have h1 := line_dep r.1
  unfold rowTP
  simp only [PyData.depth, PyData.depthAll]
  omega
theorem okG_rows (rs : List TRow) : okG (rs.map rowTP) = true := by
  unfold okG alikeB sortableB
  rw [Bool.and_eq_true, Bool.and_eq_true, Bool.or_eq_true]
  refine ⟨⟨?_, .inl ?_⟩, ?_⟩
  · refine List.all_eq_true.mpr fun p hp => List.all_eq_true.mpr fun q hq => ?_
    obtain ⟨a, _, rfl⟩ := List.mem_map.mp hp
    obtain ⟨b, _, rfl⟩ := List.mem_map.mp hq
    exact rowT_alike a b
  · refine List.all_eq_true.mpr fun p hp => ?_
    obtain ⟨a, _, rfl⟩ := List.mem_map.mp hp
    rfl
  · refine List.all_eq_true.mpr fun p hp => ?_
    obtain ⟨a, _, rfl⟩ := List.mem_map.mp hp
    exact decide_eq_true (rowT_dep a)
theorem pyD_row (r : TRow) : pyD (rowT r) = rowTP r := by unfold pyD; rw [rowT_py]; rfl
theorem leG_row {a b : TRow} (h : a.1 ≠ b.1) : leG (rowT a) (rowT b) = leR (pairK a.1) (pairK b.1) := by
  show (!W.dataLt (pyD (rowT b)) (pyD (rowT a))) = _
  rw [pyD_row, pyD_row]
  have e1 : W.dataLt (rowTP b) (rowTP a) = PyProof.Rows.lexLt PyProof.Rows.itemOrd (W.keyToksAll (lineP b.1 :: [.tuple (b.2.map lineP)])) (W.keyToksAll (lineP a.1 :: [.tuple (a.2.map lineP)])) := W.dataLt_tuple _ _
  rw [e1, W.dataLt_cons (line_alike b.1 a.1), line_eqv, if_neg (by simpa using fun z => h z.symm)]
  have e2 : W.dataLt (lineP b.1) (lineP a.1) = W.rowLt ((pairK b.1).map keyPy) ((pairK a.1).map keyPy) := W.dataLt_tuple _ _
  rw [e2, row_lt (a := pairK a.1) (b := pairK b.1) rfl, Bool.not_not]
theorem nodup_inj {α β : Type} {f : α → β} : ∀ {l : List α}, (l.map f).Nodup → ∀ {a b : α}, a ∈ l → b ∈ l → f a = f b → a = b
  | [], _, _, _, ha, _, _ => by cases ha
  | x :: r, h, a, b, ha, hb, e => by
    rw [List.map_cons, List.nodup_cons] at h
    rcases List.mem_cons.mp ha with ha1 | ha1
    · rcases List.mem_cons.mp hb with hb1 | hb1
      · rw [ha1, hb1]
      · rw [ha1] at e
        exact absurd (List.mem_map.mpr ⟨b, hb1, e.symm⟩) h.1
    · rcases List.mem_cons.mp hb with hb1 | hb1
      · rw [hb1] at e
        exact absurd (List.mem_map.mpr ⟨a, ha1, e⟩) h.1
      · exact nodup_inj h.2 ha1 hb1 e
/-- sorted rows, told by their LINEs' order -/
theorem sortB_rows {rs qs : List TRow} (hp : qs.Perm rs) (hn : (rs.map (·.1)).Nodup) (hs : (qs.map fun q => pairK q.1).Pairwise LeR) : bSortB [.lst (rs.map rowT)] = some (.lst (qs.map rowT)) := by
  have hin : ∀ {a b : TRow}, a ∈ rs → b ∈ rs → a.1 = b.1 → a = b := fun ha hb e => nodup_inj hn ha hb e
  have hG : sortG (rs.map rowT) = qs.map rowT := by
    refine List.Perm.eq_of_pairwise (le := LeG) (fun x y hx hy h1 h2 => ?_) (sortG_sorted _) ?_ ((sortG_perm _).trans (hp.map rowT).symm)
    · have hx' := (sortG_perm _).subset hx
      obtain ⟨a, ha, rfl⟩ := List.mem_map.mp hx'
      obtain ⟨b, hb, rfl⟩ := List.mem_map.mp hy
      by_cases q : a.1 = b.1
      · rw [hin ha (hp.subset hb) q]
      · have h1 : leG _ _ = true := h1
        have h2 : leG _ _ = true := h2
        rw [leG_row q] at h1
        rw [leG_row (fun z => q z.symm)] at h2
        exact absurd (pairK_inj (leR_anti h1 h2)) q
    · refine List.pairwise_map.mpr ?_
      have h1 := List.pairwise_map.mp hs
      have hn2 : (qs.map (·.1)).Nodup := (hp.map (·.1)).nodup_iff.mpr hn
      exact ((List.pairwise_map.mp hn2).and h1).imp fun ⟨h, g⟩ => by
        show leG _ _ = true
        rw [leG_row h]; exact g
  cases rs with
  | nil =>
    rw [List.perm_nil.mp hp]; rfl
  | cons r rest =>
    have e : bSortA [.lst ((r :: rest).map rowT)] = none := rfl
    show (match bSortA [.lst ((r :: rest).map rowT)] with | some d => some d | none => sortP ((r :: rest).map rowT)) = _
    rw [e]
    show (toPys ((r :: rest).map rowT)).bind _ = _
    rw [rowTs_py]
    show (if _ then _ else _) = _
    rw [if_pos (okG_rows _), hG]
end Dv

/-! Td: what rows of DEEDs write, flush, and have out; the rows of their tables, in mathematics. -/
namespace Dv
open PySem PySem.Spec PyProof.Rows L2
theorem deed_eq {p q : Dd} (h : TxO p.2) (g : TxO q.2) : eqD (deedD p) (deedD q) = some (decide (p = q)) := by
  show (match toPy (deedD p), toPy (deedD q) with | some x, some y => if SeqAt.shaped x = true ∧ SeqAt.shaped y = true then some (PyData.eqv x y) else none | _, _ => none) = _
  rw [deed_py, deed_py]
  show (if _ then _ else _) = _
  rw [if_pos ⟨deed_shaped h, deed_shaped g⟩, deed_eqv]
theorem deed_ceq {p q : Dd} (h : TxO p.2) (g : TxO q.2) : cEq (deedD p) (deedD q) = some (.bl (decide (p = q))) := by
  show (eqD _ _).map D.bl = _
  rw [deed_eq h g]; rfl
def manyOf (x : Str) (ds : List Dd) : Nat := ds.countP (fun q => decide (q = (true, x)))
def outR (x : Str) : List Dd → Nat
  | [] => 0
  | p :: r => if p.1 = true then outR x r else if p.2 = x then manyOf x r else outR x r
def ouOf (x : Str) (ds : List Dd) : Nat := outR x ds.reverse
theorem many_snoc (x : Str) (ds : List Dd) (p : Dd) : manyOf x (ds ++ [p]) = manyOf x ds + if p = (true, x) then 1 else 0 := by
  unfold manyOf
  rw [List.countP_append, List.countP_singleton]
  by_cases h : p = (true, x)
  · rw [if_pos h, if_pos (decide_eq_true h)]
  · rw [if_neg h, if_neg (by simpa using h)]
theorem out_snoc (x : Str) (ds : List Dd) (p : Dd) : ouOf x (ds ++ [p]) = if p.1 = true then ouOf x ds else if p.2 = x then manyOf x ds else ouOf x ds := by
  unfold ouOf
  rw [List.reverse_append]
  show (if p.1 = true then outR x ds.reverse else if p.2 = x then manyOf x ds.reverse else outR x ds.reverse) = _
  have : manyOf x ds.reverse = manyOf x ds := List.countP_reverse ..
  rw [this]
structure CI (pre : List Dd) (w o : Al) : Prop where
  nw : NdA w
  no_ : NdA o
  lw : w.length ≤ pre.length
  lo : o.length ≤ pre.length
  w : ∀ x, (getA x w).getD 0 = (manyOf x pre : Int)
  o : ∀ x, (getA x o).getD 0 = (ouOf x pre : Int)
theorem CI.nil : CI [] [] [] := ⟨.nil, .nil, Nat.le_refl _, Nat.le_refl _, fun _ => rfl, fun _ => rfl⟩
theorem CI.write {pre : List Dd} {w o : Al} (h : CI pre w o) (x : Str) : CI (pre ++ [(true, x)]) (putA x ((getA x w).getD 0 + 1) w) o := by
  refine ⟨h.nw.put _ _, h.no_, ?_, ?_, fun y => ?_, fun y => ?_⟩
  · have := put_len x ((getA x w).getD 0 + 1) w; have := h.lw; rw [List.length_append]; simp; omega
  · have := h.lo; rw [List.length_append]; simp; omega
  · rw [get_put, many_snoc]
    by_cases e : y = x
    · subst e
      rw [if_pos rfl, if_pos rfl]
      show (getA y w).getD 0 + 1 = _
      rw [h.w]; omega
    · rw [if_neg e, if_neg (fun z => e (by cases z; rfl)), h.w]; rfl
  · rw [h.o, out_snoc, if_pos rfl]
theorem CI.flush {pre : List Dd} {w o : Al} (h : CI pre w o) (x : Str) : CI (pre ++ [(false, x)]) w (putA x ((getA x w).getD 0) o) := by
  refine ⟨h.nw, h.no_.put _ _, ?_, ?_, fun y => ?_, fun y => ?_⟩
  · have := h.lw; rw [List.length_append]; simp; omega
  · have := put_len x ((getA x w).getD 0) o; have := h.lo; rw [List.length_append]; simp; omega
  · rw [many_snoc, if_neg (fun z => by cases z), h.w]; rfl
  · rw [get_put, out_snoc]
    show _ = ((if x = y then manyOf y pre else ouOf y pre : Nat) : Int)
    by_cases e : y = x
    · subst e
      rw [if_pos rfl, if_pos rfl]
      show (getA y w).getD 0 = _
      exact h.w y
    · rw [if_neg e, if_neg (fun z => e z.symm), h.o]

theorem takeS {ds : List Dd} {j : Nat} (h : j < ds.length) : ds.take (j + 1) = ds.take j ++ [ds[j]] := by
  rw [List.take_succ, List.getElem?_eq_getElem h]; rfl
/-- the streams of ds are among xs -/
def InS (ds : List Dd) (xs : List Str) : Prop := ∀ p ∈ ds, p.2 ∈ xs
theorem many_0 {ds : List Dd} {xs : List Str} (h : InS ds xs) {x : Str} (hx : x ∉ xs) : manyOf x ds = 0 := by
  refine List.countP_eq_zero.mpr fun p hp e => hx ?_
  have := of_decide_eq_true e
  have h2 := h p hp
  rw [this] at h2
  exact h2
theorem outR_0 {xs : List Str} {x : Str} (hx : x ∉ xs) : ∀ {ds : List Dd}, InS ds xs → outR x ds = 0
  | [], _ => rfl
  | p :: r, h => by
    have hr : InS r xs := fun q hq => h q (List.mem_cons_of_mem _ hq)
    unfold outR
    split
    · exact outR_0 hx hr
    · rw [if_neg (fun z => hx (by rw [← z]; exact h p List.mem_cons_self))]; exact outR_0 hx hr
theorem InS.take {ds : List Dd} {xs : List Str} (h : InS ds xs) (k : Nat) : InS (ds.take k) xs := fun p hp => h p (List.mem_of_mem_take hp)
theorem InS.rev {ds : List Dd} {xs : List Str} (h : InS ds xs) : InS ds.reverse xs := fun p hp => h p (List.mem_reverse.mp hp)
def dA (al : Al) : D := .dct (alK al) (alD al)
/-! ### writes with their places -/
abbrev Wp := Nat × Str
def wrUp (ds : List Dd) : Nat → List Wp
  | 0 => []
  | n + 1 => wrUp ds n ++ match ds[n]? with
    | some (true, x) => [(n, x)]
    | _ => []
abbrev wr (ds : List Dd) : List Wp := wrUp ds ds.length
theorem wr_t {ds : List Dd} {n : Nat} {x : Str} (h : ds[n]? = some (true, x)) : wrUp ds (n + 1) = wrUp ds n ++ [(n, x)] := by
  show wrUp ds n ++ (match ds[n]? with | some (true, x) => [(n, x)] | _ => []) = _
  rw [h]
theorem wr_f {ds : List Dd} {n : Nat} {x : Str} (h : ds[n]? = some (false, x)) : wrUp ds (n + 1) = wrUp ds n := by
  show wrUp ds n ++ (match ds[n]? with | some (true, x) => [(n, x)] | _ => []) = _
  rw [h]; exact List.append_nil _
theorem wr_mem {ds : List Dd} : ∀ {n : Nat} {w : Wp}, w ∈ wrUp ds n → w.1 < n ∧ ds[w.1]? = some (true, w.2)
  | 0, _, h => by cases h
  | n + 1, w, h => by
    rcases List.mem_append.mp h with h | h
    · obtain ⟨h1, h2⟩ := wr_mem h; exact ⟨by omega, h2⟩
    · split at h
      · rename_i x hx
        rw [List.mem_singleton.mp h]
        exact ⟨Nat.lt_succ_self _, hx⟩
      · cases h
theorem wr_len {ds : List Dd} : ∀ n, (wrUp ds n).length ≤ n
  | 0 => Nat.le_refl _
  | n + 1 => by
    have := wr_len (ds := ds) n
    show (wrUp ds n ++ _).length ≤ _
    rw [List.length_append]
    split
    · simp; omega
    · simp; omega
theorem wr_nodup {ds : List Dd} : ∀ n, ((wrUp ds n).map (·.1)).Nodup
  | 0 => .nil
  | n + 1 => by
    show ((wrUp ds n ++ _).map (·.1)).Nodup
    rw [List.map_append]
    refine List.nodup_append.mpr ⟨wr_nodup n, by split <;> simp, fun a ha b hb e => ?_⟩
    obtain ⟨w, hw, rfl⟩ := List.mem_map.mp ha
    have h1 := (wr_mem hw).1
    split at hb
    · simp at hb; omega
    · cases hb
def lineOf (ds : List Dd) (w : Wp) : Str × Int := (w.2, (manyOf w.2 (ds.take (w.1 + 1)) : Int))
theorem many_mono (x : Str) (ds : List Dd) {a b : Nat} (h : a ≤ b) : manyOf x (ds.take a) ≤ manyOf x (ds.take b) := by
  rw [show ds.take a = (ds.take b).take a by rw [List.take_take, Nat.min_eq_left h]]
  exact List.Sublist.countP_le (List.take_sublist _ _)
theorem many_at {x : Str} {ds : List Dd} {k : Nat} (h : ds[k]? = some (true, x)) : manyOf x (ds.take (k + 1)) = manyOf x (ds.take k) + 1 := by
  obtain ⟨hk, e⟩ := List.getElem?_eq_some_iff.mp h
  rw [takeS hk, many_snoc, e, if_pos rfl]
theorem lineOf_inj {ds : List Dd} {n : Nat} {a b : Wp} (ha : a ∈ wrUp ds n) (hb : b ∈ wrUp ds n) (e : lineOf ds a = lineOf ds b) : a = b := by
  obtain ⟨_, ga⟩ := wr_mem ha
  obtain ⟨_, gb⟩ := wr_mem hb
  obtain ⟨i, x⟩ := a
  obtain ⟨j, y⟩ := b
  have e1 : x = y := congrArg Prod.fst e
  subst e1
  have e2 : (manyOf x (ds.take (i + 1)) : Int) = (manyOf x (ds.take (j + 1)) : Int) := congrArg Prod.snd e
  have e3 : manyOf x (ds.take (i + 1)) = manyOf x (ds.take (j + 1)) := by omega
  have ma : manyOf x (ds.take (i + 1)) = manyOf x (ds.take i) + 1 := many_at ga
  have mb : manyOf x (ds.take (j + 1)) = manyOf x (ds.take j) + 1 := many_at gb
  have : i = j := by
    rcases Nat.lt_trichotomy i j with h | h | h
    · have := many_mono x ds (a := i + 1) (b := j) (by omega); omega
    · exact h
    · have := many_mono x ds (a := j + 1) (b := i) (by omega); omega
  rw [this]
theorem wr_nd {ds : List Dd} (n : Nat) : (wrUp ds n).Nodup := List.Pairwise.imp (fun h e => h (by rw [e])) (List.pairwise_map.mp (wr_nodup (ds := ds) n))
theorem lines_nodup (ds : List Dd) (n : Nat) : ((wrUp ds n).map (lineOf ds)).Nodup :=
  List.pairwise_map.mpr ((wr_nd (ds := ds) n).imp_of_mem fun ha hb h e => h (lineOf_inj ha hb e))
/-! ### what is surely ahead -/
def flB (ds : List Dd) (y : Str) (j k : Nat) : Bool := ((ds.take k).drop j).any fun p => decide (p = (false, y))
def ahB (ds : List Dd) (k : Nat) (w : Wp) : Bool := flB ds w.2 w.1 k
theorem fl_step {ds : List Dd} {y : Str} {j k : Nat} (hk : k < ds.length) (hj : j ≤ k) : flB ds y j (k + 1) = (flB ds y j k || decide (ds[k] = (false, y))) := by
  unfold flB
  rw [takeS hk, List.drop_append_of_le_length (by rw [List.length_take]; omega), List.any_append]
  simp
theorem fl_none {ds : List Dd} {y : Str} {j k : Nat} (hj : k ≤ j) : flB ds y j k = false := by
  unfold flB
  rw [List.drop_eq_nil_of_le (by rw [List.length_take]; omega)]; rfl
/-- so many writes of a stream up to a place -/
theorem cnt_wr {ds : List Dd} {y : Str} : ∀ {n : Nat}, n ≤ ds.length → (wrUp ds n).countP (fun w => decide (w.2 = y)) = manyOf y (ds.take n)
  | 0, _ => by rw [List.take_zero]; rfl
  | n + 1, h => by
    have hn : n < ds.length := by omega
    have ih := cnt_wr (ds := ds) (y := y) (n := n) (by omega)
    obtain ⟨⟨b, x⟩, hd⟩ : ∃ p, ds[n] = p := ⟨_, rfl⟩
    rw [takeS hn, many_snoc, hd]
    have hg : ds[n]? = some (b, x) := by rw [List.getElem?_eq_getElem hn, hd]
    cases b with
    | true =>
      rw [wr_t hg, List.countP_append, ih, List.countP_singleton]
      show _ + (if decide (x = y) = true then 1 else 0) = _
      by_cases e : x = y
      · rw [if_pos (decide_eq_true e), if_pos (by rw [e])]
      · rw [if_neg (by simpa using e), if_neg (fun z => e (congrArg Prod.snd z))]
    | false =>
      rw [wr_f hg, ih, if_neg (fun z => Bool.false_ne_true (congrArg Prod.fst z))]; rfl
theorem wr_ext {ds : List Dd} {k n : Nat} (h : k ≤ n) : ∃ r, wrUp ds n = wrUp ds k ++ r ∧ ∀ w ∈ r, k ≤ w.1 := by
  induction n with
  | zero => exact ⟨[], by rw [show k = 0 by omega]; rfl, by simp⟩
  | succ n ih =>
    by_cases e : k = n + 1
    · exact ⟨[], by rw [e, List.append_nil], by simp⟩
    · obtain ⟨r, h1, h2⟩ := ih (by omega)
      refine ⟨r ++ match ds[n]? with | some (true, x) => [(n, x)] | _ => [], by rw [← List.append_assoc, ← h1]; rfl, fun w hw => ?_⟩
      rcases List.mem_append.mp hw with hw | hw
      · exact h2 w hw
      · split at hw
        · rw [List.mem_singleton.mp hw]; show k ≤ n; omega
        · cases hw
/-- what is out by a place is what a flush stands behind -/
theorem cnt_ahead {ds : List Dd} {y : Str} : ∀ {k : Nat}, k ≤ ds.length → (wr ds).countP (fun w => decide (w.2 = y) && ahB ds k w) = ouOf y (ds.take k)
  | 0, _ => by
    rw [List.take_zero]
    refine List.countP_eq_zero.mpr fun w _ h => ?_
    rw [Bool.and_eq_true] at h
    have : ahB ds 0 w = false := fl_none (Nat.zero_le _)
    rw [this] at h; cases h.2
  | k + 1, h => by
    have hk : k < ds.length := by omega
    have ih := cnt_ahead (ds := ds) (y := y) (k := k) (by omega)
    obtain ⟨⟨b, x⟩, hd⟩ : ∃ p, ds[k] = p := ⟨_, rfl⟩
    rw [takeS hk, out_snoc, hd]
    have keep : (∀ w ∈ wr ds, w.2 = y → ahB ds (k + 1) w = ahB ds k w) → (wr ds).countP (fun w => decide (w.2 = y) && ahB ds (k + 1) w) = ouOf y (ds.take k) := fun hh => by
      rw [← ih]
      refine List.countP_congr fun w hw => ?_
      by_cases e : w.2 = y
      · rw [hh w hw e]
      · rw [decide_eq_false e]; simp
    have stepn : (b, x) ≠ (false, y) → ∀ w ∈ wr ds, w.2 = y → ahB ds (k + 1) w = ahB ds k w := fun hne w _ hy => by
      unfold ahB
      by_cases hj : w.1 ≤ k
      · rw [fl_step hk hj, hd, hy, decide_eq_false hne, Bool.or_false]
      · rw [fl_none (by omega), fl_none (by omega)]
    cases b with
    | true => rw [if_pos rfl]; exact keep (stepn (fun z => by cases z))
    | false =>
      rw [if_neg Bool.false_ne_true]
      by_cases e : x = y
      · subst e
        rw [if_pos rfl, ← cnt_wr (n := k) (by omega)]
        obtain ⟨r, h1, h2⟩ := wr_ext (ds := ds) (k := k) (n := ds.length) (by omega)
        show (wrUp ds ds.length).countP _ = _
        rw [h1, List.countP_append]
        have z2 : r.countP (fun w => decide (w.2 = x) && ahB ds (k + 1) w) = 0 := by
          refine List.countP_eq_zero.mpr fun w hw hh => ?_
          rw [Bool.and_eq_true] at hh
          have hm : w ∈ wrUp ds ds.length := by rw [h1]; exact List.mem_append_right _ hw
          have := h2 w hw
          by_cases q : w.1 = k
          · have := (wr_mem hm).2
            rw [q, List.getElem?_eq_getElem hk, hd] at this
            cases this
          · have : ahB ds (k + 1) w = false := fl_none (by omega)
            rw [this] at hh; cases hh.2
        rw [z2, Nat.add_zero]
        refine List.countP_congr fun w hw => ?_
        by_cases q : w.2 = x
        · have : ahB ds (k + 1) w = true := by
            unfold ahB
            rw [fl_step hk (Nat.le_of_lt (wr_mem hw).1), hd, q]
            simp
          rw [this]; simp
        · rw [decide_eq_false q]; simp
      · rw [if_neg e]
        exact keep (stepn (fun z => e (by cases z; rfl)))
/-! ### the rows -/
def tTold (xs : List Str) (ds : List Dd) (w : Wp) : Al := told xs fun y => if y = w.2 then 0 else (ouOf y (ds.take w.1) : Int)
def rowOf_ (xs : List Str) (ds : List Dd) (w : Wp) : TRow := (lineOf ds w, tTold xs ds w)
theorem told_len (xs : List Str) (f : Str → Int) : (told xs f).length ≤ xs.length := by
  unfold told
  exact Nat.le_trans (List.length_filter_le _ _) (by rw [List.length_map]; exact Nat.le_refl _)
/-- the sorted LINEs, with their places; the sorted rows -/
theorem tab_sorts (xs : List Str) (ds : List Dd) : ∃ ws : List Wp, ws.Perm (wr ds) ∧ bSortB [.lst ((wr ds).map fun w => lineD (lineOf ds w))] = some (.lst (ws.map fun w => lineD (lineOf ds w))) ∧
    bSortB [.lst ((wr ds).map fun w => rowT (rowOf_ xs ds w))] = some (.lst (ws.map fun w => rowT (rowOf_ xs ds w))) := by
  obtain ⟨qs, h1, h2, h3⟩ := sortB_lines ((wr ds).map (lineOf ds))
  obtain ⟨ws, rfl, hp⟩ := perm_map_back h2
  refine ⟨ws, hp, ?_, ?_⟩
  · rw [List.map_map, List.map_map] at h1; exact h1
  · have := sortB_rows (rs := (wr ds).map (rowOf_ xs ds)) (qs := ws.map (rowOf_ xs ds)) (hp.map _) (by rw [List.map_map]; exact lines_nodup ds _) (by
      rw [List.map_map] at h3 ⊢; exact h3)
    rw [List.map_map, List.map_map] at this; exact this
end Dv

/-! Te: rows of DEEDs gone through by number; parts of rows; dicts made of dicts; sorted items. -/
namespace Dv
open PySem PySem.Spec PyProof.Rows L2
theorem deedCod : Cod deedD deedP (fun p => TxO p.2) 1 := ⟨deed_py, fun _ h => deed_lay h, deed_dep, deed_eqv, fun a => ⟨_, rfl⟩⟩
theorem cutD_mid {xs : List D} {i k : Nat} (hi : i ≤ xs.length) (hk : k ≤ xs.length) : cutD xs (some (i : Int)) (some (k : Int)) = (xs.take k).drop i := by
  unfold cutD
  rw [HT.sIx_nat, HT.sIx_nat, Nat.min_eq_left hi, Nat.min_eq_left hk, List.drop_take]
theorem slT_mid {α : Type} {f : α → D} {ds : List α} {i k : Nat} (hi : i ≤ ds.length) (hk : k ≤ ds.length) : slD (.tup (ds.map f)) (some (i : Int)) (some (k : Int)) = some (.tup (((ds.take k).drop i).map f)) := by
  show some (D.tup (cutD (ds.map f) (some (i : Int)) (some (k : Int)))) = _
  rw [cutD_mid (by rw [List.length_map]; exact hi) (by rw [List.length_map]; exact hk), ← List.map_take, ← List.map_drop]
theorem slT_up {α : Type} {f : α → D} {ds : List α} {k : Nat} (hk : k ≤ ds.length) : slD (.tup (ds.map f)) none (some (k : Int)) = some (.tup ((ds.take k).map f)) := by
  show some (D.tup (cutD (ds.map f) none (some (k : Int)))) = _
  unfold cutD
  rw [HT.sIx_none, HT.sIx_nat, List.drop_zero, Nat.sub_zero, List.length_map, Nat.min_eq_left hk, List.map_take]
theorem eq_fl (b : Bool) : cEq (.str (wdS b)) (.str ("flush" : Str)) = some (.bl (!b)) := by
  show some (D.bl (decide (wdS b = wdS false))) = _
  rw [decide_eq_decide.mpr wdS_inj]
  cases b <;> rfl
theorem eq_wd' (b : Bool) : cEq (.str (wdS b)) (.str ("write" : Str)) = some (.bl b) := by
  show some (D.bl (decide (wdS b = wdS true))) = _
  rw [decide_eq_decide.mpr wdS_inj]
  cases b <;> rfl
theorem compL_snoc {f : D → U → Option (Option D × U)} {x : D} {o : Option D} {u : U} : ∀ {xs : List D} {r : List D}, compL f xs u = some (r, u) → f x u = some (o, u) → compL f (xs ++ [x]) u = some (r ++ o.toList, u) := by
  have app : ∀ (xs ys : List D) (u u1 u2 : U) (r1 r2 : List D), compL f xs u = some (r1, u1) → compL f ys u1 = some (r2, u2) → compL f (xs ++ ys) u = some (r1 ++ r2, u2) := fun xs => by
    induction xs with
    | nil => intro ys u u1 u2 r1 r2 h g; cases h; exact g
    | cons d xs ih =>
      intro ys u u1 u2 r1 r2 h g
      unfold compL at h
      obtain ⟨y, v, h1, h2⟩ := bnd_some h
      obtain ⟨r, w, h3, h4⟩ := bnd_some h2
      rw [List.cons_append]
      unfold compL
      rw [h1]
      show bnd (compL f (xs ++ ys) v) _ = _
      cases y with
      | none => cases h4; rw [ih ys v _ u2 _ r2 h3 g]; rfl
      | some y => cases h4; rw [ih ys v _ u2 _ r2 h3 g]; rfl
  intro xs r h g
  refine app xs [x] u u u r _ h ?_
  unfold compL
  rw [g]
  cases o <;> rfl
theorem enumD_snoc (d : D) : ∀ (l : List D) (n : Nat), enumD n (l ++ [d]) = enumD n l ++ [.pr [.int ((n + l.length : Nat) : Int), d]]
  | [], n => rfl
  | x :: l, n => by
    rw [List.cons_append]
    unfold enumD
    rw [enumD_snoc d l (n + 1), List.length_cons, List.cons_append, show n + 1 + l.length = n + (l.length + 1) by omega]
/-- a row gone through with its numbers: of the writes, those that are asked for -/
theorem enum_wr {f : D → U → Option (Option D × U)} {g : Wp → D} {ds : List Dd} {u : U} {Q : Wp → Bool}
    (hf : ∀ (k : Nat) (b : Bool) (x : Str), ds[k]? = some (b, x) → f (.pr [.int (k : Int), deedD (b, x)]) u = some (if b = true ∧ Q (k, x) = true then some (g (k, x)) else none, u)) :
    compL f (enumD 0 (ds.map deedD)) u = some (((wr ds).filter Q).map g, u) := by
  have up : ∀ n, n ≤ ds.length → compL f (enumD 0 ((ds.take n).map deedD)) u = some (((wrUp ds n).filter Q).map g, u) := fun n => by
    induction n with
    | zero => intro _; rw [List.take_zero]; rfl
    | succ n ih =>
      intro h
      have hn : n < ds.length := by omega
      obtain ⟨⟨b, x⟩, hd⟩ : ∃ p, ds[n] = p := ⟨_, rfl⟩
      have hg : ds[n]? = some (b, x) := by rw [List.getElem?_eq_getElem hn, hd]
      rw [takeS hn, List.map_append, hd, List.map_cons, List.map_nil, enumD_snoc, Nat.zero_add, List.length_map, List.length_take, Nat.min_eq_left (Nat.le_of_lt hn)]
      rw [compL_snoc (ih (by omega)) (hf n b x hg)]
      cases b with
      | true =>
        rw [wr_t hg, List.filter_append, List.map_append]
        by_cases q : Q (n, x) = true
        · rw [if_pos ⟨rfl, q⟩, List.filter_cons, if_pos q]; rfl
        · rw [if_neg (fun z => q z.2), List.filter_cons, if_neg q]; rfl
      | false =>
        rw [wr_f hg, if_neg (fun z => Bool.false_ne_true z.1)]
        show some (_ ++ [], u) = _
        rw [List.append_nil]
  have := up ds.length (Nat.le_refl _)
  rw [List.take_length] at this
  exact this
theorem filter_t {α : Type} (l : List α) : l.filter (fun _ => true) = l := List.filter_eq_self.mpr fun _ _ => rfl
/-- where the written LINE of a stream stands -/
theorem spot_at {ds : List Dd} {w : Wp} (h : w ∈ wr ds) : ((wr ds).filter fun v => decide (v.2 = w.2))[manyOf w.2 (ds.take w.1)]? = some w := by
  obtain ⟨h1, h2⟩ := wr_mem h
  obtain ⟨r, e, _⟩ := wr_ext (ds := ds) (k := w.1 + 1) (n := ds.length) (by omega)
  have e2 : wrUp ds (w.1 + 1) = wrUp ds w.1 ++ [(w.1, w.2)] := wr_t h2
  show ((wrUp ds ds.length).filter _)[_]? = _
  rw [e, e2, List.append_assoc, List.filter_append, List.singleton_append, List.filter_cons, if_pos (decide_eq_true rfl)]
  have hl : ((wrUp ds w.1).filter fun v => decide (v.2 = w.2)).length = manyOf w.2 (ds.take w.1) := by
    rw [← List.countP_eq_length_filter]; exact cnt_wr (by omega)
  rw [List.getElem?_append_right (by rw [hl]; exact Nat.le_refl _), hl, Nat.sub_self]
  rfl
/-! ### dicts of texts and ints -/
theorem putA_new {x : Str} {v : Int} : ∀ {al : Al}, x ∉ al.map (·.1) → putA x v al = al ++ [(x, v)]
  | [], _ => rfl
  | p :: r, h => by
    rw [putA_cons, if_neg (fun z => h (by rw [← z]; exact List.mem_cons_self)), putA_new (fun z => h (List.mem_cons_of_mem _ z))]; rfl
theorem scal_al (al : Al) : scalO (.dct (alK al) (alD al)) = true := by
  show (alD al).all scalD = true
  refine List.all_eq_true.mpr fun d hd => ?_
  obtain ⟨p, _, rfl⟩ := List.mem_map.mp hd
  rfl
theorem foldD_al {f : D → U → Option (Option (Key × D) × U)} {P : Str → Bool} {u : U} : ∀ {al acc : Al}, NdA (acc ++ al) → acc.length + al.length ≤ 1000 → (∀ p : Str × Int, p ∈ al → f (.str p.1) u = some (if P p.1 = true then some (.inr p.1, .int p.2) else none, u)) →
    foldD f (al.map fun p : Str × Int => .str p.1) (alK acc) (alD acc) u = some ((alK (acc ++ al.filter fun p : Str × Int => P p.1), alD (acc ++ al.filter fun p : Str × Int => P p.1)), u)
  | [], acc, _, _, _ => by rw [List.filter_nil, List.append_nil]; rfl
  | p :: r, acc, hn, hl, hf => by
    rw [List.map_cons]
    unfold foldD
    rw [hf p List.mem_cons_self]
    show (match (if P p.1 = true then some ((Sum.inr p.1 : Key), D.int p.2) else none) with | some kv => if (alK acc).length < sizeLine then foldD f (r.map fun p : Str × Int => D.str p.1) (putD (alK acc) (alD acc) kv.1 kv.2).1 (putD (alK acc) (alD acc) kv.1 kv.2).2 u else none | none => foldD f (r.map fun p : Str × Int => D.str p.1) (alK acc) (alD acc) u) = _
    rw [List.length_cons] at hl
    by_cases q : P p.1 = true
    · rw [if_pos q, List.filter_cons, if_pos q]
      show (if (alK acc).length < sizeLine then _ else none) = _
      rw [if_pos (by show (acc.map _).length < _; rw [List.length_map, sizeLine_eq]; omega)]
      rw [put_al]
      have hx : p.1 ∉ acc.map (·.1) := fun z => by
        unfold NdA at hn
        rw [List.map_append, List.nodup_append] at hn
        exact hn.2.2 _ z _ (by rw [List.map_cons]; exact List.mem_cons_self) rfl
      show foldD f _ (alK (putA p.1 p.2 acc)) (alD (putA p.1 p.2 acc)) u = _
      rw [putA_new hx]
      have := foldD_al (f := f) (P := P) (u := u) (al := r) (acc := acc ++ [p]) (by rw [List.append_assoc]; exact hn) (by rw [List.length_append]; simp; omega) (fun q hq => hf q (List.mem_cons_of_mem _ hq))
      rw [List.append_assoc] at this
      exact this
    · rw [if_neg q, List.filter_cons, if_neg q]
      refine foldD_al (f := f) (P := P) (u := u) (al := r) (acc := acc) ?_ (by omega) (fun q hq => hf q (List.mem_cons_of_mem _ hq))
      unfold NdA at hn ⊢
      rw [List.map_append] at hn ⊢
      exact hn.sublist ((List.Sublist.refl _).append (by rw [List.map_cons]; exact List.sublist_cons_self _ _))
theorem vDC_eq {t : Tgt} {own : List Nat} {mi : MI} {mc : MB} {mk mv : M} {env : List Sl} {u u1 u2 : U} {ds : List D} {r : List Key × List D} (h : mi env u = some (ds, u1)) (h2 : foldD (turnD t own env mc mk mv) ds [] [] u1 = some (r, u2)) : vDC t own mi mc mk mv env u = some (.own (.dct r.1 r.2), u2) := by
  unfold vDC; rw [h]; show bnd (foldD _ ds [] [] u1) _ = _; rw [h2]; rfl
theorem vPeek_eq {i : Nat} {m : MSl} {env : List Sl} {u u1 : U} {o o' : Oo} (hi : env[i]? = some (.own o)) (h : m (env.set i (.pub (ooD o))) u = some (.own o', u1)) (hs : scalO o' = true) : vPeek i m env u = some (.own o', u1) := by
  unfold vPeek; rw [hi]; show bnd (m _ u) _ = _; rw [h]; exact if_pos hs
theorem mItemsK_eq {m : M} {env : List Sl} {u u1 : U} {al : Al} (h : m env u = some (.dct (alK al) (alD al), u1)) : mItemsK m env u = some (al.map fun p => .str p.1, u1) := by
  unfold mItemsK; rw [h]
  show some ((alK al).map keyD, u1) = _
  unfold alK
  rw [List.map_map]; rfl
theorem dix_al {al : Al} {x : Str} {v : Int} (h : getA x al = some v) : dixD (.dct (alK al) (alD al)) (.str x) = some (.int v) := by
  show valD (alK al) (alD al) (.inr x) = _
  rw [val_al, h]; rfl
theorem turnD_c {t : Tgt} {own : List Nat} {env env' : List Sl} {mc : MB} {mk mv : M} {d k v : D} {key : Key} {u u1 u2 u3 : U} (h : bindT t d (wipeE env own) = some env') (hc : mc env' u = some (true, u1)) (h2 : mk env' u1 = some (k, u2)) (h3 : mv env' u2 = some (v, u3)) (hk : keyOf k = some key) : turnD t own env mc mk mv d u = some (some (key, v), u3) := by
  unfold turnD; rw [h]; show bnd (mc env' u) _ = _; rw [hc]; show bnd (mk env' u1) _ = _; rw [h2]; show bnd (mv env' u2) _ = _; rw [h3]; show (match keyOf k with | some key => some (some (key, v), u3) | none => none) = _; rw [hk]
theorem turnD_n {t : Tgt} {own : List Nat} {env env' : List Sl} {mc : MB} {mk mv : M} {d : D} {u u1 : U} (h : bindT t d (wipeE env own) = some env') (hc : mc env' u = some (false, u1)) : turnD t own env mc mk mv d u = some (none, u1) := by
  unfold turnD; rw [h]; show bnd (mc env' u) _ = _; rw [hc]; rfl
theorem mSortI_eq {m : M} {env : List Sl} {u u1 : U} {al qs : Al} (h : m env u = some (.dct (alK al) (alD al), u1)) (few : al.length ≤ 1000) (hs : sortR (al.map pairK) = qs.map pairK) : mSortI m env u = some (.lst (qs.map lineD), u1) := by
  unfold mSortI; rw [h]
  show lft ((alOf (alK al) (alD al)).bind _) u1 = _
  rw [alOf_al]
  show lft (if al.length ≤ 1000 then some (D.lst ((sortR (al.map pairK)).map rowD)) else none) u1 = _
  rw [if_pos few, hs, List.map_map]; rfl
theorem told_rows {al : Al} {xs : List Str} {f : Str → Int} (h : NdA al) (hx : Rising xs) (hf : ∀ x, (getA x al).getD 0 = f x) (h0 : ∀ x, x ∉ xs → f x = 0) (hp : ∀ p ∈ al, 0 < p.2) : sortR (al.map pairK) = (told xs f).map pairK := by
  have := tally_sort h hx hf h0
  rw [List.filter_eq_self.mpr fun p hp' => decide_eq_true (hp p hp')] at this
  exact this
theorem getA_filter {P : Str → Bool} {x : Str} : ∀ (al : Al), getA x (al.filter fun p => P p.1) = if P x = true then getA x al else none
  | [] => by rw [List.filter_nil]; split <;> rfl
  | p :: r => by
    rw [List.filter_cons, getA_cons]
    have ih := getA_filter (P := P) (x := x) r
    by_cases e : p.1 = x
    · by_cases q : P p.1 = true
      · rw [if_pos q, getA_cons, if_pos e, if_pos e, if_pos (by rw [← e]; exact q)]
      · rw [if_neg q, ih, if_neg (by rw [← e]; exact q), if_neg (by rw [← e]; exact q)]
    · rw [if_neg e]
      by_cases q : P p.1 = true
      · rw [if_pos q, getA_cons, if_neg e, ih]
      · rw [if_neg q, ih]
end Dv

/-! Tg: sorted of any rows by an order of one's own; numbers of WRITES in two ways; defs that raise. -/
namespace Dv
open PySem PySem.Spec PyProof.Rows L2
theorem pw_tri {α : Type} {lt : α → α → Prop} : ∀ {l : List α}, l.Pairwise lt → ∀ {a b : α}, a ∈ l → b ∈ l → a = b ∨ lt a b ∨ lt b a
  | [], _, _, _, h, _ => by cases h
  | x :: r, h, a, b, ha, hb => by
    rw [List.pairwise_cons] at h
    rcases List.mem_cons.mp ha with ha1 | ha1
    · rcases List.mem_cons.mp hb with hb1 | hb1
      · exact .inl (ha1.trans hb1.symm)
      · exact .inr (.inl (by rw [ha1]; exact h.1 _ hb1))
    · rcases List.mem_cons.mp hb with hb1 | hb1
      · exact .inr (.inr (by rw [hb1]; exact h.1 _ ha1))
      · exact pw_tri h.2 ha1 hb1
theorem sortP_by {α : Type} {enc : α → D} {p : α → PyData} {lt : α → α → Prop} {l qs : List α} (hpy : ∀ a, toPy (enc a) = some (p a)) (hok : okG (l.map p) = true) (hp : qs.Perm l) (hs : qs.Pairwise lt)
    (hlt : ∀ a b, lt a b → leG (enc a) (enc b) = true ∧ leG (enc b) (enc a) = false) : sortP (l.map enc) = some (.lst (qs.map enc)) := by
  have hG : sortG (l.map enc) = qs.map enc := by
    refine List.Perm.eq_of_pairwise (le := LeG) (fun x y hx hy h1 h2 => ?_) (sortG_sorted _) (List.pairwise_map.mpr (hs.imp fun h => (hlt _ _ h).1)) ((sortG_perm _).trans (hp.map enc).symm)
    obtain ⟨a, ha, rfl⟩ := List.mem_map.mp ((sortG_perm _).subset hx)
    obtain ⟨b, hb, rfl⟩ := List.mem_map.mp hy
    rcases pw_tri hs (hp.symm.subset ha) hb with e | e | e
    · rw [e]
    · have := (hlt _ _ e).2
      have h2 : leG (enc b) (enc a) = true := h2
      rw [this] at h2; cases h2
    · have := (hlt _ _ e).2
      have h1 : leG (enc a) (enc b) = true := h1
      rw [this] at h1; cases h1
  unfold sortP
  rw [toPys_map (f := enc) (g := p) fun a _ => hpy a]
  show (if _ then _ else _) = _
  rw [if_pos hok, hG]
/-- rows (int, int, a LINE) by the first two -/
abbrev Ent := (Nat × Nat) × (Str × Int)
def entD (e : Ent) : D := .tup [.int (e.1.1 : Int), .int (e.1.2 : Int), lineD e.2]
def entP (e : Ent) : PyData := .tuple [.int (e.1.1 : Int), .int (e.1.2 : Int), lineP e.2]
def entLt (a b : Ent) : Prop := a.1.1 < b.1.1 ∨ (a.1.1 = b.1.1 ∧ a.1.2 < b.1.2)
theorem entD_py (e : Ent) : toPy (entD e) = some (entP e) := by unfold entD entP; simp [toPy, toPys, line_py]
theorem ent_alike (a b : Ent) : W.alike (entP a) (entP b) = true := by
  unfold entP
  rw [W.alike, W.alikeAll, W.alikeAll, W.alikeAll, line_alike]
  simp [W.alike, W.alikeAll]
theorem okG_ents (l : List Ent) : okG (l.map entP) = true := by
  unfold okG alikeB sortableB
  rw [Bool.and_eq_true, Bool.and_eq_true, Bool.or_eq_true]
  refine ⟨⟨?_, .inl ?_⟩, ?_⟩
  · refine List.all_eq_true.mpr fun p hp => List.all_eq_true.mpr fun q hq => ?_
    obtain ⟨a, _, rfl⟩ := List.mem_map.mp hp
    obtain ⟨b, _, rfl⟩ := List.mem_map.mp hq
    exact ent_alike a b
  · refine List.all_eq_true.mpr fun p hp => ?_
    obtain ⟨a, _, rfl⟩ := List.mem_map.mp hp
    rfl
  · refine List.all_eq_true.mpr fun p hp => ?_
    obtain ⟨a, _, rfl⟩ := List.mem_map.mp hp
    have := line_dep a.2
    refine decide_eq_true ?_
    unfold entP
    simp only [PyData.depth, PyData.depthAll]
    omega
theorem ent_dlt (a b : Ent) (h : a.1 ≠ b.1) : W.dataLt (entP a) (entP b) = true ↔ entLt a b := by
  have e1 : W.dataLt (entP a) (entP b) = PyProof.Rows.lexLt PyProof.Rows.itemOrd (W.keyToksAll (.int (a.1.1 : Int) :: [.int (a.1.2 : Int), lineP a.2])) (W.keyToksAll (.int (b.1.1 : Int) :: [.int (b.1.2 : Int), lineP b.2])) := W.dataLt_tuple _ _
  have al : ∀ i j : Int, W.alike (.int i) (.int j) = true := fun i j => by rw [W.alike]
  have ev : ∀ i j : Nat, PyData.eqv (.int (i : Int)) (.int (j : Int)) = decide (i = j) := fun i j => by
    have : PyData.eqv (.int (i : Int)) (.int (j : Int)) = decide ((i : Int) = j) := key_eqv (a := .inl (i : Int)) (b := .inl (j : Int)) rfl |>.trans (by congr 1; exact propext ⟨fun z => Sum.inl.inj z, fun z => by rw [z]⟩)
    rw [this]; exact decide_eq_decide.mpr Int.ofNat_inj
  have dl : ∀ i j : Nat, W.dataLt (.int (i : Int)) (.int (j : Int)) = decide (i < j) := fun i j => by
    rw [W.dataLt_int]; exact decide_eq_decide.mpr Int.ofNat_lt
  rw [e1, W.dataLt_cons (al _ _), W.dataLt_cons (al _ _), ev, ev, dl, dl]
  unfold entLt
  by_cases q : a.1.1 = b.1.1
  · have q2 : a.1.2 ≠ b.1.2 := fun z => h (Prod.ext q z)
    rw [if_pos (decide_eq_true q), if_neg (by simpa using q2), decide_eq_true_iff]
    exact ⟨fun z => .inr ⟨q, z⟩, fun z => by omega⟩
  · rw [if_neg (by simpa using q), decide_eq_true_iff]
    exact ⟨fun z => .inl z, fun z => by omega⟩
theorem ent_le {a b : Ent} (h : entLt a b) : leG (entD a) (entD b) = true ∧ leG (entD b) (entD a) = false := by
  have pd : ∀ e : Ent, pyD (entD e) = entP e := fun e => by unfold pyD; rw [entD_py]; rfl
  have hn : a.1 ≠ b.1 := fun z => by unfold entLt at h; rw [z] at h; omega
  have h1 : leG (entD a) (entD b) = !W.dataLt (entP b) (entP a) := by
    show (!W.dataLt (pyD (entD b)) (pyD (entD a))) = _
    rw [pd, pd]
  have h2 : leG (entD b) (entD a) = !W.dataLt (entP a) (entP b) := by
    show (!W.dataLt (pyD (entD a)) (pyD (entD b))) = _
    rw [pd, pd]
  rw [h1, h2, (ent_dlt a b hn).mpr h]
  refine ⟨?_, rfl⟩
  cases q : W.dataLt (entP b) (entP a) with
  | false => rfl
  | true =>
    have := (ent_dlt b a (fun z => hn z.symm)).mp q
    unfold entLt at h this
    omega
theorem sortB_ents {l qs : List Ent} (hp : qs.Perm l) (hs : qs.Pairwise entLt) : bSortB [.lst (l.map entD)] = some (.lst (qs.map entD)) := by
  cases l with
  | nil => rw [List.perm_nil.mp hp]; rfl
  | cons r rest =>
    have e : bSortA [.lst ((r :: rest).map entD)] = none := rfl
    show (match bSortA [.lst ((r :: rest).map entD)] with | some d => some d | none => sortP ((r :: rest).map entD)) = _
    rw [e]
    exact sortP_by (enc := entD) (p := entP) entD_py (okG_ents _) hp hs fun _ _ h => ent_le h
/-! ### defs that raise -/
theorem runBX_rt {m : MS} {L : Nat} {ds : List D} {u u1 : U} {d : D} (h : m (ds.map Sl.pub ++ List.replicate (L - ds.length) Sl.no) u = some (.rt d, u1)) : runBX m L ds u = some (.ok d, u1) := by
  unfold runBX; rw [h]
theorem runBX_er {m : MS} {L : Nat} {ds : List D} {u u1 : U} {env : List Sl} {c : Str} {ns : List Str} {xs : List D} (h : m (ds.map Sl.pub ++ List.replicate (L - ds.length) Sl.no) u = some (.er env c ns xs, u1)) : runBX m L ds u = some (.er c ns xs, u1) := by
  unfold runBX; rw [h]
theorem runBX_nx {m : MS} {L : Nat} {ds : List D} {u u1 : U} {env : List Sl} (h : m (ds.map Sl.pub ++ List.replicate (L - ds.length) Sl.no) u = some (.nx env, u1)) : runBX m L ds u = some (.ok .non, u1) := by
  unfold runBX; rw [h]
theorem sTry_er {c : Str} {i : Nat} {body suite : MS} {env env1 : List Sl} {u u1 u2 : U} {ns : List Str} {xs : List D} {d : D} (h : body env u = some (.er env1 c ns xs, u1)) (h2 : suite (env1.set i (.pub (.exc c ns xs))) u1 = some (.rt d, u2)) : sTry c i body suite env u = some (.rt d, u2) := by
  unfold sTry; rw [h]; simp only [if_true]; rw [h2]
theorem sTry_rt {c : Str} {i : Nat} {body suite : MS} {env : List Sl} {u u1 : U} {d : D} (h : body env u = some (.rt d, u1)) : sTry c i body suite env u = some (.rt d, u1) := by
  unfold sTry; rw [h]
theorem sc_er' {p q : MS} {env env1 : List Sl} {u u1 : U} {c : Str} {ns : List Str} {xs : List D} (h : p env u = some (.er env1 c ns xs, u1)) : sCons p q env u = some (.er env1 c ns xs, u1) := by
  unfold sCons; rw [h]; rfl
end Dv

/-! Xt: x.extend(..), x one's own list. -/
namespace Dv
open PySem PySem.Spec PyProof.Rows L2
section
variable {X : Cx} {G : Gx X.K} {W : WX} {e : Expr} {me : M} {pos apos cpos : Pos}
def sExt (i : Nat) (m : M) : MS := fun env u => match env[i]? with
  | some (.own (.lst ds)) => bnd (m env u) fun d u1 => match d with
    | .lst es => if ds.length + es.length ≤ sizeLine then some (.nx (env.set i (.own (.lst (ds ++ es)))), u1) else none
    | _ => none
  | _ => none
theorem ds_ext (i : Nat) {x : Str} {px : Pos} (he : PE X e (tEv G me)) (hN : X.N[i]? = some x := by rfl) (hv : Vis X.env.scope x := by first | exact Or.inl rfl | exact Or.inr (Or.inl rfl) | exact Or.inr (Or.inr rfl)) (hd : (x == ("__debug__" : Str)) = false := by decide) (hcd : (x == ("__classdict__" : Str)) = false := by decide)
    (hbase : attributeBase (.Name x px) "extend" X.env (eval (.Name x px) X.env) = eval (.Name x px) X.env := by rfl)
    (hfew : ((backTo cpos (starEach [e] X.env)).all (fun x => !x.1) && (backToKw cpos (keywordEach [] X.env)).all (fun x => x.1.isSome)
      && decide ([e].length + ([] : List Keyword).length + (if ([] : List Keyword).isEmpty then 0 else 1) < 30)) = true := by rfl)
    (hline : (apos.endLine == cpos.line) = true := by rfl) (hs : starEach [e] X.env = (false, eval e X.env) :: starEach [] X.env := by rfl) (hp : (backTo cpos (starEach [] X.env)).any (·.1) = false := by rfl)
    (hsw : swapsWith (.Call (.Attribute (.Name x px) "extend" apos) [e] [] cpos) none pos.line X.env = pure false := by rfl) :
    PS X (.Expr (.Call (.Attribute (.Name x px) "extend" apos) [e] [] cpos) pos) (tSt G W (sExt i me)) :=
  (ps_expr (pe_bm PySem.F.plainAttrs_list PySem.F.slot_list_extend PySem.F.type_list_extend mt_extend (pe_var hN hv hd hcd) (pa_cons he pa_nil hs) hbase hfew hline hs hp) hsw).imp fun Dn σ H h => by
  obtain ⟨ua, u, B, env, fl, u', B0, H0, hg, hO, hE, hW, hm, q⟩ := h
  unfold sExt at hm
  split at hm
  · rename_i ds hi
    obtain ⟨d, u1, c1, c2⟩ := bnd_some hm
    split at c2
    · rename_i es
      split at c2
      · rename_i hz
        cases c2
        obtain ⟨l, ho, s1, s2, s3, ⟨vs, rfl, s4⟩, s5⟩ := hE.own i _ hi
        refine ⟨_, s1, .inl ⟨rfl, _, SqL.of s2⟩, ua, u, B, env, _, _, hE, hW, c1, fun v H1 ⟨B1, g1, w1, r1⟩ => ?_⟩
        have e1 := hE.grow g1
        obtain ⟨l', ho', t1, t2, t3, ⟨vs', rfl, t4⟩, t5⟩ := e1.own i _ hi
        rw [s1] at t1
        cases t1
        obtain ⟨b, zs, rfl, y1, y2⟩ := r1.lst
        refine ⟨l, b, vs', zs, rfl, rfl, t2, w1.sub _ _ y1, by rw [← t4.len, ← y2.len]; exact hz, ?_⟩
        exact q σ B1 _ ((hg.trans g1).putOwn (hO i _ l hi s1)) (hO.chg hi) (e1.chg hi s1 t3 t5 ⟨_, rfl, t4.append y2⟩) (w1.put t3 t5)
      · cases c2
    · cases c2
  · cases hm
def sExtO (i j : Nat) : MS := fun env u => match env[i]?, env[j]? with
  | some (.own (.lst ds)), some (.own (.lst es)) => if ds.length + es.length ≤ sizeLine then some (.nx (env.set i (.own (.lst (ds ++ es)))), u) else none
  | _, _ => none
theorem ds_extO (i j : Nat) {x y : Str} {px py : Pos} (hNj : X.N[j]? = some y := by rfl) (hvy : Vis X.env.scope y := by first | exact Or.inl rfl | exact Or.inr (Or.inl rfl) | exact Or.inr (Or.inr rfl)) (hdy : (y == ("__debug__" : Str)) = false := by decide) (hcdy : (y == ("__classdict__" : Str)) = false := by decide) (hN : X.N[i]? = some x := by rfl) (hv : Vis X.env.scope x := by first | exact Or.inl rfl | exact Or.inr (Or.inl rfl) | exact Or.inr (Or.inr rfl)) (hd : (x == ("__debug__" : Str)) = false := by decide) (hcd : (x == ("__classdict__" : Str)) = false := by decide)
    (hbase : attributeBase (.Name x px) "extend" X.env (eval (.Name x px) X.env) = eval (.Name x px) X.env := by rfl)
    (hfew : ((backTo cpos (starEach [Expr.Name y py] X.env)).all (fun x => !x.1) && (backToKw cpos (keywordEach [] X.env)).all (fun x => x.1.isSome)
      && decide ([Expr.Name y py].length + ([] : List Keyword).length + (if ([] : List Keyword).isEmpty then 0 else 1) < 30)) = true := by rfl)
    (hline : (apos.endLine == cpos.line) = true := by rfl) (hs : starEach [Expr.Name y py] X.env = (false, eval (Expr.Name y py) X.env) :: starEach [] X.env := by rfl) (hp : (backTo cpos (starEach [] X.env)).any (·.1) = false := by rfl)
    (hsw : swapsWith (.Call (.Attribute (.Name x px) "extend" apos) [Expr.Name y py] [] cpos) none pos.line X.env = pure false := by rfl) :
    PS X (.Expr (.Call (.Attribute (.Name x px) "extend" apos) [Expr.Name y py] [] cpos) pos) (tSt G W (sExtO i j)) :=
  (ps_expr (pe_bm PySem.F.plainAttrs_list PySem.F.slot_list_extend PySem.F.type_list_extend mt_extend (pe_var hN hv hd hcd) (pa_cons (pe_var hNj hvy hdy hcdy) pa_nil hs) hbase hfew hline hs hp) hsw).imp fun Dn σ H h => by
  obtain ⟨ua, u, B, env, fl, u', B0, H0, hg, hO, hE, hW, hm, q⟩ := h
  unfold sExtO at hm
  split at hm
  · rename_i ds es hi hj
    split at hm
    · rename_i hz
      cases hm
      obtain ⟨l, ho, s1, s2, s3, ⟨vs, rfl, s4⟩, s5⟩ := hE.own i _ hi
      obtain ⟨l2, ho2, y1, y2, y3, ⟨vs2, rfl, y4⟩, y5⟩ := hE.own j _ hj
      refine ⟨_, s1, .inl ⟨rfl, _, SqL.of s2⟩, _, y1, ?_⟩
      refine ⟨l, l2, vs, vs2, rfl, rfl, s2, y2, by rw [← s4.len, ← y4.len]; exact hz, ?_⟩
      exact q σ B _ (hg.putOwn (hO i _ l hi s1)) (hO.chg hi) (hE.chg hi s1 s3 s5 ⟨_, rfl, s4.append y4⟩) (hW.put s3 s5)
    · cases hm
  · cases hm
end
theorem sExt_eq {i : Nat} {m : M} {env : List Sl} {u u1 : U} {ds es : List D} (hi : env[i]? = some (.own (.lst ds))) (h : m env u = some (.lst es, u1)) (hl : ds.length + es.length ≤ sizeLine) : sExt i m env u = some (.nx (env.set i (.own (.lst (ds ++ es)))), u1) := by
  unfold sExt; rw [hi]; show bnd (m env u) _ = _; rw [h]; exact if_pos hl
theorem sExtO_eq {i j : Nat} {env : List Sl} {u : U} {ds es : List D} (hi : env[i]? = some (.own (.lst ds))) (hj : env[j]? = some (.own (.lst es))) (hl : ds.length + es.length ≤ sizeLine) : sExtO i j env u = some (.nx (env.set i (.own (.lst (ds ++ es)))), u) := by
  unfold sExtO; rw [hi, hj]; exact if_pos hl
end Dv
namespace Dv
open PySem PySem.Spec PyProof.Rows L2
/-! ### a, b, c = x, y, z, some of them things of one's own -/
def sParv3 (i j l : Nat) (a b c : MSl) : MS := fun env u => bnd (a env u) fun s u1 => bnd (b env u1) fun s2 u2 => bnd (c env u2) fun s3 u3 => some (.nx (((env.set i s).set j s2).set l s3), u3)
theorem ds_parv3 {X : Cx} {G : Gx X.K} {W : WX} {a b c : Expr} {ma mb mc : MSl} {pos : Pos} (i j l : Nat) {x y z : Str} {px py pz pt pt2 : Pos} {kt k2 : Nat} (ha : PE X a (tSv G ma)) (hb : PE X b (tSv G mb)) (hc : PE X c (tSv G mc)) (h : ∀ {ta : TA}, PA X [a, b, c] ta → PS X (.Assign [.Tuple [.Name x px, .Name y py, .Name z pz] kt pt] (.Tuple [a, b, c] k2 pt2) pos) (tPar3 i j l ta))
    (hs : starEach (a :: [b, c]) X.env = (false, eval a X.env) :: starEach [b, c] X.env := by rfl) (hs2 : starEach (b :: [c]) X.env = (false, eval b X.env) :: starEach [c] X.env := by rfl) (hs3 : starEach (c :: []) X.env = (false, eval c X.env) :: starEach [] X.env := by rfl) :
    PS X (.Assign [.Tuple [.Name x px, .Name y py, .Name z pz] kt pt] (.Tuple [a, b, c] k2 pt2) pos) (tSt G W (sParv3 i j l ma mb mc)) := (h (pa_cons ha (pa_cons hb (pa_cons hc pa_nil hs3) hs2) hs)).imp fun Dn σ H h => by
  obtain ⟨ua, u, B, env, fl, u', B0, H0, hg, hO, hE, hW, hm, q⟩ := h
  obtain ⟨s, u1, c1, c2⟩ := bnd_some hm
  obtain ⟨s2, u2, c3, c4⟩ := bnd_some c2
  obtain ⟨s3, u3, c5, c6⟩ := bnd_some c4
  cases c6
  refine ⟨ua, u, B, env, s, u1, hE, hW, c1, fun v H1 ⟨B1, g1, w1, r1⟩ => ⟨ua, u1, B1, env, s2, u2, hE.grow g1, w1, c3, fun v2 H2 ⟨B2, g2, w2, r2⟩ => ⟨ua, u2, B2, env, s3, _, (hE.grow g1).grow g2, w2, c5, fun v3 H3 ⟨B3, g3, w3, r3⟩ => ?_⟩⟩⟩
  refine ⟨v, v2, v3, rfl, ?_⟩
  have gg := g1.trans g2
  have ea1 := r1.store (hE.grow g1) i hE.far
  have ea2 := (r1.grow g2).store (hE.grow gg) i hE.far
  have eb2 := r2.store ea2 j fun k es p z1 z2 => ea1.far k es p z1 z2
  have ea3 := ((r1.grow g2).grow g3).store (hE.grow (gg.trans g3)) i hE.far
  have eb3 := (r2.grow g3).store ea3 j fun k es p z1 z2 => ea1.far k es p z1 z2
  have ec3 := r3.store eb3 l fun k es p z1 z2 => eb2.far k es p z1 z2
  have oa := r1.news hO hg.live i
  have ob := r2.news oa (fun a z => hg.live _ (g1.live _ z)) j
  exact q _ B3 H3 (hg.trans (gg.trans g3)) (r3.news ob (fun a z => hg.live _ (gg.live _ z)) l) ec3 w3
theorem sParv3_eq {i j l : Nat} {a b c : MSl} {env : List Sl} {u u1 u2 u3 : U} {x y z : Sl} (h : a env u = some (x, u1)) (h2 : b env u1 = some (y, u2)) (h3 : c env u2 = some (z, u3)) : sParv3 i j l a b c env u = some (.nx (((env.set i x).set j y).set l z), u3) := by
  unfold sParv3; rw [h]; show bnd (b env u1) _ = _; rw [h2]; show bnd (c env u2) _ = _; rw [h3]; rfl
end Dv

/-! Ro: lists of one's own by comprehension; defs that hand back a new thing of one's own. -/
namespace Dv
open PySem PySem.Spec PyProof.Rows L2
section
variable {X : Cx} {G : Gx X.K} {mi : MI} {mc : MB} {me : M}
def vLc (t : Tgt) (own : List Nat) (mi : MI) (mc : MB) (me : M) : MSl := fun env u => bnd (mi env u) fun ds u1 => bnd (compL (turnL t own env mc me) ds u1) fun r u2 => if r.length ≤ sizeLine then some (.own (.lst r), u2) else none
theorem lc_innerO {t : Tgt} {own : List Nat} {σ : L2.St} {Q : VK} {ua : Option Addr} {u1 u' : U} {B1 H1 : Hp} {env : List Sl} {J : It} {ds r : List D} (ht : ∀ i ∈ t.ids, i ∈ own) (hE1 : EnvOk G ua env σ B1 H1) (w1 : Wd ua u1 B1 H1) (wk : Wk G ua J B1 ds)
    (h3 : compL (turnL t own env mc me) ds u1 = some (r, u')) (hr : r.length ≤ sizeLine) (q : ∀ v H', AftS G ua B1 H1 u' (.own (.lst r)) v H' → Q v H') :
    ∀ D, H1 D = none → ∃ W : Nat → Nat → Hp → Prop, (∃ m, W 0 m (upd H1 D (.lst []))) ∧ ∀ i m H, W i m H →
  (J.stop i H ∧ Q (.ref D) H) ∨ (J.go i H ∧ ∃ Nx : Hp → Prop, (∀ H', Nx H' → ∃ m', m' < m ∧ W (i + 1) m' H') ∧ ∀ x H', J.yld i H x H' → gOf X.K t x (wipe σ own) H' fun σ2 H2 => wipe σ2 own = wipe σ own ∧ tTst G mc σ2 H2 fun b H3 =>
    if b = true then tEv G me σ2 H3 fun y H4 => ∃ acc, H4 D = some (.lst acc) ∧ acc.length < sizeLine ∧ Nx (upd H4 D (.lst (acc ++ [y]))) else Nx H3) := by
  intro Dp hD
  refine ⟨fun i m H' => m = ds.length - i ∧ i ≤ ds.length ∧ ∃ B' uu done vs rest, Grow ua B1 H1 B' H' ∧ Wd ua uu B' H' ∧ H' Dp = some (.lst vs) ∧ B' Dp = none ∧ Reps G ua done vs B' ∧ compL (turnL t own env mc me) (ds.drop i) uu = some (rest, u') ∧ done ++ rest = r,
    ⟨ds.length, by omega, by omega, B1, u1, [], [], r, .own1 w1 hD, w1.own1 hD, upd_same, w1.none_of hD, .nil, h3, rfl⟩, ?_⟩
  rintro i m H' ⟨rfl, hi, B', uu, done, vs, rest, g2, w2, hv, hb, rs, hc, hcat⟩
  have sB : Same B1 B' := g2.pub
  have nu : ua ≠ some Dp := w1.ne_urn hD
  have hk := wk i B' H' uu sB w2
  by_cases hlt : i < ds.length
  · have hd : ds[i]? = some ds[i] := List.getElem?_eq_getElem hlt
    obtain ⟨hgo, hy⟩ := hk.1 _ hd
    rw [List.drop_eq_getElem_cons hlt] at hc
    obtain ⟨o, u3, c1, c2⟩ := bnd_some (show bnd (turnL t own env mc me ds[i] uu) _ = _ from hc)
    obtain ⟨rest', u4, c3, c4⟩ := bnd_some c2
    refine .inr ⟨hgo, fun H2 => ∃ B' uu done vs rest, Grow ua B1 H1 B' H2 ∧ Wd ua uu B' H2 ∧ H2 Dp = some (.lst vs) ∧ B' Dp = none ∧ Reps G ua done vs B' ∧ compL (turnL t own env mc me) (ds.drop (i + 1)) uu = some (rest, u') ∧ done ++ rest = r,
      fun H2 h2 => ⟨ds.length - (i + 1), by omega, rfl, hlt, h2⟩, fun x H2 y => ?_⟩
    obtain ⟨B2, g3, w3, r3⟩ := hy x H2 y
    have hv2 : H2 Dp = some (.lst vs) := g3.keep _ _ hv nu
    have hb2 : B2 Dp = none := g3.none_of hv hb
    have rs2 := rs.mono _ _ g3.pub
    have hE2 : EnvOk G ua (wipeE env own) (wipe σ own) B2 H2 := ((hE1.wipe own).grow g2).grow g3
    unfold turnL at c1
    split at c1
    · cases c1
    · rename_i env' hbt
      refine bindT_ok hE2 w3 r3 hbt fun σ' hE3 hwp hback => ⟨by rw [hwp own ht, wipe_wipe], ?_⟩
      obtain ⟨b, u5, c5, c6⟩ := bnd_some c1
      refine ⟨ua, uu, B2, env', b, u5, hE3, w3, c5, fun H3 ⟨B3, g4, w4⟩ => ?_⟩
      have hv3 : H3 Dp = some (.lst vs) := g4.keep _ _ hv2 nu
      have hb3 : B3 Dp = none := g4.none_of hv2 hb2
      have rs3 := rs2.mono _ _ g4.pub
      have gg := g2.trans (g3.trans g4)
      cases b with
      | true =>
        rw [if_pos rfl] at c6
        refine iteT ?_
        obtain ⟨x', u6, c7, c8⟩ := bnd_some c6
        cases c8
        cases c4
        refine ⟨ua, u5, B3, env', x', u3, hE3.grow g4, w4, c7, fun yv H4 ⟨B4, g5, w5, r5⟩ => ?_⟩
        have hv4 : H4 Dp = some (.lst vs) := g5.keep _ _ hv3 nu
        have hb4 : B4 Dp = none := g5.none_of hv3 hb3
        have rs4 := rs3.mono _ _ g5.pub
        refine ⟨vs, hv4, ?_, B4, u3, done ++ [x'], vs ++ [yv], rest', (gg.trans g5).put hD, w5.put hb4 nu, upd_same, hb4, rs4.append (.cons r5 .nil), c3, by rw [← hcat]; simp⟩
        have := congrArg List.length hcat
        rw [List.length_append, List.length_cons] at this
        rw [← rs4.len]
        omega
      | false =>
        rw [if_neg Bool.false_ne_true] at c6
        refine iteF ?_
        cases c6
        cases c4
        exact ⟨B3, _, done, vs, rest', gg, w4, hv3, hb3, rs3, c3, hcat⟩
  · have e : i = ds.length := by omega
    subst e
    rw [List.drop_length] at hc
    cases hc
    rw [List.append_nil] at hcat
    subst hcat
    exact .inl ⟨hk.2 (List.getElem?_eq_none (Nat.le_refl _)), q _ _ ⟨B', g2, w2, Dp, _, rfl, hD, hv, hb, nu, _, rfl, rs⟩⟩
theorem AftS.up {K : PySem.W.Frag} {G : Gx K} {ua : Option Addr} {B H B1 H1 H' : Hp} {u' : U} {o : Oo} {v : V} (g : Grow ua B H B1 H1) (a : AftS G ua B1 H1 u' (.own o) v H') : AftS G ua B H u' (.own o) v H' := by
  obtain ⟨B', g', w, p, ho, e, h1, h2⟩ := a
  exact ⟨B', g.trans g', w, p, ho, e, g.live _ h1, h2⟩
theorem lc_readO {t : Tgt} {own : List Nat} {σ : L2.St} {H : Hp} {Q : VK} (ht : ∀ i ∈ t.ids, i ∈ own) (h : tSv G (vLc t own mi mc me) σ H Q) : tLc (tIt G mi) (gOf X.K t) (tTst G mc) (tEv G me) own σ H Q := by
  obtain ⟨ua, u, B, env, s, u', hE, hW, hm, q⟩ := h
  obtain ⟨ds, u1, h1, h2⟩ := bnd_some hm
  obtain ⟨r, u2, h3, h4⟩ := bnd_some h2
  split at h4
  · cases h4
    exact ⟨ua, u, B, env, ds, u1, hE, hW, h1, fun J B1 H1 g1 w1 wk => lc_innerO ht (hE.grow g1) w1 wk h3 ‹_› fun v H' a => q v H' (.up g1 a)⟩
  · cases h4
variable {elt tg iter : Expr} {ifs : List Expr} {scope : Scope} {own : List (Str × Nat)} {pos : Pos}
theorem dv_oLc (t : Tgt) (ids : List Nat) (hc : X.calm = true) (hN : X.N.Nodup) (hi : PI X tg iter (tIt G mi)) (ok : BlkOk X.N X.env.scope scope own) (hid : own.map (·.2) = ids) (ht : ∀ i ∈ t.ids, i ∈ ids)
    (hg : ∀ (s : Shared) (H : Hp) (C : Addr) (cl : List (Str × Addr)) (fp : List Addr), PG (X.blk s H scope (compEnvC scope cl C X.env) fp) tg (gOf X.K t)) (hq : ∀ (s : Shared) (H : Hp) (C : Addr) (cl : List (Str × Addr)) (fp : List Addr), PTs (X.blk s H scope (compEnvC scope cl C X.env) fp) ifs (tTst (K := X.K) G mc))
    (he : ∀ (s : Shared) (H : Hp) (C : Addr) (cl : List (Str × Addr)) (fp : List Addr), PE (X.blk s H scope (compEnvC scope cl C X.env) fp) elt (tEv (K := X.K) G me)) (hs : ∀ x, foldedSetIterable iter X.env x = pure x := by intro _; rfl) :
    PE X (.ListComp elt [⟨tg, iter, ifs, 0⟩] scope pos) (tSv G (vLc t ids mi mc me)) := by
  subst hid
  exact (pe_lc hc hN hi ok hg hq he hs).imp fun _ _ _ h => lc_readO ht h
end
/-! ### defs -/
abbrev MO2 := List Sl → U → Option (Oo × U)
def spFO {K : PySem.W.Frag} (G : Gx K) (F : List D → U → Option (Oo × U)) (n : Nat) : Sp := fun vs H Q _ => ∃ ua u B ds o u', Reps G ua ds vs B ∧ ds.length = n ∧ Wd ua u B H ∧ F ds u = some (o, u') ∧ ∀ v H', AftS G ua B H u' (.own o) v H' → Q v H'
def DefOkO (P : Program) (w : World) {K : PySem.W.Frag} (mg : Str → Option Value) (base : Heap) (G : Gx K) (x : Str) (k n : Nat) (F : List D → U → Option (Oo × U)) : Prop :=
  ∃ f fd ps, FnOk P w K mg base CX0 k f fd ps (spFO G F n) ∧ mg x = some (.ref f) ∧ PySem.W.keepIn K (.ref f) = true ∧ Binds K fd ps []
theorem DefOkO.mono {P : Program} {w : World} {K : PySem.W.Frag} {mg : Str → Option Value} {base : Heap} {G : Gx K} {x : Str} {j k n : Nat} {F : List D → U → Option (Oo × U)} (h : DefOkO P w mg base G x j n F) (l : j ≤ k) : DefOkO P w mg base G x k n F := by
  obtain ⟨f, fd, ps, h1, h2⟩ := h
  exact ⟨f, fd, ps, h1.mono l, h2⟩
def tStO {K : PySem.W.Frag} (G : Gx K) (m : MO2) : TS := fun Dn σ H => ∃ ua u B env o u' B0 H0, Grow ua B0 H0 B H ∧ OwnNew env σ H0 ∧ EnvOk G ua env σ B H ∧ Wd ua u B H ∧ m env u = some (o, u') ∧ ∀ v B' H', Grow ua B0 H0 B' H' → Wd ua u' B' H' → SlR G ua H0 (.own o) v B' H' → Dn.rt v H'
section
variable {X : Cx} {G : Gx X.K} {W : WX} {e : Expr} {es : List Expr} {ms : Ms} {pos p : Pos} {st : Stmt} {sts : List Stmt} {m1 : MS} {m2 : MO2} {mv : MSl}
def sConsO (a : MS) (b : MO2) : MO2 := fun env u => bnd (a env u) fun fl u1 => match fl with
  | .nx env' => b env' u1
  | _ => none
theorem dso_cons (h1 : PS X st (tSt G W0 m1)) (h2 : PSs X sts (tStO G m2)) : PSs X (st :: sts) (tStO G (sConsO m1 m2)) := (pss_cons h1 h2).imp fun Dn σ H h => by
  obtain ⟨ua, u, B, env, o, u', B0, H0, hg, hO, hE, hW, hm, q⟩ := h
  obtain ⟨f1, u1, c1, c2⟩ := bnd_some hm
  refine ⟨ua, u, B, env, f1, u1, B0, H0, hg, hO, hE, hW, c1, ?_⟩
  cases f1 with
  | nx env' => exact fun σ' B' H' g o' e w => ⟨ua, u1, B', env', o, u', B0, H0, g, o', e, w, c2, q⟩
  | rt d => cases c2
  | er env' c ns xs => cases c2
def retO (mv : MSl) : MO2 := fun env u => bnd (mv env u) fun s u1 => match s with
  | .own o => some (o, u1)
  | _ => none
theorem dso_ret (he : PE X e (tSv G mv)) : PSs X [.Return (some e) pos] (tStO G (retO mv)) := (pss_one (ps_ret he)).imp fun Dn σ H h => by
  obtain ⟨ua, u, B, env, o, u', B0, H0, hg, hO, hE, hW, hm, q⟩ := h
  obtain ⟨s, u1, c1, c2⟩ := bnd_some hm
  split at c2
  · cases c2
    refine ⟨ua, u, B, env, _, _, hE, hW, c1, fun v H1 ⟨B', g, w, p, ho, e, h1, h2⟩ => q v B' H1 (hg.trans g) w ⟨p, ho, e, hg.live _ h1, h2⟩⟩
  · cases c2
def retV (i : Nat) : MO2 := fun env u => match env[i]? with
  | some (.own o) => some (o, u)
  | _ => none
theorem dso_retV (i : Nat) {x : Str} {px : Pos} (hN : X.N[i]? = some x := by rfl) (hv : Vis X.env.scope x := by first | exact Or.inl rfl | exact Or.inr (Or.inl rfl) | exact Or.inr (Or.inr rfl)) (hd : (x == ("__debug__" : Str)) = false := by decide) (hcd : (x == ("__classdict__" : Str)) = false := by decide) :
    PSs X [.Return (some (.Name x px)) pos] (tStO G (retV i)) := (pss_one (ps_ret (pe_var hN hv hd hcd))).imp fun Dn σ H h => by
  obtain ⟨ua, u, B, env, o, u', B0, H0, hg, hO, hE, hW, hm, q⟩ := h
  unfold retV at hm
  split at hm
  · rename_i o' hi
    cases hm
    obtain ⟨l, ho, s1, s2, s3, s4, s5⟩ := hE.own i _ hi
    exact ⟨_, s1, q _ B H hg hW ⟨l, ho, rfl, hO i _ l hi s1, s2, s3, s5, s4⟩⟩
  · cases hm
def vCallO (n : Nat) (F : List D → U → Option (Oo × U)) (ms : Ms) : MSl := fun env u => bnd (ms env u) fun ds u1 => if ds.length = n then bnd (F ds u1) fun o u2 => some (.own o, u2) else none
theorem dv_callO {x : Str} {k n : Nat} {F : List D → U → Option (Oo × U)} (D0 : DefOkO X.prog X.w X.mg X.base G x k n F) (hr : Room k X.A) (hg : Gl X x) (ha : PA X (e :: es) (tEvs G ms))
    (hdb : (x == ("__debug__" : Str)) = false := by decide) (he : starEach (e :: es) X.env = (false, eval e X.env) :: starEach es X.env := by rfl) (hpl : (backTo pos (starEach es X.env)).any (·.1) = false := by rfl) :
    PE X (.Call (.Name x p) (e :: es) [] pos) (tSv G (vCallO n F ms)) := by
  obtain ⟨f, fd, ps, hf, hm, hk, hb⟩ := D0
  refine (pe_call hf hr hg hm hk hb .nil pass0 ha hdb he hpl).imp fun σ H Q h => ?_
  obtain ⟨ua, u, B, env, s, u', hE, hW, hm, q⟩ := h
  obtain ⟨ds, u1, h1, h2⟩ := bnd_some hm
  split at h2
  · obtain ⟨o, u2, h3, h4⟩ := bnd_some h2
    cases h4
    refine ⟨ua, u, B, env, ds, u1, hE, hW, h1, fun vs H1 ⟨B1, g1, w1, r1⟩ => ?_⟩
    show spFO G F n (vs ++ []) H1 Q E0
    rw [List.append_nil]
    exact ⟨ua, u1, B1, ds, o, _, r1, ‹_›, w1, h3, fun v H2 a => q _ _ (.up g1 a)⟩
  · cases h2
end
def runBO (m : MO2) (L : Nat) (ds : List D) (u : U) : Option (Oo × U) := m (ds.map Sl.pub ++ List.replicate (L - ds.length) Sl.no) u
theorem def_okO {P : Program} {w : World} {K : PySem.W.Frag} {mg : Str → Option Value} {base : Heap} {G : Gx K} {x qual : Str} {st : Stmt} {f : Addr} {fd : FuncData} {N ps : List Str} {k n : Nat} {m : MO2} (F : Fun K x qual st f fd) (S : FnScope N ps (defScope st)) (hn : ps.length = n)
    (hb : ∀ (cdv : Value) (A : Around) (outer : List Env) (s : Shared) (H : Hp) (E : XK), Room k (A.deeper (envOfC qual (defScope st) s.heap.objs.size f cdv)) → PSs (cxOf CX0 P w K mg base N qual (defScope st) f cdv A outer s H E).nox (defBody st) (tStO G m)) :
    FnOk P w K mg base CX0 (k + 1) f fd ps (spFO G (runBO m N.length) n) := by
  refine F.ok S (fun vs H Q E h => ?_) (fun cdv A outer s H vs Q E hr h => ⟨_, hb cdv A outer s H E hr, ?_⟩)
  · obtain ⟨ua, u, B, ds, o, u', r, hl, _⟩ := h
    rw [← r.len, hl, hn]
  · obtain ⟨ua, u, B, ds, o, u', r, hl, hw, hf, q⟩ := h
    exact ⟨ua, u, B, _, o, u', B, H, .refl, own_none r, start_ok r, hw, hf, fun v B' H' g w' r' => q v H' ⟨B', g, w', r'⟩⟩
theorem sConsO_eq {a : MS} {b : MO2} {env env' : List Sl} {u u1 : U} {r : Option (Oo × U)} (h : a env u = some (.nx env', u1)) (h2 : b env' u1 = r) : sConsO a b env u = r := by unfold sConsO; rw [h]; exact h2
theorem retO_eq {mv : MSl} {env : List Sl} {u u1 : U} {o : Oo} (h : mv env u = some (.own o, u1)) : retO mv env u = some (o, u1) := by unfold retO; rw [h]; rfl
theorem vLc_eq {t : Tgt} {own : List Nat} {mi : MI} {mc : MB} {me : M} {env : List Sl} {u u1 u2 : U} {ds r : List D} (h : mi env u = some (ds, u1)) (h2 : compL (turnL t own env mc me) ds u1 = some (r, u2)) (hl : r.length ≤ sizeLine) : vLc t own mi mc me env u = some (.own (.lst r), u2) := by
  unfold vLc; rw [h]; show bnd (compL _ ds u1) _ = _; rw [h2]; exact if_pos hl
theorem vCallO_eq {n : Nat} {F : List D → U → Option (Oo × U)} {ms : Ms} {env : List Sl} {u u1 u2 : U} {ds : List D} {o : Oo} (h : ms env u = some (ds, u1)) (hl : ds.length = n) (h2 : F ds u1 = some (o, u2)) : vCallO n F ms env u = some (.own o, u2) := by
  unfold vCallO; rw [h]; show (if ds.length = n then _ else none) = _; rw [if_pos hl, h2]; rfl
end Dv
namespace Dv
open PySem PySem.Spec PyProof.Rows L2
/-- a, b, c = e, f, g by way of a tuple -/
theorem ds_parvC3 {X : Cx} {G : Gx X.K} {W : WX} {pos : Pos} (i j l : Nat) {e f g : Expr} {mv mw mz : MSl} {x y z : Str} {px py pz pt pt2 : Pos} {kt k2 : Nat} (hc : X.calm = true) (hN : X.N.Nodup) (ha : PE X e (tSv G mv)) (hb : PE X f (tSv G mw)) (hd : PE X g (tSv G mz)) (hi : X.N[i]? = some x := by rfl) (hj : X.N[j]? = some y := by rfl) (hl : X.N[l]? = some z := by rfl)
    (hx : Loc X.env.scope x := by first | exact Or.inl rfl | exact Or.inr rfl) (hy : Loc X.env.scope y := by first | exact Or.inl rfl | exact Or.inr rfl) (hz : Loc X.env.scope z := by first | exact Or.inl rfl | exact Or.inr rfl)
    (hfx : X.fn x = true ∨ X.env.scope.names.lookup x = some .local := by first | exact .inl rfl | exact .inr rfl | assumption) (hfy : X.fn y = true ∨ X.env.scope.names.lookup y = some .local := by first | exact .inl rfl | exact .inr rfl | assumption) (hfz : X.fn z = true ∨ X.env.scope.names.lookup z = some .local := by first | exact .inl rfl | exact .inr rfl | assumption)
    (hs : swapsWithSole [.Tuple [.Name x px, .Name y py, .Name z pz] kt pt] (.Tuple [e, f, g] k2 pt2) pos.line X.env = pure false := by rfl) (hw : swappedStores [.Tuple [.Name x px, .Name y py, .Name z pz] kt pt] (.Tuple [e, f, g] k2 pt2) X.env = pure none := by rfl)
    (h1 : (assignEach [.Tuple [.Name x px, .Name y py, .Name z pz] kt pt] X.env).map (·.2) = [assign (.Tuple [.Name x px, .Name y py, .Name z pz] kt pt) X.env] := by rfl)
    (he1 : starEach (e :: [f, g]) X.env = (false, eval e X.env) :: starEach [f, g] X.env := by rfl) (he2 : starEach (f :: [g]) X.env = (false, eval f X.env) :: starEach [g] X.env := by rfl) (he3 : starEach (g :: []) X.env = (false, eval g X.env) :: starEach [] X.env := by rfl) :
    PS X (.Assign [.Tuple [.Name x px, .Name y py, .Name z pz] kt pt] (.Tuple [e, f, g] k2 pt2) pos) (tSt G W (sParv3 i j l mv mw mz)) :=
  (ps_asg (pe_tup (pa_cons ha (pa_cons hb (pa_cons hd pa_nil he3) he2) he1)) (pg_tup hc (pgs_cons (pg_name hN hi hx hfx) (pgs_cons (pg_name hN hj hy hfy) (pgs_cons (pg_name hN hl hz hfz) pgs_nil))) (n := 3)) hs hw h1).imp fun Dn σ H h => by
  obtain ⟨ua, u, B, env, fl, u', B0, H0, hg, hO, hE, hW, hm, q⟩ := h
  obtain ⟨s, u1, c1, c2⟩ := bnd_some hm
  obtain ⟨s2, u2, c3, c4⟩ := bnd_some c2
  obtain ⟨s3, u3, c5, c6⟩ := bnd_some c4
  cases c6
  refine ⟨ua, u, B, env, s, u1, hE, hW, c1, fun v H1 ⟨B1, g1, w1, r1⟩ => ⟨ua, u1, B1, env, s2, u2, hE.grow g1, w1, c3, fun v2 H2 ⟨B2, g2, w2, r2⟩ => ⟨ua, u2, B2, env, s3, _, (hE.grow g1).grow g2, w2, c5, fun v3 H3 ⟨B3, g3, w3, r3⟩ => ⟨by show 3 ≤ sizeLine; decide, fun T hT => ?_⟩⟩⟩⟩
  have g4 : Grow ua B3 H3 B3 (upd H3 T (.tup [v, v2, v3])) := .own1 w3 hT
  have w4 : Wd ua u' B3 (upd H3 T (.tup [v, v2, v3])) := w3.own1 hT
  refine ⟨T, [v, v2, v3], rfl, .of upd_same, rfl, _, _, rfl, _, _, rfl, _, _, rfl, rfl, ?_⟩
  have gg := g1.trans g2
  have g34 := g3.trans g4
  have ea1 := r1.store (hE.grow g1) i hE.far
  have ea2 := (r1.grow g2).store (hE.grow gg) i hE.far
  have eb2 := r2.store ea2 j fun k es p z1 z2 => ea1.far k es p z1 z2
  have ea3 := ((r1.grow g2).grow g34).store (hE.grow (gg.trans g34)) i hE.far
  have eb3 := (r2.grow g34).store ea3 j fun k es p z1 z2 => ea1.far k es p z1 z2
  have ec3 := (r3.grow g4).store eb3 l fun k es p z1 z2 => eb2.far k es p z1 z2
  have oa := r1.news hO hg.live i
  have ob := r2.news oa (fun a z => hg.live _ (g1.live _ z)) j
  exact q _ B3 _ (hg.trans (gg.trans g34)) (r3.news ob (fun a z => hg.live _ (gg.live _ z)) l) ec3 w4
end Dv

/-! Pk: a look into one's own dict that gives data without dicts. -/
namespace Dv
open PySem PySem.Spec PyProof.Rows L2
mutual
/-- without dicts -/
def noDct : D → Bool
  | .lst ds => noDcts ds
  | .tup ds => noDcts ds
  | .pr ds => noDcts ds
  | .ins _ _ ds => noDcts ds
  | .exc _ _ ds => noDcts ds
  | .dct _ _ => false
  | _ => true
def noDcts : List D → Bool
  | [] => true
  | d :: ds => noDct d && noDcts ds
end
section
variable {K : PySem.W.Frag} {G : Gx K} {ua : Option Addr} {B B' : Hp}
mutual
theorem Rep.trimD (s : ∀ a o, B a = some o → (∀ od kvs, o ≠ .frz od (.dK kvs)) → B' a = some o) : ∀ (d : D) (v : V), noDct d = true → Rep G ua d v B → Rep G ua d v B'
  | .non, v, _, h => by unfold Rep at h ⊢; exact h
  | .bl _, v, _, h => by unfold Rep at h ⊢; exact h
  | .int _, v, _, h => by unfold Rep at h ⊢; exact h
  | .str _, v, _, h => by unfold Rep at h ⊢; exact h
  | .lst ds, v, e, h => by
    unfold Rep at h ⊢
    obtain ⟨a, vs, h1, h3, r⟩ := h
    exact ⟨a, vs, h1, s _ _ h3 (fun _ _ z => by cases z), Reps.trimD s ds vs e r⟩
  | .tup ds, v, e, h => by
    unfold Rep at h ⊢
    obtain ⟨a, vs, h1, ⟨o, h2, h3⟩, r⟩ := h
    exact ⟨a, vs, h1, ⟨o, h2, s _ _ h3 (fun _ _ z => by cases z)⟩, Reps.trimD s ds vs e r⟩
  | .pr ds, v, e, h => by
    unfold Rep at h ⊢
    obtain ⟨a, vs, h1, h3, r⟩ := h
    exact ⟨a, vs, h1, s _ _ h3 (fun _ _ z => by cases z), Reps.trimD s ds vs e r⟩
  | .ins c ns ds, v, e, h => by
    unfold Rep at h ⊢
    obtain ⟨a, C, dx, vs, h1, c1, h3, l, r⟩ := h
    exact ⟨a, C, dx, vs, h1, c1, s _ _ h3 (fun _ _ z => by cases z), l, Reps.trimD s ds vs e r⟩
  | .fn x, v, e, h => by unfold Rep at h ⊢; exact h
  | .dct _ _, v, e, h => by cases e
  | .exc c ns ds, v, e, h => by
    unfold Rep at h ⊢
    obtain ⟨a, C, d, vs, h1, c1, h3, ⟨l, l2⟩, r⟩ := h
    refine ⟨a, C, d, vs, h1, c1, s _ _ h3 (fun _ _ z => by have z' : HO.ext _ = HO.frz _ _ := z; cases z'), ⟨l, ?_⟩, Reps.trimD s ds vs e r⟩
    rcases l2 with l2 | ⟨dd, l2, l3⟩
    · exact .inl l2
    · exact .inr ⟨dd, l2, s _ _ l3 (fun _ _ z => by cases z)⟩
  | .urn, v, _, h => by unfold Rep at h ⊢; exact h
theorem Reps.trimD (s : ∀ a o, B a = some o → (∀ od kvs, o ≠ .frz od (.dK kvs)) → B' a = some o) : ∀ (ds : List D) (vs : List V), noDcts ds = true → Reps G ua ds vs B → Reps G ua ds vs B'
  | [], vs, _, h => by unfold Reps at h ⊢; exact h
  | d :: ds, vs, e, h => by
    unfold noDcts at e
    rw [Bool.and_eq_true] at e
    unfold Reps at h ⊢
    obtain ⟨v, r, h1, q, t⟩ := h
    exact ⟨v, r, h1, Rep.trimD s d v e.1 q, Reps.trimD s ds r e.2 t⟩
end

variable {u u' : U} {H H1 B1 : Hp} {l : Addr} {ho ho' : HO}
theorem peek_backN (w : Wd ua u B H) (hl : H l = some ho) (hb : B l = none) (nu : ua ≠ some l) (g : Grow ua (upd B l ho') (upd H l ho') B1 H1) (w1 : Wd ua u' B1 H1) : Grow ua B H (fun a => if a = l then none else B1 a) (upd H1 l ho) ∧ Wd ua u' (fun a => if a = l then none else B1 a) (upd H1 l ho) := by
  have key : ∀ a x, H a = some x → a ≠ l → ua ≠ some a → H1 a = some x := fun a x e n m => g.keep a x (by rw [upd_ne n]; exact e) m
  refine ⟨⟨fun a x e n => ?_, fun a e => ?_, fun a x e => ?_, fun a x e => ?_⟩, ⟨fun a x e => ?_, fun a e => ?_⟩⟩
  · by_cases q : a = l
    · subst q; rw [hl] at e; cases e; exact upd_same
    · rw [upd_ne q]; exact key a x e q n
  · by_cases q : a = l
    · subst q; rw [upd_same] at e; cases e
    · rw [upd_ne q] at e
      have := g.live a e
      rw [upd_ne q] at this
      exact this
  · have q : a ≠ l := fun z => by rw [z, hb] at e; cases e
    show (if a = l then none else B1 a) = some x
    rw [if_neg q]
    exact g.pub a x (by rw [upd_ne q]; exact e)
  · have e : (if a = l then none else B1 a) = some x := e
    by_cases q : a = l
    · rw [if_pos q] at e; cases e
    · rw [if_neg q] at e
      rcases g.new a x e with z | z
      · rw [upd_ne q] at z; exact .inl z
      · rw [upd_ne q] at z; exact .inr z
  · have e : (if a = l then none else B1 a) = some x := e
    by_cases q : a = l
    · rw [if_pos q] at e; cases e
    · rw [if_neg q] at e
      rw [upd_ne q]; exact w1.sub a x e
  · have q : a ≠ l := fun z => nu (by rw [← z]; exact e)
    rw [upd_ne q]
    refine ⟨?_, (w1.urn a e).2⟩
    show (if a = l then none else B1 a) = none
    rw [if_neg q]; exact (w1.urn a e).1
end
section
variable {X : Cx} {G : Gx X.K} {e : Expr} {me : M}
def isD : Oo → Bool
  | .dct _ _ => true
  | _ => false
def mPeekD (i : Nat) (m : M) : M := fun env u => match env[i]? with
  | some (.own (.dct ks ds)) => bnd (m (env.set i (.pub (.dct ks ds))) u) fun d u1 => if noDct d = true then some (d, u1) else none
  | _ => none
theorem dv_peekD (i : Nat) (h : PE X e (tEv G me)) : PE X e (tEv G (mPeekD i me)) := by
  refine PE.by fun σ H Q z => ?_
  obtain ⟨ua, u, B, env, d, u', hE, hW, hm, q⟩ := z
  unfold mPeekD at hm
  split at hm
  · rename_i ks ds hi
    obtain ⟨d, u1, c1, c2⟩ := bnd_some hm
    split at c2
    · rename_i hsc
      cases c2
      obtain ⟨l, ho, s1, s2, s3, s4, s5⟩ := hE.own i _ hi
      rcases s4.show s3 with ⟨ds', z, r⟩ | ⟨ks', ds', z, mu, r⟩
      · cases z
      · cases z
        refine ⟨_, pe_lock h, l, ho, s2, mu, fun od => ?_⟩
        have hk : ∃ vs, ho = .dK (ks.zip vs) := by
          obtain ⟨vs, e1, _⟩ := s4
          exact ⟨vs, e1⟩
        obtain ⟨vs, hk⟩ := hk
        refine ⟨ua, u, _, _, d, _, hE.show hi s1 s3 (r od), hW.showU s3 s5, c1, fun v H1 ⟨B1, g1, w1, r1⟩ => ?_⟩
        have kl : B1 l = some (.frz od ho) := g1.pub _ _ upd_same
        obtain ⟨g2, w2⟩ := peek_backN hW s2 s3 s5 g1 w1
        refine ⟨g1.keep _ _ upd_same s5, q v _ ⟨_, g2, w2, Rep.trimD (fun a o h1 h2 => ?_) _ _ hsc r1⟩⟩
        show (if a = l then none else B1 a) = some o
        rw [if_neg (fun z => by rw [z, kl] at h1; exact h2 od (ks.zip vs) (by rw [← Option.some.inj h1, hk]))]
        exact h1
    · cases c2
  · cases hm
theorem mPeekD_eq {i : Nat} {m : M} {env : List Sl} {u u1 : U} {ks : List Key} {ds : List D} {d : D} (hi : env[i]? = some (.own (.dct ks ds))) (h : m (env.set i (.pub (.dct ks ds))) u = some (d, u1)) (hs : noDct d = true) : mPeekD i m env u = some (d, u1) := by
  unfold mPeekD; rw [hi]; show bnd (m _ u) _ = _; rw [h]; exact if_pos hs
end
end Dv

namespace Lw76
open PySem PySem.Spec PyProof.Rows L2 Dv
def topS (i : Nat) : Stmt := PySem.Challenge.pw_lateshown_k76_flushes_that_can_be_left_o.main.body.getD i (.Pass ⟨0, 0, 0, 0⟩)
structure Tx (mg : Str → Option Value) : Prop where
  n_abs : mg ("abs" : Str) = none
  n_all : mg ("all" : Str) = none
  n_bool : mg ("bool" : Str) = none
  n_enumerate : mg ("enumerate" : Str) = none
  n_int : mg ("int" : Str) = none
  n_isinstance : mg ("isinstance" : Str) = none
  n_len : mg ("len" : Str) = none
  n_list : mg ("list" : Str) = none
  n_range : mg ("range" : Str) = none
  n_sorted : mg ("sorted" : Str) = none
  n_str : mg ("str" : Str) = none
  n_tuple : mg ("tuple" : Str) = none
  n_zip : mg ("zip" : Str) = none
  c_FLUSH : ∃ t, mg ("FLUSH" : Str) = some (.str ("flush" : Str) t)
  c_LETTERS : ∃ t, mg ("LETTERS" : Str) = some (.str ("abcdefghijklmnopqrstuvwxyz" : Str) t)
  c_WRITE : ∃ t, mg ("WRITE" : Str) = some (.str ("write" : Str) t)

abbrev s_is_number : Stmt := topS 1
theorem sc_is_number : FnScope [("thing" : Str)] [("thing" : Str)] (defScope s_is_number) := ⟨rfl, rfl, rfl, by decide +kernel, rfl, by decide +kernel, by decide +kernel⟩
def m_is_number : MS := (sCons (sRet (mAnd (mIsi ["int"] (mVar 0)) (mNot (mIsi ["bool"] (mVar 0)))))
    sNil)
def F_is_number : List D → U → Option (D × U) := runB m_is_number 1
theorem ok_is_number {P : Program} {w : World} {K : PySem.W.Frag} {mg : Str → Option Value} {base : Heap} {G : Gx K} (T : Tx mg) {f : Addr} {fd : FuncData} (F : Fun K ("is_number" : Str) ("is_number" : Str) s_is_number f fd)  : FnOk P w K mg base CX0 1 f fd [("thing" : Str)] (spF G F_is_number 1) :=
  have nd := sc_is_number.nd
  def_ok F sc_is_number rfl fun cdv A outer s H E hr => (dss_cons (ds_ret (dv_and (dv_isi rfl T.n_isinstance (dv_var 0) rfl T.n_int (by decide +kernel)) (dv_one _ (dv_not (dv_isi rfl T.n_isinstance (dv_var 0) rfl T.n_bool (by decide +kernel))))))
    dss_nil)
abbrev s_is_pair : Stmt := topS 2
theorem sc_is_pair : FnScope [("thing" : Str)] [("thing" : Str)] (defScope s_is_pair) := ⟨rfl, rfl, rfl, by decide +kernel, rfl, by decide +kernel, by decide +kernel⟩
def m_is_pair : MS := (sCons (sRet (mAnd (mIsi ["tuple"] (mVar 0)) (mBin cEq (mBi bLen (mCons (mVar 0) mNil)) (mC (.int (2))))))
    sNil)
def F_is_pair : List D → U → Option (D × U) := runB m_is_pair 1
theorem ok_is_pair {P : Program} {w : World} {K : PySem.W.Frag} {mg : Str → Option Value} {base : Heap} {G : Gx K} (T : Tx mg) {f : Addr} {fd : FuncData} (F : Fun K ("is_pair" : Str) ("is_pair" : Str) s_is_pair f fd)  : FnOk P w K mg base CX0 1 f fd [("thing" : Str)] (spF G F_is_pair 1) :=
  have nd := sc_is_pair.nd
  def_ok F sc_is_pair rfl fun cdv A outer s H E hr => (dss_cons (ds_ret (dv_and (dv_isi rfl T.n_isinstance (dv_var 0) rfl T.n_tuple (by decide +kernel)) (dv_one _ (dv_cmp (ok_eq (hU64 hr)) (dv_bi ok_len rfl T.n_len (by decide +kernel) (dvs_cons (dv_var 0) dvs_nil)) dv_int))))
    dss_nil)
abbrev s_is_name : Stmt := topS 11
theorem sc_is_name : FnScope [("thing" : Str), ("letter" : Str)] [("thing" : Str)] (defScope s_is_name) := ⟨rfl, rfl, rfl, by decide +kernel, rfl, by decide +kernel, by decide +kernel⟩
def m_is_name : MS := (sCons (sIf (mOrB (mNotB (mTru (mIsi ["str"] (mVar 0)))) (mNotB (mTru (mChain cLe cLe (mC (.int (1))) (mBi bLen (mCons (mVar 0) mNil)) (mC (.int (8))))))) (sCons (sRet (mC (.bl false)))
    sNil) sNil)
    (sCons (sRet (mBi bAll (mCons (mLc (.one 1) [1] (mItems (mVar 0)) mYes (mBin cIn (mVar 1) (mC (.str ("abcdefghijklmnopqrstuvwxyz" : Str))))) mNil)))
    sNil))
def F_is_name : List D → U → Option (D × U) := runB m_is_name 2
theorem ok_is_name {P : Program} {w : World} {K : PySem.W.Frag} {mg : Str → Option Value} {base : Heap} {G : Gx K} (T : Tx mg) {f : Addr} {fd : FuncData} (F : Fun K ("is_name" : Str) ("is_name" : Str) s_is_name f fd)  : FnOk P w K mg base CX0 1 f fd [("thing" : Str)] (spF G F_is_name 1) :=
  have nd := sc_is_name.nd
  def_ok F sc_is_name rfl fun cdv A outer s H E hr => (dss_cons (ds_if (PW.pt (dw_or (dt_not (dt_val (dv_isi rfl T.n_isinstance (dv_var 0) rfl T.n_str (by decide +kernel)))) (dw_or1 (dt_not (dt_chain ok_le ok_le bf_le dv_int (dv_bi ok_len rfl T.n_len (by decide +kernel) (dvs_cons (dv_var 0) dvs_nil)) dv_int))))) (dss_cons (ds_ret dv_bl)
    dss_nil) dss_nil)
    (dss_cons (ds_ret (dv_bi (ok_all (by rfl)) rfl T.n_all (by decide +kernel) (dvs_cons (dv_lc (.one 1) [1] rfl nd (di_items (dv_var 0)) (blkOk_by (own := [(("letter" : Str), 1)]) (N := [("thing" : Str), ("letter" : Str)]) (sc := defScope s_is_name) (by decide +kernel)) rfl (by decide) (fun _ _ _ _ _ => (pg_name (i := 1) nd rfl (by first | exact Or.inl rfl | exact Or.inr rfl))) (fun _ _ _ _ _ => dts_no) (fun _ _ _ _ _ => (dv_cmp (ok_in (hU65 hr)) (dv_var 1) (dv_gS rfl T.c_LETTERS)))) dvs_nil)))
    dss_nil))
abbrev s_is_line : Stmt := topS 12
theorem sc_is_line : FnScope [("thing" : Str)] [("thing" : Str)] (defScope s_is_line) := ⟨rfl, rfl, rfl, by decide +kernel, rfl, by decide +kernel, by decide +kernel⟩
def m_is_line : MS := (sCons (sRet (mAnd (mCall 1 F_is_pair (mCons (mVar 0) mNil)) (mAnd (mCall 1 F_is_name (mCons (mBin ixD (mVar 0) (mC (.int (0)))) mNil)) (mAnd (mCall 1 F_is_number (mCons (mBin ixD (mVar 0) (mC (.int (1)))) mNil)) (mBin cGe (mBin ixD (mVar 0) (mC (.int (1)))) (mC (.int (1))))))))
    sNil)
def F_is_line : List D → U → Option (D × U) := runB m_is_line 1
theorem ok_is_line {P : Program} {w : World} {K : PySem.W.Frag} {mg : Str → Option Value} {base : Heap} {G : Gx K} (T : Tx mg) {f : Addr} {fd : FuncData} (F : Fun K ("is_line" : Str) ("is_line" : Str) s_is_line f fd) (D_is_name : DefOk P w mg base G ("is_name" : Str) 1 1 F_is_name) (D_is_number : DefOk P w mg base G ("is_number" : Str) 1 1 F_is_number) (D_is_pair : DefOk P w mg base G ("is_pair" : Str) 1 1 F_is_pair) : FnOk P w K mg base CX0 2 f fd [("thing" : Str)] (spF G F_is_line 1) :=
  have nd := sc_is_line.nd
  def_ok F sc_is_line rfl fun cdv A outer s H E hr => (dss_cons (ds_ret (dv_and (dv_call (D_is_pair.mono (by decide)) hr rfl (dvs_cons (dv_var 0) dvs_nil)) (dv_and (dv_call (D_is_name.mono (by decide)) hr rfl (dvs_cons (dv_ix (dv_var 0) dv_int) dvs_nil)) (dv_and (dv_call (D_is_number.mono (by decide)) hr rfl (dvs_cons (dv_ix (dv_var 0) dv_int) dvs_nil)) (dv_one _ (dv_cmp ok_ge (dv_ix (dv_var 0) dv_int) dv_int))))))
    dss_nil)
abbrev s_tupled : Stmt := topS 3
theorem sc_tupled : FnScope [("worth" : Str), ("part" : Str)] [("worth" : Str)] (defScope s_tupled) := ⟨rfl, rfl, rfl, by decide +kernel, rfl, by decide +kernel, by decide +kernel⟩
def m_tupled (F_tupled_ : List D → U → Option (D × U)) : MS := (sCons (sIf (mTru (mIsi ["list", "tuple"] (mVar 0))) (sCons (sRet (mBi bTuple (mCons (mLc (.one 1) [1] (mItems (mVar 0)) mYes (mCall 1 F_tupled_ (mCons (mVar 1) mNil))) mNil)))
    sNil) sNil)
    (sCons (sRet (mVar 0))
    sNil))
def FR_tupled : Nat → List D → U → Option (D × U)
  | 0 => fun _ _ => none
  | n + 1 => runB (m_tupled (FR_tupled n)) 2
theorem okR_tupled {P : Program} {w : World} {K : PySem.W.Frag} {mg : Str → Option Value} {base : Heap} {G : Gx K} (T : Tx mg) {f : Addr} {fd : FuncData} (F : Fun K ("tupled" : Str) ("tupled" : Str) s_tupled f fd) (hm : mg ("tupled" : Str) = some (.ref f)) (hb : Binds K fd [("worth" : Str)] [])  : ∀ n : Nat, FnOk P w K mg base CX0 (0 + n) f fd [("worth" : Str)] (spF G (FR_tupled n) 1)
  | 0 => ⟨fun _ _ _ _ h => (by obtain ⟨_, _, _, _, _, _, _, _, _, h, _⟩ := h; cases h), fun _ _ _ _ _ _ _ _ _ _ _ _ _ h => (by obtain ⟨_, _, _, _, _, _, _, _, _, h, _⟩ := h; cases h)⟩
  | n + 1 =>
    have nd := sc_tupled.nd
    have D_tupled : DefOk P w mg base G ("tupled" : Str) (0 + n) 1 (FR_tupled n) := ⟨f, fd, _, okR_tupled T F hm hb  n, hm, F.kp, hb⟩
    def_ok (k := 0 + n) F sc_tupled rfl fun cdv A outer s H E hr => (dss_cons (ds_if (dt_val (dv_isi2 rfl T.n_isinstance (dv_var 0) rfl T.n_list (by decide +kernel) rfl T.n_tuple (by decide +kernel))) (dss_cons (ds_ret (dv_ty ok_tuple rfl T.n_tuple (by decide +kernel) (dvs_cons (dv_lc (.one 1) [1] rfl nd (di_items (dv_var 0)) (blkOk_by (own := [(("part" : Str), 1)]) (N := [("worth" : Str), ("part" : Str)]) (sc := defScope s_tupled) (by decide +kernel)) rfl (by decide) (fun _ _ _ _ _ => (pg_name (i := 1) nd rfl (by first | exact Or.inl rfl | exact Or.inr rfl))) (fun _ _ _ _ _ => dts_no) (fun _ _ _ _ _ => (dv_call (D_tupled) hr rfl (dvs_cons (dv_var 1) dvs_nil)))) dvs_nil)))
    dss_nil) dss_nil)
    (dss_cons (ds_ret (dv_var 0))
    dss_nil))
abbrev s_NoPlace___init__ : Stmt := inClass (topS 5) 0
theorem sc_NoPlace___init__ : FnScope [("self" : Str), ("place" : Str)] [("self" : Str), ("place" : Str)] (defScope s_NoPlace___init__) := ⟨rfl, rfl, rfl, by decide +kernel, rfl, by decide +kernel, by decide +kernel⟩
def F_NoPlace : List D → U → Option (D × U) := fun ds u => (mVar 1) (Sl.no :: ds.map Sl.pub) u
theorem ok_NoPlace___init__ {P : Program} {w : World} {K : PySem.W.Frag} {mg : Str → Option Value} {base : Heap} {G : Gx K} (T : Tx mg) {C f : Addr} {fd : FuncData} {B newId initId : String} {bmB : List Value} (T0 : OxC K C B newId initId bmB) (hno : PySem.W.findIn K (.ref C) ("place" : Str) = some none) (F : Fun K "__init__" ("NoPlace.__init__" : Str) s_NoPlace___init__ f fd)  : FnOk P w K mg base CX0 1 f fd [("self" : Str), ("place" : Str)] (spEr G C ("place" : Str) F_NoPlace) :=
  erInit_ok T0 hno F sc_NoPlace___init__ rfl (fun cdv A outer s H E hr => (dv_var 1)) (fun _ _ _ _ _ _ => by first | exact Or.inl rfl | exact Or.inr (Or.inl rfl)) (fun _ _ _ _ _ _ => rfl) (by decide) (by decide)
def F_numbered : List D → U → Option (D × U) := numF
def writesL (ts : List D) (u : U) : Option (List D × U) := compL (turnL (.many [2, 3]) [2, 3] [.no, .no, .no, .no] (mTru (mBin cEq (mVar 2) (mC (.str ("write" : Str))))) (mVar 3)) ts u
def F_Program : List D → U → Option (D × U) := fun as u => match as with
  | [d] => bnd (FR_tupled 6 [d] u) fun t u1 => match t with
    | .tup ts => bnd (writesL ts u1) fun ws u2 => if ws.length ≤ sizeLine then bnd (F_numbered [.tup ws] u2) fun ls u3 => some (.ins "Program" ["_deeds", "_writes", "_lines"] [.tup ts, .tup ws, ls], u3) else none
    | _ => none
  | _ => none
def F_Program0 : List D → U → Option (D × U) := fun as u => match as with
  | [] => F_Program [.tup []] u
  | _ => none
abbrev s_deed_in : Stmt := topS 15
theorem sc_deed_in : FnScope [("text" : Str), ("stream" : Str)] [("text" : Str)] (defScope s_deed_in) := ⟨rfl, rfl, rfl, by decide +kernel, rfl, by decide +kernel, by decide +kernel⟩
def m_deed_in : MS := (sCons (sSet 1 (mBin rmpD (mVar 0) (mC (.str ("!" : Str)))))
    (sCons (sIf (mNotB (mTru (mCall 1 F_is_name (mCons (mVar 1) mNil)))) (sCons sNone
    sNil) sNil)
    (sCons (sRet (mTup (mCons (mIte (mTru (mBin stwD (mVar 0) (mC (.str ("!" : Str))))) (mC (.str ("flush" : Str))) (mC (.str ("write" : Str)))) (mCons (mVar 1) mNil))))
    sNil)))
def F_deed_in : List D → U → Option (D × U) := runB m_deed_in 2
theorem ok_deed_in {P : Program} {w : World} {K : PySem.W.Frag} {mg : Str → Option Value} {base : Heap} {G : Gx K} (T : Tx mg) {f : Addr} {fd : FuncData} (F : Fun K ("deed_in" : Str) ("deed_in" : Str) s_deed_in f fd) (D_is_name : DefOk P w mg base G ("is_name" : Str) 1 1 F_is_name) : FnOk P w K mg base CX0 2 f fd [("text" : Str)] (spF G F_deed_in 1) :=
  have nd := sc_deed_in.nd
  def_ok F sc_deed_in rfl fun cdv A outer s H E hr => (dss_cons (ds_set 1 nd (dv_rmp (dv_var 0) dv_str))
    (dss_cons (ds_if (dt_not (dt_val (dv_call (D_is_name.mono (by decide)) hr rfl (dvs_cons (dv_var 1) dvs_nil)))) (dss_cons ds_never
    dss_nil) dss_nil)
    (dss_cons (ds_ret (dv_tup (dvs_cons (dv_ite (dt_val (dv_stw (dv_var 0) dv_str)) (dv_gS rfl T.c_FLUSH) (dv_gS rfl T.c_WRITE)) (dvs_cons (dv_var 1) dvs_nil))))
    dss_nil)))
abbrev s_Program_deeds : Stmt := inClass (topS 16) 1
theorem sc_Program_deeds : FnScope [("self" : Str)] [("self" : Str)] (defScope s_Program_deeds) := ⟨rfl, rfl, rfl, by decide +kernel, rfl, by decide +kernel, by decide +kernel⟩
def m_Program_deeds : MS := (sCons (sRet (mFld ("Program" : Str) ("_deeds" : Str) (mVar 0)))
    sNil)
def F_Program_deeds : List D → U → Option (D × U) := runB m_Program_deeds 1
theorem ok_Program_deeds {P : Program} {w : World} {K : PySem.W.Frag} {mg : Str → Option Value} {base : Heap} {G : Gx K} (T : Tx mg) {f : Addr} {fd : FuncData} (F : Fun K ("deeds" : Str) ("Program.deeds" : Str) s_Program_deeds f fd) (FO__deeds : FldOk G ("Program" : Str) ("_deeds" : Str)) : FnOk P w K mg base CX0 1 f fd [("self" : Str)] (spF G F_Program_deeds 1) :=
  have nd := sc_Program_deeds.nd
  def_ok F sc_Program_deeds rfl fun cdv A outer s H E hr => (dss_cons (ds_ret (dv_fld FO__deeds (dv_var 0)))
    dss_nil)
abbrev s_Program_of : Stmt := inClass (topS 16) 6
theorem sc_Program_of : FnScope [("text" : Str), ("word" : Str)] [("text" : Str)] (defScope s_Program_of) := ⟨rfl, rfl, rfl, by decide +kernel, rfl, by decide +kernel, by decide +kernel⟩
def m_Program_of : MS := (sCons (sIf (mTru (mBin cEq (mVar 0) (mC (.str ("-" : Str))))) (sCons (sRet (mCall 0 F_Program0 mNil))
    sNil) sNil)
    (sCons (sRet (mCall 1 F_Program (mCons (mLc (.one 1) [1] (mItems (mBin splD (mVar 0) (mC (.str (" " : Str))))) mYes (mCall 1 F_deed_in (mCons (mVar 1) mNil))) mNil)))
    sNil))
def F_Program_of : List D → U → Option (D × U) := runB m_Program_of 2
theorem ok_Program_of {P : Program} {w : World} {K : PySem.W.Frag} {mg : Str → Option Value} {base : Heap} {G : Gx K} (T : Tx mg) {f : Addr} {fd : FuncData} (F : Fun K ("of" : Str) ("Program.of" : Str) s_Program_of f fd) (D_Program : MakeOk P w mg base G ("Program" : Str) 7 1 F_Program) (M0_Program : MakeOk P w mg base G ("Program" : Str) 7 0 F_Program0) (D_deed_in : DefOk P w mg base G ("deed_in" : Str) 2 1 F_deed_in) : FnOk P w K mg base CX0 9 f fd [("text" : Str)] (spF G F_Program_of 1) :=
  have nd := sc_Program_of.nd
  def_ok F sc_Program_of rfl fun cdv A outer s H E hr => (dss_cons (ds_if (dt_cmp (ok_eq (hU64 hr)) bf_eq (dv_var 0) dv_str) (dss_cons (ds_ret (dv_make0 (M0_Program.mono (by decide)) hr rfl))
    dss_nil) dss_nil)
    (dss_cons (ds_ret (dv_make (D_Program.mono (by decide)) hr rfl (dvs_cons (dv_lc (.one 1) [1] rfl nd (di_items (dv_split (dv_var 0) dv_str)) (blkOk_by (own := [(("word" : Str), 1)]) (N := [("text" : Str), ("word" : Str)]) (sc := defScope s_Program_of) (by decide +kernel)) rfl (by decide) (fun _ _ _ _ _ => (pg_name (i := 1) nd rfl (by first | exact Or.inl rfl | exact Or.inr rfl))) (fun _ _ _ _ _ => dts_no) (fun _ _ _ _ _ => (dv_call (D_deed_in.mono (by decide)) hr rfl (dvs_cons (dv_var 1) dvs_nil)))) dvs_nil)))
    dss_nil))
abbrev s_Program___len__ : Stmt := inClass (topS 16) 7
theorem sc_Program___len__ : FnScope [("self" : Str)] [("self" : Str)] (defScope s_Program___len__) := ⟨rfl, rfl, rfl, by decide +kernel, rfl, by decide +kernel, by decide +kernel⟩
def m_Program___len__ : MS := (sCons (sRet (mBi bLen (mCons (mFld ("Program" : Str) ("_deeds" : Str) (mVar 0)) mNil)))
    sNil)
def F_Program___len__ : List D → U → Option (D × U) := runB m_Program___len__ 1
theorem ok_Program___len__ {P : Program} {w : World} {K : PySem.W.Frag} {mg : Str → Option Value} {base : Heap} {G : Gx K} (T : Tx mg) {f : Addr} {fd : FuncData} (F : Fun K ("__len__" : Str) ("Program.__len__" : Str) s_Program___len__ f fd) (FO__deeds : FldOk G ("Program" : Str) ("_deeds" : Str)) : FnOk P w K mg base CX0 1 f fd [("self" : Str)] (spF G F_Program___len__ 1) :=
  have nd := sc_Program___len__.nd
  def_ok F sc_Program___len__ rfl fun cdv A outer s H E hr => (dss_cons (ds_ret (dv_bi ok_len rfl T.n_len (by decide +kernel) (dvs_cons (dv_fld FO__deeds (dv_var 0)) dvs_nil)))
    dss_nil)
abbrev s_check_place : Stmt := topS 17
theorem sc_check_place : FnScope [("place" : Str), ("last" : Str)] [("place" : Str), ("last" : Str)] (defScope s_check_place) := ⟨rfl, rfl, rfl, by decide +kernel, rfl, by decide +kernel, by decide +kernel⟩
def m_check_place : MS := (sCons (sIf (mTru (mBin (rngN true) (mVar 0) (mBin fAdd (mVar 1) (mC (.int (1)))))) (sCons (sRaise ("NoPlace" : Str) ("place" : Str) F_NoPlace (mVar 0))
    sNil) sNil)
    sNil)
def F_check_place : List D → U → Option (R × U) := runBX m_check_place 2
theorem ok_check_place {P : Program} {w : World} {K : PySem.W.Frag} {mg : Str → Option Value} {base : Heap} {G : Gx K} (T : Tx mg) {f : Addr} {fd : FuncData} (F : Fun K ("check_place" : Str) ("check_place" : Str) s_check_place f fd) (E_NoPlace : ErMk P w mg base G ("NoPlace" : Str) ("place" : Str) 1 F_NoPlace) : FnOk P w K mg base (L2.CX P w) 3 f fd [("place" : Str), ("last" : Str)] (spX G F_check_place 2) :=
  have nd := sc_check_place.nd
  def_okX F sc_check_place rfl fun cdv A outer s H E hr tk hp => (dss_cons (ds_if (dt_notinR rfl T.n_range (by decide +kernel) (dv_var 0) (dv_bin ok_add (dv_var 1) dv_int)) (dss_cons (ds_raise (E_NoPlace.mono (by decide)) rfl tk hr rfl (dv_var 0))
    dss_nil) dss_nil)
    dss_nil)
abbrev s_counted : Stmt := topS 18
theorem sc_counted : FnScope [("many" : Str), ("stream" : Str), ("number" : Str)] [("many" : Str)] (defScope s_counted) := ⟨rfl, rfl, rfl, by decide +kernel, rfl, by decide +kernel, by decide +kernel⟩
def m_counted : MS := (sCons (sRet (mBi bTuple (mCons (mBi bSortB (mCons (mLc (.many [1, 2]) [1, 2] (mDItems (mVar 0)) (mTru (mBin cGt (mVar 2) (mC (.int (0))))) (mTup (mCons (mVar 1) (mCons (mVar 2) mNil)))) mNil)) mNil)))
    sNil)
def F_counted : List D → U → Option (D × U) := runB m_counted 3
theorem ok_counted {P : Program} {w : World} {K : PySem.W.Frag} {mg : Str → Option Value} {base : Heap} {G : Gx K} (T : Tx mg) {f : Addr} {fd : FuncData} (F : Fun K ("counted" : Str) ("counted" : Str) s_counted f fd)  : FnOk P w K mg base CX0 1 f fd [("many" : Str)] (spF G F_counted 1) :=
  have nd := sc_counted.nd
  def_ok F sc_counted rfl fun cdv A outer s H E hr => (dss_cons (ds_ret (dv_ty ok_tuple rfl T.n_tuple (by decide +kernel) (dvs_cons (dv_bi (ok_sortB (hU64 hr)) rfl T.n_sorted (by decide +kernel) (dvs_cons (dv_lc (.many [1, 2]) [1, 2] rfl nd (di_ditems (dv_var 0)) (blkOk_by (own := [(("stream" : Str), 1), (("number" : Str), 2)]) (N := [("many" : Str), ("stream" : Str), ("number" : Str)]) (sc := defScope s_counted) (by decide +kernel)) rfl (by decide) (fun _ _ _ _ _ => (pg_tup rfl (pgs_cons (pg_name (i := 1) nd rfl (by first | exact Or.inl rfl | exact Or.inr rfl)) (pgs_cons (pg_name (i := 2) nd rfl (by first | exact Or.inl rfl | exact Or.inr rfl)) pgs_nil)))) (fun _ _ _ _ _ => dts_one (dt_cmp ok_gt bf_gt (dv_var 2) dv_int)) (fun _ _ _ _ _ => (dv_tup (dvs_cons (dv_var 1) (dvs_cons (dv_var 2) dvs_nil))))) dvs_nil)) dvs_nil)))
    dss_nil)
abbrev s_without_deed : Stmt := topS 19
theorem sc_without_deed : FnScope [("program" : Str), ("place" : Str)] [("program" : Str), ("place" : Str)] (defScope s_without_deed) := ⟨rfl, rfl, rfl, by decide +kernel, rfl, by decide +kernel, by decide +kernel⟩
def m_without_deed : MS := (sCons (sDropX (xCall 2 F_check_place (mCons (mVar 1) (mCons (mBin fSub (mBiU (lenO ("Program" : Str) F_Program___len__) (mCons (mVar 0) mNil)) (mC (.int (1)))) mNil))))
    (sCons (sRet (mCall 1 F_Program (mCons (mBin fAdd (mSl (mPrp ("Program" : Str) F_Program_deeds (mVar 0)) moNo (moAt (mVar 1))) (mSl (mPrp ("Program" : Str) F_Program_deeds (mVar 0)) (moAt (mBin fAdd (mVar 1) (mC (.int (1))))) moNo)) mNil)))
    sNil))
def F_without_deed : List D → U → Option (R × U) := runBX m_without_deed 2
theorem ok_without_deed {P : Program} {w : World} {K : PySem.W.Frag} {mg : Str → Option Value} {base : Heap} {G : Gx K} (T : Tx mg) {f : Addr} {fd : FuncData} (F : Fun K ("without_deed" : Str) ("without_deed" : Str) s_without_deed f fd) (P_deeds : PrpOk P w mg base G ("Program" : Str) ("deeds" : Str) 1 F_Program_deeds) (S___len__ : SpcOk P w mg base G ("Program" : Str) ("__len__" : Str) 1 1 F_Program___len__) (D_Program : MakeOk P w mg base G ("Program" : Str) 7 1 F_Program) (DX_check_place : DefOkX P w mg base G ("check_place" : Str) 3 2 F_check_place) : FnOk P w K mg base (L2.CX P w) 9 f fd [("program" : Str), ("place" : Str)] (spX G F_without_deed 2) :=
  have nd := sc_without_deed.nd
  def_okX F sc_without_deed rfl fun cdv A outer s H E hr tk hp => (dss_cons (dsx_drop (dx_call (DX_check_place.mono (by decide)) tk hr rfl (dvs_cons (dv_var 1) (dvs_cons (dv_bin ok_sub (dv_biU (ok_lenU (S___len__.mono (by decide)) hr ok_len) rfl T.n_len (by decide +kernel) (dvs_cons (dv_var 0) dvs_nil)) dv_int) dvs_nil))))
    (dss_cons (ds_ret (dv_make (D_Program.mono (by decide)) hr rfl (dvs_cons (dv_bin ok_add (dv_sl (dv_prp (P_deeds.mono (by decide)) hr (dv_var 0)) do_no (do_at (dv_var 1))) (dv_sl (dv_prp (P_deeds.mono (by decide)) hr (dv_var 0)) (do_at (dv_bin ok_add (dv_var 1) dv_int)) do_no)) dvs_nil)))
    dss_nil))
abbrev s_table_of : Stmt := topS 21
theorem sc_table_of : FnScope [("program" : Str), ("written" : Str), ("out" : Str), ("rows" : Str), ("word" : Str), ("stream" : Str), ("others" : Str), ("name" : Str)] [("program" : Str)] (defScope s_table_of) := ⟨rfl, rfl, rfl, by decide +kernel, rfl, by decide +kernel, by decide +kernel⟩
def m_table_of : MS := (sCons (sSv 1 vDct)
    (sCons (sSv 2 vDct)
    (sCons (sSv 3 (vLst mNil))
    (sCons (sFor (.many [4, 5]) (mItems (mPrp ("Program" : Str) F_Program_deeds (mVar 0))) (sCons (sIf (mTru (mBin cEq (mVar 4) (mC (.str ("flush" : Str))))) (sCons (sPutD 2 (mVar 5) (mPeek 1 (mGet2 (mVar 1) (mVar 5) (mC (.int (0))))))
    sNil) (sCons (sPutD 1 (mVar 5) (mBin fAdd (mPeek 1 (mGet2 (mVar 1) (mVar 5) (mC (.int (0))))) (mC (.int (1)))))
    (sCons (sSv 6 (vPeek 2 (vDC (.one 7) [7] (mItemsK (mVar 2)) (mTru (mBin cNe (mVar 7) (mVar 5))) (mVar 7) (mBin dixD (mVar 2) (mVar 7)))))
    (sPub 6
    (sCons (sApp 3 (mTup (mCons (mTup (mCons (mVar 5) (mCons (mPeek 1 (mBin dixD (mVar 1) (mVar 5))) mNil))) (mCons (mCall 1 F_counted (mCons (mVar 6) mNil)) mNil))))
    sNil)))))
    sNil))
    (sPub 3
    (sCons (sRet (mBi bTuple (mCons (mBi bSortB (mCons (mVar 3) mNil)) mNil)))
    sNil))))))
def F_table_of : List D → U → Option (D × U) := runB m_table_of 8
theorem ok_table_of {P : Program} {w : World} {K : PySem.W.Frag} {mg : Str → Option Value} {base : Heap} {G : Gx K} (T : Tx mg) {f : Addr} {fd : FuncData} (F : Fun K ("table_of" : Str) ("table_of" : Str) s_table_of f fd) (P_deeds : PrpOk P w mg base G ("Program" : Str) ("deeds" : Str) 1 F_Program_deeds) (D_counted : DefOk P w mg base G ("counted" : Str) 1 1 F_counted) : FnOk P w K mg base CX0 3 f fd [("program" : Str)] (spF G F_table_of 1) :=
  have nd := sc_table_of.nd
  def_ok F sc_table_of rfl fun cdv A outer s H E hr => (dss_cons (ds_setv 1 nd dv_oDct)
    (dss_cons (ds_setv 2 nd dv_oDct)
    (dss_cons (ds_setv 3 nd (dv_oLst dvs_nil))
    (dss_cons (ds_for (.many [4, 5]) PassesOwn.never rfl (di_items (dv_prp (P_deeds.mono (by decide)) hr (dv_var 0))) (pg_tup rfl (pgs_cons (pg_name (i := 4) nd rfl (by first | exact Or.inl rfl | exact Or.inr rfl)) (pgs_cons (pg_name (i := 5) nd rfl (by first | exact Or.inl rfl | exact Or.inr rfl)) pgs_nil))) (dss_cons (ds_if (dt_cmp (ok_eq (hU64 hr)) bf_eq (dv_var 4) (dv_gS rfl T.c_FLUSH)) (dss_cons (ds_putD 2 (hU1 hr) (dv_var 5) (dv_peek 1 (dv_get2 (hU1 hr) ⟨rfl, rfl, rfl, rfl⟩ (dv_var 1) (dv_var 5) dv_int)))
    dss_nil) (dss_cons (ds_putD 1 (hU1 hr) (dv_var 5) (dv_bin ok_add (dv_peek 1 (dv_get2 (hU1 hr) ⟨rfl, rfl, rfl, rfl⟩ (dv_var 1) (dv_var 5) dv_int)) dv_int))
    (dss_cons (ds_ofAsg 6 (asg_peek 6 2 (pa_dc 6 (.one 7) [7] rfl nd (sw_trueD rfl rfl rfl (by decide +kernel)) (di_itemsK (dv_var 2)) (blkOk_by (own := [(("name" : Str), 7)]) (N := [("program" : Str), ("written" : Str), ("out" : Str), ("rows" : Str), ("word" : Str), ("stream" : Str), ("others" : Str), ("name" : Str)]) (sc := defScope s_table_of) (by decide +kernel)) rfl (by decide) (fun _ _ _ _ _ => (pg_name (i := 7) nd rfl (by first | exact Or.inl rfl | exact Or.inr rfl))) (fun _ _ _ _ _ => dts_one (dt_cmp (ok_ne (hU64 hr)) bf_ne (dv_var 7) (dv_var 5))) (fun _ _ _ _ _ => (dv_var 7)) (fun _ _ _ _ _ => (dv_dix (hU1 hr) (dv_var 2) (dv_var 7))))))
    (dss_pub 6
    (dss_cons (ds_app 3 (dv_tup (dvs_cons (dv_tup (dvs_cons (dv_var 5) (dvs_cons (dv_peek 1 (dv_dix (hU1 hr) (dv_var 1) (dv_var 5))) dvs_nil))) (dvs_cons (dv_call (D_counted.mono (by decide)) hr rfl (dvs_cons (dv_var 6) dvs_nil)) dvs_nil))))
    dss_nil)))))
    dss_nil))
    (dss_pub 3
    (dss_cons (ds_ret (dv_ty ok_tuple rfl T.n_tuple (by decide +kernel) (dvs_cons (dv_bi (ok_sortB (hU64 hr)) rfl T.n_sorted (by decide +kernel) (dvs_cons (dv_var 3) dvs_nil)) dvs_nil)))
    dss_nil))))))
abbrev s_flush_places : Stmt := topS 23
theorem sc_flush_places : FnScope [("program" : Str), ("place" : Str), ("word" : Str), ("_" : Str)] [("program" : Str)] (defScope s_flush_places) := ⟨rfl, rfl, rfl, by decide +kernel, rfl, by decide +kernel, by decide +kernel⟩
def m_flush_places : MS := (sCons (sRet (mLc (.tree [.inl 1, .inr [2, 3]]) [1, 2, 3] (mEnumA (mPrp ("Program" : Str) F_Program_deeds (mVar 0))) (mTru (mBin cEq (mVar 2) (mC (.str ("flush" : Str))))) (mVar 1)))
    sNil)
def F_flush_places : List D → U → Option (D × U) := runB m_flush_places 4
theorem ok_flush_places {P : Program} {w : World} {K : PySem.W.Frag} {mg : Str → Option Value} {base : Heap} {G : Gx K} (T : Tx mg) {f : Addr} {fd : FuncData} (F : Fun K ("flush_places" : Str) ("flush_places" : Str) s_flush_places f fd) (P_deeds : PrpOk P w mg base G ("Program" : Str) ("deeds" : Str) 1 F_Program_deeds) : FnOk P w K mg base CX0 3 f fd [("program" : Str)] (spF G F_flush_places 1) :=
  have nd := sc_flush_places.nd
  def_ok F sc_flush_places rfl fun cdv A outer s H E hr => (dss_cons (ds_ret (dv_lc (.tree [.inl 1, .inr [2, 3]]) [1, 2, 3] rfl nd (di_enumA rfl T.n_enumerate (dv_prp (P_deeds.mono (by decide)) hr (dv_var 0))) (blkOk_by (own := [(("place" : Str), 1), (("word" : Str), 2), (("_" : Str), 3)]) (N := [("program" : Str), ("place" : Str), ("word" : Str), ("_" : Str)]) (sc := defScope s_flush_places) (by decide +kernel)) rfl (by decide) (fun _ _ _ _ _ => (pg_tup rfl (pgs_cons (pg_name (i := 1) nd rfl (by first | exact Or.inl rfl | exact Or.inr rfl)) (pgs_cons (pg_tup rfl (pgs_cons (pg_name (i := 2) nd rfl (by first | exact Or.inl rfl | exact Or.inr rfl)) (pgs_cons (pg_name (i := 3) nd rfl (by first | exact Or.inl rfl | exact Or.inr rfl)) pgs_nil))) pgs_nil)))) (fun _ _ _ _ _ => dts_one (dt_cmp (ok_eq (hU64 hr)) bf_eq (dv_var 2) (dv_gS rfl T.c_FLUSH))) (fun _ _ _ _ _ => (dv_var 1))))
    dss_nil)
abbrev s_idle_flushes : Stmt := topS 24
theorem sc_idle_flushes : FnScope [("program" : Str), ("table" : Str), ("place" : Str)] [("program" : Str)] (defScope s_idle_flushes) := ⟨rfl, rfl, rfl, by decide +kernel, rfl, by decide +kernel, by decide +kernel⟩
def m_idle_flushes : MS := (sCons (sSet 1 (mCall 1 F_table_of (mCons (mVar 0) mNil)))
    (sCons (sRet (mLc (.one 2) [2] (mItems (mCall 1 F_flush_places (mCons (mVar 0) mNil))) (mTru (mBin cEq (mCall 1 F_table_of (mCons (mCall 2 (okF F_without_deed) (mCons (mVar 0) (mCons (mVar 2) mNil))) mNil)) (mVar 1))) (mVar 2)))
    sNil))
def F_idle_flushes : List D → U → Option (D × U) := runB m_idle_flushes 3
theorem ok_idle_flushes {P : Program} {w : World} {K : PySem.W.Frag} {mg : Str → Option Value} {base : Heap} {G : Gx K} (T : Tx mg) {f : Addr} {fd : FuncData} (F : Fun K ("idle_flushes" : Str) ("idle_flushes" : Str) s_idle_flushes f fd) (DX_without_deed : DefOkX P w mg base G ("without_deed" : Str) 9 2 F_without_deed) (D_flush_places : DefOk P w mg base G ("flush_places" : Str) 3 1 F_flush_places) (D_table_of : DefOk P w mg base G ("table_of" : Str) 3 1 F_table_of) : FnOk P w K mg base CX0 10 f fd [("program" : Str)] (spF G F_idle_flushes 1) :=
  have nd := sc_idle_flushes.nd
  def_ok F sc_idle_flushes rfl fun cdv A outer s H E hr => (dss_cons (ds_set 1 nd (dv_call (D_table_of.mono (by decide)) hr rfl (dvs_cons (dv_var 0) dvs_nil)))
    (dss_cons (ds_ret (dv_lc (.one 2) [2] rfl nd (di_items (dv_call (D_flush_places.mono (by decide)) hr rfl (dvs_cons (dv_var 0) dvs_nil))) (blkOk_by (own := [(("place" : Str), 2)]) (N := [("program" : Str), ("table" : Str), ("place" : Str)]) (sc := defScope s_idle_flushes) (by decide +kernel)) rfl (by decide) (fun _ _ _ _ _ => (pg_name (i := 2) nd rfl (by first | exact Or.inl rfl | exact Or.inr rfl))) (fun _ _ _ _ _ => dts_one (dt_cmp (ok_eq (hU64 hr)) bf_eq (dv_call (D_table_of.mono (by decide)) hr rfl (dvs_cons (dv_call (DX_without_deed.calm.mono (by decide)) hr rfl (dvs_cons (dv_var 0) (dvs_cons (dv_var 2) dvs_nil))) dvs_nil)) (dv_var 1))) (fun _ _ _ _ _ => (dv_var 2))))
    dss_nil))
def mO_idle_flushes : MO2 := (sConsO (sSet 1 (mCall 1 F_table_of (mCons (mVar 0) mNil)))
    (retO (vLc (.one 2) [2] (mItems (mCall 1 F_flush_places (mCons (mVar 0) mNil))) (mTru (mBin cEq (mCall 1 F_table_of (mCons (mCall 2 (okF F_without_deed) (mCons (mVar 0) (mCons (mVar 2) mNil))) mNil)) (mVar 1))) (mVar 2))))
def FO_idle_flushes : List D → U → Option (Oo × U) := runBO mO_idle_flushes 3
theorem okO_idle_flushes {P : Program} {w : World} {K : PySem.W.Frag} {mg : Str → Option Value} {base : Heap} {G : Gx K} (T : Tx mg) {f : Addr} {fd : FuncData} (F : Fun K ("idle_flushes" : Str) ("idle_flushes" : Str) s_idle_flushes f fd) (DX_without_deed : DefOkX P w mg base G ("without_deed" : Str) 9 2 F_without_deed) (D_flush_places : DefOk P w mg base G ("flush_places" : Str) 3 1 F_flush_places) (D_table_of : DefOk P w mg base G ("table_of" : Str) 3 1 F_table_of) : FnOk P w K mg base CX0 10 f fd [("program" : Str)] (spFO G FO_idle_flushes 1) :=
  have nd := sc_idle_flushes.nd
  def_okO F sc_idle_flushes rfl fun cdv A outer s H E hr => (dso_cons (ds_set 1 nd (dv_call (D_table_of.mono (by decide)) hr rfl (dvs_cons (dv_var 0) dvs_nil)))
    (dso_ret (dv_oLc (.one 2) [2] rfl nd (di_items (dv_call (D_flush_places.mono (by decide)) hr rfl (dvs_cons (dv_var 0) dvs_nil))) (blkOk_by (own := [(("place" : Str), 2)]) (N := [("program" : Str), ("table" : Str), ("place" : Str)]) (sc := defScope s_idle_flushes) (by decide +kernel)) rfl (by decide) (fun _ _ _ _ _ => (pg_name (i := 2) nd rfl (by first | exact Or.inl rfl | exact Or.inr rfl))) (fun _ _ _ _ _ => dts_one (dt_cmp (ok_eq (hU64 hr)) bf_eq (dv_call (D_table_of.mono (by decide)) hr rfl (dvs_cons (dv_call (DX_without_deed.calm.mono (by decide)) hr rfl (dvs_cons (dv_var 0) (dvs_cons (dv_var 2) dvs_nil))) dvs_nil)) (dv_var 1))) (fun _ _ _ _ _ => (dv_var 2)))))
abbrev s__law_box : Stmt := topS 26
theorem sc__law_box : FnScope [("_law_script" : Str), ("_law_k" : Str), ("_law_cell" : Str)] [("_law_script" : Str), ("_law_k" : Str)] (defScope s__law_box) := ⟨rfl, rfl, rfl, by decide +kernel, rfl, by decide +kernel, by decide +kernel⟩
def m__law_box : MS := (sCons (sSet 2 (mIte (mTru (mBin cLt (mVar 1) (mBi bLen (mCons (mVar 0) mNil)))) (mBin ixD (mVar 0) (mVar 1)) (mC (.int (0)))))
    (sCons (sRet (mLst (mCons (mBin fMul (mBi bAbs (mCons (mVar 2) mNil)) (mBi bInt (mCons (mBin cGe (mBi bAbs (mCons (mVar 2) mNil)) (mBin fPow (mC (.int (10))) (mC (.int (18))))) mNil))) (mCons (mBin fAdd (mBin fAdd (mBin fMod (mBi bInt (mCons (mVar 2) mNil)) (mC (.int (2305843009213693951)))) (mBin fMul (mC (.int (39373))) (mVar 1))) (mC (.int (824176)))) (mCons (mC (.int (0))) mNil)))))
    sNil))
def F__law_box : List D → U → Option (D × U) := runB m__law_box 3
theorem ok__law_box {P : Program} {w : World} {K : PySem.W.Frag} {mg : Str → Option Value} {base : Heap} {G : Gx K} (T : Tx mg) {f : Addr} {fd : FuncData} (F : Fun K ("_law_box" : Str) ("_law_box" : Str) s__law_box f fd)  : FnOk P w K mg base CX0 1 f fd [("_law_script" : Str), ("_law_k" : Str)] (spF G F__law_box 2) :=
  have nd := sc__law_box.nd
  def_ok F sc__law_box rfl fun cdv A outer s H E hr => (dss_cons (ds_set 2 nd (dv_ite (dt_cmp ok_lt bf_lt (dv_var 1) (dv_bi ok_len rfl T.n_len (by decide +kernel) (dvs_cons (dv_var 0) dvs_nil))) (dv_ix (dv_var 0) (dv_var 1)) dv_int))
    (dss_cons (ds_ret (dv_lst (dvs_cons (dv_bin ok_mul (dv_bi ok_abs rfl T.n_abs (by decide +kernel) (dvs_cons (dv_var 2) dvs_nil)) (dv_ty ok_int rfl T.n_int (by decide +kernel) (dvs_cons (dv_cmp ok_ge (dv_bi ok_abs rfl T.n_abs (by decide +kernel) (dvs_cons (dv_var 2) dvs_nil)) (dv_bin ok_pow dv_int dv_int)) dvs_nil))) (dvs_cons (dv_bin ok_add (dv_bin ok_add (dv_bin ok_mod (dv_ty ok_int rfl T.n_int (by decide +kernel) (dvs_cons (dv_var 2) dvs_nil)) dv_int) (dv_bin ok_mul dv_int (dv_var 1))) dv_int) (dvs_cons dv_int dvs_nil)))))
    dss_nil))
abbrev s__law_take : Stmt := topS 27
theorem sc__law_take : FnScope [("_law_urn" : Str), ("_law_low_so" : Str), ("_law_drawn" : Str), ("_law_once" : Str), ("_law_far" : Str), ("_law_twice" : Str)] [("_law_urn" : Str), ("_law_low_so" : Str)] (defScope s__law_take) := ⟨rfl, rfl, rfl, by decide +kernel, rfl, by decide +kernel, by decide +kernel⟩
def m__law_take : MS := (sCons (sIf (mTru (mBin cGt (mUrn0 0) (mC (.int (0))))) (sCons (sSet 2 (mBin fMod (mBi bInt (mCons (mUrn0 0) mNil)) (mVar 1)))
    (sCons (sUrn0 0 (mBin fDiv (mUrn0 0) (mVar 1)))
    (sCons (sRet (mVar 2))
    sNil))) sNil)
    (sCons (sUrn2 0 (mBin fAdd (mUrn2 0) (mC (.int (1)))))
    (sCons (sSet 3 (mBin fMod (mBi bInt (mCons (mBin fMul (mBin fAdd (mUrn1 0) (mBin fMul (mC (.int (48271))) (mUrn2 0))) (mBin fAdd (mC (.int (39373))) (mUrn2 0))) mNil)) (mC (.int (2147483647)))))
    (sCons (sSet 4 (mBin fAdd (mBin fMod (mBi bInt (mCons (mVar 3) mNil)) (mC (.int (40009)))) (mC (.int (7)))))
    (sCons (sSet 5 (mBin fMod (mBi bInt (mCons (mBin fMul (mBin fAdd (mBin fAdd (mVar 3) (mUrn2 0)) (mBin fDiv (mUrn1 0) (mC (.int (1000003))))) (mVar 4)) mNil)) (mC (.int (2147483629)))))
    (sCons (sRet (mBin fMod (mBi bInt (mCons (mBin fDiv (mBin fMod (mBi bInt (mCons (mBin fAdd (mBin fMul (mVar 5) (mC (.int (48271)))) (mVar 3)) mNil)) (mC (.int (2147483587)))) (mC (.int (64)))) mNil)) (mVar 1)))
    sNil))))))
def F__law_take : List D → U → Option (D × U) := runB m__law_take 6
theorem ok__law_take {P : Program} {w : World} {K : PySem.W.Frag} {mg : Str → Option Value} {base : Heap} {G : Gx K} (T : Tx mg) {f : Addr} {fd : FuncData} (F : Fun K ("_law_take" : Str) ("_law_take" : Str) s__law_take f fd)  : FnOk P w K mg base CX0 1 f fd [("_law_urn" : Str), ("_law_low_so" : Str)] (spF G F__law_take 2) :=
  have nd := sc__law_take.nd
  def_ok F sc__law_take rfl fun cdv A outer s H E hr => (dss_cons (ds_if (dt_cmp ok_gt bf_gt (dv_urn0 0) dv_int) (dss_cons (ds_set 2 nd (dv_bin ok_mod (dv_ty ok_int rfl T.n_int (by decide +kernel) (dvs_cons (dv_urn0 0) dvs_nil)) (dv_var 1)))
    (dss_cons (ds_urn0 0 (dv_bin ok_div (dv_urn0 0) (dv_var 1)))
    (dss_cons (ds_ret (dv_var 2))
    dss_nil))) dss_nil)
    (dss_cons (ds_urn2 0 (dv_bin ok_add (dv_urn2 0) dv_int))
    (dss_cons (ds_set 3 nd (dv_bin ok_mod (dv_ty ok_int rfl T.n_int (by decide +kernel) (dvs_cons (dv_bin ok_mul (dv_bin ok_add (dv_urn1 0) (dv_bin ok_mul dv_int (dv_urn2 0))) (dv_bin ok_add dv_int (dv_urn2 0))) dvs_nil)) dv_int))
    (dss_cons (ds_set 4 nd (dv_bin ok_add (dv_bin ok_mod (dv_ty ok_int rfl T.n_int (by decide +kernel) (dvs_cons (dv_var 3) dvs_nil)) dv_int) dv_int))
    (dss_cons (ds_set 5 nd (dv_bin ok_mod (dv_ty ok_int rfl T.n_int (by decide +kernel) (dvs_cons (dv_bin ok_mul (dv_bin ok_add (dv_bin ok_add (dv_var 3) (dv_urn2 0)) (dv_bin ok_div (dv_urn1 0) dv_int)) (dv_var 4)) dvs_nil)) dv_int))
    (dss_cons (ds_ret (dv_bin ok_mod (dv_ty ok_int rfl T.n_int (by decide +kernel) (dvs_cons (dv_bin ok_div (dv_bin ok_mod (dv_ty ok_int rfl T.n_int (by decide +kernel) (dvs_cons (dv_bin ok_add (dv_bin ok_mul (dv_var 5) dv_int) (dv_var 3)) dvs_nil)) dv_int) dv_int) dvs_nil)) (dv_var 1)))
    dss_nil))))))
abbrev s__law_of : Stmt := topS 29
theorem sc__law_of : FnScope [("_law_urn" : Str), ("_law_some_so" : Str)] [("_law_urn" : Str), ("_law_some_so" : Str)] (defScope s__law_of) := ⟨rfl, rfl, rfl, by decide +kernel, rfl, by decide +kernel, by decide +kernel⟩
def m__law_of : MS := (sCons (sRet (mBin ixD (mVar 1) (mCall 2 F__law_take (mCons (mVar 0) (mCons (mBi bLen (mCons (mVar 1) mNil)) mNil)))))
    sNil)
def F__law_of : List D → U → Option (D × U) := runB m__law_of 2
theorem ok__law_of {P : Program} {w : World} {K : PySem.W.Frag} {mg : Str → Option Value} {base : Heap} {G : Gx K} (T : Tx mg) {f : Addr} {fd : FuncData} (F : Fun K ("_law_of" : Str) ("_law_of" : Str) s__law_of f fd) (D__law_take : DefOk P w mg base G ("_law_take" : Str) 1 2 F__law_take) : FnOk P w K mg base CX0 2 f fd [("_law_urn" : Str), ("_law_some_so" : Str)] (spF G F__law_of 2) :=
  have nd := sc__law_of.nd
  def_ok F sc__law_of rfl fun cdv A outer s H E hr => (dss_cons (ds_ret (dv_ix (dv_var 1) (dv_call (D__law_take.mono (by decide)) hr rfl (dvs_cons (dv_var 0) (dvs_cons (dv_bi ok_len rfl T.n_len (by decide +kernel) (dvs_cons (dv_var 1) dvs_nil)) dvs_nil)))))
    dss_nil)
abbrev s__law_same : Stmt := topS 30
theorem sc__law_same : FnScope [("_law_got" : Str), ("_law_goal" : Str), ("_law_mine_so" : Str), ("_law_own" : Str)] [("_law_got" : Str), ("_law_goal" : Str)] (defScope s__law_same) := ⟨rfl, rfl, rfl, by decide +kernel, rfl, by decide +kernel, by decide +kernel⟩
def m__law_same (F__law_same_ : List D → U → Option (D × U)) : MS := (sCons (sIf (mTru (mIsi ["list", "tuple"] (mVar 1))) (sCons (sIf (mOrB (mTru (mBin cNe (mIsi ["list"] (mVar 0)) (mIsi ["list"] (mVar 1)))) (mTru (mBin cNe (mIsi ["tuple"] (mVar 0)) (mIsi ["tuple"] (mVar 1))))) (sCons (sRet (mC (.bl false)))
    sNil) sNil)
    (sCons (sRet (mAnd (mBin cEq (mBi bLen (mCons (mVar 0) mNil)) (mBi bLen (mCons (mVar 1) mNil))) (mBi bAll (mCons (mLc (.many [2, 3]) [2, 3] (mZip (mVar 0) (mVar 1)) mYes (mCall 2 F__law_same_ (mCons (mVar 2) (mCons (mVar 3) mNil)))) mNil))))
    sNil)) sNil)
    (sCons (sIf (mOrB (mTru (mBin cIs (mVar 1) (mC .non))) (mTru (mIsi ["bool", "str"] (mVar 1)))) (sCons (sRet (mAnd (mBin cEq (mVar 0) (mVar 1)) (mAnd (mBin cEq (mIsi ["bool"] (mVar 0)) (mIsi ["bool"] (mVar 1))) (mBin cEq (mBin cIs (mVar 0) (mC .non)) (mBin cIs (mVar 1) (mC .non))))))
    sNil) sNil)
    (sCons (sRet (mAnd (mIsi ["int"] (mVar 0)) (mAnd (mNot (mIsi ["bool"] (mVar 0))) (mBin cEq (mVar 0) (mVar 1)))))
    sNil)))
def FR__law_same : Nat → List D → U → Option (D × U)
  | 0 => fun _ _ => none
  | n + 1 => runB (m__law_same (FR__law_same n)) 4
theorem okR__law_same {P : Program} {w : World} {K : PySem.W.Frag} {mg : Str → Option Value} {base : Heap} {G : Gx K} (T : Tx mg) {f : Addr} {fd : FuncData} (F : Fun K ("_law_same" : Str) ("_law_same" : Str) s__law_same f fd) (hm : mg ("_law_same" : Str) = some (.ref f)) (hb : Binds K fd [("_law_got" : Str), ("_law_goal" : Str)] [])  : ∀ n : Nat, FnOk P w K mg base CX0 (0 + n) f fd [("_law_got" : Str), ("_law_goal" : Str)] (spF G (FR__law_same n) 2)
  | 0 => ⟨fun _ _ _ _ h => (by obtain ⟨_, _, _, _, _, _, _, _, _, h, _⟩ := h; cases h), fun _ _ _ _ _ _ _ _ _ _ _ _ _ h => (by obtain ⟨_, _, _, _, _, _, _, _, _, h, _⟩ := h; cases h)⟩
  | n + 1 =>
    have nd := sc__law_same.nd
    have D__law_same : DefOk P w mg base G ("_law_same" : Str) (0 + n) 2 (FR__law_same n) := ⟨f, fd, _, okR__law_same T F hm hb  n, hm, F.kp, hb⟩
    def_ok (k := 0 + n) F sc__law_same rfl fun cdv A outer s H E hr => (dss_cons (ds_if (dt_val (dv_isi2 rfl T.n_isinstance (dv_var 1) rfl T.n_list (by decide +kernel) rfl T.n_tuple (by decide +kernel))) (dss_cons (ds_if (PW.pt (dw_or (dt_cmp (ok_ne (hU64 hr)) bf_ne (dv_isi rfl T.n_isinstance (dv_var 0) rfl T.n_list (by decide +kernel)) (dv_isi rfl T.n_isinstance (dv_var 1) rfl T.n_list (by decide +kernel))) (dw_or1 (dt_cmp (ok_ne (hU64 hr)) bf_ne (dv_isi rfl T.n_isinstance (dv_var 0) rfl T.n_tuple (by decide +kernel)) (dv_isi rfl T.n_isinstance (dv_var 1) rfl T.n_tuple (by decide +kernel)))))) (dss_cons (ds_ret dv_bl)
    dss_nil) dss_nil)
    (dss_cons (ds_ret (dv_and (dv_cmp (ok_eq (hU64 hr)) (dv_bi ok_len rfl T.n_len (by decide +kernel) (dvs_cons (dv_var 0) dvs_nil)) (dv_bi ok_len rfl T.n_len (by decide +kernel) (dvs_cons (dv_var 1) dvs_nil))) (dv_one _ (dv_bi (ok_all (by rfl)) rfl T.n_all (by decide +kernel) (dvs_cons (dv_lc (.many [2, 3]) [2, 3] rfl nd (di_zip rfl T.n_zip (dv_var 0) (dv_var 1)) (blkOk_by (own := [(("_law_mine_so" : Str), 2), (("_law_own" : Str), 3)]) (N := [("_law_got" : Str), ("_law_goal" : Str), ("_law_mine_so" : Str), ("_law_own" : Str)]) (sc := defScope s__law_same) (by decide +kernel)) rfl (by decide) (fun _ _ _ _ _ => (pg_tup rfl (pgs_cons (pg_name (i := 2) nd rfl (by first | exact Or.inl rfl | exact Or.inr rfl)) (pgs_cons (pg_name (i := 3) nd rfl (by first | exact Or.inl rfl | exact Or.inr rfl)) pgs_nil)))) (fun _ _ _ _ _ => dts_no) (fun _ _ _ _ _ => (dv_call (D__law_same) hr rfl (dvs_cons (dv_var 2) (dvs_cons (dv_var 3) dvs_nil))))) dvs_nil)))))
    dss_nil)) dss_nil)
    (dss_cons (ds_if (PW.pt (dw_or (dt_cmp ok_is bf_is (dv_var 1) dv_non) (dw_or1 (dt_val (dv_isi2 rfl T.n_isinstance (dv_var 1) rfl T.n_bool (by decide +kernel) rfl T.n_str (by decide +kernel)))))) (dss_cons (ds_ret (dv_and (dv_cmp (ok_eq (hU64 hr)) (dv_var 0) (dv_var 1)) (dv_and (dv_cmp (ok_eq (hU64 hr)) (dv_isi rfl T.n_isinstance (dv_var 0) rfl T.n_bool (by decide +kernel)) (dv_isi rfl T.n_isinstance (dv_var 1) rfl T.n_bool (by decide +kernel))) (dv_one _ (dv_cmp (ok_eq (hU64 hr)) (dv_cmp ok_is (dv_var 0) dv_non) (dv_cmp ok_is (dv_var 1) dv_non))))))
    dss_nil) dss_nil)
    (dss_cons (ds_ret (dv_and (dv_isi rfl T.n_isinstance (dv_var 0) rfl T.n_int (by decide +kernel)) (dv_and (dv_not (dv_isi rfl T.n_isinstance (dv_var 0) rfl T.n_bool (by decide +kernel))) (dv_one _ (dv_cmp (ok_eq (hU64 hr)) (dv_var 0) (dv_var 1))))))
    dss_nil)))
abbrev s__law_pick : Stmt := topS 31
theorem sc__law_pick : FnScope [("_law_urn" : Str), ("_law_goods_so" : Str), ("_law_many_so" : Str), ("_law_left_so" : Str), ("_law_found" : Str), ("_law_turn" : Str)] [("_law_urn" : Str), ("_law_goods_so" : Str), ("_law_many_so" : Str)] (defScope s__law_pick) := ⟨rfl, rfl, rfl, by decide +kernel, rfl, by decide +kernel, by decide +kernel⟩
def m__law_pick : MS := (sCons (sParv 3 4 (vList (mVar 1)) (vLst mNil))
    (sCons (sFor (.one 5) (mRange1 (mVar 2)) (sCons (sAppPop 4 3 (mCall 2 F__law_take (mCons (mVar 0) (mCons (mPeek 3 (mBi bLen (mCons (mVar 3) mNil))) mNil))))
    sNil))
    (sPub 4
    (sCons (sRet (mVar 4))
    sNil))))
def F__law_pick : List D → U → Option (D × U) := runB m__law_pick 6
theorem ok__law_pick {P : Program} {w : World} {K : PySem.W.Frag} {mg : Str → Option Value} {base : Heap} {G : Gx K} (T : Tx mg) {f : Addr} {fd : FuncData} (F : Fun K ("_law_pick" : Str) ("_law_pick" : Str) s__law_pick f fd) (D__law_take : DefOk P w mg base G ("_law_take" : Str) 1 2 F__law_take) : FnOk P w K mg base CX0 2 f fd [("_law_urn" : Str), ("_law_goods_so" : Str), ("_law_many_so" : Str)] (spF G F__law_pick 3) :=
  have nd := sc__law_pick.nd
  def_ok F sc__law_pick rfl fun cdv A outer s H E hr => (dss_cons (ds_parv 3 4 (dv_oList rfl T.n_list (dv_var 1)) (dv_oLst dvs_nil) (fun h => ps_par (i := 3) (j := 4) rfl nd rfl rfl (by decide) rfl rfl h (by rfl)))
    (dss_cons (ds_for (.one 5) PassesOwn.never rfl (di_range1 rfl T.n_range (dv_var 2)) (pg_name (i := 5) nd rfl (by first | exact Or.inl rfl | exact Or.inr rfl)) (dss_cons (ds_appPop 4 3 (dv_call (D__law_take.mono (by decide)) hr rfl (dvs_cons (dv_var 0) (dvs_cons (dv_peek 3 (dv_bi ok_len rfl T.n_len (by decide +kernel) (dvs_cons (dv_var 3) dvs_nil))) dvs_nil))))
    dss_nil))
    (dss_pub 4
    (dss_cons (ds_ret (dv_var 4))
    dss_nil))))
abbrev s__law_tags : Stmt := topS 32
theorem sc__law_tags : FnScope [("_law_urn" : Str), ("_law_many_so" : Str)] [("_law_urn" : Str), ("_law_many_so" : Str)] (defScope s__law_tags) := ⟨rfl, rfl, rfl, by decide +kernel, rfl, by decide +kernel, by decide +kernel⟩
def m__law_tags : MS := (sCons (sRet (mBi bTuple (mCons (mBi bSortB (mCons (mCall 3 F__law_pick (mCons (mVar 0) (mCons (mLst (mCons (mC (.str ("a" : Str))) (mCons (mC (.str ("b" : Str))) (mCons (mC (.str ("c" : Str))) (mCons (mC (.str ("ab" : Str))) (mCons (mC (.str ("err" : Str))) (mCons (mC (.str ("out" : Str))) (mCons (mC (.str ("log" : Str))) (mCons (mC (.str ("x" : Str))) (mCons (mC (.str ("zzzzzzzz" : Str))) mNil)))))))))) (mCons (mVar 1) mNil)))) mNil)) mNil)))
    sNil)
def F__law_tags : List D → U → Option (D × U) := runB m__law_tags 2
theorem ok__law_tags {P : Program} {w : World} {K : PySem.W.Frag} {mg : Str → Option Value} {base : Heap} {G : Gx K} (T : Tx mg) {f : Addr} {fd : FuncData} (F : Fun K ("_law_tags" : Str) ("_law_tags" : Str) s__law_tags f fd) (D__law_pick : DefOk P w mg base G ("_law_pick" : Str) 2 3 F__law_pick) : FnOk P w K mg base CX0 3 f fd [("_law_urn" : Str), ("_law_many_so" : Str)] (spF G F__law_tags 2) :=
  have nd := sc__law_tags.nd
  def_ok F sc__law_tags rfl fun cdv A outer s H E hr => (dss_cons (ds_ret (dv_ty ok_tuple rfl T.n_tuple (by decide +kernel) (dvs_cons (dv_bi (ok_sortB (hU64 hr)) rfl T.n_sorted (by decide +kernel) (dvs_cons (dv_call (D__law_pick.mono (by decide)) hr rfl (dvs_cons (dv_var 0) (dvs_cons (dv_lst (dvs_cons dv_str (dvs_cons dv_str (dvs_cons dv_str (dvs_cons dv_str (dvs_cons dv_str (dvs_cons dv_str (dvs_cons dv_str (dvs_cons dv_str (dvs_cons dv_str dvs_nil)))))))))) (dvs_cons (dv_var 1) dvs_nil)))) dvs_nil)) dvs_nil)))
    dss_nil)
abbrev s__law_sure : Stmt := topS 33
theorem sc__law_sure : FnScope [("_law_deeds_so" : Str), ("_law_many_so" : Str), ("_law_out_so" : Str), ("_law_found" : Str), ("_law_word_so" : Str), ("_law_tag" : Str), ("_law_row_so" : Str), ("_law_far" : Str)] [("_law_deeds_so" : Str)] (defScope s__law_sure) := ⟨rfl, rfl, rfl, by decide +kernel, rfl, by decide +kernel, by decide +kernel⟩
def m__law_sure : MS := (sCons (sParv3 1 2 3 vDct vDct (vLst mNil))
    (sCons (sFor (.many [4, 5]) (mItems (mVar 0)) (sCons (sIf (mTru (mBin cEq (mVar 4) (mC (.str ("flush" : Str))))) (sCons (sPutD 2 (mVar 5) (mPeek 1 (mGet2 (mVar 1) (mVar 5) (mC (.int (0))))))
    sNil) (sCons (sPutD 1 (mVar 5) (mBin fAdd (mPeek 1 (mGet2 (mVar 1) (mVar 5) (mC (.int (0))))) (mC (.int (1)))))
    (sCons (sSet 6 (mPeekD 2 (mBi bSortB (mCons (mLc (.one 7) [7] (mItemsK (mVar 2)) (mAndB (mTru (mBin cNe (mVar 7) (mVar 5))) (mTru (mBin cGt (mBin dixD (mVar 2) (mVar 7)) (mC (.int (0)))))) (mTup (mCons (mVar 7) (mCons (mBin dixD (mVar 2) (mVar 7)) mNil)))) mNil))))
    (sCons (sApp 3 (mTup (mCons (mTup (mCons (mVar 5) (mCons (mPeek 1 (mBin dixD (mVar 1) (mVar 5))) mNil))) (mCons (mBi bTuple (mCons (mVar 6) mNil)) mNil))))
    sNil))))
    sNil))
    (sPub 3
    (sCons (sRet (mBi bTuple (mCons (mBi bSortB (mCons (mVar 3) mNil)) mNil)))
    sNil))))
def F__law_sure : List D → U → Option (D × U) := runB m__law_sure 8
theorem ok__law_sure {P : Program} {w : World} {K : PySem.W.Frag} {mg : Str → Option Value} {base : Heap} {G : Gx K} (T : Tx mg) {f : Addr} {fd : FuncData} (F : Fun K ("_law_sure" : Str) ("_law_sure" : Str) s__law_sure f fd)  : FnOk P w K mg base CX0 1 f fd [("_law_deeds_so" : Str)] (spF G F__law_sure 1) :=
  have nd := sc__law_sure.nd
  def_ok F sc__law_sure rfl fun cdv A outer s H E hr => (dss_cons (ds_parvC3 1 2 3 rfl nd dv_oDct dv_oDct (dv_oLst dvs_nil))
    (dss_cons (ds_for (.many [4, 5]) PassesOwn.never rfl (di_items (dv_var 0)) (pg_tup rfl (pgs_cons (pg_name (i := 4) nd rfl (by first | exact Or.inl rfl | exact Or.inr rfl)) (pgs_cons (pg_name (i := 5) nd rfl (by first | exact Or.inl rfl | exact Or.inr rfl)) pgs_nil))) (dss_cons (ds_if (dt_cmp (ok_eq (hU64 hr)) bf_eq (dv_var 4) dv_str) (dss_cons (ds_putD 2 (hU1 hr) (dv_var 5) (dv_peek 1 (dv_get2 (hU1 hr) ⟨rfl, rfl, rfl, rfl⟩ (dv_var 1) (dv_var 5) dv_int)))
    dss_nil) (dss_cons (ds_putD 1 (hU1 hr) (dv_var 5) (dv_bin ok_add (dv_peek 1 (dv_get2 (hU1 hr) ⟨rfl, rfl, rfl, rfl⟩ (dv_var 1) (dv_var 5) dv_int)) dv_int))
    (dss_cons (ds_set 6 nd (dv_peekD 2 (dv_bi (ok_sortB (hU64 hr)) rfl T.n_sorted (by decide +kernel) (dvs_cons (dv_lc (.one 7) [7] rfl nd (di_itemsK (dv_var 2)) (blkOk_by (own := [(("_law_far" : Str), 7)]) (N := [("_law_deeds_so" : Str), ("_law_many_so" : Str), ("_law_out_so" : Str), ("_law_found" : Str), ("_law_word_so" : Str), ("_law_tag" : Str), ("_law_row_so" : Str), ("_law_far" : Str)]) (sc := defScope s__law_sure) (by decide +kernel)) rfl (by decide) (fun _ _ _ _ _ => (pg_name (i := 7) nd rfl (by first | exact Or.inl rfl | exact Or.inr rfl))) (fun _ _ _ _ _ => dts_one (PW.pt (dw_and (dt_cmp (ok_ne (hU64 hr)) bf_ne (dv_var 7) (dv_var 5)) (dw_and1 (dt_cmp ok_gt bf_gt (dv_dix (hU1 hr) (dv_var 2) (dv_var 7)) dv_int))))) (fun _ _ _ _ _ => (dv_tup (dvs_cons (dv_var 7) (dvs_cons (dv_dix (hU1 hr) (dv_var 2) (dv_var 7)) dvs_nil))))) dvs_nil))))
    (dss_cons (ds_app 3 (dv_tup (dvs_cons (dv_tup (dvs_cons (dv_var 5) (dvs_cons (dv_peek 1 (dv_dix (hU1 hr) (dv_var 1) (dv_var 5))) dvs_nil))) (dvs_cons (dv_ty ok_tuple rfl T.n_tuple (by decide +kernel) (dvs_cons (dv_var 6) dvs_nil)) dvs_nil))))
    dss_nil))))
    dss_nil))
    (dss_pub 3
    (dss_cons (ds_ret (dv_ty ok_tuple rfl T.n_tuple (by decide +kernel) (dvs_cons (dv_bi (ok_sortB (hU64 hr)) rfl T.n_sorted (by decide +kernel) (dvs_cons (dv_var 3) dvs_nil)) dvs_nil)))
    dss_nil))))
abbrev s__law_less : Stmt := topS 34
theorem sc__law_less : FnScope [("_law_deeds_so" : Str), ("_law_places_so" : Str), ("_law_k" : Str), ("_law_own" : Str)] [("_law_deeds_so" : Str), ("_law_places_so" : Str)] (defScope s__law_less) := ⟨rfl, rfl, rfl, by decide +kernel, rfl, by decide +kernel, by decide +kernel⟩
def m__law_less : MS := (sCons (sRet (mBi bTuple (mCons (mLc (.many [2, 3]) [2, 3] (mEnumA (mVar 0)) (mTru (mBin cNotIn (mVar 2) (mVar 1))) (mVar 3)) mNil)))
    sNil)
def F__law_less : List D → U → Option (D × U) := runB m__law_less 4
theorem ok__law_less {P : Program} {w : World} {K : PySem.W.Frag} {mg : Str → Option Value} {base : Heap} {G : Gx K} (T : Tx mg) {f : Addr} {fd : FuncData} (F : Fun K ("_law_less" : Str) ("_law_less" : Str) s__law_less f fd)  : FnOk P w K mg base CX0 1 f fd [("_law_deeds_so" : Str), ("_law_places_so" : Str)] (spF G F__law_less 2) :=
  have nd := sc__law_less.nd
  def_ok F sc__law_less rfl fun cdv A outer s H E hr => (dss_cons (ds_ret (dv_ty ok_tuple rfl T.n_tuple (by decide +kernel) (dvs_cons (dv_lc (.many [2, 3]) [2, 3] rfl nd (di_enumA rfl T.n_enumerate (dv_var 0)) (blkOk_by (own := [(("_law_k" : Str), 2), (("_law_own" : Str), 3)]) (N := [("_law_deeds_so" : Str), ("_law_places_so" : Str), ("_law_k" : Str), ("_law_own" : Str)]) (sc := defScope s__law_less) (by decide +kernel)) rfl (by decide) (fun _ _ _ _ _ => (pg_tup rfl (pgs_cons (pg_name (i := 2) nd rfl (by first | exact Or.inl rfl | exact Or.inr rfl)) (pgs_cons (pg_name (i := 3) nd rfl (by first | exact Or.inl rfl | exact Or.inr rfl)) pgs_nil)))) (fun _ _ _ _ _ => dts_one (dt_cmp (ok_notin (hU65 hr)) bf_notin (dv_var 2) (dv_var 1))) (fun _ _ _ _ _ => (dv_var 3))) dvs_nil)))
    dss_nil)
abbrev s__law_busy : Stmt := topS 35
theorem sc__law_busy : FnScope [("_law_urn" : Str), ("_law_tags_here" : Str), ("_law_size_so" : Str), ("_law_turn" : Str)] [("_law_urn" : Str), ("_law_tags_here" : Str), ("_law_size_so" : Str)] (defScope s__law_busy) := ⟨rfl, rfl, rfl, by decide +kernel, rfl, by decide +kernel, by decide +kernel⟩
def m__law_busy : MS := (sCons (sRet (mBi bTuple (mCons (mLc (.one 3) [3] (mRange1 (mVar 2)) mYes (mTup (mCons (mCall 2 F__law_of (mCons (mVar 0) (mCons (mLst (mCons (mC (.str ("write" : Str))) (mCons (mC (.str ("flush" : Str))) mNil))) mNil))) (mCons (mCall 2 F__law_of (mCons (mVar 0) (mCons (mVar 1) mNil))) mNil)))) mNil)))
    sNil)
def F__law_busy : List D → U → Option (D × U) := runB m__law_busy 4
theorem ok__law_busy {P : Program} {w : World} {K : PySem.W.Frag} {mg : Str → Option Value} {base : Heap} {G : Gx K} (T : Tx mg) {f : Addr} {fd : FuncData} (F : Fun K ("_law_busy" : Str) ("_law_busy" : Str) s__law_busy f fd) (D__law_of : DefOk P w mg base G ("_law_of" : Str) 2 2 F__law_of) : FnOk P w K mg base CX0 3 f fd [("_law_urn" : Str), ("_law_tags_here" : Str), ("_law_size_so" : Str)] (spF G F__law_busy 3) :=
  have nd := sc__law_busy.nd
  def_ok F sc__law_busy rfl fun cdv A outer s H E hr => (dss_cons (ds_ret (dv_ty ok_tuple rfl T.n_tuple (by decide +kernel) (dvs_cons (dv_lc (.one 3) [3] rfl nd (di_range1 rfl T.n_range (dv_var 2)) (blkOk_by (own := [(("_law_turn" : Str), 3)]) (N := [("_law_urn" : Str), ("_law_tags_here" : Str), ("_law_size_so" : Str), ("_law_turn" : Str)]) (sc := defScope s__law_busy) (by decide +kernel)) rfl (by decide) (fun _ _ _ _ _ => (pg_name (i := 3) nd rfl (by first | exact Or.inl rfl | exact Or.inr rfl))) (fun _ _ _ _ _ => dts_no) (fun _ _ _ _ _ => (dv_tup (dvs_cons (dv_call (D__law_of.mono (by decide)) hr rfl (dvs_cons (dv_var 0) (dvs_cons (dv_lst (dvs_cons dv_str (dvs_cons dv_str dvs_nil))) dvs_nil))) (dvs_cons (dv_call (D__law_of.mono (by decide)) hr rfl (dvs_cons (dv_var 0) (dvs_cons (dv_var 1) dvs_nil))) dvs_nil))))) dvs_nil)))
    dss_nil)
abbrev s__law_due : Stmt := topS 36
theorem sc__law_due : FnScope [("_law_deeds_so" : Str), ("_law_goal" : Str), ("_law_found" : Str), ("_law_k" : Str), ("_law_word_so" : Str), ("_law_tag" : Str)] [("_law_deeds_so" : Str)] (defScope s__law_due) := ⟨rfl, rfl, rfl, by decide +kernel, rfl, by decide +kernel, by decide +kernel⟩
def m__law_due : MS := (sCons (sParv 1 2 (vP (mCall 1 F__law_sure (mCons (mVar 0) mNil))) (vLst mNil))
    (sCons (sFor (.tree [.inl 3, .inr [4, 5]]) (mEnumA (mVar 0)) (sCons (sIf (mAndB (mTru (mBin cEq (mVar 4) (mC (.str ("flush" : Str))))) (mTru (mBin cEq (mCall 1 F__law_sure (mCons (mCall 2 F__law_less (mCons (mVar 0) (mCons (mLst (mCons (mVar 3) mNil)) mNil))) mNil)) (mVar 1)))) (sCons (sApp 2 (mVar 3))
    sNil) sNil)
    sNil))
    (sPub 2
    (sCons (sRet (mVar 2))
    sNil))))
def F__law_due : List D → U → Option (D × U) := runB m__law_due 6
theorem ok__law_due {P : Program} {w : World} {K : PySem.W.Frag} {mg : Str → Option Value} {base : Heap} {G : Gx K} (T : Tx mg) {f : Addr} {fd : FuncData} (F : Fun K ("_law_due" : Str) ("_law_due" : Str) s__law_due f fd) (D__law_less : DefOk P w mg base G ("_law_less" : Str) 1 2 F__law_less) (D__law_sure : DefOk P w mg base G ("_law_sure" : Str) 1 1 F__law_sure) : FnOk P w K mg base CX0 2 f fd [("_law_deeds_so" : Str)] (spF G F__law_due 1) :=
  have nd := sc__law_due.nd
  def_ok F sc__law_due rfl fun cdv A outer s H E hr => (dss_cons (ds_parv 1 2 (dv_P (dv_call (D__law_sure.mono (by decide)) hr rfl (dvs_cons (dv_var 0) dvs_nil))) (dv_oLst dvs_nil) (fun h => ps_par (i := 1) (j := 2) rfl nd rfl rfl (by decide) rfl rfl h (by rfl)))
    (dss_cons (ds_for (.tree [.inl 3, .inr [4, 5]]) PassesOwn.never rfl (di_enumA rfl T.n_enumerate (dv_var 0)) (pg_tup rfl (pgs_cons (pg_name (i := 3) nd rfl (by first | exact Or.inl rfl | exact Or.inr rfl)) (pgs_cons (pg_tup rfl (pgs_cons (pg_name (i := 4) nd rfl (by first | exact Or.inl rfl | exact Or.inr rfl)) (pgs_cons (pg_name (i := 5) nd rfl (by first | exact Or.inl rfl | exact Or.inr rfl)) pgs_nil))) pgs_nil))) (dss_cons (ds_if (PW.pt (dw_and (dt_cmp (ok_eq (hU64 hr)) bf_eq (dv_var 4) dv_str) (dw_and1 (dt_cmp (ok_eq (hU64 hr)) bf_eq (dv_call (D__law_sure.mono (by decide)) hr rfl (dvs_cons (dv_call (D__law_less.mono (by decide)) hr rfl (dvs_cons (dv_var 0) (dvs_cons (dv_lst (dvs_cons (dv_var 3) dvs_nil)) dvs_nil))) dvs_nil)) (dv_var 1))))) (dss_cons (ds_app 2 (dv_var 3))
    dss_nil) dss_nil)
    dss_nil))
    (dss_pub 2
    (dss_cons (ds_ret (dv_var 2))
    dss_nil))))
abbrev s__law_case_right : Stmt := topS 37
theorem sc__law_case_right : FnScope [("_law_deeds_so" : Str), ("_law_host" : Str), ("_law_due_here" : Str), ("_law_told" : Str)] [("_law_deeds_so" : Str)] (defScope s__law_case_right) := ⟨rfl, rfl, rfl, by decide +kernel, rfl, by decide +kernel, by decide +kernel⟩
def m__law_case_right : MS := (sCons (sPar 1 2 (mCall 1 F_Program (mCons (mVar 0) mNil)) (mCall 1 F__law_due (mCons (mVar 0) mNil)))
    (sCons (sSv 3 (vCallO 1 FO_idle_flushes (mCons (mVar 1) mNil)))
    (sCons (sIf (mNotB (mTru (mPeek 3 (mCall 2 (FR__law_same 6) (mCons (mVar 3) (mCons (mVar 2) mNil)))))) (sCons (sRet (mC (.bl false)))
    sNil) sNil)
    (sCons (sApp 3 (mC (.str ("x" : Str))))
    (sCons (sRet (mAnd (mCall 2 (FR__law_same 6) (mCons (mLst (mCons (mCall 1 F_idle_flushes (mCons (mVar 1) mNil)) (mCons (mCallP 1 [0] F_idle_flushes (mCons (mVar 1) mNil)) mNil))) (mCons (mLst (mCons (mVar 2) (mCons (mVar 2) mNil))) mNil))) (mCall 2 (FR__law_same 6) (mCons (mPrp ("Program" : Str) F_Program_deeds (mVar 1)) (mCons (mVar 0) mNil)))))
    sNil)))))
def F__law_case_right : List D → U → Option (D × U) := runB m__law_case_right 4
theorem ok__law_case_right {P : Program} {w : World} {K : PySem.W.Frag} {mg : Str → Option Value} {base : Heap} {G : Gx K} (T : Tx mg) {f : Addr} {fd : FuncData} (F : Fun K ("_law_case_right" : Str) ("_law_case_right" : Str) s__law_case_right f fd) (P_deeds : PrpOk P w mg base G ("Program" : Str) ("deeds" : Str) 1 F_Program_deeds) (D_Program : MakeOk P w mg base G ("Program" : Str) 7 1 F_Program) (D__law_due : DefOk P w mg base G ("_law_due" : Str) 2 1 F__law_due) (D__law_same : DefOk P w mg base G ("_law_same" : Str) 6 2 (FR__law_same 6)) (D_idle_flushes : DefOk P w mg base G ("idle_flushes" : Str) 10 1 F_idle_flushes) (KP_idle_flushes_0 : DefKp P w mg base G ("idle_flushes" : Str) [("program" : Str)] [0] 10 F_idle_flushes) (DO_idle_flushes : DefOkO P w mg base G ("idle_flushes" : Str) 10 1 FO_idle_flushes) : FnOk P w K mg base CX0 11 f fd [("_law_deeds_so" : Str)] (spF G F__law_case_right 1) :=
  have nd := sc__law_case_right.nd
  def_ok F sc__law_case_right rfl fun cdv A outer s H E hr => (dss_cons (ds_par 1 2 (dv_make (D_Program.mono (by decide)) hr rfl (dvs_cons (dv_var 0) dvs_nil)) (dv_call (D__law_due.mono (by decide)) hr rfl (dvs_cons (dv_var 0) dvs_nil)) (fun h => ps_par (i := 1) (j := 2) rfl nd rfl rfl (by decide) rfl rfl h (by rfl)))
    (dss_cons (ds_setv 3 nd (dv_callO (DO_idle_flushes.mono (by decide)) hr rfl (dvs_cons (dv_var 1) dvs_nil)))
    (dss_cons (ds_if (dt_not (dt_val (dv_peek 3 (dv_call (D__law_same.mono (by decide)) hr rfl (dvs_cons (dv_var 3) (dvs_cons (dv_var 2) dvs_nil)))))) (dss_cons (ds_ret dv_bl)
    dss_nil) dss_nil)
    (dss_cons (ds_app 3 dv_str)
    (dss_cons (ds_ret (dv_and (dv_call (D__law_same.mono (by decide)) hr rfl (dvs_cons (dv_lst (dvs_cons (dv_call (D_idle_flushes.mono (by decide)) hr rfl (dvs_cons (dv_var 1) dvs_nil)) (dvs_cons (dv_callKp (KP_idle_flushes_0.mono (by decide)) hr rfl rfl (dks_cons (dv_var 1) dks_nil)) dvs_nil))) (dvs_cons (dv_lst (dvs_cons (dv_var 2) (dvs_cons (dv_var 2) dvs_nil))) dvs_nil))) (dv_one _ (dv_call (D__law_same.mono (by decide)) hr rfl (dvs_cons (dv_prp (P_deeds.mono (by decide)) hr (dv_var 1)) (dvs_cons (dv_var 0) dvs_nil))))))
    dss_nil)))))
abbrev s__law_by_hand_right : Stmt := topS 38
theorem sc__law_by_hand_right : FnScope [("_law_some" : Str), ("_law_got" : Str), ("_law_due_here" : Str), ("_law_flat" : Str), ("_law_k" : Str)] [] (defScope s__law_by_hand_right) := ⟨rfl, rfl, rfl, by decide +kernel, rfl, by decide +kernel, by decide +kernel⟩
def m__law_by_hand_right : MS := (sCons (sSet 0 (mLst (mCons (mC (.str ("a !a b" : Str))) (mCons (mC (.str ("a !a !a b" : Str))) (mCons (mC (.str ("!a a b" : Str))) (mCons (mC (.str ("a !a b !a" : Str))) (mCons (mC (.str ("a !a b !a b" : Str))) (mCons (mC (.str ("a !a b !a a b" : Str))) (mCons (mC (.str ("a !a a !a b" : Str))) (mCons (mC (.str ("a b !a a !a" : Str))) (mCons (mC (.str ("a !b b" : Str))) (mCons (mC (.str ("!a !b" : Str))) (mCons (mC (.str ("-" : Str))) (mCons (mC (.str ("a !a a b !a b" : Str))) mNil))))))))))))))
    (sCons (sSet 1 (mLc (.one 3) [3] (mItems (mVar 0)) mYes (mCall 1 F_idle_flushes (mCons (mCall 1 F_Program_of (mCons (mVar 3) mNil)) mNil))))
    (sCons (sSet 2 (mLst (mCons (mLst mNil) (mCons (mLst (mCons (mC (.int (1))) (mCons (mC (.int (2))) mNil))) (mCons (mLst (mCons (mC (.int (0))) mNil)) (mCons (mLst (mCons (mC (.int (3))) mNil)) (mCons (mLst (mCons (mC (.int (3))) mNil)) (mCons (mLst (mCons (mC (.int (3))) mNil)) (mCons (mLst (mCons (mC (.int (1))) mNil)) (mCons (mLst (mCons (mC (.int (2))) (mCons (mC (.int (4))) mNil))) (mCons (mLst (mCons (mC (.int (1))) mNil)) (mCons (mLst (mCons (mC (.int (0))) (mCons (mC (.int (1))) mNil))) (mCons (mLst mNil) (mCons (mLst mNil) mNil))))))))))))))
    (sCons (sSet 0 (mLst (mCons (mC (.str ("a !a !b !a b" : Str))) (mCons (mC (.str ("a !a c !a b" : Str))) (mCons (mC (.str ("a !a a !a a !a b" : Str))) (mCons (mC (.str ("a !a b b !a !a c" : Str))) (mCons (mC (.str ("a b !a !b c" : Str))) (mCons (mC (.str ("a !a b !b c !c a" : Str))) mNil))))))))
    (sCons (sSet 1 (mBin fAdd (mVar 1) (mLc (.one 3) [3] (mItems (mVar 0)) mYes (mCall 1 F_idle_flushes (mCons (mCall 1 F_Program_of (mCons (mVar 3) mNil)) mNil)))))
    (sCons (sSet 2 (mBin fAdd (mVar 2) (mLst (mCons (mLst (mCons (mC (.int (1))) (mCons (mC (.int (2))) (mCons (mC (.int (3))) mNil)))) (mCons (mLst (mCons (mC (.int (3))) mNil)) (mCons (mLst (mCons (mC (.int (1))) (mCons (mC (.int (3))) mNil))) (mCons (mLst (mCons (mC (.int (4))) (mCons (mC (.int (5))) mNil))) (mCons (mLst mNil) (mCons (mLst mNil) mNil)))))))))
    (sCons (sSv 1 (vAdd (mVar 1) (mLst (mCons (mCall 1 F_idle_flushes (mCons (mCall 1 F_Program_of (mCons (mC (.str ("a !a a !a" : Str))) mNil)) mNil)) (mCons (mCall 1 F_idle_flushes (mCons (mCall 1 F_Program_of (mCons (mC (.str ("a !a a !a b a" : Str))) mNil)) mNil)) (mCons (mCall 1 F_idle_flushes (mCons (mCall 1 F_Program_of (mCons (mBin joinD (mC (.str (" " : Str))) (mBin fMul (mLst (mCons (mC (.str ("a !a b" : Str))) mNil)) (mC (.int (20))))) mNil)) mNil)) mNil))))))
    (sCons (sSv 2 (vAdd (mVar 2) (mLst (mCons (mLst (mCons (mC (.int (1))) (mCons (mC (.int (3))) mNil))) (mCons (mLst (mCons (mC (.int (1))) mNil)) (mCons (mLst mNil) mNil))))))
    (sCons (sApp 1 (mCall 1 F_idle_flushes (mCons (mCall 1 F_Program_of (mCons (mBin joinD (mC (.str (" " : Str))) (mBin fMul (mLst (mCons (mC (.str ("a !a !b" : Str))) mNil)) (mC (.int (20))))) mNil)) mNil)))
    (sPub 1
    (sCons (sApp 2 (mLc (.one 4) [4] (mRange1 (mC (.int (60)))) (mTru (mBin cGt (mBin fMod (mBi bInt (mCons (mVar 4) mNil)) (mC (.int (3)))) (mC (.int (0))))) (mVar 4)))
    (sPub 2
    (sCons (sRet (mCall 2 (FR__law_same 6) (mCons (mVar 1) (mCons (mVar 2) mNil))))
    sNil)))))))))))))
def F__law_by_hand_right : List D → U → Option (D × U) := runB m__law_by_hand_right 5
theorem ok__law_by_hand_right {P : Program} {w : World} {K : PySem.W.Frag} {mg : Str → Option Value} {base : Heap} {G : Gx K} (T : Tx mg) {f : Addr} {fd : FuncData} (F : Fun K ("_law_by_hand_right" : Str) ("_law_by_hand_right" : Str) s__law_by_hand_right f fd) (D__law_same : DefOk P w mg base G ("_law_same" : Str) 6 2 (FR__law_same 6)) (D_idle_flushes : DefOk P w mg base G ("idle_flushes" : Str) 10 1 F_idle_flushes) (ST_of : StOk P w mg base G ("Program" : Str) ("of" : Str) 9 1 F_Program_of) : FnOk P w K mg base CX0 11 f fd [] (spF G F__law_by_hand_right 0) :=
  have nd := sc__law_by_hand_right.nd
  def_ok F sc__law_by_hand_right rfl fun cdv A outer s H E hr => (dss_cons (ds_set 0 nd (dv_lst (dvs_cons dv_str (dvs_cons dv_str (dvs_cons dv_str (dvs_cons dv_str (dvs_cons dv_str (dvs_cons dv_str (dvs_cons dv_str (dvs_cons dv_str (dvs_cons dv_str (dvs_cons dv_str (dvs_cons dv_str (dvs_cons dv_str dvs_nil))))))))))))))
    (dss_cons (ds_setLc 1 (.one 3) [3] rfl nd (sw_true rfl rfl rfl (by decide +kernel)) (di_items (dv_var 0)) (blkOk_by (own := [(("_law_flat" : Str), 3)]) (N := [("_law_some" : Str), ("_law_got" : Str), ("_law_due_here" : Str), ("_law_flat" : Str), ("_law_k" : Str)]) (sc := defScope s__law_by_hand_right) (by decide +kernel)) rfl (by decide) (fun _ _ _ _ _ => (pg_name (i := 3) nd rfl (by first | exact Or.inl rfl | exact Or.inr rfl))) (fun _ _ _ _ _ => dts_no) (fun _ _ _ _ _ => (dv_call (D_idle_flushes.mono (by decide)) hr rfl (dvs_cons (dv_sm (ST_of.mono (by decide)) hr rfl (dvs_cons (dv_var 3) dvs_nil)) dvs_nil))))
    (dss_cons (ds_set 2 nd (dv_lst (dvs_cons (dv_lst dvs_nil) (dvs_cons (dv_lst (dvs_cons dv_int (dvs_cons dv_int dvs_nil))) (dvs_cons (dv_lst (dvs_cons dv_int dvs_nil)) (dvs_cons (dv_lst (dvs_cons dv_int dvs_nil)) (dvs_cons (dv_lst (dvs_cons dv_int dvs_nil)) (dvs_cons (dv_lst (dvs_cons dv_int dvs_nil)) (dvs_cons (dv_lst (dvs_cons dv_int dvs_nil)) (dvs_cons (dv_lst (dvs_cons dv_int (dvs_cons dv_int dvs_nil))) (dvs_cons (dv_lst (dvs_cons dv_int dvs_nil)) (dvs_cons (dv_lst (dvs_cons dv_int (dvs_cons dv_int dvs_nil))) (dvs_cons (dv_lst dvs_nil) (dvs_cons (dv_lst dvs_nil) dvs_nil))))))))))))))
    (dss_cons (ds_set 0 nd (dv_lst (dvs_cons dv_str (dvs_cons dv_str (dvs_cons dv_str (dvs_cons dv_str (dvs_cons dv_str (dvs_cons dv_str dvs_nil))))))))
    (dss_cons (ds_set 1 nd (dv_bin ok_add (dv_var 1) (dv_lc (.one 3) [3] rfl nd (di_items (dv_var 0)) (blkOk_by (own := [(("_law_flat" : Str), 3)]) (N := [("_law_some" : Str), ("_law_got" : Str), ("_law_due_here" : Str), ("_law_flat" : Str), ("_law_k" : Str)]) (sc := defScope s__law_by_hand_right) (by decide +kernel)) rfl (by decide) (fun _ _ _ _ _ => (pg_name (i := 3) nd rfl (by first | exact Or.inl rfl | exact Or.inr rfl))) (fun _ _ _ _ _ => dts_no) (fun _ _ _ _ _ => (dv_call (D_idle_flushes.mono (by decide)) hr rfl (dvs_cons (dv_sm (ST_of.mono (by decide)) hr rfl (dvs_cons (dv_var 3) dvs_nil)) dvs_nil))))))
    (dss_cons (ds_set 2 nd (dv_bin ok_add (dv_var 2) (dv_lst (dvs_cons (dv_lst (dvs_cons dv_int (dvs_cons dv_int (dvs_cons dv_int dvs_nil)))) (dvs_cons (dv_lst (dvs_cons dv_int dvs_nil)) (dvs_cons (dv_lst (dvs_cons dv_int (dvs_cons dv_int dvs_nil))) (dvs_cons (dv_lst (dvs_cons dv_int (dvs_cons dv_int dvs_nil))) (dvs_cons (dv_lst dvs_nil) (dvs_cons (dv_lst dvs_nil) dvs_nil)))))))))
    (dss_cons (ds_setv 1 nd (dv_oAdd (dv_var 1) (dv_lst (dvs_cons (dv_call (D_idle_flushes.mono (by decide)) hr rfl (dvs_cons (dv_sm (ST_of.mono (by decide)) hr rfl (dvs_cons dv_str dvs_nil)) dvs_nil)) (dvs_cons (dv_call (D_idle_flushes.mono (by decide)) hr rfl (dvs_cons (dv_sm (ST_of.mono (by decide)) hr rfl (dvs_cons dv_str dvs_nil)) dvs_nil)) (dvs_cons (dv_call (D_idle_flushes.mono (by decide)) hr rfl (dvs_cons (dv_sm (ST_of.mono (by decide)) hr rfl (dvs_cons (dv_join dv_str (dv_bin ok_mul (dv_lst (dvs_cons dv_str dvs_nil)) dv_int)) dvs_nil)) dvs_nil)) dvs_nil))))))
    (dss_cons (ds_setv 2 nd (dv_oAdd (dv_var 2) (dv_lst (dvs_cons (dv_lst (dvs_cons dv_int (dvs_cons dv_int dvs_nil))) (dvs_cons (dv_lst (dvs_cons dv_int dvs_nil)) (dvs_cons (dv_lst dvs_nil) dvs_nil))))))
    (dss_cons (ds_app 1 (dv_call (D_idle_flushes.mono (by decide)) hr rfl (dvs_cons (dv_sm (ST_of.mono (by decide)) hr rfl (dvs_cons (dv_join dv_str (dv_bin ok_mul (dv_lst (dvs_cons dv_str dvs_nil)) dv_int)) dvs_nil)) dvs_nil)))
    (dss_pub 1
    (dss_cons (ds_app 2 (dv_lc (.one 4) [4] rfl nd (di_range1 rfl T.n_range dv_int) (blkOk_by (own := [(("_law_k" : Str), 4)]) (N := [("_law_some" : Str), ("_law_got" : Str), ("_law_due_here" : Str), ("_law_flat" : Str), ("_law_k" : Str)]) (sc := defScope s__law_by_hand_right) (by decide +kernel)) rfl (by decide) (fun _ _ _ _ _ => (pg_name (i := 4) nd rfl (by first | exact Or.inl rfl | exact Or.inr rfl))) (fun _ _ _ _ _ => dts_one (dt_cmp ok_gt bf_gt (dv_bin ok_mod (dv_ty ok_int rfl T.n_int (by decide +kernel) (dvs_cons (dv_var 4) dvs_nil)) dv_int) dv_int)) (fun _ _ _ _ _ => (dv_var 4))))
    (dss_pub 2
    (dss_cons (ds_ret (dv_call (D__law_same.mono (by decide)) hr rfl (dvs_cons (dv_var 1) (dvs_cons (dv_var 2) dvs_nil))))
    dss_nil)))))))))))))
abbrev s__law_right : Stmt := topS 39
theorem sc__law_right : FnScope [("_law_urn" : Str), ("_law_turn" : Str)] [("_law_urn" : Str)] (defScope s__law_right) := ⟨rfl, rfl, rfl, by decide +kernel, rfl, by decide +kernel, by decide +kernel⟩
def m__law_right : MS := (sCons (sRet (mBi bAll (mCons (mLc (.one 1) [1] (mRange1 (mC (.int (8)))) mYes (mCall 1 F__law_case_right (mCons (mCall 3 F__law_busy (mCons (mVar 0) (mCons (mCall 2 F__law_tags (mCons (mVar 0) (mCons (mBin fAdd (mC (.int (2))) (mCall 2 F__law_take (mCons (mVar 0) (mCons (mC (.int (2))) mNil)))) mNil))) (mCons (mCall 2 F__law_take (mCons (mVar 0) (mCons (mC (.int (13))) mNil))) mNil)))) mNil))) mNil)))
    sNil)
def F__law_right : List D → U → Option (D × U) := runB m__law_right 2
theorem ok__law_right {P : Program} {w : World} {K : PySem.W.Frag} {mg : Str → Option Value} {base : Heap} {G : Gx K} (T : Tx mg) {f : Addr} {fd : FuncData} (F : Fun K ("_law_right" : Str) ("_law_right" : Str) s__law_right f fd) (D__law_busy : DefOk P w mg base G ("_law_busy" : Str) 3 3 F__law_busy) (D__law_case_right : DefOk P w mg base G ("_law_case_right" : Str) 11 1 F__law_case_right) (D__law_tags : DefOk P w mg base G ("_law_tags" : Str) 3 2 F__law_tags) (D__law_take : DefOk P w mg base G ("_law_take" : Str) 1 2 F__law_take) : FnOk P w K mg base CX0 12 f fd [("_law_urn" : Str)] (spF G F__law_right 1) :=
  have nd := sc__law_right.nd
  def_ok F sc__law_right rfl fun cdv A outer s H E hr => (dss_cons (ds_ret (dv_bi (ok_all (by rfl)) rfl T.n_all (by decide +kernel) (dvs_cons (dv_lc (.one 1) [1] rfl nd (di_range1 rfl T.n_range dv_int) (blkOk_by (own := [(("_law_turn" : Str), 1)]) (N := [("_law_urn" : Str), ("_law_turn" : Str)]) (sc := defScope s__law_right) (by decide +kernel)) rfl (by decide) (fun _ _ _ _ _ => (pg_name (i := 1) nd rfl (by first | exact Or.inl rfl | exact Or.inr rfl))) (fun _ _ _ _ _ => dts_no) (fun _ _ _ _ _ => (dv_call (D__law_case_right.mono (by decide)) hr rfl (dvs_cons (dv_call (D__law_busy.mono (by decide)) hr rfl (dvs_cons (dv_var 0) (dvs_cons (dv_call (D__law_tags.mono (by decide)) hr rfl (dvs_cons (dv_var 0) (dvs_cons (dv_bin ok_add dv_int (dv_call (D__law_take.mono (by decide)) hr rfl (dvs_cons (dv_var 0) (dvs_cons dv_int dvs_nil)))) dvs_nil))) (dvs_cons (dv_call (D__law_take.mono (by decide)) hr rfl (dvs_cons (dv_var 0) (dvs_cons dv_int dvs_nil))) dvs_nil)))) dvs_nil)))) dvs_nil)))
    dss_nil)
end Lw76

/-! Kj: the urn of the laws from k49 on. -/
namespace Dv
open PySem PySem.Spec PyProof.Rows L2
def m_takeH : MS := (sCons (sIf (mTru (mBin cGt (mUrn0 0) (mC (.int (0))))) (sCons (sSet 2 (mBin fMod (mBi bInt (mCons (mUrn0 0) mNil)) (mVar 1)))
    (sCons (sUrn0 0 (mBin fDiv (mUrn0 0) (mVar 1)))
    (sCons (sRet (mVar 2))
    sNil))) sNil)
    (sCons (sUrn2 0 (mBin fAdd (mUrn2 0) (mC (.int (1)))))
    (sCons (sSet 3 (mBin fMod (mBi bInt (mCons (mBin fMul (mBin fAdd (mUrn1 0) (mBin fMul (mC (.int (48271))) (mUrn2 0))) (mBin fAdd (mC (.int (39607))) (mUrn2 0))) mNil)) (mC (.int (2147483647)))))
    (sCons (sSet 4 (mBin fAdd (mBin fMod (mBi bInt (mCons (mVar 3) mNil)) (mC (.int (40009)))) (mC (.int (7)))))
    (sCons (sSet 5 (mBin fMod (mBi bInt (mCons (mBin fMul (mBin fAdd (mBin fAdd (mVar 3) (mUrn2 0)) (mBin fDiv (mUrn1 0) (mC (.int (1000003))))) (mVar 4)) mNil)) (mC (.int (2147483629)))))
    (sCons (sRet (mBin fMod (mBi bInt (mCons (mBin fDiv (mBin fMod (mBi bInt (mCons (mBin fAdd (mBin fMul (mVar 5) (mC (.int (48271)))) (mVar 3)) mNil)) (mC (.int (2147483587)))) (mC (.int (64)))) mNil)) (mVar 1)))
    sNil))))))
def F_takeH : List D → U → Option (D × U) := runB m_takeH 6
theorem takeH_ok {n low : Int} {u : U} (h : OkU n u) (hn : n ≤ 2 ^ 40) (h0 : 0 < low) (h1 : low < 1073741824) :
    ∃ r u', F_takeH [.urn, .int low] u = some (.int r, u') ∧ 0 ≤ r ∧ r < low ∧ OkU (n + 1) u' := by
  obtain ⟨ha, ⟨hb1, hb2⟩, hc1, hc2⟩ := h
  obtain ⟨a, b, c⟩ := u
  dsimp only at ha hb1 hb2 hc1 hc2
  by_cases q : 0 < a
  · refine ⟨a % low, ⟨a / low, b, c⟩, ?_, Int.emod_nonneg _ (by omega), Int.emod_lt_of_pos _ h0, ⟨Int.ediv_nonneg ha (by omega), ⟨hb1, hb2⟩, hc1, by show c ≤ n + 1; omega⟩⟩
    simp [F_takeH, runB, m_takeH, sCons, sIf, mTru, mBin, mUrn0, isUrn, bnd, lft, mC, cGt, truD, q, sSet, sRet, mBi, mCons, mNil, bInt, mVar, fMod_p h0, fDiv_p ⟨h0, h1⟩, sUrn0, sNil]
  · obtain ⟨k, hk⟩ : ∃ k, k = c + 1 := ⟨_, rfl⟩
    obtain ⟨once, ho⟩ : ∃ z, z = (b + 48271 * k) * (39607 + k) % 2147483647 := ⟨_, rfl⟩
    obtain ⟨far, hf⟩ : ∃ z, z = once % 40009 + 7 := ⟨_, rfl⟩
    obtain ⟨twice, ht⟩ : ∃ z, z = (once + k + b / 1000003) * far % 2147483629 := ⟨_, rfl⟩
    have o1 : 0 ≤ once ∧ once < 2147483647 := by rw [ho]; exact ⟨Int.emod_nonneg _ (by decide), Int.emod_lt_of_pos _ (by decide)⟩
    have f1 : 0 ≤ far ∧ far < 50000 := by omega
    have t1 : 0 ≤ twice ∧ twice < 2147483629 := by rw [ht]; exact ⟨Int.emod_nonneg _ (by decide), Int.emod_lt_of_pos _ (by decide)⟩
    have e0 := fMul_r (i := 48271) (j := k) (by omega)
    have e1 := fMul_r (i := b + 48271 * k) (j := 39607 + k) (by omega)
    have e2 := fMul_r (i := once + k + b / 1000003) (j := far) (by omega)
    have e3 := fMul_r (i := twice) (j := 48271) (by decide)
    have m1 := fMod_p (i := (b + 48271 * k) * (39607 + k)) (j := 2147483647) (by decide)
    have m2 := fMod_p (i := once) (j := 40009) (by decide)
    have m3 := fMod_p (i := (once + k + b / 1000003) * far) (j := 2147483629) (by decide)
    have m4 := fMod_p (i := twice * 48271 + once) (j := 2147483587) (by decide)
    have d1 := fDiv_p (i := b) (j := 1000003) (by decide)
    have d2 := fDiv_p (i := (twice * 48271 + once) % 2147483587) (j := 64) (by decide)
    rw [← ho] at m1
    rw [← ht] at m3
    refine ⟨(twice * 48271 + once) % 2147483587 / 64 % low, ⟨a, b, k⟩, ?_, Int.emod_nonneg _ (by omega), Int.emod_lt_of_pos _ h0, ⟨ha, ⟨hb1, hb2⟩, by show 0 ≤ k; omega, by show k ≤ n + 1; omega⟩⟩
    simp only [F_takeH, runB, m_takeH, sCons, sIf, mTru, mBin, mUrn0, mUrn1, mUrn2, isUrn, bnd, lft, mC, cGt, truD, q, sSet, sRet, mBi, mCons, mNil, bInt, mVar, fMod_p h0, fDiv_p ⟨h0, h1⟩, sUrn0, sUrn2, sNil, fAdd, List.map, List.length, List.replicate, List.append, List.cons_append, List.nil_append, List.getElem?_cons_zero, List.getElem?_cons_succ, List.set, decide_false, if_true, Bool.false_eq_true, if_false, ← hk, ← hf, e0, e1, e2, e3, m1, m2, m3, m4, d1, d2, Nat.reduceSub, List.replicate_succ, List.replicate_zero]
def m_ofH : MS := (sCons (sRet (mBin ixD (mVar 1) (mCall 2 F_takeH (mCons (mVar 0) (mCons (mBi bLen (mCons (mVar 1) mNil)) mNil)))))
    sNil)
def F_ofH : List D → U → Option (D × U) := runB m_ofH 2
theorem ofH_ok {n : Int} {u : U} {ds : List D} (h : OkU n u) (hn : n ≤ 2 ^ 40) (h0 : 0 < ds.length) (h1 : ds.length < 1000) :
    ∃ d u', F_ofH [.urn, .lst ds] u = some (d, u') ∧ d ∈ ds ∧ OkU (n + 1) u' := by
  obtain ⟨r, u', e, r0, r1, hu⟩ := takeH_ok (low := ds.length) h hn (by omega) (by omega)
  have hr : r.toNat < ds.length := by omega
  have e2 : ixD (.lst ds) (.int r) = some ds[r.toNat] := by
    have := atI_nat (List.getElem?_eq_getElem hr)
    rw [Int.toNat_of_nonneg r0] at this
    exact this
  refine ⟨_, u', ?_, List.getElem_mem hr, hu⟩
  simp only [F_ofH, m_ofH, runB, sCons, sSet, sTgt, sPar, sRet, sIf, sNil, sDrop, mVar, mC, mCons, mNil, mLst, mTup, mBin, mCall, mBi, mAnd, mOr, mNot, mIte, mTru, mNotB, mAndB, mOrB, mChain, mNeg, mSl, moNo, moAt, mIsi, bnd, lft, bindT, setE, List.map_cons, List.map_nil, List.length_cons, List.length_nil, List.cons_append, List.nil_append, List.getElem?_cons_zero, List.getElem?_cons_succ, List.set_cons_zero, List.set_cons_succ, if_true, if_false, Bool.false_eq_true, List.replicate_succ, List.replicate_zero, Nat.reduceSub, Nat.reduceAdd, reduceIte, Option.map_some, Option.map_none, Nat.zero_add, bLen, e, e2]
def m_sameA (F_same_ : List D → U → Option (D × U)) : MS := (sCons (sIf (mTru (mIsi ["list", "tuple"] (mVar 1))) (sCons (sIf (mOrB (mTru (mBin cNe (mIsi ["list"] (mVar 0)) (mIsi ["list"] (mVar 1)))) (mTru (mBin cNe (mIsi ["tuple"] (mVar 0)) (mIsi ["tuple"] (mVar 1))))) (sCons (sRet (mC (.bl false)))
    sNil) sNil)
    (sCons (sRet (mAnd (mBin cEq (mBi bLen (mCons (mVar 0) mNil)) (mBi bLen (mCons (mVar 1) mNil))) (mBi bAll (mCons (mLc (.many [2, 3]) [2, 3] (mZip (mVar 0) (mVar 1)) mYes (mCall 2 F_same_ (mCons (mVar 2) (mCons (mVar 3) mNil)))) mNil))))
    sNil)) sNil)
    (sCons (sIf (mOrB (mTru (mBin cIs (mVar 1) (mC .non))) (mTru (mIsi ["bool", "str"] (mVar 1)))) (sCons (sRet (mAnd (mBin cEq (mVar 0) (mVar 1)) (mAnd (mBin cEq (mIsi ["bool"] (mVar 0)) (mIsi ["bool"] (mVar 1))) (mBin cEq (mBin cIs (mVar 0) (mC .non)) (mBin cIs (mVar 1) (mC .non))))))
    sNil) sNil)
    (sCons (sRet (mAnd (mIsi ["int"] (mVar 0)) (mAnd (mNot (mIsi ["bool"] (mVar 0))) (mBin cEq (mVar 0) (mVar 1)))))
    sNil)))
def FR_sameA : Nat → List D → U → Option (D × U)
  | 0 => fun _ _ => none
  | n + 1 => runB (m_sameA (FR_sameA n)) 4
theorem sameA_self {u : U} : ∀ (n : Nat) (d : D), plainN n d = true → FR_sameA (n + 1) [d, d] u = some (.bl true, u) := by
  intro n
  induction n with
  | zero =>
    intro d h
    cases d with
    | non => exact runB_rt (sc_nx (sIf_f (mTru_eq (mIsi_eq rfl isi2_non) rfl) rfl) (sc_rt (sIf_t (mOrB_t (mTru_eq (mBin_eq rfl rfl rfl) rfl)) (sc_rt (sRet_eq (mAnd_t (mBin_eq rfl rfl rfl) rfl (mAnd_t (mBin_eq (mIsi_eq rfl isi_b_non) (mIsi_eq rfl isi_b_non) rfl) rfl (mBin_eq (mBin_eq rfl rfl rfl) (mBin_eq rfl rfl rfl) rfl))))))))
    | bl b => exact runB_rt (sc_nx (sIf_f (mTru_eq (mIsi_eq rfl (isi2_bl b)) rfl) rfl) (sc_rt (sIf_t (mOrB_f (mTru_eq (mBin_eq rfl rfl rfl) rfl) (mTru_eq (mIsi_eq rfl (isi_bs_bl b)) rfl)) (sc_rt (sRet_eq (mAnd_t (mBin_eq rfl rfl (ceq_bl b)) rfl (mAnd_t (mBin_eq (mIsi_eq rfl (isi_b_bl b)) (mIsi_eq rfl (isi_b_bl b)) rfl) rfl (mBin_eq (mBin_eq rfl rfl rfl) (mBin_eq rfl rfl rfl) rfl))))))))
    | str x => exact runB_rt (sc_nx (sIf_f (mTru_eq (mIsi_eq rfl (isi2_str x)) rfl) rfl) (sc_rt (sIf_t (mOrB_f (mTru_eq (mBin_eq rfl rfl rfl) rfl) (mTru_eq (mIsi_eq rfl (isi_bs_str x)) rfl)) (sc_rt (sRet_eq (mAnd_t (mBin_eq rfl rfl (ceq_str x)) rfl (mAnd_t (mBin_eq (mIsi_eq rfl (isi_b_str x)) (mIsi_eq rfl (isi_b_str x)) rfl) rfl (mBin_eq (mBin_eq rfl rfl rfl) (mBin_eq rfl rfl rfl) rfl))))))))
    | int i => exact runB_rt (sc_nx (sIf_f (mTru_eq (mIsi_eq rfl (isi2_int i)) rfl) rfl) (sc_nx (sIf_f (mOrB_f (mTru_eq (mBin_eq rfl rfl rfl) rfl) (mTru_eq (mIsi_eq rfl (isi_bs_int i)) rfl)) rfl) (sc_rt (sRet_eq (mAnd_t (mIsi_eq rfl (isi_ii i)) rfl (mAnd_t (mNot_eq (k := false) (mIsi_eq rfl (isi_ib i)) rfl) rfl (mBin_eq rfl rfl (ceq_int i))))))))
    | _ => simp [plainN] at h
  | succ n ih =>
    intro d h
    cases d with
    | non => exact runB_rt (sc_nx (sIf_f (mTru_eq (mIsi_eq rfl isi2_non) rfl) rfl) (sc_rt (sIf_t (mOrB_t (mTru_eq (mBin_eq rfl rfl rfl) rfl)) (sc_rt (sRet_eq (mAnd_t (mBin_eq rfl rfl rfl) rfl (mAnd_t (mBin_eq (mIsi_eq rfl isi_b_non) (mIsi_eq rfl isi_b_non) rfl) rfl (mBin_eq (mBin_eq rfl rfl rfl) (mBin_eq rfl rfl rfl) rfl))))))))
    | bl b => exact runB_rt (sc_nx (sIf_f (mTru_eq (mIsi_eq rfl (isi2_bl b)) rfl) rfl) (sc_rt (sIf_t (mOrB_f (mTru_eq (mBin_eq rfl rfl rfl) rfl) (mTru_eq (mIsi_eq rfl (isi_bs_bl b)) rfl)) (sc_rt (sRet_eq (mAnd_t (mBin_eq rfl rfl (ceq_bl b)) rfl (mAnd_t (mBin_eq (mIsi_eq rfl (isi_b_bl b)) (mIsi_eq rfl (isi_b_bl b)) rfl) rfl (mBin_eq (mBin_eq rfl rfl rfl) (mBin_eq rfl rfl rfl) rfl))))))))
    | str x => exact runB_rt (sc_nx (sIf_f (mTru_eq (mIsi_eq rfl (isi2_str x)) rfl) rfl) (sc_rt (sIf_t (mOrB_f (mTru_eq (mBin_eq rfl rfl rfl) rfl) (mTru_eq (mIsi_eq rfl (isi_bs_str x)) rfl)) (sc_rt (sRet_eq (mAnd_t (mBin_eq rfl rfl (ceq_str x)) rfl (mAnd_t (mBin_eq (mIsi_eq rfl (isi_b_str x)) (mIsi_eq rfl (isi_b_str x)) rfl) rfl (mBin_eq (mBin_eq rfl rfl rfl) (mBin_eq rfl rfl rfl) rfl))))))))
    | int i => exact runB_rt (sc_nx (sIf_f (mTru_eq (mIsi_eq rfl (isi2_int i)) rfl) rfl) (sc_nx (sIf_f (mOrB_f (mTru_eq (mBin_eq rfl rfl rfl) rfl) (mTru_eq (mIsi_eq rfl (isi_bs_int i)) rfl)) rfl) (sc_rt (sRet_eq (mAnd_t (mIsi_eq rfl (isi_ii i)) rfl (mAnd_t (mNot_eq (k := false) (mIsi_eq rfl (isi_ib i)) rfl) rfl (mBin_eq rfl rfl (ceq_int i))))))))
    | lst xs =>
      unfold plainN at h
      rw [Bool.and_eq_true] at h
      have few := of_decide_eq_true h.1
      have hx := same_go (f := FR_sameA (n + 1)) (xs := xs) (a := .lst xs) (b := .lst xs) (u := u) fun x hx => ih x (List.all_eq_true.mp h.2 x hx)
      exact runB_rt (sc_rt (sIf_t (mTru_eq (mIsi_eq rfl (isi2_lst xs)) rfl) (sc_nx (sIf_f (mOrB_f (mTru_eq (mBin_eq (mIsi_eq rfl (isi_l_l xs)) (mIsi_eq rfl (isi_l_l xs)) rfl) rfl) (mTru_eq (mBin_eq (mIsi_eq rfl (isi_lt xs)) (mIsi_eq rfl (isi_lt xs)) rfl) rfl)) rfl)
        (sc_rt (sRet_eq (mAnd_t (mBin_eq (mBi_eq (c1 rfl) (len_l few)) (mBi_eq (c1 rfl) (len_l few)) (ceq_int _)) rfl (mBi_eq (c1 (mLc_eq (mZip_l rfl rfl) hx (by rw [List.length_map, zip_len]; exact isiz few))) (bAll_ts _))))))))
    | tup xs =>
      unfold plainN at h
      rw [Bool.and_eq_true] at h
      have few := of_decide_eq_true h.1
      have hx := same_go (f := FR_sameA (n + 1)) (xs := xs) (a := .tup xs) (b := .tup xs) (u := u) fun x hx => ih x (List.all_eq_true.mp h.2 x hx)
      exact runB_rt (sc_rt (sIf_t (mTru_eq (mIsi_eq rfl (isi2_tup xs)) rfl) (sc_nx (sIf_f (mOrB_f (mTru_eq (mBin_eq (mIsi_eq rfl (isi_t_l xs)) (mIsi_eq rfl (isi_t_l xs)) rfl) rfl) (mTru_eq (mBin_eq (mIsi_eq rfl (isi_tt xs)) (mIsi_eq rfl (isi_tt xs)) rfl) rfl)) rfl)
        (sc_rt (sRet_eq (mAnd_t (mBin_eq (mBi_eq (c1 rfl) (len_t few)) (mBi_eq (c1 rfl) (len_t few)) (ceq_int _)) rfl (mBi_eq (c1 (mLc_eq (mZip_t rfl rfl) hx (by rw [List.length_map, zip_len]; exact isiz few))) (bAll_ts _))))))))
    | _ => simp [plainN] at h
end Dv

/-! PG: what a Program of DEEDs tells. -/
namespace Lw76
open PySem PySem.Spec PyProof.Rows L2 Dv
/-! ### tupled, lists -/
theorem isi2_str (x : Str) : isiD (.str x) ["list", "tuple"] = some false := by show kitAnyB "str" ["list", "tuple"] = some false; decide +kernel
theorem isi2_int (x : Int) : isiD (.int x) ["list", "tuple"] = some false := by show kitAnyB "int" ["list", "tuple"] = some false; decide +kernel
theorem isi2_lst (x : List D) : isiD (.lst x) ["list", "tuple"] = some true := by show kitAnyB "list" ["list", "tuple"] = some true; decide +kernel
theorem isi2_tup (x : List D) : isiD (.tup x) ["list", "tuple"] = some true := by show kitAnyB "tuple" ["list", "tuple"] = some true; decide +kernel
theorem tupled_str {n : Nat} {x : Str} {u : U} : FR_tupled (n + 1) [.str x] u = some (.str x, u) :=
  runB_rt (sc_nx (sIf_f (mTru_eq (mIsi_eq rfl (isi2_str x)) rfl) rfl) (sc_rt (sRet_eq rfl)))
theorem tupled_int {n : Nat} {x : Int} {u : U} : FR_tupled (n + 1) [.int x] u = some (.int x, u) :=
  runB_rt (sc_nx (sIf_f (mTru_eq (mIsi_eq rfl (isi2_int x)) rfl) rfl) (sc_rt (sRet_eq rfl)))
theorem tupled_tup {n : Nat} {xs : List D} {g : D → D} {u : U} (h : ∀ d ∈ xs, FR_tupled n [d] u = some (g d, u)) (few : xs.length ≤ 1000) : FR_tupled (n + 1) [.tup xs] u = some (.tup (xs.map g), u) :=
  runB_rt (sc_rt (sIf_t (mTru_eq (mIsi_eq rfl (isi2_tup xs)) rfl) (sc_rt (sRet_eq (mBi_eq (c1 (mLc_eq (mItems_eq rfl rfl) (compL_pure fun d hd => turnL_eq rfl (mCall_eq (c1 rfl) rfl (h d hd))) (by rw [List.length_map]; exact isiz few))) rfl)))))
theorem tupled_lst {n : Nat} {xs : List D} {g : D → D} {u : U} (h : ∀ d ∈ xs, FR_tupled n [d] u = some (g d, u)) (few : xs.length ≤ 1000) : FR_tupled (n + 1) [.lst xs] u = some (.tup (xs.map g), u) :=
  runB_rt (sc_rt (sIf_t (mTru_eq (mIsi_eq rfl (isi2_lst xs)) rfl) (sc_rt (sRet_eq (mBi_eq (c1 (mLc_eq (mItems_eq rfl rfl) (compL_pure fun d hd => turnL_eq rfl (mCall_eq (c1 rfl) rfl (h d hd))) (by rw [List.length_map]; exact isiz few))) rfl)))))
/-- a pair of a text and something plain stays -/
def asT : D → D
  | .lst xs => .tup xs
  | d => d
theorem tupled_deed {n : Nat} {p : Dd} {u : U} : FR_tupled (n + 2) [deedD p] u = some (deedD p, u) := by
  have := tupled_tup (n := n + 1) (xs := [.str (wdS p.1), .str p.2]) (g := id) (u := u) (fun d hd => by
    simp only [List.mem_cons, List.not_mem_nil, or_false] at hd
    rcases hd with rfl | rfl <;> exact tupled_str) (by simp)
  simpa [deedD] using this
theorem tupled_deedL {n : Nat} {p : Dd} {u : U} : FR_tupled (n + 2) [deedL p] u = some (deedD p, u) := by
  have := tupled_lst (n := n + 1) (xs := [.str (wdS p.1), .str p.2]) (g := id) (u := u) (fun d hd => by
    simp only [List.mem_cons, List.not_mem_nil, or_false] at hd
    rcases hd with rfl | rfl <;> exact tupled_str) (by simp)
  simpa [deedD, deedL] using this
theorem tupled_line {n : Nat} {l : Str × Int} {u : U} : FR_tupled (n + 2) [lineD l] u = some (lineD l, u) := by
  have := tupled_tup (n := n + 1) (xs := [.str l.1, .int l.2]) (g := id) (u := u) (fun d hd => by
    simp only [List.mem_cons, List.not_mem_nil, or_false] at hd
    rcases hd with rfl | rfl
    · exact tupled_str
    · exact tupled_int) (by simp)
  simpa [lineD] using this
theorem tupled_deeds {n : Nat} {ds : List Dd} {u : U} (few : ds.length ≤ 1000) : FR_tupled (n + 3) [.tup (ds.map deedD)] u = some (.tup (ds.map deedD), u) := by
  have := tupled_tup (n := n + 2) (xs := ds.map deedD) (g := id) (u := u) (fun d hd => by
    obtain ⟨p, _, rfl⟩ := List.mem_map.mp hd
    exact tupled_deed) (by rw [List.length_map]; exact few)
  simpa using this
theorem tupled_deedsL {n : Nat} {ds : List Dd} {u : U} (few : ds.length ≤ 1000) : FR_tupled (n + 3) [.lst (ds.map deedL)] u = some (.tup (ds.map deedD), u) := by
  have := tupled_lst (n := n + 2) (xs := ds.map deedL) (g := asT) (u := u) (fun d hd => by
    obtain ⟨p, _, rfl⟩ := List.mem_map.mp hd
    exact tupled_deedL) (by rw [List.length_map]; exact few)
  rw [List.map_map] at this
  exact this
/-! ### Program(deeds) -/
theorem eq_wd (b : Bool) : cEq (.str (wdS b)) (.str ("write" : Str)) = some (.bl b) := by
  show some (D.bl (decide (wdS b = ("write" : Str)))) = _
  cases b with
  | true => rw [decide_eq_true (by decide +kernel)]
  | false => rw [decide_eq_false (by decide +kernel)]
theorem writes_ok {u : U} : ∀ {ds : List Dd}, writesL (ds.map deedD) u = some ((writesOf ds).map .str, u)
  | [] => rfl
  | (b, x) :: ds => by
    have ih := writes_ok (u := u) (ds := ds)
    unfold writesL at ih ⊢
    rw [List.map_cons]
    unfold compL
    cases b with
    | true =>
      rw [turnL_c (x := .str x) (u1 := u) (u2 := u) (env' := [.no, .no, .pub (.str (wdS true)), .pub (.str x)]) rfl (mTru_eq (mBin_eq rfl rfl (eq_wd true)) rfl) rfl]
      show bnd (compL _ _ u) _ = _
      rw [ih]
      simp [bnd, writesOf]
    | false =>
      rw [turnL_n (u1 := u) (env' := [.no, .no, .pub (.str (wdS false)), .pub (.str x)]) rfl (mTru_eq (mBin_eq rfl rfl (eq_wd false)) rfl)]
      show bnd (compL _ _ u) _ = _
      rw [ih]
      simp [bnd, writesOf]
theorem prog_of {d : D} {ds : List Dd} {u : U} (h : FR_tupled 6 [d] u = some (.tup (ds.map deedD), u)) (few : ds.length ≤ 1000) : F_Program [d] u = some (progD ds, u) := by
  have l1 : ((writesOf ds).map D.str).length ≤ sizeLine := by rw [List.length_map]; exact isiz (Nat.le_trans (writesOf_len ds) few)
  have l2 : (writesOf ds).length ≤ sizeLine := by rw [List.length_map] at l1; exact l1
  show bnd (FR_tupled 6 [d] u) _ = _
  rw [h]
  show bnd (writesL (ds.map deedD) u) _ = _
  rw [writes_ok]
  show (if ((writesOf ds).map D.str).length ≤ sizeLine then bnd (F_numbered [.tup ((writesOf ds).map .str)] u) _ else none) = _
  rw [if_pos l1]
  have hn : F_numbered [.tup ((writesOf ds).map .str)] u = some (.tup ((linG [] (writesOf ds)).map lineD), u) := by
    show numF [.tup ((writesOf ds).map .str)] u = _
    unfold numF
    simp only [strsOf_map]
    rw [if_pos l2, numG_lin]
  rw [hn]
  rfl
theorem prog_t {ds : List Dd} {u : U} (few : ds.length ≤ 1000) : F_Program [.tup (ds.map deedD)] u = some (progD ds, u) := prog_of (tupled_deeds (n := 3) few) few
theorem prog_l {ds : List Dd} {u : U} (few : ds.length ≤ 1000) : F_Program [.lst (ds.map deedL)] u = some (progD ds, u) := prog_of (tupled_deedsL (n := 3) few) few
end Lw76

/-! PH: fields, properties and methods of a Program of DEEDs. -/
namespace Lw76
open PySem PySem.Spec L2 Dv
theorem mFld_eq {c f : Str} {m : M} {env : List Sl} {u u1 : U} {x d : D} (h : m env u = some (x, u1)) (h2 : fldD c f x = some d) : mFld c f m env u = some (d, u1) := by
  unfold mFld; rw [h]; show lft (fldD c f x) u1 = _; rw [h2]; rfl
theorem mPrp_eq {c : Str} {F : List D → U → Option (D × U)} {m : M} {env : List Sl} {u u1 u2 : U} {ns : List Str} {xs : List D} {d : D} (h : m env u = some (.ins c ns xs, u1)) (h2 : F [.ins c ns xs] u1 = some (d, u2)) : mPrp c F m env u = some (d, u2) := by
  unfold mPrp; rw [h]; show (if c = c then F [.ins c ns xs] u1 else none) = _; rw [if_pos rfl]; exact h2
theorem mBinU_eq {f : D → D → U → Option (D × U)} {a b : M} {env : List Sl} {u u1 u2 u3 : U} {x y z : D} (h : a env u = some (x, u1)) (h2 : b env u1 = some (y, u2)) (h3 : f x y u2 = some (z, u3)) : mBinU f a b env u = some (z, u3) := by
  unfold mBinU; rw [h]; show bnd (b env u1) _ = _; rw [h2]; exact h3
theorem mBiU_eq {f : List D → U → Option (D × U)} {m : Ms} {env : List Sl} {u u1 u2 : U} {ds : List D} {z : D} (h : m env u = some (ds, u1)) (h2 : f ds u1 = some (z, u2)) : mBiU f m env u = some (z, u2) := by
  unfold mBiU; rw [h]; exact h2
theorem mIsC_eq {c : Str} {m : M} {env : List Sl} {u u1 : U} {x : D} {k : Bool} (h : m env u = some (x, u1)) (h2 : isC c x = some k) : mIsC c m env u = some (.bl k, u1) := by
  unfold mIsC; rw [h]; show lft ((isC c x).map D.bl) u1 = _; rw [h2]; rfl
theorem mSortSet_eq {m : M} {env : List Sl} {u u1 : U} {x d : D} (h : m env u = some (x, u1)) (h2 : srtSetD x = some d) : mSortSet m env u = some (d, u1) := by
  unfold mSortSet; rw [h]; show lft (srtSetD x) u1 = _; rw [h2]; rfl
theorem mXf_eq {c f : Str} {m : M} {env : List Sl} {u u1 : U} {ns : List Str} {xs : List D} {d : D} (h : m env u = some (.exc c ns xs, u1)) (h2 : (ns.zip xs).lookup f = some d) : mXf c f m env u = some (d, u1) := by
  unfold mXf; rw [h]; show (if c = c then lft ((ns.zip xs).lookup f) u1 else none) = _; rw [if_pos rfl, h2]; rfl
theorem mIsE_eq {c : Str} {b : Bool} {m : M} {env : List Sl} {u u1 : U} {ns : List Str} {xs : List D} (h : m env u = some (.exc c ns xs, u1)) : mIsE c b m env u = some (.bl b, u1) := by
  unfold mIsE; rw [h]; show (if c = c then some (D.bl b, u1) else none) = _; rw [if_pos rfl]
theorem mEnumA_t {m : M} {env : List Sl} {u u1 : U} {ds : List D} (h : m env u = some (.tup ds, u1)) : mEnumA m env u = some (enumD 0 ds, u1) := by
  unfold mEnumA; rw [h]; rfl
theorem mZip_l {m m2 : M} {env : List Sl} {u u1 u2 : U} {ds es : List D} (h : m env u = some (.lst ds, u1)) (h2 : m2 env u1 = some (.lst es, u2)) : mZip m m2 env u = some (zipD ds es, u2) := by
  unfold mZip; rw [h]; show bnd (m2 env u1) _ = _; rw [h2]; rfl
theorem mZip_t {m m2 : M} {env : List Sl} {u u1 u2 : U} {ds es : List D} (h : m env u = some (.tup ds, u1)) (h2 : m2 env u1 = some (.tup es, u2)) : mZip m m2 env u = some (zipD ds es, u2) := by
  unfold mZip; rw [h]; show bnd (m2 env u1) _ = _; rw [h2]; rfl
theorem mNeg_eq {m : M} {env : List Sl} {u u1 : U} {i : Int} (h : m env u = some (.int i, u1)) : mNeg m env u = some (.int (-i), u1) := by
  unfold mNeg; rw [h]; rfl
theorem sc_er {p q : MS} {env env1 : List Sl} {u u1 : U} {c : Str} {ns : List Str} {xs : List D} (h : p env u = some (.er env1 c ns xs, u1)) : sCons p q env u = some (.er env1 c ns xs, u1) := by
  unfold sCons; rw [h]; rfl
/-! ### cutting tuples -/
theorem cutD_to {xs : List D} {k : Nat} (h : k ≤ xs.length) : cutD xs none (some (k : Int)) = xs.take k := by
  unfold cutD
  rw [HT.sIx_none, HT.sIx_nat, List.drop_zero, Nat.sub_zero, Nat.min_eq_left h]
theorem cutD_from {xs : List D} {k : Nat} (h : k ≤ xs.length) : cutD xs (some (k : Int)) none = xs.drop k := by
  unfold cutD
  rw [HT.sIx_none, HT.sIx_nat, Nat.min_eq_left h, ← List.length_drop, List.take_length]
theorem cutD_from1 {xs : List D} : cutD xs (some (1 : Int)) none = xs.drop 1 := by
  unfold cutD
  rw [HT.sIx_none, show (some (1 : Int)) = some (((1 : Nat) : Int)) from rfl, HT.sIx_nat]
  by_cases q : 1 ≤ xs.length
  · rw [Nat.min_eq_left q, ← List.length_drop, List.take_length]
  · have : xs = [] := List.eq_nil_of_length_eq_zero (by omega)
    subst this; rfl
theorem cutD_to1 {xs : List D} : cutD xs none (some (1 : Int)) = xs.take 1 := by
  unfold cutD
  rw [HT.sIx_none, show (some (1 : Int)) = some (((1 : Nat) : Int)) from rfl, HT.sIx_nat, List.drop_zero, Nat.sub_zero]
  by_cases q : 1 ≤ xs.length
  · rw [Nat.min_eq_left q]
  · have : xs = [] := List.eq_nil_of_length_eq_zero (by omega)
    subst this; rfl
theorem fAdd_t {a b : List D} (h : a.length + b.length ≤ 1000) : fAdd (.tup a) (.tup b) = some (.tup (a ++ b)) := by simp only [fAdd]; rw [if_pos (isiz h)]
theorem fAdd_l {a b : List D} (h : a.length + b.length ≤ 1000) : fAdd (.lst a) (.lst b) = some (.lst (a ++ b)) := by simp only [fAdd]; rw [if_pos (isiz h)]
/-! ### fields -/
theorem fld1 (ds : List Dd) : fldD "Program" "_deeds" (progD ds) = some (.tup (ds.map deedD)) := by
  show (if ("Program" : Str) = "Program" then _ else none) = _
  rw [if_pos rfl]; rfl
theorem deeds_eq {ds : List Dd} {u : U} : F_Program_deeds [progD ds] u = some (.tup (ds.map deedD), u) := runB_rt (sc_rt (sRet_eq (mFld_eq rfl (fld1 ds))))
def strD (ds : List Dd) : D := .tup ((sortS (nubS (writesOf ds))).map .str)
theorem srt_t {xs : List Str} (h : xs.length < 63) : srtSetD (.tup (xs.map .str)) = some (.lst ((sortS (nubS xs)).map .str)) := by
  show (strsOf (xs.map D.str)).bind _ = _
  rw [strsOf_map]; exact if_pos h
theorem plen_eq {ds : List Dd} {u : U} (h : ds.length ≤ 1000) : F_Program___len__ [progD ds] u = some (.int ds.length, u) := by
  refine runB_rt (sc_rt (sRet_eq (mBi_eq (c1 (mFld_eq rfl (fld1 ds))) ?_)))
  rw [len_t (by rw [List.length_map]; exact h), List.length_map]
theorem lenO_p {ds : List Dd} {u : U} (h : ds.length ≤ 1000) : lenO "Program" F_Program___len__ [progD ds] u = some (.int ds.length, u) := by
  show (if ("Program" : Str) = "Program" then intO (F_Program___len__ [progD ds] u) else none) = _
  rw [if_pos rfl, plen_eq h]
  have q : (0 : Int) ≤ (ds.length : Int) ∧ (ds.length : Int) < 2 ^ 63 := ⟨by omega, by omega⟩
  unfold intO
  simp only [if_pos q]
end Lw76

/-! PJ: tables, by the program and by the law. -/
namespace Lw76
open PySem PySem.Spec PyProof.Rows L2 Dv
theorem cgt0 (i : Int) : cGt (.int i) (.int 0) = some (.bl (decide (0 < i))) := rfl
theorem counted_ok {al : Al} {xs : List Str} {f : Str → Int} {u : U} (h : NdA al) (hx : Rising xs) (hf : ∀ x, (getA x al).getD 0 = f x) (h0 : ∀ x, x ∉ xs → f x = 0) (few : al.length ≤ 900) : F_counted [dA al] u = some (.tup ((told xs f).map lineD), u) := by
  have cl : compL (turnL (.many [1, 2]) [1, 2] [Sl.pub (dA al), .no, .no] (mTru (mBin cGt (mVar 2) (mC (.int (0))))) (mTup (mCons (mVar 1) (mCons (mVar 2) mNil)))) (al.map fun p => .pr [.str p.1, .int p.2]) u = some ((al.filter fun p => decide (0 < p.2)).map lineD, u) := by
    refine compL_fm fun p hp => ?_
    have hc := cgt0 p.2
    by_cases e : 0 < p.2
    · rw [decide_eq_true e] at hc
      rw [if_pos (decide_eq_true e)]
      exact turnL_c (env' := [Sl.pub (dA al), .pub (.str p.1), .pub (.int p.2)]) rfl (mTru_eq (mBin_eq rfl rfl hc) rfl) (mTup_eq (mCons_eq rfl (c1 rfl)) (isiz (by simp)))
    · rw [decide_eq_false e] at hc
      rw [if_neg (by simpa using e)]
      exact turnL_n (env' := [Sl.pub (dA al), .pub (.str p.1), .pub (.int p.2)]) rfl (mTru_eq (mBin_eq rfl rfl hc) rfl)
  have sr : bSortB [.lst ((al.filter fun p => decide (0 < p.2)).map lineD)] = some (.lst ((told xs f).map lineD)) := by
    have := sortB_r (ks := (al.filter fun p => decide (0 < p.2)).map pairK) (sh := [false, true]) (fun k hk => by
      obtain ⟨p, _, rfl⟩ := List.mem_map.mp hk
      exact pair_shape p) (by decide)
    rw [tally_sort h hx hf h0, List.map_map, List.map_map] at this
    exact this
  exact runB_rt (sc_rt (sRet_eq (mBi_eq (c1 (mBi_eq (c1 (mLc_eq (mDItems_eq rfl) cl (isiz (by rw [List.length_map]; exact Nat.le_trans (List.length_filter_le _ _) (by omega))))) sr)) rfl)))
abbrev oA (al : Al) : Sl := .own (.dct (alK al) (alD al))
/-- other streams' counts -/
theorem others_ok {P : D} {w o : Al} {x : Str} {rs y4 y6 y7 : Sl} {u : U} (hn : NdA o) (few : o.length ≤ 900) :
    vPeek 2 (vDC (.one 7) [7] (mItemsK (mVar 2)) (mTru (mBin cNe (mVar 7) (mVar 5))) (mVar 7) (mBin dixD (mVar 2) (mVar 7))) [Sl.pub P, oA w, oA o, rs, y4, .pub (.str x), y6, y7] u = some (oA (o.filter fun p => !decide (p.1 = x)), u) := by
  refine vPeek_eq (o := .dct (alK o) (alD o)) rfl (vDC_eq (r := (alK (o.filter fun p => !decide (p.1 = x)), alD (o.filter fun p => !decide (p.1 = x)))) (mItemsK_eq rfl) ?_) (scal_al _)
  have := foldD_al (f := turnD (.one 7) [7] [Sl.pub P, oA w, .pub (.dct (alK o) (alD o)), rs, y4, .pub (.str x), y6, y7] (mTru (mBin cNe (mVar 7) (mVar 5))) (mVar 7) (mBin dixD (mVar 2) (mVar 7))) (P := fun z => !decide (z = x)) (u := u) (al := o) (acc := []) hn (by simp; omega) (fun p hp => ?_)
  · exact this
  · by_cases e : p.1 = x
    · rw [if_neg (by simp [e])]
      exact turnD_n (env' := [Sl.pub P, oA w, .pub (.dct (alK o) (alD o)), rs, y4, .pub (.str x), y6, .pub (.str p.1)]) rfl (mTru_eq (mBin_eq rfl rfl (cneS p.1 x)) (by rw [decide_eq_true e]; rfl))
    · rw [if_pos (by simp [e])]
      exact turnD_c (env' := [Sl.pub P, oA w, .pub (.dct (alK o) (alD o)), rs, y4, .pub (.str x), y6, .pub (.str p.1)]) (k := .str p.1) rfl (mTru_eq (mBin_eq rfl rfl (cneS p.1 x)) (by rw [decide_eq_false e]; rfl)) rfl (mBin_eq rfl rfl (dix_al ((mem_get hn).mp hp))) rfl
theorem table_ok {ds : List Dd} {xs : List Str} {ws : List Wp} {u : U} (few : ds.length ≤ 900) (hx : Rising xs) (hi : InS ds xs) (hs : bSortB [.lst ((wr ds).map fun w => rowT (rowOf_ xs ds w))] = some (.lst (ws.map fun w => rowT (rowOf_ xs ds w)))) :
    F_table_of [progD ds] u = some (.tup (ws.map fun w => rowT (rowOf_ xs ds w)), u) := by
  obtain ⟨env', u', e, rfl, w, o, y4, y5, y6, y7, hc, rfl⟩ := forX_inv (t := .many [4, 5])
    (f := (sCons (sIf (mTru (mBin cEq (mVar 4) (mC (.str ("flush" : Str))))) (sCons (sPutD 2 (mVar 5) (mPeek 1 (mGet2 (mVar 1) (mVar 5) (mC (.int (0)))))) sNil) (sCons (sPutD 1 (mVar 5) (mBin fAdd (mPeek 1 (mGet2 (mVar 1) (mVar 5) (mC (.int (0))))) (mC (.int (1)))))
      (sCons (sSv 6 (vPeek 2 (vDC (.one 7) [7] (mItemsK (mVar 2)) (mTru (mBin cNe (mVar 7) (mVar 5))) (mVar 7) (mBin dixD (mVar 2) (mVar 7)))))
      (sPub 6
      (sCons (sApp 3 (mTup (mCons (mTup (mCons (mVar 5) (mCons (mPeek 1 (mBin dixD (mVar 1) (mVar 5))) mNil))) (mCons (mCall 1 F_counted (mCons (mVar 6) mNil)) mNil)))) sNil))))) sNil))
    (I := fun j env u' => u = u' ∧ ∃ w o y4 y5 y6 y7, CI (ds.take j) w o ∧ env = [Sl.pub (progD ds), oA w, oA o, .own (.lst ((wrUp ds j).map fun w => rowT (rowOf_ xs ds w))), y4, y5, y6, y7])
    (ds := ds.map deedD) (i := 0) (env := [Sl.pub (progD ds), oA [], oA [], .own (.lst []), .no, .no, .no, .no]) (u := u) (fun j hj env u1 hI => by
      obtain ⟨rfl, w, o, y4, y5, y6, y7, hc, rfl⟩ := hI
      rw [Nat.zero_add] at hc ⊢
      rw [List.length_map] at hj
      rw [List.getElem_map]
      have lw := hc.lw
      have lo := hc.lo
      rw [List.length_take] at lw lo
      have lr := wr_len (ds := ds) j
      obtain ⟨⟨b, x⟩, hd⟩ : ∃ p, ds[j] = p := ⟨_, rfl⟩
      have hg : ds[j]? = some (b, x) := by rw [List.getElem?_eq_getElem hj, hd]
      have g0 : ∀ a b c d e : Sl, mGet2 (mVar 1) (mVar 5) (mC (.int (0))) [Sl.pub (progD ds), .pub (dA w), a, b, c, .pub (.str x), d, e] u = some (.int ((getA x w).getD 0), u) := fun a b c d e => by
        have := mGet2_eq (mo := mVar 1) (me := mVar 5) (mf := mC (.int (0))) (env := [Sl.pub (progD ds), .pub (dA w), a, b, c, .pub (.str x), d, e]) (u := u) (al := w) (x := x) (d := .int 0) rfl rfl rfl
        rw [getD_map] at this
        exact this
      have g1 : ∀ a b c d e : Sl, mPeek 1 (mGet2 (mVar 1) (mVar 5) (mC (.int (0)))) [Sl.pub (progD ds), oA w, a, b, c, .pub (.str x), d, e] u = some (.int ((getA x w).getD 0), u) := fun a b c d e =>
        mPeek_eq (o := .dct (alK w) (alD w)) rfl (g0 a b c d e) rfl
      rw [hd]
      cases b with
      | false =>
        refine ⟨[Sl.pub (progD ds), oA w, oA o, .own (.lst ((wrUp ds j).map fun w => rowT (rowOf_ xs ds w))), .pub (.str (wdS false)), .pub (.str x), y6, y7], [Sl.pub (progD ds), oA w, oA (putA x ((getA x w).getD 0) o), .own (.lst ((wrUp ds (j + 1)).map fun w => rowT (rowOf_ xs ds w))), .pub (.str (wdS false)), .pub (.str x), y6, y7], u, rfl, ?_, rfl, _, _, _, _, _, _, by rw [takeS hj, hd]; exact hc.flush x, rfl⟩
        rw [wr_f hg]
        exact sc_nx (sIf_t (mTru_eq (mBin_eq rfl rfl (eq_fl false)) rfl) (sc_nx (sPutD_eq (al := o) (x := x) (v := (getA x w).getD 0) rfl (g1 _ _ _ _ _) rfl (by omega)) rfl)) rfl
      | true =>
        obtain ⟨w', hw'⟩ : ∃ w', w' = putA x ((getA x w).getD 0 + 1) w := ⟨_, rfl⟩
        have hc' : CI (ds.take (j + 1)) w' o := by rw [takeS hj, hd, hw']; exact hc.write x
        have gx : getA x w' = some (manyOf x (ds.take (j + 1)) : Int) := by
          have h1 := hc'.w x
          have h2 : getA x w' = some ((getA x w).getD 0 + 1) := by rw [hw', get_put, if_pos rfl]
          rw [h2] at h1 ⊢
          rw [show ((getA x w).getD 0 + 1) = (manyOf x (ds.take (j + 1)) : Int) from h1]
        have hof : ∀ y, (getA y (o.filter fun p => !decide (p.1 = x))).getD 0 = if y = x then 0 else (ouOf y (ds.take j) : Int) := fun y => by
          rw [getA_filter (P := fun z => !decide (z = x))]
          by_cases e : y = x
          · rw [if_neg (by simp [e]), if_pos e]; rfl
          · rw [if_pos (by simp [e]), if_neg e]; exact hc.o y
        have hnd : NdA (o.filter fun p => !decide (p.1 = x)) := List.Nodup.sublist (List.filter_sublist.map _) hc.no_
        have cnt := counted_ok (u := u) hnd hx hof (fun y hy => by
          by_cases e : y = x
          · rw [if_pos e]
          · rw [if_neg e]
            have : ouOf y (ds.take j) = 0 := outR_0 hy (hi.take j).rev
            rw [this]; rfl) (Nat.le_trans (List.length_filter_le _ _) (by omega))
        refine ⟨[Sl.pub (progD ds), oA w, oA o, .own (.lst ((wrUp ds j).map fun w => rowT (rowOf_ xs ds w))), .pub (.str (wdS true)), .pub (.str x), y6, y7], [Sl.pub (progD ds), oA w', oA o, .own (.lst ((wrUp ds (j + 1)).map fun w => rowT (rowOf_ xs ds w))), .pub (.str (wdS true)), .pub (.str x), .pub (dA (o.filter fun p => !decide (p.1 = x))), y7], u, rfl, ?_, rfl, _, _, _, _, _, _, hc', rfl⟩
        rw [wr_t hg, List.map_append, List.map_cons, List.map_nil]
        refine sc_nx (sIf_f (mTru_eq (mBin_eq rfl rfl (eq_fl true)) rfl) (sc_nx (env' := [Sl.pub (progD ds), oA w', oA o, .own (.lst ((wrUp ds j).map fun w => rowT (rowOf_ xs ds w))), .pub (.str (wdS true)), .pub (.str x), y6, y7]) (by rw [hw']; exact sPutD_eq (al := w) (x := x) (v := (getA x w).getD 0 + 1) rfl (mBin_eq (g1 _ _ _ _ _) rfl rfl) rfl (by omega)) ?_)) rfl
        refine sc_nx (sSv_eq (others_ok hc.no_ (by omega))) (sPub_eq rfl (sc_nx (sApp_eq (d := rowT (rowOf_ xs ds (j, x))) rfl (mTup_eq (mCons_eq (mTup_eq (mCons_eq rfl (c1 (mPeek_eq (o := .dct (alK w') (alD w')) rfl (mBin_eq rfl rfl (dix_al gx)) rfl))) (isiz (by simp))) (c1 (mCall_eq (c1 rfl) rfl cnt))) (isiz (by simp))) (by rw [List.length_map, line]; omega)) rfl))) ⟨rfl, [], [], .no, .no, .no, .no, CI.nil, rfl⟩
  rw [List.length_map, Nat.zero_add] at *
  exact runB_rt (sc_nx (sSv_eq vDct_eq) (sc_nx (sSv_eq vDct_eq) (sc_nx (sSv_eq (vLst_eq mNil_eq (Nat.zero_le _))) (sc_nx (sFor_eq (mItems_eq (mPrp_eq rfl deeds_eq) rfl) e) (sPub_eq rfl (sc_rt (sRet_eq (mBi_eq (c1 (mBi_eq (c1 rfl) hs)) rfl))))))))
end Lw76

/-! PK: the law's tables, which flushes are idle. -/
namespace Lw76
open PySem PySem.Spec PyProof.Rows L2 Dv
theorem strs_of_al (al : Al) : (al.map fun p => D.str p.1) = (al.map (·.1)).map D.str := by rw [List.map_map]; rfl
theorem noD_lines : ∀ al : Al, noDcts (al.map lineD) = true
  | [] => rfl
  | p :: r => by
    show (noDct (lineD p) && noDcts (r.map lineD)) = true
    rw [noD_lines r]; rfl
/-- a row of the law's table -/
theorem row_so {T : D} {w o : Al} {x : Str} {xs : List Str} {n : Nat} {ds : List Dd} {rs y4 y6 y7 : Sl} {u : U} (hn : NdA o) (ho : ∀ y, (getA y o).getD 0 = (ouOf y (ds.take n) : Int)) (hx : Rising xs) (hi : InS ds xs) (few : o.length ≤ 900) :
    mPeekD 2 (mBi bSortB (mCons (mLc (.one 7) [7] (mItemsK (mVar 2)) (mAndB (mTru (mBin cNe (mVar 7) (mVar 5))) (mTru (mBin cGt (mBin dixD (mVar 2) (mVar 7)) (mC (.int (0)))))) (mTup (mCons (mVar 7) (mCons (mBin dixD (mVar 2) (mVar 7)) mNil)))) mNil)) [Sl.pub T, oA w, oA o, rs, y4, .pub (.str x), y6, y7] u = some (.lst ((tTold xs ds (n, x)).map lineD), u) := by
  have cl : compL (turnL (.one 7) [7] [Sl.pub T, oA w, .pub (.dct (alK o) (alD o)), rs, y4, .pub (.str x), y6, y7] (mAndB (mTru (mBin cNe (mVar 7) (mVar 5))) (mTru (mBin cGt (mBin dixD (mVar 2) (mVar 7)) (mC (.int (0)))))) (mTup (mCons (mVar 7) (mCons (mBin dixD (mVar 2) (mVar 7)) mNil)))) (o.map fun p => .str p.1) u = some ((o.filter fun p => !decide (p.1 = x) && decide (0 < p.2)).map lineD, u) := by
    refine compL_fm fun p hp => ?_
    have hd : dixD (.dct (alK o) (alD o)) (.str p.1) = some (.int p.2) := dix_al ((mem_get hn).mp hp)
    let E : List Sl := [Sl.pub T, oA w, .pub (.dct (alK o) (alD o)), rs, y4, .pub (.str x), y6, .pub (.str p.1)]
    have t1 : mTru (mBin cNe (mVar 7) (mVar 5)) E u = some (!decide (p.1 = x), u) := mTru_eq (mBin_eq rfl rfl (cneS p.1 x)) rfl
    have t2 : mTru (mBin cGt (mBin dixD (mVar 2) (mVar 7)) (mC (.int (0)))) E u = some (decide (0 < p.2), u) := mTru_eq (mBin_eq (mBin_eq rfl rfl hd) rfl (cgt0 p.2)) rfl
    by_cases e : p.1 = x
    · rw [decide_eq_true e] at t1 ⊢
      exact turnL_n (env' := E) rfl (mAndB_f t1)
    · rw [decide_eq_false e] at t1 ⊢
      by_cases e2 : 0 < p.2
      · rw [decide_eq_true e2] at t2 ⊢
        exact turnL_c (env' := E) rfl (mAndB_t t1 t2) (mTup_eq (mCons_eq rfl (c1 (mBin_eq rfl rfl hd))) (isiz (by simp)))
      · rw [decide_eq_false e2] at t2 ⊢
        exact turnL_n (env' := E) rfl (mAndB_t t1 t2)
  have hof : ∀ y, (getA y (o.filter fun p => !decide (p.1 = x))).getD 0 = if y = x then 0 else (ouOf y (ds.take n) : Int) := fun y => by
    rw [getA_filter (P := fun z => !decide (z = x))]
    by_cases e : y = x
    · rw [if_neg (by simp [e]), if_pos e]; rfl
    · rw [if_pos (by simp [e]), if_neg e]; exact ho y
  have hnd : NdA (o.filter fun p => !decide (p.1 = x)) := List.Nodup.sublist (List.filter_sublist.map _) hn
  have h0 : ∀ y, y ∉ xs → (if y = x then (0 : Int) else (ouOf y (ds.take n) : Int)) = 0 := fun y hy => by
    by_cases e : y = x
    · rw [if_pos e]
    · rw [if_neg e]
      have : ouOf y (ds.take n) = 0 := outR_0 hy (hi.take n).rev
      rw [this]; rfl
  have sr : bSortB [.lst ((o.filter fun p => !decide (p.1 = x) && decide (0 < p.2)).map lineD)] = some (.lst ((tTold xs ds (n, x)).map lineD)) := by
    have e : (o.filter fun p => !decide (p.1 = x) && decide (0 < p.2)) = (o.filter fun p => !decide (p.1 = x)).filter fun p => decide (0 < p.2) := by
      rw [List.filter_filter]
      refine List.filter_congr fun p _ => Bool.and_comm _ _
    have := sortB_r (ks := ((o.filter fun p => !decide (p.1 = x)).filter fun p => decide (0 < p.2)).map pairK) (sh := [false, true]) (fun k hk => by
      obtain ⟨p, _, rfl⟩ := List.mem_map.mp hk
      exact pair_shape p) (by decide)
    rw [tally_sort hnd hx hof h0, List.map_map, List.map_map] at this
    rw [e]; exact this
  refine mPeekD_eq rfl (mBi_eq (c1 (mLc_eq (mItemsK_eq rfl) cl (isiz (by rw [List.length_map]; exact Nat.le_trans (List.length_filter_le _ _) (by omega))))) sr) (noD_lines _)
theorem sure_ok {ds : List Dd} {xs : List Str} {ws : List Wp} {u : U} (few : ds.length ≤ 900) (hx : Rising xs) (hi : InS ds xs) (hs : bSortB [.lst ((wr ds).map fun w => rowT (rowOf_ xs ds w))] = some (.lst (ws.map fun w => rowT (rowOf_ xs ds w)))) :
    F__law_sure [.tup (ds.map deedD)] u = some (.tup (ws.map fun w => rowT (rowOf_ xs ds w)), u) := by
  let T : D := .tup (ds.map deedD)
  obtain ⟨env', u', e, rfl, w, o, y4, y5, y6, y7, hc, rfl⟩ := forX_inv (t := .many [4, 5])
    (f := (sCons (sIf (mTru (mBin cEq (mVar 4) (mC (.str ("flush" : Str))))) (sCons (sPutD 2 (mVar 5) (mPeek 1 (mGet2 (mVar 1) (mVar 5) (mC (.int (0)))))) sNil) (sCons (sPutD 1 (mVar 5) (mBin fAdd (mPeek 1 (mGet2 (mVar 1) (mVar 5) (mC (.int (0))))) (mC (.int (1)))))
    (sCons (sSet 6 (mPeekD 2 (mBi bSortB (mCons (mLc (.one 7) [7] (mItemsK (mVar 2)) (mAndB (mTru (mBin cNe (mVar 7) (mVar 5))) (mTru (mBin cGt (mBin dixD (mVar 2) (mVar 7)) (mC (.int (0)))))) (mTup (mCons (mVar 7) (mCons (mBin dixD (mVar 2) (mVar 7)) mNil)))) mNil))))
    (sCons (sApp 3 (mTup (mCons (mTup (mCons (mVar 5) (mCons (mPeek 1 (mBin dixD (mVar 1) (mVar 5))) mNil))) (mCons (mBi bTuple (mCons (mVar 6) mNil)) mNil)))) sNil)))) sNil))
    (I := fun j env u' => u = u' ∧ ∃ w o y4 y5 y6 y7, CI (ds.take j) w o ∧ env = [Sl.pub T, oA w, oA o, .own (.lst ((wrUp ds j).map fun w => rowT (rowOf_ xs ds w))), y4, y5, y6, y7])
    (ds := ds.map deedD) (i := 0) (env := [Sl.pub T, oA [], oA [], .own (.lst []), .no, .no, .no, .no]) (u := u) (fun j hj env u1 hI => by
      obtain ⟨rfl, w, o, y4, y5, y6, y7, hc, rfl⟩ := hI
      rw [Nat.zero_add] at hc ⊢
      rw [List.length_map] at hj
      rw [List.getElem_map]
      have lw := hc.lw
      have lo := hc.lo
      rw [List.length_take] at lw lo
      have lr := wr_len (ds := ds) j
      obtain ⟨⟨b, x⟩, hd⟩ : ∃ p, ds[j] = p := ⟨_, rfl⟩
      have hg : ds[j]? = some (b, x) := by rw [List.getElem?_eq_getElem hj, hd]
      have g0 : ∀ a b c d e : Sl, mGet2 (mVar 1) (mVar 5) (mC (.int (0))) [Sl.pub T, .pub (dA w), a, b, c, .pub (.str x), d, e] u = some (.int ((getA x w).getD 0), u) := fun a b c d e => by
        have := mGet2_eq (mo := mVar 1) (me := mVar 5) (mf := mC (.int (0))) (env := [Sl.pub T, .pub (dA w), a, b, c, .pub (.str x), d, e]) (u := u) (al := w) (x := x) (d := .int 0) rfl rfl rfl
        rw [getD_map] at this
        exact this
      have g1 : ∀ a b c d e : Sl, mPeek 1 (mGet2 (mVar 1) (mVar 5) (mC (.int (0)))) [Sl.pub T, oA w, a, b, c, .pub (.str x), d, e] u = some (.int ((getA x w).getD 0), u) := fun a b c d e =>
        mPeek_eq (o := .dct (alK w) (alD w)) rfl (g0 a b c d e) rfl
      rw [hd]
      cases b with
      | false =>
        refine ⟨[Sl.pub T, oA w, oA o, .own (.lst ((wrUp ds j).map fun w => rowT (rowOf_ xs ds w))), .pub (.str (wdS false)), .pub (.str x), y6, y7], [Sl.pub T, oA w, oA (putA x ((getA x w).getD 0) o), .own (.lst ((wrUp ds (j + 1)).map fun w => rowT (rowOf_ xs ds w))), .pub (.str (wdS false)), .pub (.str x), y6, y7], u, rfl, ?_, rfl, _, _, _, _, _, _, by rw [takeS hj, hd]; exact hc.flush x, rfl⟩
        rw [wr_f hg]
        exact sc_nx (sIf_t (mTru_eq (mBin_eq rfl rfl (eq_fl false)) rfl) (sc_nx (sPutD_eq (al := o) (x := x) (v := (getA x w).getD 0) rfl (g1 _ _ _ _ _) rfl (by omega)) rfl)) rfl
      | true =>
        obtain ⟨w', hw'⟩ : ∃ w', w' = putA x ((getA x w).getD 0 + 1) w := ⟨_, rfl⟩
        have hc' : CI (ds.take (j + 1)) w' o := by rw [takeS hj, hd, hw']; exact hc.write x
        have gx : getA x w' = some (manyOf x (ds.take (j + 1)) : Int) := by
          have h1 := hc'.w x
          have h2 : getA x w' = some ((getA x w).getD 0 + 1) := by rw [hw', get_put, if_pos rfl]
          rw [h2] at h1 ⊢
          rw [show ((getA x w).getD 0 + 1) = (manyOf x (ds.take (j + 1)) : Int) from h1]
        refine ⟨[Sl.pub T, oA w, oA o, .own (.lst ((wrUp ds j).map fun w => rowT (rowOf_ xs ds w))), .pub (.str (wdS true)), .pub (.str x), y6, y7], [Sl.pub T, oA w', oA o, .own (.lst ((wrUp ds (j + 1)).map fun w => rowT (rowOf_ xs ds w))), .pub (.str (wdS true)), .pub (.str x), .pub (.lst ((tTold xs ds (j, x)).map lineD)), y7], u, rfl, ?_, rfl, _, _, _, _, _, _, hc', rfl⟩
        rw [wr_t hg, List.map_append, List.map_cons, List.map_nil]
        refine sc_nx (sIf_f (mTru_eq (mBin_eq rfl rfl (eq_fl true)) rfl) (sc_nx (env' := [Sl.pub T, oA w', oA o, .own (.lst ((wrUp ds j).map fun w => rowT (rowOf_ xs ds w))), .pub (.str (wdS true)), .pub (.str x), y6, y7]) (by rw [hw']; exact sPutD_eq (al := w) (x := x) (v := (getA x w).getD 0 + 1) rfl (mBin_eq (g1 _ _ _ _ _) rfl rfl) rfl (by omega)) ?_)) rfl
        exact sc_nx (sSet_eq (row_so hc.no_ hc.o hx hi (by omega))) (sc_nx (sApp_eq (d := rowT (rowOf_ xs ds (j, x))) rfl (mTup_eq (mCons_eq (mTup_eq (mCons_eq rfl (c1 (mPeek_eq (o := .dct (alK w') (alD w')) rfl (mBin_eq rfl rfl (dix_al gx)) rfl))) (isiz (by simp))) (c1 (mBi_eq (c1 rfl) rfl))) (isiz (by simp))) (by rw [List.length_map, line]; omega)) rfl)) ⟨rfl, [], [], .no, .no, .no, .no, CI.nil, rfl⟩
  exact runB_rt (sc_nx (sParv3_eq vDct_eq vDct_eq (vLst_eq mNil_eq (Nat.zero_le _))) (sc_nx (sFor_eq (mItems_eq rfl rfl) e) (sPub_eq rfl (sc_rt (sRet_eq (mBi_eq (c1 (mBi_eq (c1 (by rw [Nat.zero_add, List.length_map]; rfl)) hs)) rfl))))))
end Lw76

/-! Ti: tables compared; rows gone through by number; the streams of a row. -/
namespace Dv
open PySem PySem.Spec PyProof.Rows L2
theorem Cod.eqT {α : Type} [DecidableEq α] {e : α → D} {p : α → PyData} {ok : α → Prop} {n : Nat} (c : Cod e p ok n) (hn : n < 62) {a b : List α} (h : ∀ x ∈ a, ok x) (g : ∀ x ∈ b, ok x) : eqD (.tup (a.map e)) (.tup (b.map e)) = some (decide (a = b)) := by
  have t : ∀ l : List α, toPy (.tup (l.map e)) = some (.tuple (l.map p)) := fun l => by unfold toPy; rw [c.pys]; rfl
  unfold eqD
  simp only [t]
  rw [if_pos ⟨c.shT (by omega) h, c.shT (by omega) g⟩]
  simp only [PyData.eqv]
  rw [eqvAll_dec fun a _ b _ => c.eqv a b]
theorem Cod.ceqT {α : Type} [DecidableEq α] {e : α → D} {p : α → PyData} {ok : α → Prop} {n : Nat} (c : Cod e p ok n) (hn : n < 62) {a b : List α} (h : ∀ x ∈ a, ok x) (g : ∀ x ∈ b, ok x) : cEq (.tup (a.map e)) (.tup (b.map e)) = some (.bl (decide (a = b))) := by
  show (eqD _ _).map D.bl = _
  rw [c.eqT hn h g]; rfl
def okRow (r : TRow) : Prop := TxO r.1.1 ∧ ∀ l ∈ r.2, TxO l.1
theorem rowCod : Cod rowT rowTP okRow 3 := by
  refine ⟨rowT_py, fun r h => ?_, fun r => ?_, fun a b => ?_, fun a => ⟨_, rfl⟩⟩
  · have h1 := line_lay (l := r.1) h.1
    have h2 : PyData.canLayAll0 (r.2.map lineP) = true := lay_map fun l hl => line_lay (h.2 l hl)
    unfold rowTP
    simp [PyData.canLay0, PyData.canLayAll0, h1, h2]
  · have h : PyData.depthAll (r.2.map lineP) ≤ 1 := depth_map fun a _ => line_dep a
    have h1 := line_dep r.1
    unfold rowTP
    simp only [PyData.depth, PyData.depthAll]
    omega
  · unfold rowTP
    simp only [PyData.eqv, PyData.eqvAll, Bool.and_true]
    rw [line_eqv, eqvAll_dec fun a _ b _ => line_eqv a b, ← Bool.decide_and]
    exact decide_eq_decide.mpr ⟨fun h => Prod.ext h.1 h.2, fun h => by rw [h]; exact ⟨rfl, rfl⟩⟩
/-- the streams of DEEDs -/
def strsD (ds : List Dd) : List Str := sortS (nubS (ds.map (·.2)))
theorem strsD_rising (ds : List Dd) : Rising (strsD ds) := rising_sort (nodup_nubS _)
theorem strsD_in (ds : List Dd) : InS ds (strsD ds) := fun p hp => (sortS_perm _).mem_iff.mpr (mem_nubS.mpr (List.mem_map.mpr ⟨p, hp, rfl⟩))
theorem strsD_len (ds : List Dd) : (strsD ds).length ≤ ds.length := by
  unfold strsD
  rw [(sortS_perm _).length_eq]
  exact Nat.le_trans (len_nubS _) (by rw [List.length_map]; exact Nat.le_refl _)
/-- the table of DEEDs -/
noncomputable def wsOf (ds : List Dd) : List Wp := Classical.choose (tab_sorts (strsD ds) ds)
theorem wsOf_spec (ds : List Dd) : (wsOf ds).Perm (wr ds) ∧ bSortB [.lst ((wr ds).map fun w => lineD (lineOf ds w))] = some (.lst ((wsOf ds).map fun w => lineD (lineOf ds w))) ∧
    bSortB [.lst ((wr ds).map fun w => rowT (rowOf_ (strsD ds) ds w))] = some (.lst ((wsOf ds).map fun w => rowT (rowOf_ (strsD ds) ds w))) := Classical.choose_spec (tab_sorts (strsD ds) ds)
noncomputable def tabL (ds : List Dd) : List TRow := (wsOf ds).map (rowOf_ (strsD ds) ds)
theorem tabL_map (ds : List Dd) : (tabL ds).map rowT = (wsOf ds).map fun w => rowT (rowOf_ (strsD ds) ds w) := by unfold tabL; rw [List.map_map]; rfl
theorem tabL_ok {ds : List Dd} (h : AllTx ds) : ∀ r ∈ tabL ds, okRow r := fun r hr => by
  obtain ⟨w, hw, rfl⟩ := List.mem_map.mp hr
  have hw' := (wsOf_spec ds).1.subset hw
  refine ⟨h (true, w.2) (List.mem_of_getElem? (wr_mem hw').2), fun l hl => ?_⟩
  have hl : l ∈ tTold (strsD ds) ds w := hl
  unfold tTold told at hl
  obtain ⟨x, hx, rfl⟩ := List.mem_map.mp (List.mem_filter.mp hl).1
  obtain ⟨p, hp, e⟩ := List.mem_map.mp (mem_nubS.mp ((sortS_perm _).subset hx))
  rw [← e]; exact h p hp
theorem tabL_len (ds : List Dd) : (tabL ds).length ≤ ds.length := by
  unfold tabL
  rw [List.length_map, (wsOf_spec ds).1.length_eq]; exact wr_len _
/-- a row gone through with its numbers -/
theorem enum_p {f : D → U → Option (Option D × U)} {g : Nat → Dd → D} {u : U} {Q : Nat → Dd → Bool} : ∀ (ds : List Dd) (m : Nat), (∀ (k : Nat) (p : Dd), p ∈ ds → f (.pr [.int (k : Int), deedD p]) u = some (if Q k p = true then some (g k p) else none, u)) →
    compL f (enumD m (ds.map deedD)) u = some (((ds.zipIdx m).filter fun q => Q q.2 q.1).map fun q => g q.2 q.1, u)
  | [], _, _ => rfl
  | p :: r, m, h => by
    rw [List.map_cons]
    unfold enumD compL
    rw [h m p List.mem_cons_self]
    show bnd (compL f (enumD (m + 1) (r.map deedD)) u) _ = _
    rw [enum_p r (m + 1) fun k q hq => h k q (List.mem_cons_of_mem _ hq), List.zipIdx_cons, List.filter_cons]
    by_cases q : Q m p = true
    · rw [if_pos q, if_pos q]; rfl
    · rw [if_neg q, if_neg q]; rfl
/-- without the one at a place -/
def cutAt (ds : List Dd) (k : Nat) : List Dd := ds.take k ++ ds.drop (k + 1)
theorem cutAt_sub {ds : List Dd} {k : Nat} {p : Dd} (h : p ∈ cutAt ds k) : p ∈ ds := (List.mem_append.mp h).elim List.mem_of_mem_take List.mem_of_mem_drop
theorem cutAt_len (ds : List Dd) (k : Nat) : (cutAt ds k).length ≤ ds.length := by
  unfold cutAt
  rw [List.length_append, List.length_take, List.length_drop]; omega
theorem zip_cut (k : Nat) : ∀ (ds : List Dd) (m : Nat), (((ds.zipIdx m).filter fun q => !decide (q.2 = k)).map fun q => q.1) = if m ≤ k then cutAt ds (k - m) else ds
  | [], m => by split <;> simp [cutAt]
  | p :: r, m => by
    rw [List.zipIdx_cons, List.filter_cons]
    by_cases e : m = k
    · subst e
      rw [if_neg (by simp), zip_cut m r (m + 1), if_neg (by omega), if_pos (Nat.le_refl _), Nat.sub_self]
      simp [cutAt]
    · rw [if_pos (by simpa using e), List.map_cons, zip_cut k r (m + 1)]
      by_cases l : m ≤ k
      · rw [if_pos l, if_pos (by omega)]
        unfold cutAt
        rw [show k - m = (k - (m + 1)) + 1 by omega]; rfl
      · rw [if_neg l, if_neg (by omega)]
end Dv

/-! PL: idle flushes, and that k76's law holds. -/
namespace Lw76
open PySem PySem.Spec PyProof.Rows L2 Dv
noncomputable abbrev tabD (ds : List Dd) : D := .tup ((tabL ds).map rowT)
theorem table_eq {ds : List Dd} {u : U} (few : ds.length ≤ 900) : F_table_of [progD ds] u = some (tabD ds, u) := by
  have := table_ok (u := u) few (strsD_rising ds) (strsD_in ds) (wsOf_spec ds).2.2
  rw [this, ← tabL_map]
theorem sure_eq {ds : List Dd} {u : U} (few : ds.length ≤ 900) : F__law_sure [.tup (ds.map deedD)] u = some (tabD ds, u) := by
  have := sure_ok (u := u) few (strsD_rising ds) (strsD_in ds) (wsOf_spec ds).2.2
  rw [this, ← tabL_map]
theorem tab_ceq {a b : List Dd} (h : AllTx a) (g : AllTx b) : cEq (tabD a) (tabD b) = some (.bl (decide (tabL a = tabL b))) := rowCod.ceqT (by decide) (tabL_ok h) (tabL_ok g)
noncomputable def idleB (ds : List Dd) (k : Nat) : Bool := decide (tabL (cutAt ds k) = tabL ds)
theorem cut_tx {ds : List Dd} (h : AllTx ds) (k : Nat) : AllTx (cutAt ds k) := fun p hp => h p (cutAt_sub hp)
theorem check_ok {k n : Int} {u : U} (h : 0 ≤ k ∧ k ≤ n) : F_check_place [.int k, .int n] u = some (.ok .non, u) := by
  have e : rngN true (.int k) (.int (n + 1)) = some (.bl false) := by
    show some (D.bl (!decide (0 ≤ k ∧ k < n + 1))) = _
    rw [decide_eq_true ⟨h.1, by omega⟩]; rfl
  exact runBX_nx (env := [.pub (.int k), .pub (.int n)]) (sc_nx (sIf_f (mTru_eq (mBin_eq rfl (mBin_eq rfl rfl rfl) e) rfl) rfl) rfl)
theorem slT_from' {α : Type} {f : α → D} {ds : List α} {k : Nat} (hk : k ≤ ds.length) : slD (.tup (ds.map f)) (some (k : Int)) none = some (.tup ((ds.drop k).map f)) := by
  show some (D.tup (cutD (ds.map f) (some (k : Int)) none)) = _
  rw [cutD_from (by rw [List.length_map]; exact hk), List.map_drop]
theorem without_ok {ds : List Dd} {k : Nat} {u : U} (hk : k < ds.length) (few : ds.length ≤ 900) : F_without_deed [progD ds, .int (k : Int)] u = some (.ok (progD (cutAt ds k)), u) := by
  have d1 : sDropX (xCall 2 F_check_place (mCons (mVar 1) (mCons (mBin fSub (mBiU (lenO ("Program" : Str) F_Program___len__) (mCons (mVar 0) mNil)) (mC (.int (1)))) mNil))) [Sl.pub (progD ds), .pub (.int (k : Int))] u = some (.nx [Sl.pub (progD ds), .pub (.int (k : Int))], u) := by
    unfold sDropX
    exact sUpX_ok (xCall_eq (ds := [.int (k : Int), .int ((ds.length : Int) - 1)]) (mCons_eq rfl (c1 (mBin_eq (mBiU_eq (c1 rfl) (lenO_p (by omega))) rfl rfl))) rfl (check_ok ⟨by omega, by omega⟩))
  have s2 : slD (.tup (ds.map deedD)) (some ((k : Int) + 1)) none = some (.tup ((ds.drop (k + 1)).map deedD)) := slT_from' (f := deedD) (k := k + 1) (by omega)
  have ad : fAdd (.tup ((ds.take k).map deedD)) (.tup ((ds.drop (k + 1)).map deedD)) = some (.tup ((cutAt ds k).map deedD)) := by
    unfold cutAt
    rw [List.map_append]
    exact fAdd_t (by rw [List.length_map, List.length_map, List.length_take, List.length_drop]; omega)
  exact runBX_rt (sc_nx d1 (sc_rt (sRet_eq (mCall_eq (c1 (mBin_eq (mSl_eq (mPrp_eq rfl deeds_eq) rfl (moAt_eq rfl) (slT_up (f := deedD) (by omega))) (mSl_eq (mPrp_eq rfl deeds_eq) (moAt_eq (mBin_eq rfl rfl rfl)) rfl s2) ad)) rfl (prog_t (by have := cutAt_len ds k; omega))))))
/-! ### the flushes -/
def flP (ds : List Dd) : List Nat := ((ds.zipIdx 0).filter fun q => !q.1.1).map fun q => q.2
theorem flP_lt {ds : List Dd} {k : Nat} (h : k ∈ flP ds) : k < ds.length := by
  unfold flP at h
  obtain ⟨q, hq, rfl⟩ := List.mem_map.mp h
  have := List.mem_zipIdx (List.mem_filter.mp hq).1
  omega
theorem flP_len (ds : List Dd) : (flP ds).length ≤ ds.length := by
  unfold flP
  rw [List.length_map]
  exact Nat.le_trans (List.length_filter_le _ _) (by rw [List.length_zipIdx]; exact Nat.le_refl _)
theorem places_ok {ds : List Dd} {u : U} (few : ds.length ≤ 900) : F_flush_places [progD ds] u = some (.lst ((flP ds).map fun k : Nat => .int (k : Int)), u) := by
  have := enum_p (f := turnL (.tree [.inl 1, .inr [2, 3]]) [1, 2, 3] [Sl.pub (progD ds), .no, .no, .no] (mTru (mBin cEq (mVar 2) (mC (.str ("flush" : Str))))) (mVar 1)) (g := fun k _ => .int (k : Int)) (u := u) (Q := fun _ p => !p.1) ds 0 (fun k p _ => by
    obtain ⟨b, x⟩ := p
    have ht : mTru (mBin cEq (mVar 2) (mC (.str ("flush" : Str)))) [Sl.pub (progD ds), .pub (.int (k : Int)), .pub (.str (wdS b)), .pub (.str x)] u = some (!b, u) := mTru_eq (mBin_eq rfl rfl (eq_fl b)) rfl
    cases b with
    | false => exact turnL_c (env' := [Sl.pub (progD ds), .pub (.int (k : Int)), .pub (.str (wdS false)), .pub (.str x)]) rfl ht rfl
    | true => exact turnL_n (env' := [Sl.pub (progD ds), .pub (.int (k : Int)), .pub (.str (wdS true)), .pub (.str x)]) rfl ht)
  have e : (((ds.zipIdx 0).filter fun q => !q.1.1).map fun q : Dd × Nat => D.int (q.2 : Int)) = (flP ds).map fun k : Nat => D.int (k : Int) := by unfold flP; rw [List.map_map]; rfl
  rw [e] at this
  exact runB_rt (sc_rt (sRet_eq (mLc_eq (mEnumA_t (mPrp_eq rfl deeds_eq)) this (isiz (by rw [List.length_map]; have := flP_len ds; omega)))))
noncomputable def idleL (ds : List Dd) : List Nat := (flP ds).filter (idleB ds)
noncomputable abbrev idD (ds : List Dd) : List D := (idleL ds).map fun k : Nat => .int (k : Int)
theorem idle_len (ds : List Dd) : (idleL ds).length ≤ ds.length := Nat.le_trans (List.length_filter_le _ _) (flP_len ds)
theorem idle_core {ds : List Dd} {u : U} {y : Sl} (h : AllTx ds) (few : ds.length ≤ 900) :
    compL (turnL (.one 2) [2] [Sl.pub (progD ds), .pub (tabD ds), y] (mTru (mBin cEq (mCall 1 F_table_of (mCons (mCall 2 (okF F_without_deed) (mCons (mVar 0) (mCons (mVar 2) mNil))) mNil)) (mVar 1))) (mVar 2)) ((flP ds).map fun k : Nat => .int (k : Int)) u = some (idD ds, u) := by
  refine compL_fm (P := idleB ds) (g := fun k : Nat => .int (k : Int)) (h := fun k : Nat => .int (k : Int)) fun k hk => ?_
  have lk := flP_lt hk
  have ht : mTru (mBin cEq (mCall 1 F_table_of (mCons (mCall 2 (okF F_without_deed) (mCons (mVar 0) (mCons (mVar 2) mNil))) mNil)) (mVar 1)) [Sl.pub (progD ds), .pub (tabD ds), .pub (.int (k : Int))] u = some (idleB ds k, u) :=
    mTru_eq (mBin_eq (mCall_eq (c1 (mCall_eq (mCons_eq rfl (c1 rfl)) rfl (okF_eq (without_ok lk few)))) rfl (table_eq (by have := cutAt_len ds k; omega))) rfl (tab_ceq (cut_tx h k) h)) rfl
  cases q : idleB ds k with
  | true => rw [q] at ht; exact turnL_c (env' := [Sl.pub (progD ds), .pub (tabD ds), .pub (.int (k : Int))]) rfl ht rfl
  | false => rw [q] at ht; exact turnL_n (env' := [Sl.pub (progD ds), .pub (tabD ds), .pub (.int (k : Int))]) rfl ht
theorem idle_ok {ds : List Dd} {u : U} (h : AllTx ds) (few : ds.length ≤ 900) : F_idle_flushes [progD ds] u = some (.lst (idD ds), u) :=
  runB_rt (sc_nx (sSet_eq (mCall_eq (c1 rfl) rfl (table_eq few))) (sc_rt (sRet_eq (mLc_eq (mItems_eq (mCall_eq (c1 rfl) rfl (places_ok few)) rfl) (idle_core h few) (isiz (by rw [List.length_map]; have := idle_len ds; omega))))))
theorem idleO_ok {ds : List Dd} {u : U} (h : AllTx ds) (few : ds.length ≤ 900) : FO_idle_flushes [progD ds] u = some (.lst (idD ds), u) :=
  sConsO_eq (sSet_eq (mCall_eq (c1 rfl) rfl (table_eq few))) (retO_eq (vLc_eq (mItems_eq (mCall_eq (c1 rfl) rfl (places_ok few)) rfl) (idle_core h few) (isiz (by rw [List.length_map]; have := idle_len ds; omega))))
/-! ### the law's own -/
theorem less_ok {ds : List Dd} {k : Nat} {u : U} (hk : k < ds.length) (few : ds.length ≤ 900) : F__law_less [.tup (ds.map deedD), .lst [.int (k : Int)]] u = some (.tup ((cutAt ds k).map deedD), u) := by
  have := enum_p (f := turnL (.many [2, 3]) [2, 3] [Sl.pub (.tup (ds.map deedD)), .pub (.lst [.int (k : Int)]), .no, .no] (mTru (mBin cNotIn (mVar 2) (mVar 1))) (mVar 3)) (g := fun _ p => deedD p) (u := u) (Q := fun j _ => !decide (j = k)) ds 0 (fun j p _ => by
    have hin : cNotIn (.int (j : Int)) (.lst [.int (k : Int)]) = some (.bl (!decide (j = k))) := by
      show (inD _ _).map (fun z => D.bl (!z)) = _
      have sh : ∀ i : Int, SeqAt.shaped (.int i) = true := fun i => by simp [SeqAt.shaped, PyData.canLay0, PyData.depth]
      have sl : SeqAt.shaped (.list [.int (k : Int)]) = true := by simp [SeqAt.shaped, PyData.canLay0, PyData.canLayAll0, PyData.depth, PyData.depthAll]
      have e : inD (.int (j : Int)) (.lst [.int (k : Int)]) = some (decide (j = k)) := by
        unfold inD
        simp only [toPy, toPys, Option.map_some, Option.bind_some]
        rw [if_pos ⟨sh _, sl⟩]
        congr 1
        rw [Bool.eq_iff_iff, decide_eq_true_iff]
        simp [PyData.eqv]
        omega
      rw [e]; rfl
    have ht : mTru (mBin cNotIn (mVar 2) (mVar 1)) [Sl.pub (.tup (ds.map deedD)), .pub (.lst [.int (k : Int)]), .pub (.int (j : Int)), .pub (deedD p)] u = some (!decide (j = k), u) := mTru_eq (mBin_eq rfl rfl hin) rfl
    by_cases e : j = k
    · rw [decide_eq_true e] at ht
      rw [if_neg (by simp [e])]
      exact turnL_n (env' := [Sl.pub (.tup (ds.map deedD)), .pub (.lst [.int (k : Int)]), .pub (.int (j : Int)), .pub (deedD p)]) rfl ht
    · rw [decide_eq_false e] at ht
      rw [if_pos (by simp [e])]
      exact turnL_c (env' := [Sl.pub (.tup (ds.map deedD)), .pub (.lst [.int (k : Int)]), .pub (.int (j : Int)), .pub (deedD p)]) rfl ht rfl)
  have e : (((ds.zipIdx 0).filter fun q => !decide (q.2 = k)).map fun q : Dd × Nat => deedD q.1) = (cutAt ds k).map deedD := by
    have := zip_cut k ds 0
    rw [if_pos (Nat.zero_le _), Nat.sub_zero] at this
    rw [← this, List.map_map]; rfl
  rw [e] at this
  exact runB_rt (sc_rt (sRet_eq (mBi_eq (c1 (mLc_eq (mEnumA_t rfl) this (isiz (by rw [List.length_map]; have := cutAt_len ds k; omega)))) rfl)))
theorem enum_at {ds : List Dd} {j : Nat} (hj : j < ds.length) (h2 : j < (enumD 0 (ds.map deedD)).length) : (enumD 0 (ds.map deedD))[j] = .pr [.int (j : Int), deedD ds[j]] := by
  have := enumD_get (ds.map deedD) 0 j
  rw [List.getElem?_eq_getElem h2, List.getElem?_map, List.getElem?_eq_getElem hj] at this
  have := Option.some.inj this
  rw [this, Nat.zero_add]
theorem enum_len : ∀ (l : List D) (n : Nat), (enumD n l).length = l.length
  | [], _ => rfl
  | d :: l, n => by unfold enumD; rw [List.length_cons, List.length_cons, enum_len l]
noncomputable def dueUp (ds : List Dd) (n : Nat) : List Nat := (((ds.zipIdx 0).take n).filter fun q => !q.1.1 && idleB ds q.2).map fun q => q.2
theorem due_all (ds : List Dd) : dueUp ds ds.length = idleL ds := by
  unfold dueUp idleL flP
  rw [List.take_of_length_le (by rw [List.length_zipIdx]; exact Nat.le_refl _), List.filter_map, List.filter_filter]
  congr 1
  exact List.filter_congr fun q _ => Bool.and_comm _ _
theorem due_step {ds : List Dd} {n : Nat} (hn : n < ds.length) : dueUp ds (n + 1) = dueUp ds n ++ if (!ds[n].1 && idleB ds n) = true then [n] else [] := by
  unfold dueUp
  rw [List.take_succ, List.getElem?_zipIdx, List.getElem?_eq_getElem hn, List.filter_append, List.map_append]
  congr 1
  show (([(ds[n], 0 + n)].filter fun q : Dd × Nat => !q.1.1 && idleB ds q.2).map fun q => q.2) = _
  rw [Nat.zero_add, List.filter_cons]
  split <;> rfl
theorem due_len (ds : List Dd) (n : Nat) : (dueUp ds n).length ≤ n := by
  unfold dueUp
  rw [List.length_map]
  exact Nat.le_trans (List.length_filter_le _ _) (by rw [List.length_take]; omega)
theorem due_ok {ds : List Dd} {u : U} (h : AllTx ds) (few : ds.length ≤ 900) : F__law_due [.tup (ds.map deedD)] u = some (.lst (idD ds), u) := by
  let T : Sl := .pub (.tup (ds.map deedD))
  obtain ⟨env', u', e, rfl, y3, y4, y5, rfl⟩ := forX_inv (t := .tree [.inl 3, .inr [4, 5]])
    (f := (sCons (sIf (mAndB (mTru (mBin cEq (mVar 4) (mC (.str ("flush" : Str))))) (mTru (mBin cEq (mCall 1 F__law_sure (mCons (mCall 2 F__law_less (mCons (mVar 0) (mCons (mLst (mCons (mVar 3) mNil)) mNil))) mNil)) (mVar 1)))) (sCons (sApp 2 (mVar 3)) sNil) sNil) sNil))
    (I := fun j env u' => u = u' ∧ ∃ y3 y4 y5, env = [T, .pub (tabD ds), .own (.lst ((dueUp ds j).map fun k : Nat => .int (k : Int))), y3, y4, y5])
    (ds := enumD 0 (ds.map deedD)) (i := 0) (env := [T, .pub (tabD ds), .own (.lst []), .no, .no, .no]) (u := u) (fun j hj env u1 hI => by
      obtain ⟨rfl, y3, y4, y5, rfl⟩ := hI
      rw [Nat.zero_add]
      have hj2 : j < ds.length := by rw [enum_len, List.length_map] at hj; exact hj
      rw [enum_at hj2 hj]
      obtain ⟨⟨b, x⟩, hd⟩ : ∃ p, ds[j] = p := ⟨_, rfl⟩
      have dl := due_len ds j
      have ds1 := due_step hj2
      rw [hd] at ds1 ⊢
      let E : List Sl := [T, .pub (tabD ds), .own (.lst ((dueUp ds j).map fun k : Nat => .int (k : Int))), .pub (.int (j : Int)), .pub (.str (wdS b)), .pub (.str x)]
      have t1 : mTru (mBin cEq (mVar 4) (mC (.str ("flush" : Str)))) E u = some (!b, u) := mTru_eq (mBin_eq rfl rfl (eq_fl b)) rfl
      have t2 : mTru (mBin cEq (mCall 1 F__law_sure (mCons (mCall 2 F__law_less (mCons (mVar 0) (mCons (mLst (mCons (mVar 3) mNil)) mNil))) mNil)) (mVar 1)) E u = some (idleB ds j, u) :=
        mTru_eq (mBin_eq (mCall_eq (c1 (mCall_eq (mCons_eq rfl (c1 (mLst_eq (c1 rfl) (isiz (by simp))))) rfl (less_ok hj2 few))) rfl (sure_eq (by have := cutAt_len ds j; omega))) rfl (tab_ceq (cut_tx h j) h)) rfl
      refine ⟨E, [T, .pub (tabD ds), .own (.lst ((dueUp ds (j + 1)).map fun k : Nat => .int (k : Int))), .pub (.int (j : Int)), .pub (.str (wdS b)), .pub (.str x)], u, rfl, ?_, rfl, _, _, _, rfl⟩
      rw [ds1]
      cases b with
      | true =>
        rw [if_neg (by simp), List.append_nil]
        exact sc_nx (sIf_f (mAndB_f t1) rfl) rfl
      | false =>
        cases q : idleB ds j with
        | false =>
          rw [q] at t2
          rw [if_neg (by simp), List.append_nil]
          exact sc_nx (sIf_f (mAndB_t t1 t2) rfl) rfl
        | true =>
          rw [q] at t2
          rw [if_pos (by simp), List.map_append]
          exact sc_nx (sIf_t (mAndB_t t1 t2) (sc_nx (sApp_eq rfl rfl (by rw [List.length_map, line]; omega)) rfl)) rfl) ⟨rfl, .no, .no, .no, rfl⟩
  rw [enum_len, List.length_map, Nat.zero_add, due_all] at e
  exact runB_rt (sc_nx (sParv_eq (vP_eq (mCall_eq (c1 rfl) rfl (sure_eq few))) (vLst_eq mNil_eq (Nat.zero_le _))) (sc_nx (sFor_eq (mEnumA_t rfl) e) (sPub_eq rfl (sc_rt (sRet_eq rfl)))))
theorem take_ok {n low : Int} {u : U} (h : OkU n u) (hn : n ≤ 2 ^ 40) (h0 : 0 < low) (h1 : low < 1073741824) : ∃ r u', F__law_take [.urn, .int low] u = some (.int r, u') ∧ 0 ≤ r ∧ r < low ∧ OkU (n + 1) u' := takeG_ok h hn h0 h1
theorem of_ok {n : Int} {u : U} {ds : List D} (h : OkU n u) (hn : n ≤ 2 ^ 40) (h0 : 0 < ds.length) (h1 : ds.length < 1000) : ∃ d u', F__law_of [.urn, .lst ds] u = some (d, u') ∧ d ∈ ds ∧ OkU (n + 1) u' := ofG_ok h hn h0 h1
theorem of_okT {n : Int} {u : U} {ds : List D} (h : OkU n u) (hn : n ≤ 2 ^ 40) (h0 : 0 < ds.length) (h1 : ds.length < 1000) : ∃ d u', F__law_of [.urn, .tup ds] u = some (d, u') ∧ d ∈ ds ∧ OkU (n + 1) u' := by
  obtain ⟨r, u', e, r0, r1, hu⟩ := take_ok (low := ds.length) h hn (by omega) (by omega)
  have hr : r.toNat < ds.length := by omega
  have e2 : ixD (.tup ds) (.int r) = some ds[r.toNat] := by
    have := atI_nat (List.getElem?_eq_getElem hr)
    rw [Int.toNat_of_nonneg r0] at this
    exact this
  exact ⟨_, u', runB_rt (sc_rt (sRet_eq (mBin_eq rfl (mCall_eq (mCons_eq rfl (c1 (mBi_eq (c1 rfl) (len_t (by omega))))) rfl e) e2))), List.getElem_mem hr, hu⟩
theorem same_ok {u : U} (n : Nat) (d : D) (h : plainN n d = true) : FR__law_same (n + 1) [d, d] u = some (.bl true, u) := by
  have e : ∀ n, FR__law_same n = FR_sameA n := fun n => by
    induction n with
    | zero => rfl
    | succ n ih => unfold FR__law_same FR_sameA; rw [ih]; rfl
  rw [e]; exact sameA_self n d h
theorem case_ok {ds : List Dd} {u : U} (h : AllTx ds) (few : ds.length ≤ 900) : F__law_case_right [.tup (ds.map deedD)] u = some (.bl true, u) := by
  have il := idle_len ds
  have pl : plainN 4 (.lst (idD ds)) = true := plain_l (n := 3) (fun d hd => by obtain ⟨k, _, rfl⟩ := List.mem_map.mp hd; rfl) (by rw [List.length_map]; omega)
  have s1 := same_ok (u := u) 4 (.lst (idD ds)) pl
  have s1' := same_ok (u := u) 5 (.lst (idD ds)) (plain_l (n := 4) (fun d hd => by obtain ⟨k, _, rfl⟩ := List.mem_map.mp hd; rfl) (by rw [List.length_map]; omega))
  have s2 := same_ok (u := u) 5 (.lst [.lst (idD ds), .lst (idD ds)]) (plain_l (n := 4) (fun d hd => by
    simp only [List.mem_cons, List.not_mem_nil, or_false] at hd
    rcases hd with rfl | rfl <;> exact pl) (by simp))
  have s3 := same_ok (u := u) 5 (.tup (ds.map deedD)) (plain_row (f := deedD) (fun _ => rfl) (by omega))
  refine runB_rt (sc_nx (sPar_eq (mCall_eq (c1 rfl) rfl (prog_t (by omega))) (mCall_eq (c1 rfl) rfl (due_ok h few))) (sc_nx (sSv_eq (vCallO_eq (c1 rfl) rfl (idleO_ok h few))) ?_))
  refine sc_nx (sIf_f (mNotB_eq (k := true) (mTru_eq (mPeek_eq (o := .lst (idD ds)) rfl (mCall_eq (mCons_eq rfl (c1 rfl)) rfl s1') rfl) rfl)) rfl) ?_
  refine sc_nx (sApp_eq (d := .str ("x" : Str)) rfl rfl (by rw [List.length_map, line]; omega)) (sc_rt (sRet_eq ?_))
  exact mAnd_t (mCall_eq (mCons_eq (mLst_eq (mCons_eq (mCall_eq (c1 rfl) rfl (idle_ok h few)) (c1 (mCallP_eq (c1 rfl) ⟨rfl, rfl⟩ (idle_ok h few)))) (isiz (by simp))) (c1 (mLst_eq (mCons_eq rfl (c1 rfl)) (isiz (by simp))))) rfl s2) rfl (mCall_eq (mCons_eq (mPrp_eq rfl deeds_eq) (c1 rfl)) rfl s3)
end Lw76

/-! PM: what k76's law draws, and that it holds. -/
namespace Lw76
open PySem PySem.Spec L2 Dv
def pool : List Str := ["a", "b", "c", "ab", "err", "out", "log", "x", "zzzzzzzz"]
theorem pool_ok : AllT pool := by
  intro x hx
  have : pool.all (fun x => PyData.strOk x) = true := by decide +kernel
  exact List.all_eq_true.mp this x hx
theorem map_er {α β : Type} (f : α → β) : ∀ (l : List α) (j : Nat), (l.map f).eraseIdx j = (l.eraseIdx j).map f
  | [], _ => rfl
  | _ :: _, 0 => rfl
  | x :: l, j + 1 => by
    show f x :: (l.map f).eraseIdx j = f x :: (l.eraseIdx j).map f
    rw [map_er f l j]
theorem pick_ok {n : Int} {u : U} {c : Nat} (h : OkU n u) (hn : n ≤ 2 ^ 39) (hc : c ≤ 9) : ∃ (xs : List Str) (u' : U), F__law_pick [.urn, .lst (pool.map .str), .int (c : Int)] u = some (.lst (xs.map .str), u') ∧ xs.length = c ∧ (∀ x ∈ xs, x ∈ pool) ∧ OkU (n + c) u' := by
  obtain ⟨env', u', e, o', left, found, y, rfl, hl, hp, hf, hq⟩ := forR_inv (t := .one 5) (n := c) (f := (sCons (sAppPop 4 3 (mCall 2 F__law_take (mCons (mVar 0) (mCons (mPeek 3 (mBi bLen (mCons (mVar 3) mNil))) mNil)))) sNil))
    (I := fun j env u => OkU (n + j) u ∧ ∃ (left found : List Str) (y : Sl), env = [Sl.pub .urn, .pub (.lst (pool.map .str)), .pub (.int (c : Int)), .own (.lst (left.map .str)), .own (.lst (found.map .str)), y] ∧ left.length + j = 9 ∧ (∀ x ∈ left, x ∈ pool) ∧ found.length = j ∧ ∀ x ∈ found, x ∈ pool)
    (env := [Sl.pub .urn, .pub (.lst (pool.map .str)), .pub (.int (c : Int)), .own (.lst (pool.map .str)), .own (.lst []), .no]) (u := u) (fun j hj env u hI => by
      obtain ⟨ou, left, found, y, rfl, hl, hp, hf, hq⟩ := hI
      obtain ⟨r, u2, e, r0, r1, o2⟩ := take_ok (low := left.length) ou (by omega) (by omega) (by omega)
      obtain ⟨k, rfl⟩ : ∃ k : Nat, r = k := ⟨r.toNat, by omega⟩
      have hk : k < left.length := by omega
      refine ⟨[Sl.pub .urn, .pub (.lst (pool.map .str)), .pub (.int (c : Int)), .own (.lst (left.map .str)), .own (.lst (found.map .str)), .pub (.int j)], [Sl.pub .urn, .pub (.lst (pool.map .str)), .pub (.int (c : Int)), .own (.lst ((left.map D.str).eraseIdx k)), .own (.lst (found.map .str ++ [(left.map D.str)[k]'(by rw [List.length_map]; exact hk)])), .pub (.int j)], u2, rfl, ?_, o2.mono (by omega), left.eraseIdx k, found ++ [left[k]], .pub (.int j), ?_, ?_, fun x hx => hp x (List.mem_of_mem_eraseIdx hx), by rw [List.length_append, hf]; rfl, fun x hx => ?_⟩
      · exact sc_nx (sAppPop_eq (i := 4) (j := 3) (n := k) rfl rfl (mCall_eq (mCons_eq rfl (c1 (mPeek_eq (o := .lst (left.map .str)) rfl (mBi_eq (c1 rfl) (by show some (D.int ((left.map D.str).length : Int)) = _; rw [List.length_map])) rfl))) rfl e) (by rw [List.length_map]; exact hk) (by rw [List.length_map]; omega) (by rw [List.length_map, line]; omega) (by decide)) rfl
      · rw [map_er, List.map_append, List.getElem_map]; rfl
      · rw [List.length_eraseIdx_of_lt hk]; omega
      · rcases List.mem_append.mp hx with hx | hx
        · exact hq x hx
        · simp only [List.mem_cons, List.not_mem_nil, or_false] at hx
          rw [hx]; exact hp _ (List.getElem_mem hk)) ⟨by simpa using h, pool, [], .no, rfl, rfl, fun x hx => hx, rfl, fun x hx => by cases hx⟩
  exact ⟨found, u', runB_rt (sc_nx (sParv_eq (vList_l rfl) (vLst_eq mNil_eq (Nat.zero_le _))) (sc_nx (sFor_eq (mRange1_eq (j := (c : Int)) rfl ⟨by omega, by omega⟩) (by rw [Int.toNat_natCast]; exact e)) (sPub_eq rfl (sc_rt (sRet_eq rfl))))), hf, hq, o'⟩
theorem tags_ok {n : Int} {u : U} {c : Nat} (h : OkU n u) (hn : n ≤ 2 ^ 39) (hc : c ≤ 9) : ∃ (xs : List Str) (u' : U), F__law_tags [.urn, .int (c : Int)] u = some (.tup (xs.map .str), u') ∧ xs.length = c ∧ (∀ x ∈ xs, x ∈ pool) ∧ OkU (n + c) u' := by
  obtain ⟨xs, u', e, hl, hp, o⟩ := pick_ok h hn hc
  refine ⟨sortS xs, u', runB_rt (sc_rt (sRet_eq (mBi_eq (c1 (mBi_eq (c1 (mCall_eq (mCons_eq rfl (mCons_eq (mLst_eq (mCons_eq rfl (mCons_eq rfl (mCons_eq rfl (mCons_eq rfl (mCons_eq rfl (mCons_eq rfl (mCons_eq rfl (mCons_eq rfl (c1 rfl))))))))) (isiz (by simp))) (c1 rfl))) rfl e)) (sortB_s (by omega)))) rfl))), ?_, fun x hx => hp x ((sortS_perm _).subset hx), o⟩
  rw [(sortS_perm _).length_eq, hl]
theorem row_deeds : ∀ {xs : List D} {P : Str → Prop}, (∀ d ∈ xs, ∃ p : Dd, d = deedD p ∧ P p.2) → ∃ ds : List Dd, xs = ds.map deedD ∧ ∀ p ∈ ds, P p.2
  | [], P, _ => ⟨[], rfl, by simp⟩
  | d :: xs, P, h => by
    obtain ⟨p, rfl, hp⟩ := h d List.mem_cons_self
    obtain ⟨ds, rfl, hd⟩ := row_deeds fun e he => h e (List.mem_cons_of_mem _ he)
    exact ⟨p :: ds, rfl, fun q hq => by
      rcases List.mem_cons.mp hq with rfl | hq
      · exact hp
      · exact hd q hq⟩
theorem busy_ok {n : Int} {u : U} {ts : List Str} {c : Nat} (h : OkU n u) (hn : n ≤ 2 ^ 39) (h1 : 1 ≤ ts.length ∧ ts.length ≤ 9) (hc : c ≤ 100) : ∃ (ds : List Dd) (u' : U), F__law_busy [.urn, .tup (ts.map .str), .int (c : Int)] u = some (.tup (ds.map deedD), u') ∧ ds.length = c ∧ (∀ p ∈ ds, p.2 ∈ ts) ∧ OkU (n + 2 * c) u' := by
  obtain ⟨xs, u', e, dl, dp, o'⟩ := compL_inv (f := turnL (.one 3) [3] [Sl.pub .urn, .pub (.tup (ts.map .str)), .pub (.int (c : Int)), .no] mYes (mTup (mCons (mCall 2 F__law_of (mCons (mVar 0) (mCons (mLst (mCons (mC (.str ("write" : Str))) (mCons (mC (.str ("flush" : Str))) mNil))) mNil))) (mCons (mCall 2 F__law_of (mCons (mVar 0) (mCons (mVar 1) mNil))) mNil)))) (P := fun d => ∃ p : Dd, d = deedD p ∧ p.2 ∈ ts) (I := fun i u => OkU (n + 2 * i) u) (N := 200) (ds := rangeD 0 c) (i := 0) (u := u)
    (fun d hd i u hi ou => by
      obtain ⟨j, _, rfl⟩ := mem_rangeD hd
      obtain ⟨w, u1, e1, hw, o1⟩ := of_ok (ds := [.str ("write" : Str), .str ("flush" : Str)]) ou (by omega) (by decide) (by decide)
      obtain ⟨x, u2, e2, hx, o2⟩ := of_okT (ds := ts.map .str) o1 (by omega) (by rw [List.length_map]; omega) (by rw [List.length_map]; omega)
      obtain ⟨y, hy, rfl⟩ := List.mem_map.mp hx
      obtain ⟨b, hb⟩ : ∃ b : Bool, w = .str (wdS b) := by
        simp only [List.mem_cons, List.not_mem_nil, or_false] at hw
        rcases hw with rfl | rfl
        · exact ⟨true, rfl⟩
        · exact ⟨false, rfl⟩
      subst hb
      exact ⟨deedD (b, y), u2, turnL_eq (env' := [Sl.pub .urn, .pub (.tup (ts.map .str)), .pub (.int (c : Int)), .pub (.int (0 + j))]) rfl (mTup_eq (mCons_eq (mCall_eq (mCons_eq rfl (c1 (mLst_eq (mCons_eq rfl (c1 rfl)) (isiz (by simp))))) rfl e1) (c1 (mCall_eq (mCons_eq rfl (c1 rfl)) rfl e2))) (isiz (by simp))), ⟨_, rfl, hy⟩, o2.mono (by omega)⟩) (by simpa using h) (by rw [rangeD_len]; omega)
  rw [rangeD_len] at dl o'
  obtain ⟨ds, rfl, hd⟩ := row_deeds dp
  rw [List.length_map] at dl
  exact ⟨ds, u', runB_rt (sc_rt (sRet_eq (mBi_eq (c1 (mLc_eq (mRange1_eq (j := (c : Int)) rfl ⟨by omega, by omega⟩) (by rw [Int.toNat_natCast]; exact e) (isiz (by rw [List.length_map]; omega)))) rfl))), dl, hd, o'.mono (by omega)⟩
theorem right_ok {u : U} (h : OkU 0 u) : ∃ u', F__law_right [.urn] u = some (.bl true, u') := by
  obtain ⟨xs, u', e, dl, dp, o'⟩ := compL_inv (f := turnL (.one 1) [1] [Sl.pub .urn, .no] mYes (mCall 1 F__law_case_right (mCons (mCall 3 F__law_busy (mCons (mVar 0) (mCons (mCall 2 F__law_tags (mCons (mVar 0) (mCons (mBin fAdd (mC (.int (2))) (mCall 2 F__law_take (mCons (mVar 0) (mCons (mC (.int (2))) mNil)))) mNil))) (mCons (mCall 2 F__law_take (mCons (mVar 0) (mCons (mC (.int (13))) mNil))) mNil)))) mNil))) (P := fun d => d = .bl true) (I := fun i u => OkU (i * 50) u) (N := 8) (ds := rangeD 0 8) (i := 0) (u := u)
    (fun d hd i u hi ou => by
      obtain ⟨j, _, rfl⟩ := mem_rangeD hd
      obtain ⟨r1, u1, t1, r10, r11, o1⟩ := take_ok (low := 2) ou (by omega) (by decide) (by decide)
      obtain ⟨a, rfl⟩ : ∃ a : Nat, r1 = a := ⟨r1.toNat, by omega⟩
      have a1 : fAdd (.int 2) (.int (a : Int)) = some (.int ((2 + a : Nat) : Int)) := by show some (D.int (2 + (a : Int))) = _; rw [Int.natCast_add]; rfl
      obtain ⟨ts, u2, t2, tl, tp, o2⟩ := tags_ok (c := 2 + a) o1 (by omega) (by omega)
      obtain ⟨r3, u3, t3, r30, r31, o3⟩ := take_ok (low := 13) o2 (by omega) (by decide) (by decide)
      obtain ⟨c, rfl⟩ : ∃ c : Nat, r3 = c := ⟨r3.toNat, by omega⟩
      obtain ⟨ds, u4, t4, dl, dm, o4⟩ := busy_ok (ts := ts) (c := c) o3 (by omega) (by omega) (by omega)
      have tx : AllTx ds := fun p hp => pool_ok _ (tp _ (dm p hp))
      exact ⟨.bl true, u4, turnL_eq (env' := [Sl.pub .urn, .pub (.int (0 + j))]) rfl (mCall_eq (c1 (mCall_eq (mCons_eq rfl (mCons_eq (mCall_eq (mCons_eq rfl (c1 (mBin_eq rfl (mCall_eq (mCons_eq rfl (c1 rfl)) rfl t1) a1))) rfl t2) (c1 (mCall_eq (mCons_eq rfl (c1 rfl)) rfl t3)))) rfl t4)) rfl (case_ok tx (by omega))), rfl, o4.mono (by omega)⟩) (by simpa using h) (by decide)
  have e3 : xs = xs.map fun _ => D.bl true := by
    have : ∀ l : List D, (∀ x ∈ l, x = D.bl true) → l = l.map fun _ => D.bl true := fun l => by
      induction l with
      | nil => intro _; rfl
      | cons x l ih => intro hh; rw [List.map_cons, ← ih fun y hy => hh y (List.mem_cons_of_mem _ hy), hh x List.mem_cons_self]
    exact this xs dp
  rw [rangeD_len] at dl
  refine ⟨u', runB_rt (sc_rt (sRet_eq (mBi_eq (c1 (mLc_eq (mRange1_eq rfl (by decide)) e (isiz (by omega)))) ?_)))⟩
  rw [e3]; exact bAll_ts xs
end Lw76

namespace Lw76
open PySem PySem.Spec PyProof.Rows L2 Dv
theorem fPow_s {i j : Int} (h : 0 ≤ j ∧ j ≤ 1000000 ∧ i.natAbs < 2 ^ 64) : fPow (.int i) (.int j) = some (.int (i ^ j.toNat)) := by simp only [fPow]; rw [if_pos h]
/-! ### _law_box -/
theorem box_ok {cs : List Int} {k : Nat} {u : U} (hk : k < cs.length) (h3 : cs.length ≤ 8) : ∃ a b : Int, F__law_box [.lst (cs.map .int), .int k] u = some (.lst [.int a, .int b, .int 0], u) ∧ 0 ≤ a ∧ 0 ≤ b ∧ b < 2 ^ 62 := by
  have hix : ixD (.lst (cs.map .int)) (.int k) = some (.int cs[k]) := by
    show atI (cs.map D.int) (k : Int) = _
    refine atI_nat ?_
    rw [List.getElem?_map, List.getElem?_eq_getElem hk]; rfl
  have hlen : bLen [.lst (cs.map .int)] = some (.int cs.length) := by
    show some (D.int ((cs.map D.int).length : Int)) = _
    rw [List.length_map]
  have hlt : cLt (.int k) (.int cs.length) = some (.bl true) := by
    show some (D.bl (decide _)) = _
    rw [decide_eq_true (by omega)]
  obtain ⟨c, hc⟩ : ∃ c, c = cs[k] := ⟨_, rfl⟩
  rw [← hc] at hix
  obtain ⟨m, hm⟩ : ∃ m, m = if c < 0 then -c else c := ⟨_, rfl⟩
  have hm0 : 0 ≤ m := by rw [hm]; split <;> omega
  have habs : bAbs [.int c] = some (.int m) := by rw [hm]; rfl
  obtain ⟨g, hg⟩ : ∃ g : Bool, g = decide ((10 : Int) ^ 18 ≤ m) := ⟨_, rfl⟩
  have hge : cGe (.int m) (.int ((10 : Int) ^ (18 : Int).toNat)) = some (.bl g) := by rw [hg]; rfl
  have hmul : fMul (.int m) (.int (if g then 1 else 0)) = some (.int (m * (if g then 1 else 0))) := fMul_r (by cases g <;> decide)
  have hmod := fMod_p (i := c) (j := 2305843009213693951) (by decide)
  have hmk := fMul_r (i := 39373) (j := (k : Int)) (by omega)
  have h1 := Int.emod_nonneg c (show (2305843009213693951 : Int) ≠ 0 by decide)
  have h2 := Int.emod_lt_of_pos c (show (0 : Int) < 2305843009213693951 by decide)
  refine ⟨m * (if g then 1 else 0), c % 2305843009213693951 + 39373 * k + 824176, runB_rt (sc_nx (sSet_eq (mIte_t (mTru_eq (mBin_eq rfl (mBi_eq (c1 rfl) hlen) hlt) rfl) (mBin_eq rfl rfl hix))) (sc_rt (sRet_eq (mLst_eq (mCons_eq (mBin_eq (mBi_eq (c1 rfl) habs) (mBi_eq (c1 (mBin_eq (mBi_eq (c1 rfl) habs) (mBin_eq rfl rfl (fPow_s (by decide))) hge)) rfl) hmul) (mCons_eq (mBin_eq (mBin_eq (mBin_eq (mBi_eq (c1 rfl) rfl) rfl hmod) (mBin_eq rfl rfl hmk) rfl) rfl rfl) (c1 rfl))) (isiz (by simp)))))), ?_, by omega, by omega⟩
  cases g <;> simp <;> omega
/-! ### _law_cells -/
abbrev s__law_cells : Stmt := topS 28
theorem sc__law_cells : FnScope [("_law_script" : Str), ("_law_top" : Str), ("_law_cells_here" : Str), ("_law_k" : Str), ("_law_cell" : Str), ("_law_at_so" : Str)] [("_law_script" : Str), ("_law_top" : Str)] (defScope s__law_cells) := ⟨rfl, rfl, rfl, by decide +kernel, rfl, by decide +kernel, by decide +kernel⟩
def spCells (K : PySem.W.Frag) : Sp := fun vs H Q _ => ∃ (a : Addr) (ns : List Int) (top : Nat), vs = [.ref a, .int top] ∧ SqL K H a (ns.map V.int) ∧ 1 ≤ top ∧ top ≤ 8 ∧ ns.length ≤ 63 ∧
  ∀ H' p (cs : List Int), Same H H' → H' p = some (.lst (cs.map V.int)) → 1 ≤ cs.length → cs.length ≤ 8 → Q (.ref p) H'
theorem cut_ints (ns : List Int) (lo hi : Option Int) : cutV (ns.map V.int) lo hi = ((ns.drop (HT.sIx ns.length 0 lo)).take (HT.sIx ns.length ns.length hi - HT.sIx ns.length 0 lo)).map V.int := by
  unfold cutV
  rw [List.length_map, List.map_take, List.map_drop]
theorem ok__law_cells {P : Program} {w : World} {K : PySem.W.Frag} {mg : Str → Option Value} {base : Heap} {f : Addr} {fd : FuncData} (F : Fun K ("_law_cells" : Str) ("_law_cells" : Str) s__law_cells f fd) (nl : mg ("list" : Str) = none) (ne : mg ("enumerate" : Str) = none) (ni : mg ("int" : Str) = none) :
    FnOk P w K mg base CX0 1 f fd [("_law_script" : Str), ("_law_top" : Str)] (spCells K) := by
  have nd := sc__law_cells.nd
  refine F.ok sc__law_cells (fun vs H Q E h => ?_) (fun cdv A outer s H vs Q E hr h => ?_)
  · obtain ⟨a, ns, top, rfl, _⟩ := h; rfl
  · obtain ⟨a, ns, top, rfl, hS, ht1, ht8, hl, q⟩ := h
    refine ⟨_, pss_cons (ps_set (i := 2) nd rfl (Or.inl rfl) (pe_orT (pe_callTy call_list_of (by rfl) nl (by decide +kernel) (pa_cons (pe_slice sl_list (pv 0) po_none (po_some (pv 1))) pa_nil)) (pe_one (pe_lst (pa_cons pe_int pa_nil)))))
      (pss_cons (ps_for PassesOwn.never rfl (pi_enum (by rfl) ne (pa_cons (pe_slice sl_list (pv 0) (po_some (pv 1)) (po_some pe_int)) pa_nil)) (pg_tup rfl (pgs_cons (pg_name (i := 3) nd rfl (Or.inl rfl)) (pgs_cons (pg_name (i := 4) nd rfl (Or.inl rfl)) pgs_nil)))
        (pss_cons (ps_set (i := 5) nd rfl (Or.inl rfl) (pe_op op_mod (pe_callTy call_int1 (by rfl) ni (by decide +kernel) (pa_cons (pv 3) pa_nil)) (pv 1)))
        (pss_one (ps_asg (pe_op op_add (pe_ix ix_list (pv 2) (pv 5) (fun _ _ => rfl)) (pe_op op_mul (pv 4) (pe_op op_add (pv 3) pe_int))) (pg_sub (pv 2) (pv 5) set_list)))))
      (pss_one (ps_ret (pv 2)))), ?_⟩
    -- what follows the first statement, for the list at p
    have rest : ∀ (H1 : Hp) (p : Addr) (cs : List Int), Same H H1 → H p = none → H1 p = some (.lst (cs.map V.int)) → 1 ≤ cs.length → cs.length ≤ 8 → (top < ns.length → cs.length = top) →
        tSeq (tFor (iEnum K (tCons (tSl (rSlL K) (tVar 0) (tPart (tVar 1)) (tPart (tC (.int 63)))) tNil)) (gTup K 2 (gCons (gName 3) (gCons (gName 4) gNil)))
          (tSeq (tAsg (tOp (rI (fun _ j => 0 < j) fun i j => .int (i % j)) (tCB (fun xs H Q => (∃ i, xs = [V.int i] ∧ Q (.int i) H) ∨ ∃ k, xs = [V.bl k] ∧ Q (.int (if k then 1 else 0)) H) (tCons (tVar 3) tNil)) (tVar 1)) (gName 5))
            (tAsg (tOp (rI0 fun i j => .int (i + j)) (tOp (rIxL K) (tVar 2) (tVar 5)) (tOp (rI CMul fun i j => .int (i * j)) (tVar 4) (tOp (rI0 fun i j => .int (i + j)) (tVar 3) (tC (.int 2))))) (gSub (tVar 2) (tVar 5) rSetL)))) (tRet (tVar 2))
          { nx := fun _ H' => Q .non H', rt := Q } [some (.ref a), some (.int top), some (.ref p), none, none, none] H1 := by
      intro H1 p cs s1 np ep c1 c8 ct
      refine ⟨_, rfl, _, rfl, (top : Int), rfl, 63, rfl, a, ns.map V.int, rfl, s1.seq hS, fun r nr => ?_⟩
      rw [cut_ints]
      obtain ⟨zs, hzs⟩ : ∃ zs, zs = (ns.drop (HT.sIx ns.length 0 (some (top : Int)))).take (HT.sIx ns.length ns.length (some 63) - HT.sIx ns.length 0 (some (top : Int))) := ⟨_, rfl⟩
      rw [← hzs]
      have hne : 0 < zs.length → top < ns.length := fun h => by
        rw [hzs, List.length_take, List.length_drop, HT.sIx_nat] at h
        omega
      have nrp : r ≠ p := fun e => by subst e; rw [ep] at nr; cases nr
      refine ⟨r, zs.map V.int, rfl, .of upd_same, ?_⟩
      refine ⟨fun i m σ H2 => ∃ (cs2 : List Int) (y3 y4 y5 : Option V), σ = [some (.ref a), some (.int top), some (.ref p), y3, y4, y5] ∧ i + m = zs.length ∧ Same H H2 ∧ H2 p = some (.lst (cs2.map V.int)) ∧ cs2.length = cs.length ∧ H2 r = some (.lst (zs.map V.int)),
        ⟨zs.length, cs, none, none, none, rfl, by omega, fun b o e => same_new nr b o (s1 b o e), by rw [upd_ne nrp.symm]; exact ep, rfl, upd_same⟩, fun i m σ H2 hW => ?_⟩
      obtain ⟨cs2, y3, y4, y5, rfl, em, s2, ep2, el, er⟩ := hW
      by_cases hi : i < zs.length
      · have g1 : (zs.map V.int)[i]? = some (.int zs[i]) := by rw [List.getElem?_map, List.getElem?_eq_getElem hi]; rfl
        refine .inr ⟨⟨_, _, .of er, g1⟩, fun σ' H' => ∃ (cs2 : List Int) (y3 y4 y5 : Option V), σ' = [some (.ref a), some (.int top), some (.ref p), y3, y4, y5] ∧ Same H H' ∧ H' p = some (.lst (cs2.map V.int)) ∧ cs2.length = cs.length ∧ H' r = some (.lst (zs.map V.int)),
          fun σ' H' ⟨z1, z2, z3, z4, e1, e2, e3, e4, e5⟩ => ⟨m - 1, by omega, z1, z2, z3, z4, e1, by omega, e2, e3, e4, e5⟩, fun x H3 hy => ?_⟩
        obtain ⟨T, x1, rfl, nT, rfl, f1⟩ := hy
        have ex1 : x1 = .int zs[i] := Option.some.inj ((f1 _ (.of er)).symm.trans g1)
        subst ex1
        have hlen : cs2.length = top := by rw [el]; exact ct (hne (by omega))
        have hTp : p ≠ T := ne_of_none ep2 nT
        have hTr : r ≠ T := ne_of_none er nT
        refine ⟨T, _, rfl, .of upd_same, rfl, _, _, rfl, _, _, rfl, rfl, ?_⟩
        have hmod0 : 0 ≤ (i : Int) % (top : Int) := Int.emod_nonneg _ (by omega)
        have hmod1 : (i : Int) % (top : Int) < top := Int.emod_lt_of_pos _ (by omega)
        obtain ⟨j, hj⟩ : ∃ j : Nat, (i : Int) % (top : Int) = j := ⟨((i : Int) % (top : Int)).toNat, by omega⟩
        have hjl : j < cs2.length := by omega
        have hitl : zs.length ≤ 63 := by rw [hzs, List.length_take, List.length_drop]; omega
        refine ⟨_, rfl, .inl ⟨(i : Int), rfl, _, rfl, (i : Int), (top : Int), rfl, rfl, by omega, ?_⟩⟩
        have ep3 : upd H2 T (.tup [.int i, .int zs[i]]) p = some (.lst (cs2.map V.int)) := by rw [upd_ne hTp]; exact ep2
        refine ⟨_, rfl, _, rfl, p, cs2.map V.int, (i : Int) % (top : Int), .int cs2[j], rfl, rfl, .of ep3, by rw [hj]; exact atI_nat (by rw [List.getElem?_map, List.getElem?_eq_getElem hjl]; rfl), ?_⟩
        refine ⟨_, rfl, _, rfl, (i : Int), 2, rfl, rfl, zs[i], (i : Int) + 2, rfl, rfl, .inr (by omega), cs2[j], zs[i] * ((i : Int) + 2), rfl, rfl, ?_⟩
        refine ⟨_, rfl, _, rfl, p, cs2.map V.int, (i : Int) % (top : Int), j, rfl, rfl, ep3, ?_, ?_⟩
        · rw [hj]
          unfold ixN
          rw [if_pos (by omega), if_pos (by rw [List.length_map]; omega)]
          rfl
        · refine ⟨cs2.set j (cs2[j] + zs[i] * ((i : Int) + 2)), _, _, _, rfl, fun b o e => ?_, ?_, by rw [List.length_set]; exact el, ?_⟩
          · rw [upd_ne (ne_of_none e np)]
            exact same_new nT b o (s2 b o e)
          · rw [upd_same, List.map_set]
          · rw [upd_ne nrp, upd_ne hTr]; exact er
      · refine .inl ⟨⟨_, .of er, by rw [List.length_map]; omega⟩, ?_⟩
        exact ⟨_, rfl, q H2 p cs2 s2 ep2 (by omega) (by omega)⟩
    -- cells_here = list(script[:top]) or [0]
    refine ⟨_, rfl, _, rfl, (top : Int), rfl, a, ns.map V.int, rfl, hS, fun r nr => ?_⟩
    rw [cut_ints, HT.sIx_none, HT.sIx_nat, List.drop_zero, Nat.sub_zero]
    refine ⟨r, _, rfl, .inl (.of upd_same), fun p np => ?_⟩
    have s1 : Same H (upd H r (.lst ((ns.take (min top ns.length)).map V.int))) := same_new nr
    have np0 : H p = none := s1.free np
    have s2 : Same H (upd (upd H r (.lst ((ns.take (min top ns.length)).map V.int))) p (.lst ((ns.take (min top ns.length)).map V.int))) := fun b o e => same_new np b o (s1 b o e)
    refine ⟨!((ns.take (min top ns.length)).map V.int).isEmpty, .inl ⟨_, .of upd_same, rfl⟩, ?_⟩
    cases hns : ns with
    | nil =>
      have e0 : (!((ns.take (min top ns.length)).map V.int).isEmpty) = false := by rw [hns, List.take_nil]; rfl
      rw [← hns, e0]
      refine iteF ⟨by decide, fun p2 np2 => ?_⟩
      have np20 : H p2 = none := s2.free np2
      exact rest _ p2 [0] (fun b o e => same_new np2 b o (s2 b o e)) np20 upd_same (by decide) (by decide) (fun h => by rw [hns] at h; simp at h)
    | cons n0 nr0 =>
      have hlen : (ns.take (min top ns.length)).length = min top ns.length := by rw [List.length_take]; omega
      have hn0 : 0 < ns.length := by rw [hns]; simp
      have : (!((ns.take (min top ns.length)).map V.int).isEmpty) = true := by
        cases hh : ns.take (min top ns.length) with
        | nil => rw [hh] at hlen; simp at hlen; omega
        | cons _ _ => rfl
      rw [← hns, this]
      exact iteT (rest _ p _ s2 np0 upd_same (by rw [hlen]; omega) (by rw [hlen]; omega) (fun h => by rw [hlen]; omega))
end Lw76

namespace Lw76
open PySem PySem.Spec PyProof.Rows L2 Dv
def isT (o : Option (D × U)) : Bool := match o with
  | some (.bl true, _) => true
  | _ => false
theorem hand_ok : ∃ u', F__law_by_hand_right [] ⟨0, 0, 0⟩ = some (.bl true, u') := by
  have h : isT (F__law_by_hand_right [] ⟨0, 0, 0⟩) = true := by decide +kernel
  unfold isT at h
  split at h
  · exact ⟨_, ‹_›⟩
  · cases h
abbrev s_law : Stmt := topS 40
theorem sc_law : FnScope [("_law_script" : Str), ("_law_cells_here" : Str), ("_law_k" : Str)] [("_law_script" : Str)] (defScope s_law) := ⟨rfl, rfl, rfl, by decide +kernel, rfl, by decide +kernel, by decide +kernel⟩
def spLaw (K : PySem.W.Frag) : Sp := fun vs H Q _ => ∃ (a : Addr) (ns : List Int), vs = [.ref a] ∧ SqL K H a (ns.map V.int) ∧ ns.length ≤ 63 ∧ ∀ H', Q (.bl true) H'
theorem vint_reps {K : PySem.W.Frag} {G : Gx K} {ua : Option Addr} {B : Hp} (cs : List Int) : Reps G ua (cs.map D.int) (cs.map V.int) B := Reps.ints
theorem env_noN {K : PySem.W.Frag} {G : Gx K} {ua : Option Addr} {B H : Hp} {n : Nat} {σ : List (Option V)} (h : σ.length = n) : EnvOk G ua (List.replicate n Sl.no) σ B H := by
  have hno : ∀ (i : Nat) x, (List.replicate n Sl.no)[i]? = some x → x = Sl.no := fun i x e => by
    rw [List.getElem?_replicate] at e
    split at e
    · exact (Option.some.inj e).symm
    · cases e
  exact ⟨by rw [List.length_replicate, h], fun i d e => (by have := hno i _ e; cases this), fun i d e => (by have := hno i _ e; cases this), fun i j a b p e => (by have := hno i _ e; cases this)⟩
theorem ok_law {P : Program} {w : World} {K : PySem.W.Frag} {mg : Str → Option Value} {base : Heap} {G : Gx K} (T : Tx mg) {f : Addr} {fd : FuncData} (F : Fun K ("law" : Str) ("law" : Str) s_law f fd)
    {fc : Addr} {fdc : FuncData} (FC : FnOk P w K mg base CX0 1 fc fdc [("_law_script" : Str), ("_law_top" : Str)] (spCells K)) (mc : mg ("_law_cells" : Str) = some (.ref fc)) (kc : PySem.W.keepIn K (.ref fc) = true) (bc : Binds K fdc [("_law_script" : Str), ("_law_top" : Str)] [])
    (D_hand : DefOk P w mg base G ("_law_by_hand_right" : Str) 12 0 F__law_by_hand_right) (D_right : DefOk P w mg base G ("_law_right" : Str) 12 1 F__law_right) (D_box : DefOk P w mg base G ("_law_box" : Str) 12 2 F__law_box) : FnOk P w K mg base CX0 13 f fd [("_law_script" : Str)] (spLaw K) := by
  have nd := sc_law.nd
  obtain ⟨fr, fdr, psr, hfr, hmr, hkr, hbr⟩ := D_right
  refine F.ok sc_law (fun vs H Q E h => ?_) (fun cdv A outer s H vs Q E hr h => ?_)
  · obtain ⟨a, ns, rfl, _⟩ := h; rfl
  · obtain ⟨a, ns, rfl, hS, hl, q⟩ := h
    refine ⟨_, pss_cons (ps_if (show PT _ _ (tTst (K := K) G (mNotB (mTru (mCall 0 F__law_by_hand_right mNil)))) from dt_not (dt_val (dv_call0 D_hand hr rfl))) (pss_one (ps_ret pe_bl)) pss_nil) (pss_cons (ps_set (i := 1) nd rfl (Or.inr rfl) (pe_call (FC.mono (k := 12) (by decide)) hr (by rfl) mc kc bc .nil pass0 (pa_cons (pv 0) (pa_cons pe_int pa_nil))))
      (pss_one (ps_ret (pe_callB (cr_all rfl) (by rfl) T.n_all (by decide +kernel) (pa_cons
        (pe_lc (own := [(("_law_k" : Str), 2)]) (g := gName 2) (tt := tYes) rfl nd (pi_range1 rfl T.n_range (pa_cons (pe_callB call_len_seq (by rfl) T.n_len PySem.boot_len (pa_cons (pv 1) pa_nil)) pa_nil))
          (blkOk_by (own := [(("_law_k" : Str), 2)]) (N := [("_law_script" : Str), ("_law_cells_here" : Str), ("_law_k" : Str)]) (sc := defScope s_law) (by decide +kernel))
          (fun _ _ _ _ _ => pg_name (i := 2) nd rfl (Or.inl rfl)) (fun _ _ _ _ _ => pts_nil)
          (fun _ _ _ _ _ => pe_call hfr hr (by rfl) hmr hkr hbr .nil pass0 (pa_cons (show PE _ _ (tEv (K := K) G (mCall 2 F__law_box (mCons (mVar 1) (mCons (mVar 2) mNil)))) from dv_call D_box hr rfl (dvs_cons (dv_var 1) (dvs_cons (dv_var 2) dvs_nil))) pa_nil))) pa_nil))))), ?_⟩
    obtain ⟨uh, hh⟩ := hand_ok
    refine ⟨none, ⟨0, 0, 0⟩, fun _ => none, [.no, .no, .no], false, uh, env_noN (n := 3) rfl, ⟨fun _ _ z => (by cases z), fun _ z => (by cases z)⟩, ?_, fun H0 ha => ?_⟩
    · exact mNotB_eq (mTru_eq (mCall_eq mNil_eq rfl hh) rfl)
    obtain ⟨B0, g0, w0⟩ := ha
    refine iteF ?_
    have s0 : Same H H0 := fun b o e => g0.keep b o e (fun z => by cases z)
    refine ⟨_, rfl, a, ns, 3, rfl, s0.seq hS, by decide, by decide, hl, fun H1 p cs s1 hp c1 c8 => ?_⟩
    have hp2 := hp
    obtain ⟨H2, eH2⟩ : ∃ H2, H2 = H1 := ⟨_, rfl⟩
    rw [← eH2] at hp2
    rw [← eH2]
    -- all over the cells
    refine ⟨_, rfl, p, _, rfl, .inl (.of hp2), (cs.length : Int), ?_, by omega, by omega, fun Dp hD => ?_⟩
    · rw [List.length_map]
    rw [Int.toNat_natCast]
    have hDp : Dp ≠ p := fun e => by rw [e, hp2] at hD; cases hD
    refine lc_range (lo := 0) (n := cs.length) (fun i H => H Dp = some (.lst (List.replicate i (V.bl true))) ∧ ∃ cs2 : List Int, cs2.length = cs.length ∧ H p = some (.lst (cs2.map V.int))) ⟨upd_same, cs, rfl, by rw [upd_ne hDp.symm]; exact hp2⟩ (fun i H3 hi hP => ?_) fun H3 hP => ?_
    · obtain ⟨e1, cs2, el, e2⟩ := hP
      refine ⟨rfl, ?_⟩
      unfold tYes
      dsimp only
      rw [if_pos rfl]
      -- the box
      obtain ⟨x, y, hbx, hx, hy1, hy2⟩ := box_ok (cs := cs2) (k := i) (u := ⟨0, 0, 0⟩) (by omega) (by omega)
      obtain ⟨Bp, hBp⟩ : ∃ Bp : Hp, Bp = upd (fun _ => none) p (.lst (cs2.map V.int)) := ⟨_, rfl⟩
      have wB : Wd none ⟨0, 0, 0⟩ Bp H3 := by
        refine ⟨fun b o e => ?_, fun _ z => by cases z⟩
        rw [hBp] at e
        by_cases z : b = p
        · rw [z, upd_same] at e; cases e; rw [z]; exact e2
        · rw [upd_ne z] at e; cases e
      have rC : Rep G none (.lst (cs2.map .int)) (.ref p) Bp := by unfold Rep; exact ⟨p, _, rfl, by rw [hBp]; exact upd_same, vint_reps cs2⟩
      have eE : EnvOk G none [.no, .pub (.lst (cs2.map .int)), .pub (.int (0 + i))] [none, some (V.ref p), some (V.int (0 + i))] Bp H3 :=
        ((env_noN (n := 3) (σ := [none, none, none]) rfl).set rC 1).set (d := .int (0 + i)) (v := V.int (0 + i)) rep_int 2
      have eE' : EnvOk G none [.no, .pub (.lst (cs2.map .int)), .pub (.int (0 + i))] [some (V.ref a), some (V.ref p), some (V.int (0 + i))] Bp H3 :=
        ((env_noN (n := 3) (σ := [some (V.ref a), none, none]) rfl).set rC 1).set (d := .int (0 + i)) (v := V.int (0 + i)) rep_int 2
      refine ⟨none, ⟨0, 0, 0⟩, Bp, _, _, _, eE', wB, mCall_eq (mCons_eq rfl (mCons_eq rfl mNil_eq)) rfl (by rw [Int.zero_add]; exact hbx), fun v H4 ha4 => ?_⟩
      obtain ⟨B4, g4, w4, r4⟩ := ha4
      obtain ⟨z, vs, rfl, hz, rz⟩ := r4.lst
      have evs : vs = [V.int x, V.int y, V.int 0] := rz.ints_of (xs := [x, y, 0])
      rw [evs] at hz
      have hz4 := w4.sub _ _ hz
      obtain ⟨u5, h5⟩ := right_ok (u := ⟨x, y, 0⟩) ⟨hx, ⟨hy1, hy2⟩, Int.le_refl 0, Int.le_refl 0⟩
      have eD4 : H4 Dp = some (.lst (List.replicate i (V.bl true))) := g4.keep _ _ e1 (fun z => by cases z)
      have zD : z ≠ Dp := fun e => by
        rcases g4.new z _ hz with q | q
        · rw [hBp, e, upd_ne hDp] at q; cases q
        · rw [e, e1] at q; cases q
      refine ⟨some z, ⟨x, y, 0⟩, fun _ => none, [.urn], .bl true, u5, .cons (by unfold Rep; exact ⟨z, rfl, rfl⟩) .nil, rfl, ⟨fun _ _ z => (by cases z), fun b e => by cases e; exact ⟨rfl, hz4⟩⟩, h5, fun v5 H5 ha5 => ?_⟩
      obtain ⟨B5, g5, w5, r5⟩ := ha5
      cases r5.bl
      have eD5 : H5 Dp = some (.lst (List.replicate i (V.bl true))) := g5.keep _ _ eD4 (fun e => zD (Option.some.inj e))
      refine ⟨_, eD5, by rw [List.length_replicate, line]; omega, by rw [upd_same, List.replicate_succ'], ?_⟩
      by_cases zp : z = p
      · -- the box is the cells' own list: three numbers all the same
        subst zp
        have e4 := g4.keep _ _ e2 (fun e => by cases e)
        rw [hz4] at e4
        have e5 : cs2.length = 3 := by
          have := congrArg (fun o => match o with | some (HO.lst xs) => xs.length | _ => 0) e4
          simp at this
          omega
        refine ⟨[u5.a, u5.b, u5.c], by rw [← el, e5]; rfl, ?_⟩
        rw [upd_ne hDp.symm]
        exact (w5.urn z rfl).2
      · refine ⟨cs2, el, ?_⟩
        rw [upd_ne hDp.symm]
        exact g5.keep _ _ (g4.keep _ _ e2 (fun e => by cases e)) (fun e => zp (Option.some.inj e))
    · obtain ⟨e1, cs2, el, e2⟩ := hP
      refine ⟨Dp, List.replicate cs.length true, rfl, .of (by rw [List.map_replicate]; exact e1), ?_⟩
      have : (List.replicate cs.length true).all id = true := by
        rw [List.all_eq_true]
        intro b hb
        rw [(List.mem_replicate.mp hb).2]; rfl
      rw [this]
      exact q _
end Lw76

namespace Lw76
open PySem PySem.Spec PyProof.Rows L2 Dv
/-! ### tupled of the written empty tuple -/
def noE : TE := fun _ _ _ => False
theorem pe_noE {X : Cx} {e : Expr} : PE X e noE := ⟨fun _ _ _ _ _ _ h => h.elim⟩
def spT0 (K : PySem.W.Frag) : Sp := fun vs H Q _ => ∃ (e0 : Addr) (o : Obj), vs = [.ref e0] ∧ K.lookup e0 = some o ∧ o.cls = .type "tuple" ∧ SqT K H e0 [] ∧
  ∀ (t l p : Addr) (ob : Obj) (H1 H2 : Hp), H t = none → H1 l = none → H2 p = none → H2 = upd H1 l (.lst []) → ob.dict = none → Same H H1 → (∀ b, H1 b = none → H b = none) → (∀ b u, H1 b = some u → H b = some u ∨ H b = none) → Q (.ref p) (upd H2 p (.frz ob (.tup [])))
theorem fn_or {P : Program} {w : World} {K : PySem.W.Frag} {mg : Str → Option Value} {base : Heap} {CX : CXT} {k : Nat} {f : Addr} {fd : FuncData} {ps : List Str} {sp sp' : Sp} (h : FnOk P w K mg base CX k f fd ps sp) (h' : FnOk P w K mg base CX k f fd ps sp') : FnOk P w K mg base CX k f fd ps (fun vs H Q E => sp vs H Q E ∨ sp' vs H Q E) :=
  ⟨fun vs H Q E z => z.elim (h.len vs H Q E) (h'.len vs H Q E), fun A outer s H args us vs Q E hr he hb hv z => z.elim (h.run A outer s H args us vs Q E hr he hb hv) (h'.run A outer s H args us vs Q E hr he hb hv)⟩
theorem ok_tupled0 {P : Program} {w : World} {K : PySem.W.Frag} {mg : Str → Option Value} {base : Heap} (T : Tx mg) {f : Addr} {fd : FuncData} (F : Fun K ("tupled" : Str) ("tupled" : Str) s_tupled f fd) (hm : mg ("tupled" : Str) = some (.ref f)) :
    FnOk P w K mg base CX0 1 f fd [("worth" : Str)] (spT0 K) := by
  have nd := sc_tupled.nd
  refine F.ok sc_tupled (fun vs H Q E h => ?_) (fun cdv A outer s H vs Q E hr h => ?_)
  · obtain ⟨e0, o, rfl, _⟩ := h; rfl
  · obtain ⟨e0, o, rfl, hk, hc, hs, q⟩ := h
    refine ⟨_, pss_cons (ps_if (pt_truth (pe_callB call_isiT (by rfl) T.n_isinstance (by decide +kernel) (pa_cons (pv 0) (pa_cons (pe_tup (pa_cons (pe_bltn (v := .ty "list") (by rfl) T.n_list (by decide +kernel) rfl) (pa_cons (pe_bltn (v := .ty "tuple") (by rfl) T.n_tuple (by decide +kernel) rfl) pa_nil))) pa_nil))) (by intro _; rfl))
      (pss_one (ps_ret (pe_callTy call_tupF (by rfl) T.n_tuple (by decide +kernel) (pa_cons (pe_lc (own := [(("part" : Str), 1)]) (g := gName 1) (tt := tYes) (te := noE) rfl nd (pi_tup (pv 0)) (blkOk_by (own := [(("part" : Str), 1)]) (N := [("worth" : Str), ("part" : Str)]) (sc := defScope s_tupled) (by decide +kernel)) (fun _ _ _ _ _ => pg_name (i := 1) nd rfl (Or.inl rfl)) (fun _ _ _ _ _ => pts_nil) (fun _ _ _ _ _ => pe_noE)) pa_nil)))) pss_nil)
      (pss_one (ps_ret (pv 0))), ?_⟩
    refine ⟨_, rfl, (by show 2 ≤ sizeLine; decide), fun t ht => ?_⟩
    have s1 : Same H (upd H t (.tup [.ty "list", .ty "tuple"])) := same_new ht
    have hs1 : SqT K (upd H t (.tup [.ty "list", .ty "tuple"])) e0 [] := Dv.Same.seqT s1 hs
    refine ⟨_, t, [.ty "list", .ty "tuple"], _, [.type "list", .type "tuple"], true, rfl, upd_same, .cons (.ty "list") (.cons (.ty "tuple") .nil), .kTuple hk hc, kitAny_of (ts := ["list", "tuple"]) (by decide +kernel), true, ?_, ?_⟩
    · exact rfl
    · refine ⟨_, rfl, e0, rfl, ⟨_, hs1⟩, fun Dp hDp => ?_⟩
      refine lc_tup (xs := []) (g := gName 1) (tt := tYes) (te := noE) (vs := [1]) (σ := L2.start [("worth" : Str), ("part" : Str)] [V.ref e0]) (fun _ H' => H' = upd (upd H t (.tup [.ty "list", .ty "tuple"])) Dp (.lst [])) rfl (fun i H' _ e => by subst e; exact Dv.Same.seqT (same_new hDp) hs1) (fun i x H' hx => by simp at hx) fun H' e => ?_
      subst e
      refine ⟨Dp, [], rfl, .inl ⟨.of upd_same, fun p ob hp hob => ?_⟩⟩
      refine q t Dp p ob _ _ ht hDp hp rfl hob s1 (fun b z => ?_) (fun b u z => ?_)
      · by_cases c : b = t
        · rw [c]; exact ht
        · rw [upd_ne c] at z; exact z
      · by_cases c : b = t
        · rw [c]; exact .inr ht
        · rw [upd_ne c] at z; exact .inl z
end Lw76

namespace Lw76
open PySem PySem.Spec PyProof.Rows L2 Dv
abbrev s_numbered : Stmt := topS 13
theorem sc_numbered : FnScope [("writes" : Str), ("many" : Str), ("lines" : Str), ("stream" : Str)] [("writes" : Str)] (defScope s_numbered) := ⟨rfl, rfl, rfl, by decide +kernel, rfl, by decide +kernel, by decide +kernel⟩
/-- in the loop: i streams are counted -/
structure NumW {K : PySem.W.Frag} (G : Gx K) (ua : Option Addr) (u : U) (xs : List Str) (a m l : Addr) (B H : Hp) (i : Nat) (σ : L2.St) (H2 : Hp) : Prop where
  st : ∃ z, σ = [some (V.ref a), some (V.ref m), some (V.ref l), z]
  le : i ≤ xs.length
  heap : ∃ (B2 : Hp) (kvs : List (Key × V)) (vs : List V), Grow ua B H B2 H2 ∧ Wd ua u B2 H2 ∧ B2 m = none ∧ B2 l = none ∧ H2 m = some (.dK kvs) ∧ H2 l = some (.lst vs) ∧ Tally (revOn (xs.take i) []) kvs ∧ Reps G ua (numG [] (xs.take i)) vs B2
theorem ok_numbered {P : Program} {w : World} {K : PySem.W.Frag} {mg : Str → Option Value} {base : Heap} {G : Gx K} (T : Tx mg) {f : Addr} {fd : FuncData} (F : Fun K ("numbered" : Str) ("numbered" : Str) s_numbered f fd) :
    FnOk P w K mg base CX0 1 f fd [("writes" : Str)] (spF G F_numbered 1) := by
  have nd := sc_numbered.nd
  refine F.ok sc_numbered (fun vs H Q E h => ?_) (fun cdv A outer s H vs Q E hr h => ?_)
  · obtain ⟨ua, u, B, ds, d, u', r, hl, _⟩ := h
    rw [← r.len, hl]; rfl
  · obtain ⟨ua, u, B, ds, d, u', r, hl, hw, hf, q⟩ := h
    unfold F_numbered numF at hf
    split at hf
    · rename_i ds0
      split at hf
      · rename_i xs hx
        split at hf
        · rename_i hz
          cases hf
          obtain ⟨v, t, rfl, r1, r2⟩ := r.of_cons
          rw [r2.of_nil]
          obtain ⟨a, ws, rfl, ha, rs⟩ := r1.tup
          rw [strsOf_eq hx] at rs
          have hws := rs.strs_of
          refine ⟨_, pss_cons (ps_set (i := 1) nd rfl (Or.inl rfl) pe_dnewK) (pss_cons (ps_set (i := 2) nd rfl (Or.inl rfl) (pe_lst pa_nil))
            (pss_cons (ps_for PassesOwn.never rfl (pi_tup (pv 0)) (pg_name (i := 3) nd rfl (Or.inl rfl))
              (pss_cons (ps_dput (hu_of hr) (pv 1) (pv 3) (pe_op op_add (pe_dget2 (hu_of hr) (pv 1) (pv 3) pe_int ⟨rfl, rfl, rfl, rfl⟩) pe_int) rfl)
              (pss_one (ps_expr (pe_bm PySem.F.plainAttrs_list PySem.F.slot_list_append PySem.F.type_list_append mt_append (pv 2) (pa_cons (pe_tupF (pa_cons (pv 3) (pa_cons (pe_dget (hu_of hr) (pv 1) (pv 3) (fun _ _ => rfl)) pa_nil))) pa_nil))))))
            (pss_one (ps_ret (pe_callTy call_tupF (by rfl) T.n_tuple (by decide +kernel) (pa_cons (pv 2) pa_nil)))))), ?_⟩
          intro m nm
          refine ⟨Nat.zero_le _, fun l nl => ?_⟩
          have s1 : Same H (upd H m (.dK [])) := same_new nm
          have nlH : H l = none := s1.free nl
          have hml : m ≠ l := fun z => by subst z; rw [upd_same] at nl; cases nl
          obtain ⟨o0, ho0, ha00⟩ := ha
          have ha0 : H a = some (.frz o0 (.tup ws)) := hw.sub _ _ ha00
          have w1 : Wd ua u B (upd H m (.dK [])) := hw.own1 nm
          have w2 := w1.own1 (o := .lst []) nl
          have g1 : Grow ua B H B (upd H m (.dK [])) := .own1 hw nm
          have g2 := g1.trans (Grow.own1 (o := .lst []) w1 nl)
          have ham : ∀ {H2 : Hp} {B2 : Hp}, Grow ua B H B2 H2 → ua ≠ some a → H2 a = some (.frz o0 (.tup ws)) := fun g n => g.keep _ _ ha0 n
          have hua : ua ≠ some a := fun e => by have := (hw.urn a e).2; rw [ha0] at this; cases this
          have hum : ua ≠ some m := hw.ne_urn nm
          have hul : ua ≠ some l := hw.ne_urn nlH
          have ea := ham g2 hua
          refine ⟨_, rfl, a, rfl, ⟨_, (TupB.sq ⟨o0, ho0, ea⟩)⟩, fun i mm σ H2 => mm = xs.length - i ∧ NumW G ua u xs a m l B H i σ H2, ⟨_, rfl, ⟨⟨none, rfl⟩, Nat.zero_le _, B, [], [], g2, w2, hw.none_of nm, hw.none_of nlH, ?_, upd_same, .nil, .nil⟩⟩, fun i mm σ H2 hW => ?_⟩
          · rw [upd_ne hml, upd_same]
          · obtain ⟨rfl, ⟨z, rfl⟩, hle, B2, kvs, vs, g, w', bm, bl, hm, hl2, ht, hr2⟩ := hW
            have ea2 := ham g hua
            by_cases hi : i < xs.length
            · right
              obtain ⟨x, hxi⟩ : ∃ x, xs[i]? = some x := ⟨_, List.getElem?_eq_getElem hi⟩
              have hwi : ws[i]? = some (.str x) := by rw [hws, List.getElem?_map, hxi]; rfl
              refine ⟨⟨ws, _, TupB.sq ⟨o0, ho0, ea2⟩, hwi⟩, fun σ' H' => NumW G ua u xs a m l B H (i + 1) σ' H', fun σ' H' hN => ⟨_, by omega, rfl, hN⟩, fun y H' hy => ?_⟩
              obtain ⟨rfl, hy⟩ := hy
              have := hy ws (TupB.sq ⟨o0, ho0, ea2⟩)
              rw [hwi] at this
              cases this
              have hlen : (revOn (xs.take i) []).length = i := by rw [revOn_len, List.length_take, List.length_nil]; omega
              have hk : kvs.length < sizeLine := by have := ht.len; rw [hlen] at this; omega
              have hv : vs.length < sizeLine := by rw [← hr2.len, numG_len, List.length_take]; omega
              refine ⟨_, rfl, m, rfl, .inl ⟨_, .inl hm⟩, _, rfl, _, .k (k := Sum.inr x) hm, _, _, ht.getD x, rfl, ?_⟩
              refine ⟨_, rfl, _, rfl, m, _, rfl, .k (k := Sum.inr x) hm hk, ?_⟩
              have w3 : Wd ua u B2 (upd H' m (.dK (putK kvs (Sum.inr x) (.int ((cntS x (revOn (xs.take i) []) : Nat) + 1 : Int))))) := w'.put bm hum
              have g3 : Grow ua B H B2 (upd H' m (.dK (putK kvs (Sum.inr x) (.int ((cntS x (revOn (xs.take i) []) : Nat) + 1 : Int))))) := g.putOwn nm
              have hl3 : (upd H' m (.dK (putK kvs (Sum.inr x) (.int ((cntS x (revOn (xs.take i) []) : Nat) + 1 : Int))))) l = some (.lst vs) := by rw [upd_ne hml.symm]; exact hl2
              have ht2 := ht.put x
              have hgx : valV (putK kvs (Sum.inr x) (.int ((cntS x (revOn (xs.take i) []) : Nat) + 1 : Int))) (Sum.inr x) = some (.int ((cntS x (revOn (xs.take i) []) : Nat) + 1 : Int)) := by rw [valV_put, if_pos rfl]
              have hD := DGet.k (k := Sum.inr x) (upd_same (H := H') (a := m) (o := .dK (putK kvs (Sum.inr x) (.int ((cntS x (revOn (xs.take i) []) : Nat) + 1 : Int)))))
              rw [hgx] at hD
              refine ⟨_, rfl, .inl ⟨rfl, _, SqL.of hl3⟩, _, rfl, _, rfl, _, rfl, m, _, rfl, hD, (by rw [sizeLine_eq]; exact (by decide : 2 ≤ 16777216)), fun p o np ho => ?_⟩
              have w4 := w3.new1 (o := .frz o (.tup [.str x, .int ((cntS x (revOn (xs.take i) []) : Nat) + 1 : Int)])) np
              have g4 := g3.trans (.new1 (o := .frz o (.tup [.str x, .int ((cntS x (revOn (xs.take i) []) : Nat) + 1 : Int)])) w3 np)
              have hpl : l ≠ p := ne_of_none hl3 np
              have hpm : m ≠ p := ne_of_none upd_same np
              have npB := w3.none_of np
              have bl4 : (upd B2 p (.frz o (.tup [.str x, .int ((cntS x (revOn (xs.take i) []) : Nat) + 1 : Int)]))) l = none := by rw [upd_ne hpl]; exact bl
              have bm4 : (upd B2 p (.frz o (.tup [.str x, .int ((cntS x (revOn (xs.take i) []) : Nat) + 1 : Int)]))) m = none := by rw [upd_ne hpm]; exact bm
              refine ⟨l, vs, _, rfl, rfl, by rw [upd_ne hpl]; exact hl3, hv, ⟨⟨_, rfl⟩, hi, _, putK kvs (Sum.inr x) (.int ((cntS x (revOn (xs.take i) []) : Nat) + 1 : Int)), _, g4.putOwn nlH, w4.put bl4 hul, bm4, bl4, ?_, upd_same, ?_, ?_⟩⟩
              · rw [upd_ne hml, upd_ne hpm, upd_same]
              · rw [take_snoc hxi, revOn_snoc]; exact ht2
              · rw [take_snoc hxi, numG_snoc]
                refine (hr2.mono _ _ (same_new npB)).append (.cons ?_ .nil)
                unfold Rep
                exact ⟨p, _, rfl, ⟨o, ho, upd_same⟩, .cons rep_str (.cons rep_int .nil)⟩
            · left
              have hi' : i = xs.length := by omega
              subst hi'
              refine ⟨⟨ws, TupB.sq ⟨o0, ho0, ea2⟩, by rw [hws, List.length_map]; exact Nat.le_refl _⟩, _, rfl, l, vs, rfl, .inl ⟨.of hl2, fun p o np ho => ?_⟩⟩
              rw [List.take_length] at hr2
              exact q _ _ (.up g (.tup w' np ho hr2))
        · cases hf
      · cases hf
    · cases hf
abbrev s_init : Stmt := inClass (topS 16) 0
theorem sc_init : FnScope [("self" : Str), ("deeds" : Str), ("word" : Str), ("stream" : Str)] [("self" : Str), ("deeds" : Str)] (defScope s_init) := ⟨rfl, rfl, rfl, by decide +kernel, rfl, by decide +kernel, by decide +kernel⟩
/-- __init__ at a new instance -/
def spInit {K : PySem.W.Frag} (G : Gx K) (C : Addr) : Sp := fun vs H Q _ => ∃ (y dx : Addr) (v : V) (ua : Option Addr) (u u' : U) (B : Hp) (d r : D), vs = [.ref y, v] ∧ H y = some (.ins C dx []) ∧ B y = none ∧ ua ≠ some y ∧ (Rep G ua d v B ∨ (d = .tup [] ∧ ∃ (e0 : Addr) (o : Obj), v = .ref e0 ∧ K.lookup e0 = some o ∧ o.cls = .type "tuple" ∧ ∀ H, SqT K H e0 [])) ∧ Wd ua u B H ∧ F_Program [d] u = some (r, u') ∧ G.cls "Program" = some C ∧
  ∀ H' B', (∀ a o, H a = some o → a ≠ y → ua ≠ some a → H' a = some o) → (∀ a, H' a = none → H a = none) → Same B B' → (∀ a o, B' a = some o → B a = some o ∨ H a = none ∨ a = y) → Wd ua u' B' H' → Rep G ua r (.ref y) B' → Q .non H'
structure TI (K : PySem.W.Frag) (mg : Str → Option Value) (C : Addr) : Prop where
  cl : Cls K C
  n1 : NoAttr K C ("_deeds" : Str)
  n2 : NoAttr K C ("_writes" : Str)
  n3 : NoAttr K C ("_lines" : Str)
theorem f12 : ¬ (("_deeds" : Str) = ("_writes" : Str)) := by decide +kernel
theorem f13 : ¬ (("_deeds" : Str) = ("_lines" : Str)) := by decide +kernel
theorem f23 : ¬ (("_writes" : Str) = ("_lines" : Str)) := by decide +kernel
theorem fl1 (v : V) : putF ("_deeds" : Str) v [] = [(("_deeds" : Str), v)] := rfl
theorem fl2 (v v2 : V) : putF ("_writes" : Str) v2 [(("_deeds" : Str), v)] = [(("_deeds" : Str), v), (("_writes" : Str), v2)] := by
  show (if _ then _ else _) = _; rw [if_neg f12]; rfl
theorem fl3 (v v2 v3 : V) : putF ("_lines" : Str) v3 [(("_deeds" : Str), v), (("_writes" : Str), v2)] = [(("_deeds" : Str), v), (("_writes" : Str), v2), (("_lines" : Str), v3)] := by
  show (if ("_deeds" : Str) = ("_lines" : Str) then _ else _ :: (if ("_writes" : Str) = ("_lines" : Str) then _ else _)) = _; rw [if_neg f13, if_neg f23]; rfl
theorem lk1 (v : V) : ([(("_deeds" : Str), v)] : List (Str × V)).lookup ("_deeds" : Str) = some v := rfl
theorem lk2 (v v2 : V) : ([(("_deeds" : Str), v), (("_writes" : Str), v2)] : List (Str × V)).lookup ("_writes" : Str) = some v2 := by
  have e : (("_writes" : Str) == ("_deeds" : Str)) = false := by decide +kernel
  simp only [List.lookup, e, beq_self_eq_true]
theorem env_no {K : PySem.W.Frag} {G : Gx K} {ua : Option Addr} {B H : Hp} {n : Nat} {σ : List (Option V)} (h : σ.length = n) : EnvOk G ua (List.replicate n Sl.no) σ B H := by
  have hno : ∀ (i : Nat) x, (List.replicate n Sl.no)[i]? = some x → x = Sl.no := fun i x e => by
    rw [List.getElem?_replicate] at e
    split at e
    · exact (Option.some.inj e).symm
    · cases e
  exact ⟨by rw [List.length_replicate, h], fun i d e => (by have := hno i _ e; cases this), fun i d e => (by have := hno i _ e; cases this), fun i j a b p e => (by have := hno i _ e; cases this)⟩
theorem ok_init {P : Program} {w : World} {K : PySem.W.Frag} {mg : Str → Option Value} {base : Heap} {G : Gx K} {C : Addr} (T : Tx mg) (TI : TI K mg C) {f : Addr} {fd : FuncData} {dvs : List V} {kws : List (Str × V)} (F : FunD K ("__init__" : Str) ("Program.__init__" : Str) (defArgs s_init) (defBody s_init) (defScope s_init) dvs kws f fd)
    {ft : Addr} {fdt : FuncData} (U_tupled : FnOk P w K mg base CX0 6 ft fdt [("worth" : Str)] (fun vs H Q E => spF G (FR_tupled 6) 1 vs H Q E ∨ spT0 K vs H Q E)) (mt : mg ("tupled" : Str) = some (.ref ft)) (kt : PySem.W.keepIn K (.ref ft) = true) (bt : Binds K fdt [("worth" : Str)] []) (D_numbered : DefOk P w mg base G ("numbered" : Str) 1 1 F_numbered) : FnOk P w K mg base CX0 7 f fd [("self" : Str), ("deeds" : Str)] (spInit G C) := by
  have nd := sc_init.nd
  obtain ⟨fn, fdn, psn, hfn, hmn, hkn, hbn⟩ := D_numbered
  refine F.ok sc_init (fun vs H Q E h => ?_) (fun cdv A outer s H vs Q E hr h => ?_)
  · obtain ⟨y, dx, v, _, _, _, _, _, _, rfl, _⟩ := h; rfl
  · obtain ⟨y, dx, v, ua, u, u', B, d, r, rfl, hy, hb, hua, hd, hW, hF, hC, q⟩ := h
    refine ⟨_, PSs.nox (pss_cons (ps_fld (pv 0) (pe_call U_tupled hr (by rfl) mt kt bt .nil pass0 (pa_cons (pv 1) pa_nil)) rfl)
      (pss_cons (ps_fld (pv 0) (pe_callTy call_tupF (by rfl) T.n_tuple (by decide +kernel) (pa_cons (pe_lc (own := [(("word" : Str), 2), (("stream" : Str), 3)]) (g := gOf K (.many [2, 3])) (tt := tTst G (mTru (mBin cEq (mVar 2) (mC (.str ("write" : Str)))))) (te := tEv G (mVar 3)) rfl nd (pi_tup (pe_fld (pv 0) rfl))
          (blkOk_by (own := [(("word" : Str), 2), (("stream" : Str), 3)]) (N := [("self" : Str), ("deeds" : Str), ("word" : Str), ("stream" : Str)]) (sc := defScope s_init) (by decide +kernel))
          (fun _ _ _ _ _ => pg_tup rfl (pgs_cons (pg_name (i := 2) nd rfl (by first | exact Or.inl rfl | exact Or.inr rfl)) (pgs_cons (pg_name (i := 3) nd rfl (by first | exact Or.inl rfl | exact Or.inr rfl)) pgs_nil)))
          (fun _ _ _ _ _ => dts_one (dt_cmp (ok_eq (hU64 hr)) bf_eq (dv_var 2) (dv_gS rfl T.c_WRITE))) (fun _ _ _ _ _ => dv_var 3)) pa_nil)) rfl)
      (pss_one (ps_fld (pv 0) (pe_call (hfn.mono (k := 6) (by decide)) hr (by rfl) hmn hkn hbn .nil pass0 (pa_cons (pe_fld (pv 0) rfl) pa_nil)) rfl)))), ?_⟩
    -- what Program gives
    unfold F_Program at hF
    obtain ⟨t, u1, h1, hF⟩ := bnd_some hF
    split at hF
    · rename_i ts
      obtain ⟨ws, u2, h2, hF⟩ := bnd_some hF
      split at hF
      · rename_i hwl
        obtain ⟨ls, u3, h3, hF⟩ := bnd_some hF
        cases hF
        have hEnv : ∀ (B' H' : Hp), EnvOk G ua [.no, .no, .no, .no] [some (V.ref y), some v, none, none] B' H' := fun B' H' => env_no (n := 4) rfl
        have step : ∀ (Z : V → Hp → Prop), (∀ v1 H1, Aft G ua B H u1 (.tup ts) v1 H1 → Z v1 H1) → (spF G (FR_tupled 6) 1 [v] H Z E0 ∨ spT0 K [v] H Z E0) := fun Z hZ => by
          rcases hd with hd | ⟨rfl, e0, o, rfl, hk, hc, hs⟩
          · exact .inl ⟨ua, u, B, [d], .tup ts, u1, .cons hd .nil, rfl, hW, h1, fun v1 H1 a => hZ v1 H1 a⟩
          · have e1 : FR_tupled 6 [.tup []] u = some (.tup [], u) := rfl
            rw [e1] at h1
            cases h1
            refine .inr ⟨e0, o, rfl, hk, hc, hs _, fun t l p ob H1 H2 ht hl hp e hob k1 k2 k3 => hZ _ _ ?_⟩
            subst e
            have g0 : Grow ua B H B H1 := ⟨fun a x z _ => k1 a x z, k2, fun _ _ z => z, fun _ _ z => .inl z⟩
            have w0 : Wd ua u B H1 := ⟨fun a x z => k1 a x (hW.sub a x z), fun a z => ⟨(hW.urn a z).1, k1 _ _ (hW.urn a z).2⟩⟩
            exact .up (g0.trans (.own1 (o := .lst []) w0 hl)) (.tup (w0.own1 hl) hp hob .nil)
        refine ⟨_, rfl, step _ fun v1 H1 a => ?_⟩
        obtain ⟨B1, g1, w1, r1⟩ := a
        have hb1 : B1 y = none := g1.none_of hy hb
        refine ⟨_, rfl, y, C, dx, [], rfl, g1.keep _ _ hy hua, TI.cl, TI.n1, (by show 0 < 1000; decide), ?_⟩
        rw [fl1]
        have w2 := w1.put (o := .ins C dx [(("_deeds" : Str), v1)]) hb1 hua
        have r1' := r1
        obtain ⟨a, vs, rfl, ⟨o0, ho0, ha⟩, rs⟩ := r1.tup
        have hay : a ≠ y := fun e => by rw [e, hb1] at ha; cases ha
        refine ⟨_, rfl, y, C, dx, _, _, rfl, upd_same, TI.cl, TI.n1, lk1 _, a, rfl, ⟨vs, TupB.sq ⟨o0, ho0, by rw [upd_ne hay]; exact w1.sub _ _ ha⟩⟩, ?_⟩
        refine fun Dp hDp => lc_innerD (X := (cxOf CX0 P w K mg base [("self" : Str), ("deeds" : Str), ("word" : Str), ("stream" : Str)] ("Program.__init__" : Str) (defScope s_init) f cdv A outer s H E).nox) (G := G) (t := .many [2, 3]) (by decide) (hEnv B1 _) w2 (wk_tup (X := (cxOf CX0 P w K mg base [("self" : Str), ("deeds" : Str), ("word" : Str), ("stream" : Str)] ("Program.__init__" : Str) (defScope s_init) f cdv A outer s H E).nox) ⟨o0, ho0, ha⟩ rs) h2 hwl hDp fun H3 (h : Aft G ua B1 _ u2 (.lst ws) (.ref Dp) H3) => ?_
        obtain ⟨B3, g3, w3, r3⟩ := h
        obtain ⟨p, ys, ep, hp, rs3⟩ := r3.lst
        cases ep
        refine ⟨Dp, ys, rfl, .inl ⟨.of (w3.sub _ _ hp), fun l ol nl hol => ?_⟩⟩
        have hy3 : H3 y = some (.ins C dx [(("_deeds" : Str), V.ref a)]) := g3.keep _ _ upd_same hua
        have hb3 : B3 y = none := g3.none_of upd_same hb1
        have hly : l ≠ y := fun e => by rw [e, hy3] at nl; cases nl
        have w4 := w3.new1 (o := .frz ol (.tup ys)) nl
        have nlB := w3.none_of nl
        refine ⟨_, rfl, y, C, dx, _, rfl, by rw [upd_ne hly.symm]; exact hy3, TI.cl, TI.n2, (by show 1 < 1000; decide), ?_⟩
        rw [fl2]
        have hb4 : (upd B3 l (.frz ol (.tup ys))) y = none := by rw [upd_ne hly.symm]; exact hb3
        have w5 := w4.put (o := .ins C dx [(("_deeds" : Str), V.ref a), (("_writes" : Str), V.ref l)]) hb4 hua
        have rl : Rep G ua (.tup ws) (.ref l) (upd B3 l (.frz ol (.tup ys))) := by unfold Rep; exact ⟨l, ys, rfl, ⟨ol, hol, upd_same⟩, rs3.mono _ _ (same_new nlB)⟩
        refine ⟨_, rfl, y, C, dx, _, _, rfl, upd_same, TI.cl, TI.n2, lk2 _ _, ua, u2, _, [.tup ws], ls, u', .cons rl .nil, rfl, w5, h3, fun v6 H6 ⟨B6, g6, w6, r6⟩ => ?_⟩
        have hb6 : B6 y = none := g6.none_of upd_same hb4
        refine ⟨_, rfl, y, C, dx, _, rfl, g6.keep _ _ upd_same hua, TI.cl, TI.n3, (by show 2 < 1000; decide), ?_⟩
        rw [fl3]
        have sB : Same B6 (upd B6 y (.ins C dx [(("_deeds" : Str), V.ref a), (("_writes" : Str), V.ref l), (("_lines" : Str), v6)])) := same_new hb6
        have w7 := (w6.put (o := .ins C dx [(("_deeds" : Str), V.ref a), (("_writes" : Str), V.ref l), (("_lines" : Str), v6)]) hb6 hua).show upd_same hua
        have l3 : ∀ b, b ≠ y → H3 b = none → H b = none := fun b n e => g1.live b (by have := g3.live b e; rw [upd_ne n] at this; exact this)
        have l5 : ∀ b, b ≠ y → (upd (upd H3 l (.frz ol (.tup ys))) y (.ins C dx [(("_deeds" : Str), V.ref a), (("_writes" : Str), V.ref l)])) b = none → H b = none := fun b n e => by
          rw [upd_ne n] at e
          by_cases z : b = l
          · subst z; rw [upd_same] at e; cases e
          · rw [upd_ne z] at e; exact l3 b n e
        refine q _ (upd B6 y (.ins C dx [(("_deeds" : Str), V.ref a), (("_writes" : Str), V.ref l), (("_lines" : Str), v6)])) (fun b o e n nu => ?_) (fun b e => ?_) (fun b o e => ?_) (fun b o e => ?_) w7 ?_
        · rw [upd_ne n]
          refine g6.keep _ _ ?_ nu
          rw [upd_ne n]
          refine same_new nl _ _ (g3.keep _ _ ?_ nu)
          rw [upd_ne n]
          exact g1.keep _ _ e nu
        · by_cases n : b = y
          · subst n; rw [upd_same] at e; cases e
          · rw [upd_ne n] at e; exact l5 b n (g6.live b e)
        · exact sB _ _ (g6.pub _ _ (same_new nlB _ _ (g3.pub _ _ (g1.pub _ _ e))))
        · by_cases n : b = y
          · exact .inr (.inr n)
          · rw [upd_ne n] at e
            rcases g6.new b o e with z | z
            · by_cases zl : b = l
              · subst zl; exact .inr (.inl (l3 b n nl))
              · rw [upd_ne zl] at z
                rcases g3.new b o z with z | z
                · rcases g1.new b o z with z | z
                  · exact .inl z
                  · exact .inr (.inl z)
                · rw [upd_ne n] at z; exact .inr (.inl (g1.live b z))
            · exact .inr (.inl (l5 b n z))
        · unfold Rep
          refine ⟨y, C, dx, [V.ref a, V.ref l, v6], rfl, hC, upd_same, rfl, .cons ?_ (.cons ?_ (.cons (r6.mono _ _ sB) .nil))⟩
          · exact (((r1'.mono _ _ g3.pub).mono _ _ (same_new nlB)).mono _ _ g6.pub).mono _ _ sB
          · exact (rl.mono _ _ g6.pub).mono _ _ sB
      · cases hF
    · cases hF
theorem make_ok {P : Program} {w : World} {K : PySem.W.Frag} {mg : Str → Option Value} {base : Heap} {G : Gx K} {C : Addr} {f : Addr} {fd : FuncData} (M : Mk K C f) (hF : FnOk P w K mg base CX0 7 f fd [("self" : Str), ("deeds" : Str)] (spInit G C)) (hm : mg ("Program" : Str) = some (.ref C)) (hb : Binds K fd [("self" : Str), ("deeds" : Str)] []) (hC : G.cls "Program" = some C) :
    MakeOk P w mg base G ("Program" : Str) 7 1 F_Program := by
  refine ⟨C, f, fd, _, _, [], [], M, hF, hm, hb, .nil, fun ua u u' B H as vs d hl hf hr hw y dx ny ndx hne Q q => ?_⟩
  obtain ⟨a, rfl⟩ : ∃ a, as = [a] := by
    cases as with
    | nil => cases hl
    | cons a r => cases r with
      | nil => exact ⟨a, rfl⟩
      | cons _ _ => cases hl
  obtain ⟨v, t, rfl, r1, r2⟩ := hr.of_cons
  rw [r2.of_nil]
  have ny2 : (upd H dx (.own y)) y = none := by rw [upd_ne hne.symm]; exact ny
  have w1 := (hw.own1 (o := .own y) ndx).own1 (o := .ins C dx []) ny2
  refine ⟨y, dx, v, ua, u, u', B, a, d, rfl, upd_same, hw.none_of ny, hw.ne_urn ny, .inl r1, w1, hf, hC, fun H' B' k1 k2 k3 k4 k5 k6 => ⟨rfl, q _ ⟨B', ⟨fun b o e n => ?_, fun b e => ?_, k3, fun b o e => ?_⟩, k5, k6⟩⟩⟩
  · have hby : b ≠ y := ne_of_none e ny
    exact k1 b o (by rw [upd_ne hby]; exact same_new ndx _ _ e) hby n
  · have := k2 b e
    by_cases z : b = y
    · rw [z]; exact ny
    · rw [upd_ne z] at this
      by_cases z2 : b = dx
      · rw [z2]; exact ndx
      · rw [upd_ne z2] at this; exact this
  · rcases k4 b o e with z | z | z
    · exact .inl z
    · refine .inr ?_
      by_cases zz : b = y
      · rw [zz]; exact ny
      · rw [upd_ne zz] at z
        by_cases z2 : b = dx
        · rw [z2]; exact ndx
        · rw [upd_ne z2] at z; exact z
    · exact .inr (by rw [z]; exact ny)
theorem make0_ok {P : Program} {w : World} {K : PySem.W.Frag} {mg : Str → Option Value} {base : Heap} {G : Gx K} {C : Addr} {f : Addr} {fd : FuncData} (M : Mk K C f) (hF : FnOk P w K mg base CX0 7 f fd [("self" : Str), ("deeds" : Str)] (spInit G C)) (hm : mg ("Program" : Str) = some (.ref C)) {e0 : Addr} {o : Obj} (hk : K.lookup e0 = some o) (hc : o.cls = .type "tuple") (hsq : ∀ H, SqT K H e0 []) (hb : Binds K fd [("self" : Str), ("deeds" : Str)] [.ref e0]) (hC : G.cls "Program" = some C) :
    MakeOk P w mg base G ("Program" : Str) 7 0 F_Program0 := by
  refine ⟨C, f, fd, _, _, [.ref e0], [.ref e0], M, hF, hm, hb, .cons rfl .nil, fun ua u u' B H as vs d hl hf hr hw y dx ny ndx hne Q q => ?_⟩
  have hl0 : as = [] := List.eq_nil_of_length_eq_zero hl
  subst hl0
  rw [hr.of_nil]
  have ny2 : (upd H dx (.own y)) y = none := by rw [upd_ne hne.symm]; exact ny
  have w1 := (hw.own1 (o := .own y) ndx).own1 (o := .ins C dx []) ny2
  refine ⟨y, dx, .ref e0, ua, u, u', B, .tup [], d, rfl, upd_same, hw.none_of ny, hw.ne_urn ny, .inr ⟨rfl, e0, o, rfl, hk, hc, hsq⟩, w1, hf, hC, fun H' B' k1 k2 k3 k4 k5 k6 => ⟨rfl, q _ ⟨B', ⟨fun b o e n => ?_, fun b e => ?_, k3, fun b o e => ?_⟩, k5, k6⟩⟩⟩
  · have hby : b ≠ y := ne_of_none e ny
    exact k1 b o (by rw [upd_ne hby]; exact same_new ndx _ _ e) hby n
  · have := k2 b e
    by_cases z : b = y
    · rw [z]; exact ny
    · rw [upd_ne z] at this
      by_cases z2 : b = dx
      · rw [z2]; exact ndx
      · rw [upd_ne z2] at this; exact this
  · rcases k4 b o e with z | z | z
    · exact .inl z
    · refine .inr ?_
      by_cases zz : b = y
      · rw [zz]; exact ny
      · rw [upd_ne zz] at z
        by_cases z2 : b = dx
        · rw [z2]; exact ndx
        · rw [upd_ne z2] at z; exact z
    · exact .inr (by rw [z]; exact ny)
end Lw76

namespace Lw76
open PySem PySem.Spec PyProof.Rows L2 Dv
/-- f(e, k = v), a def with defaults all of whose parameters are given -/
theorem kbn1 {K : PySem.W.Frag} {x qual : Str} {params : Arguments} {body : List Stmt} {scope : Scope} {dvs : List V} {f : Addr} {fd : FuncData} {ps ks : List Str} (F : FunD K x qual params body scope dvs [] f fd) (hd : dvs ≠ [])
    (h : ∀ (T : Addr) (kV doc pm : Value) (an : Option Addr) (cdv ct : Value) (us its ws : List Value), us.length = 1 → its.length = dvs.length → ws.length = ks.length →
      ∃ k, bindArgs (PySem.W.fnOf x qual params body scope (.ref T) kV doc pm an cdv ct) ⟨us, ks.zip ws⟩ = seqItems? (.ref T) >>= k ∧ k (some its.toArray) = pure (ps.zip (us ++ ws))) :
    KBn K fd ps 1 ks (fun us ws => us ++ ws) (fun vs zs => vs ++ zs) := by
  obtain ⟨oc, od, dV, kV, doc, pm, an, cdv, ct, osl, rfl, lk, hcd, hD, hK⟩ := F.ex
  rcases hD with ⟨e, _⟩ | ⟨_, T, o, its, m, rfl, lT, oT, rT⟩
  · exact absurd e hd
  · refine ⟨fun s us ws X l1 l2 => ?_, fun r1 r2 => r1.append r2⟩
    obtain ⟨k, e1, e2⟩ := h T kV doc pm an cdv ct us its ws l1 rT.length.symm l2
    refine BindsTo.of_looks fun M => ?_
    rw [e1]
    exact looks_items X lT oT (.of_pure e2)
theorem kb_init {K : PySem.W.Frag} {f : Addr} {fd : FuncData} {v0 : V} (F : FunD K ("__init__" : Str) ("Program.__init__" : Str) (defArgs s_init) (defBody s_init) (defScope s_init) [v0] [] f fd) :
    KBn K fd [("self" : Str), ("deeds" : Str)] 1 [("deeds" : Str)] (fun us ws => us ++ ws) (fun vs zs => vs ++ zs) :=
  kbn1 F (List.cons_ne_nil _ _) (fun _ _ _ _ _ _ _ us its ws hu hi hw => match us, its, ws, hu, hi, hw with | [_], [_], [_], _, _, _ => ⟨_, rfl, rfl⟩)
theorem makeK_ok {P : Program} {w : World} {K : PySem.W.Frag} {mg : Str → Option Value} {base : Heap} {G : Gx K} {C : Addr} {f : Addr} {fd : FuncData} (M : Mk K C f) (hF : FnOk P w K mg base CX0 7 f fd [("self" : Str), ("deeds" : Str)] (spInit G C)) (hm : mg ("Program" : Str) = some (.ref C)) {g : List Value → List Value → List Value} (hb : KBn K fd [("self" : Str), ("deeds" : Str)] 1 [("deeds" : Str)] g (fun vs zs => vs ++ zs)) (hC : G.cls "Program" = some C) :
    MakeK P w mg base G ("Program" : Str) [("deeds" : Str)] 7 F_Program := by
  refine ⟨C, f, fd, _, _, g, M, hF, hm, hb, fun ua u u' B H as vs d hl hf hr hw y dx ny ndx hne Q q => ?_⟩
  obtain ⟨a, rfl⟩ : ∃ a, as = [a] := by
    cases as with
    | nil => cases hl
    | cons a r => cases r with
      | nil => exact ⟨a, rfl⟩
      | cons _ _ => cases hl
  obtain ⟨v, t, rfl, r1, r2⟩ := hr.of_cons
  rw [r2.of_nil]
  have ny2 : (upd H dx (.own y)) y = none := by rw [upd_ne hne.symm]; exact ny
  have w1 := (hw.own1 (o := .own y) ndx).own1 (o := .ins C dx []) ny2
  refine ⟨y, dx, v, ua, u, u', B, a, d, rfl, upd_same, hw.none_of ny, hw.ne_urn ny, .inl r1, w1, hf, hC, fun H' B' k1 k2 k3 k4 k5 k6 => ⟨rfl, q _ ⟨B', ⟨fun b o e n => ?_, fun b e => ?_, k3, fun b o e => ?_⟩, k5, k6⟩⟩⟩
  · have hby : b ≠ y := ne_of_none e ny
    exact k1 b o (by rw [upd_ne hby]; exact same_new ndx _ _ e) hby n
  · have := k2 b e
    by_cases z : b = y
    · rw [z]; exact ny
    · rw [upd_ne z] at this
      by_cases z2 : b = dx
      · rw [z2]; exact ndx
      · rw [upd_ne z2] at this; exact this
  · rcases k4 b o e with z | z | z
    · exact .inl z
    · refine .inr ?_
      by_cases zz : b = y
      · rw [zz]; exact ny
      · rw [upd_ne zz] at z
        by_cases z2 : b = dx
        · rw [z2]; exact ndx
        · rw [upd_ne z2] at z; exact z
    · exact .inr (by rw [z]; exact ny)
end Lw76

namespace Lw76
open PySem PySem.Spec PyProof.Rows L2 Dv
theorem kit_sub {K : PySem.W.Frag} {C : Addr} {t : String} {b : Bool} (h : PySem.W.subIn K (.ref C) (.type t) = some b) (m : PySem.W.kitMeta t = true) : PySem.W.kitOne K (.ref C) (.type t) = some b := by
  unfold PySem.W.kitOne
  have e : (Value.ref C == Value.type t) = false := rfl
  rw [e, if_neg Bool.false_ne_true]
  show (if PySem.W.kitMeta t = true then _ else _) = _
  rw [if_pos m]
  exact h
theorem exm_self {K : PySem.W.Frag} {S : Addr} (h1 : PySem.W.subIn K (.ref S) (.type "BaseException") = some true) (h2 : PySem.W.isClsIn K S = true) (h3 : PySem.W.typeIn K (.ref S) = some (.type "type")) (h4 : PySem.W.subIn K (.ref S) (.ref S) = some true) : PySem.W.exmOne K (.ref S) (.ref S) = some true := by
  have e1 : (PySem.W.subIn K (.ref S) (.type "BaseException") == some true) = true := by rw [h1] <;> rfl
  have e2 : ((PySem.W.clsIn K S).isSome && PySem.W.typeIn K (.ref S) == some (.type "type")) = true := by
    have h2' : (PySem.W.clsIn K S).isSome = true := h2
    rw [h2', h3] <;> rfl
  show (if (PySem.W.subIn K (.ref S) (.type "BaseException") == some true) = true then (if ((PySem.W.clsIn K S).isSome && PySem.W.typeIn K (.ref S) == some (.type "type")) = true then PySem.W.subIn K (.ref S) (.ref S) else none) else none) = some true
  rw [if_pos e1, if_pos e2]
  exact h4
theorem all_mk {l : PySem.W.OpenLaw} {w : World} {K : PySem.W.Frag} {h : Heap} {mg : Str → Option Value} {fa : Addr} (X : K.In h) (G0 : h.Ns mainGlobals mg) (hfa : mg "law" = some (.ref fa))
    {f_is_number : Addr}
    {od_is_number an_is_number : Option Addr}
    {sl_is_number : Array (Option Value)}
    {oc_is_number kV_is_number dc_is_number pm_is_number cd_is_number ct_is_number : Value}
    (a_is_number : PySem.W.nsIn K mainGlobals ("is_number" : Str) = some (some (.ref f_is_number)))
    (l_is_number : K.lookup f_is_number = some ⟨oc_is_number, od_is_number, .func (PySem.W.fnOf ("is_number" : Str) ("is_number" : Str) (defArgs s_is_number) (defBody s_is_number) (defScope s_is_number) .none kV_is_number dc_is_number pm_is_number an_is_number cd_is_number ct_is_number), sl_is_number⟩)
    (c_is_number : PySem.W.codeIn K cd_is_number ("is_number" : Str) = true)
    (k_is_number : PySem.W.keepIn K (.ref f_is_number) = true)
    {f_is_pair : Addr}
    {od_is_pair an_is_pair : Option Addr}
    {sl_is_pair : Array (Option Value)}
    {oc_is_pair kV_is_pair dc_is_pair pm_is_pair cd_is_pair ct_is_pair : Value}
    (a_is_pair : PySem.W.nsIn K mainGlobals ("is_pair" : Str) = some (some (.ref f_is_pair)))
    (l_is_pair : K.lookup f_is_pair = some ⟨oc_is_pair, od_is_pair, .func (PySem.W.fnOf ("is_pair" : Str) ("is_pair" : Str) (defArgs s_is_pair) (defBody s_is_pair) (defScope s_is_pair) .none kV_is_pair dc_is_pair pm_is_pair an_is_pair cd_is_pair ct_is_pair), sl_is_pair⟩)
    (c_is_pair : PySem.W.codeIn K cd_is_pair ("is_pair" : Str) = true)
    (k_is_pair : PySem.W.keepIn K (.ref f_is_pair) = true)
    {f_is_name : Addr}
    {od_is_name an_is_name : Option Addr}
    {sl_is_name : Array (Option Value)}
    {oc_is_name kV_is_name dc_is_name pm_is_name cd_is_name ct_is_name : Value}
    (a_is_name : PySem.W.nsIn K mainGlobals ("is_name" : Str) = some (some (.ref f_is_name)))
    (l_is_name : K.lookup f_is_name = some ⟨oc_is_name, od_is_name, .func (PySem.W.fnOf ("is_name" : Str) ("is_name" : Str) (defArgs s_is_name) (defBody s_is_name) (defScope s_is_name) .none kV_is_name dc_is_name pm_is_name an_is_name cd_is_name ct_is_name), sl_is_name⟩)
    (c_is_name : PySem.W.codeIn K cd_is_name ("is_name" : Str) = true)
    (k_is_name : PySem.W.keepIn K (.ref f_is_name) = true)
    {f_is_line : Addr}
    {od_is_line an_is_line : Option Addr}
    {sl_is_line : Array (Option Value)}
    {oc_is_line kV_is_line dc_is_line pm_is_line cd_is_line ct_is_line : Value}
    (a_is_line : PySem.W.nsIn K mainGlobals ("is_line" : Str) = some (some (.ref f_is_line)))
    (l_is_line : K.lookup f_is_line = some ⟨oc_is_line, od_is_line, .func (PySem.W.fnOf ("is_line" : Str) ("is_line" : Str) (defArgs s_is_line) (defBody s_is_line) (defScope s_is_line) .none kV_is_line dc_is_line pm_is_line an_is_line cd_is_line ct_is_line), sl_is_line⟩)
    (c_is_line : PySem.W.codeIn K cd_is_line ("is_line" : Str) = true)
    (k_is_line : PySem.W.keepIn K (.ref f_is_line) = true)
    {f_tupled : Addr}
    {od_tupled an_tupled : Option Addr}
    {sl_tupled : Array (Option Value)}
    {oc_tupled kV_tupled dc_tupled pm_tupled cd_tupled ct_tupled : Value}
    (a_tupled : PySem.W.nsIn K mainGlobals ("tupled" : Str) = some (some (.ref f_tupled)))
    (l_tupled : K.lookup f_tupled = some ⟨oc_tupled, od_tupled, .func (PySem.W.fnOf ("tupled" : Str) ("tupled" : Str) (defArgs s_tupled) (defBody s_tupled) (defScope s_tupled) .none kV_tupled dc_tupled pm_tupled an_tupled cd_tupled ct_tupled), sl_tupled⟩)
    (c_tupled : PySem.W.codeIn K cd_tupled ("tupled" : Str) = true)
    (k_tupled : PySem.W.keepIn K (.ref f_tupled) = true)
    {f_deed_in : Addr}
    {od_deed_in an_deed_in : Option Addr}
    {sl_deed_in : Array (Option Value)}
    {oc_deed_in kV_deed_in dc_deed_in pm_deed_in cd_deed_in ct_deed_in : Value}
    (a_deed_in : PySem.W.nsIn K mainGlobals ("deed_in" : Str) = some (some (.ref f_deed_in)))
    (l_deed_in : K.lookup f_deed_in = some ⟨oc_deed_in, od_deed_in, .func (PySem.W.fnOf ("deed_in" : Str) ("deed_in" : Str) (defArgs s_deed_in) (defBody s_deed_in) (defScope s_deed_in) .none kV_deed_in dc_deed_in pm_deed_in an_deed_in cd_deed_in ct_deed_in), sl_deed_in⟩)
    (c_deed_in : PySem.W.codeIn K cd_deed_in ("deed_in" : Str) = true)
    (k_deed_in : PySem.W.keepIn K (.ref f_deed_in) = true)
    {f_check_place : Addr}
    {od_check_place an_check_place : Option Addr}
    {sl_check_place : Array (Option Value)}
    {oc_check_place kV_check_place dc_check_place pm_check_place cd_check_place ct_check_place : Value}
    (a_check_place : PySem.W.nsIn K mainGlobals ("check_place" : Str) = some (some (.ref f_check_place)))
    (l_check_place : K.lookup f_check_place = some ⟨oc_check_place, od_check_place, .func (PySem.W.fnOf ("check_place" : Str) ("check_place" : Str) (defArgs s_check_place) (defBody s_check_place) (defScope s_check_place) .none kV_check_place dc_check_place pm_check_place an_check_place cd_check_place ct_check_place), sl_check_place⟩)
    (c_check_place : PySem.W.codeIn K cd_check_place ("check_place" : Str) = true)
    (k_check_place : PySem.W.keepIn K (.ref f_check_place) = true)
    {f_counted : Addr}
    {od_counted an_counted : Option Addr}
    {sl_counted : Array (Option Value)}
    {oc_counted kV_counted dc_counted pm_counted cd_counted ct_counted : Value}
    (a_counted : PySem.W.nsIn K mainGlobals ("counted" : Str) = some (some (.ref f_counted)))
    (l_counted : K.lookup f_counted = some ⟨oc_counted, od_counted, .func (PySem.W.fnOf ("counted" : Str) ("counted" : Str) (defArgs s_counted) (defBody s_counted) (defScope s_counted) .none kV_counted dc_counted pm_counted an_counted cd_counted ct_counted), sl_counted⟩)
    (c_counted : PySem.W.codeIn K cd_counted ("counted" : Str) = true)
    (k_counted : PySem.W.keepIn K (.ref f_counted) = true)
    {f_without_deed : Addr}
    {od_without_deed an_without_deed : Option Addr}
    {sl_without_deed : Array (Option Value)}
    {oc_without_deed kV_without_deed dc_without_deed pm_without_deed cd_without_deed ct_without_deed : Value}
    (a_without_deed : PySem.W.nsIn K mainGlobals ("without_deed" : Str) = some (some (.ref f_without_deed)))
    (l_without_deed : K.lookup f_without_deed = some ⟨oc_without_deed, od_without_deed, .func (PySem.W.fnOf ("without_deed" : Str) ("without_deed" : Str) (defArgs s_without_deed) (defBody s_without_deed) (defScope s_without_deed) .none kV_without_deed dc_without_deed pm_without_deed an_without_deed cd_without_deed ct_without_deed), sl_without_deed⟩)
    (c_without_deed : PySem.W.codeIn K cd_without_deed ("without_deed" : Str) = true)
    (k_without_deed : PySem.W.keepIn K (.ref f_without_deed) = true)
    {f_table_of : Addr}
    {od_table_of an_table_of : Option Addr}
    {sl_table_of : Array (Option Value)}
    {oc_table_of kV_table_of dc_table_of pm_table_of cd_table_of ct_table_of : Value}
    (a_table_of : PySem.W.nsIn K mainGlobals ("table_of" : Str) = some (some (.ref f_table_of)))
    (l_table_of : K.lookup f_table_of = some ⟨oc_table_of, od_table_of, .func (PySem.W.fnOf ("table_of" : Str) ("table_of" : Str) (defArgs s_table_of) (defBody s_table_of) (defScope s_table_of) .none kV_table_of dc_table_of pm_table_of an_table_of cd_table_of ct_table_of), sl_table_of⟩)
    (c_table_of : PySem.W.codeIn K cd_table_of ("table_of" : Str) = true)
    (k_table_of : PySem.W.keepIn K (.ref f_table_of) = true)
    {f_flush_places : Addr}
    {od_flush_places an_flush_places : Option Addr}
    {sl_flush_places : Array (Option Value)}
    {oc_flush_places kV_flush_places dc_flush_places pm_flush_places cd_flush_places ct_flush_places : Value}
    (a_flush_places : PySem.W.nsIn K mainGlobals ("flush_places" : Str) = some (some (.ref f_flush_places)))
    (l_flush_places : K.lookup f_flush_places = some ⟨oc_flush_places, od_flush_places, .func (PySem.W.fnOf ("flush_places" : Str) ("flush_places" : Str) (defArgs s_flush_places) (defBody s_flush_places) (defScope s_flush_places) .none kV_flush_places dc_flush_places pm_flush_places an_flush_places cd_flush_places ct_flush_places), sl_flush_places⟩)
    (c_flush_places : PySem.W.codeIn K cd_flush_places ("flush_places" : Str) = true)
    (k_flush_places : PySem.W.keepIn K (.ref f_flush_places) = true)
    {f_idle_flushes : Addr}
    {od_idle_flushes an_idle_flushes : Option Addr}
    {sl_idle_flushes : Array (Option Value)}
    {oc_idle_flushes kV_idle_flushes dc_idle_flushes pm_idle_flushes cd_idle_flushes ct_idle_flushes : Value}
    (a_idle_flushes : PySem.W.nsIn K mainGlobals ("idle_flushes" : Str) = some (some (.ref f_idle_flushes)))
    (l_idle_flushes : K.lookup f_idle_flushes = some ⟨oc_idle_flushes, od_idle_flushes, .func (PySem.W.fnOf ("idle_flushes" : Str) ("idle_flushes" : Str) (defArgs s_idle_flushes) (defBody s_idle_flushes) (defScope s_idle_flushes) .none kV_idle_flushes dc_idle_flushes pm_idle_flushes an_idle_flushes cd_idle_flushes ct_idle_flushes), sl_idle_flushes⟩)
    (c_idle_flushes : PySem.W.codeIn K cd_idle_flushes ("idle_flushes" : Str) = true)
    (k_idle_flushes : PySem.W.keepIn K (.ref f_idle_flushes) = true)
    {f__law_box : Addr}
    {od__law_box an__law_box : Option Addr}
    {sl__law_box : Array (Option Value)}
    {oc__law_box kV__law_box dc__law_box pm__law_box cd__law_box ct__law_box : Value}
    (a__law_box : PySem.W.nsIn K mainGlobals ("_law_box" : Str) = some (some (.ref f__law_box)))
    (l__law_box : K.lookup f__law_box = some ⟨oc__law_box, od__law_box, .func (PySem.W.fnOf ("_law_box" : Str) ("_law_box" : Str) (defArgs s__law_box) (defBody s__law_box) (defScope s__law_box) .none kV__law_box dc__law_box pm__law_box an__law_box cd__law_box ct__law_box), sl__law_box⟩)
    (c__law_box : PySem.W.codeIn K cd__law_box ("_law_box" : Str) = true)
    (k__law_box : PySem.W.keepIn K (.ref f__law_box) = true)
    {f__law_take : Addr}
    {od__law_take an__law_take : Option Addr}
    {sl__law_take : Array (Option Value)}
    {oc__law_take kV__law_take dc__law_take pm__law_take cd__law_take ct__law_take : Value}
    (a__law_take : PySem.W.nsIn K mainGlobals ("_law_take" : Str) = some (some (.ref f__law_take)))
    (l__law_take : K.lookup f__law_take = some ⟨oc__law_take, od__law_take, .func (PySem.W.fnOf ("_law_take" : Str) ("_law_take" : Str) (defArgs s__law_take) (defBody s__law_take) (defScope s__law_take) .none kV__law_take dc__law_take pm__law_take an__law_take cd__law_take ct__law_take), sl__law_take⟩)
    (c__law_take : PySem.W.codeIn K cd__law_take ("_law_take" : Str) = true)
    (k__law_take : PySem.W.keepIn K (.ref f__law_take) = true)
    {f__law_of : Addr}
    {od__law_of an__law_of : Option Addr}
    {sl__law_of : Array (Option Value)}
    {oc__law_of kV__law_of dc__law_of pm__law_of cd__law_of ct__law_of : Value}
    (a__law_of : PySem.W.nsIn K mainGlobals ("_law_of" : Str) = some (some (.ref f__law_of)))
    (l__law_of : K.lookup f__law_of = some ⟨oc__law_of, od__law_of, .func (PySem.W.fnOf ("_law_of" : Str) ("_law_of" : Str) (defArgs s__law_of) (defBody s__law_of) (defScope s__law_of) .none kV__law_of dc__law_of pm__law_of an__law_of cd__law_of ct__law_of), sl__law_of⟩)
    (c__law_of : PySem.W.codeIn K cd__law_of ("_law_of" : Str) = true)
    (k__law_of : PySem.W.keepIn K (.ref f__law_of) = true)
    {f__law_same : Addr}
    {od__law_same an__law_same : Option Addr}
    {sl__law_same : Array (Option Value)}
    {oc__law_same kV__law_same dc__law_same pm__law_same cd__law_same ct__law_same : Value}
    (a__law_same : PySem.W.nsIn K mainGlobals ("_law_same" : Str) = some (some (.ref f__law_same)))
    (l__law_same : K.lookup f__law_same = some ⟨oc__law_same, od__law_same, .func (PySem.W.fnOf ("_law_same" : Str) ("_law_same" : Str) (defArgs s__law_same) (defBody s__law_same) (defScope s__law_same) .none kV__law_same dc__law_same pm__law_same an__law_same cd__law_same ct__law_same), sl__law_same⟩)
    (c__law_same : PySem.W.codeIn K cd__law_same ("_law_same" : Str) = true)
    (k__law_same : PySem.W.keepIn K (.ref f__law_same) = true)
    {f__law_pick : Addr}
    {od__law_pick an__law_pick : Option Addr}
    {sl__law_pick : Array (Option Value)}
    {oc__law_pick kV__law_pick dc__law_pick pm__law_pick cd__law_pick ct__law_pick : Value}
    (a__law_pick : PySem.W.nsIn K mainGlobals ("_law_pick" : Str) = some (some (.ref f__law_pick)))
    (l__law_pick : K.lookup f__law_pick = some ⟨oc__law_pick, od__law_pick, .func (PySem.W.fnOf ("_law_pick" : Str) ("_law_pick" : Str) (defArgs s__law_pick) (defBody s__law_pick) (defScope s__law_pick) .none kV__law_pick dc__law_pick pm__law_pick an__law_pick cd__law_pick ct__law_pick), sl__law_pick⟩)
    (c__law_pick : PySem.W.codeIn K cd__law_pick ("_law_pick" : Str) = true)
    (k__law_pick : PySem.W.keepIn K (.ref f__law_pick) = true)
    {f__law_tags : Addr}
    {od__law_tags an__law_tags : Option Addr}
    {sl__law_tags : Array (Option Value)}
    {oc__law_tags kV__law_tags dc__law_tags pm__law_tags cd__law_tags ct__law_tags : Value}
    (a__law_tags : PySem.W.nsIn K mainGlobals ("_law_tags" : Str) = some (some (.ref f__law_tags)))
    (l__law_tags : K.lookup f__law_tags = some ⟨oc__law_tags, od__law_tags, .func (PySem.W.fnOf ("_law_tags" : Str) ("_law_tags" : Str) (defArgs s__law_tags) (defBody s__law_tags) (defScope s__law_tags) .none kV__law_tags dc__law_tags pm__law_tags an__law_tags cd__law_tags ct__law_tags), sl__law_tags⟩)
    (c__law_tags : PySem.W.codeIn K cd__law_tags ("_law_tags" : Str) = true)
    (k__law_tags : PySem.W.keepIn K (.ref f__law_tags) = true)
    {f__law_sure : Addr}
    {od__law_sure an__law_sure : Option Addr}
    {sl__law_sure : Array (Option Value)}
    {oc__law_sure kV__law_sure dc__law_sure pm__law_sure cd__law_sure ct__law_sure : Value}
    (a__law_sure : PySem.W.nsIn K mainGlobals ("_law_sure" : Str) = some (some (.ref f__law_sure)))
    (l__law_sure : K.lookup f__law_sure = some ⟨oc__law_sure, od__law_sure, .func (PySem.W.fnOf ("_law_sure" : Str) ("_law_sure" : Str) (defArgs s__law_sure) (defBody s__law_sure) (defScope s__law_sure) .none kV__law_sure dc__law_sure pm__law_sure an__law_sure cd__law_sure ct__law_sure), sl__law_sure⟩)
    (c__law_sure : PySem.W.codeIn K cd__law_sure ("_law_sure" : Str) = true)
    (k__law_sure : PySem.W.keepIn K (.ref f__law_sure) = true)
    {f__law_less : Addr}
    {od__law_less an__law_less : Option Addr}
    {sl__law_less : Array (Option Value)}
    {oc__law_less kV__law_less dc__law_less pm__law_less cd__law_less ct__law_less : Value}
    (a__law_less : PySem.W.nsIn K mainGlobals ("_law_less" : Str) = some (some (.ref f__law_less)))
    (l__law_less : K.lookup f__law_less = some ⟨oc__law_less, od__law_less, .func (PySem.W.fnOf ("_law_less" : Str) ("_law_less" : Str) (defArgs s__law_less) (defBody s__law_less) (defScope s__law_less) .none kV__law_less dc__law_less pm__law_less an__law_less cd__law_less ct__law_less), sl__law_less⟩)
    (c__law_less : PySem.W.codeIn K cd__law_less ("_law_less" : Str) = true)
    (k__law_less : PySem.W.keepIn K (.ref f__law_less) = true)
    {f__law_busy : Addr}
    {od__law_busy an__law_busy : Option Addr}
    {sl__law_busy : Array (Option Value)}
    {oc__law_busy kV__law_busy dc__law_busy pm__law_busy cd__law_busy ct__law_busy : Value}
    (a__law_busy : PySem.W.nsIn K mainGlobals ("_law_busy" : Str) = some (some (.ref f__law_busy)))
    (l__law_busy : K.lookup f__law_busy = some ⟨oc__law_busy, od__law_busy, .func (PySem.W.fnOf ("_law_busy" : Str) ("_law_busy" : Str) (defArgs s__law_busy) (defBody s__law_busy) (defScope s__law_busy) .none kV__law_busy dc__law_busy pm__law_busy an__law_busy cd__law_busy ct__law_busy), sl__law_busy⟩)
    (c__law_busy : PySem.W.codeIn K cd__law_busy ("_law_busy" : Str) = true)
    (k__law_busy : PySem.W.keepIn K (.ref f__law_busy) = true)
    {f__law_due : Addr}
    {od__law_due an__law_due : Option Addr}
    {sl__law_due : Array (Option Value)}
    {oc__law_due kV__law_due dc__law_due pm__law_due cd__law_due ct__law_due : Value}
    (a__law_due : PySem.W.nsIn K mainGlobals ("_law_due" : Str) = some (some (.ref f__law_due)))
    (l__law_due : K.lookup f__law_due = some ⟨oc__law_due, od__law_due, .func (PySem.W.fnOf ("_law_due" : Str) ("_law_due" : Str) (defArgs s__law_due) (defBody s__law_due) (defScope s__law_due) .none kV__law_due dc__law_due pm__law_due an__law_due cd__law_due ct__law_due), sl__law_due⟩)
    (c__law_due : PySem.W.codeIn K cd__law_due ("_law_due" : Str) = true)
    (k__law_due : PySem.W.keepIn K (.ref f__law_due) = true)
    {f__law_case_right : Addr}
    {od__law_case_right an__law_case_right : Option Addr}
    {sl__law_case_right : Array (Option Value)}
    {oc__law_case_right kV__law_case_right dc__law_case_right pm__law_case_right cd__law_case_right ct__law_case_right : Value}
    (a__law_case_right : PySem.W.nsIn K mainGlobals ("_law_case_right" : Str) = some (some (.ref f__law_case_right)))
    (l__law_case_right : K.lookup f__law_case_right = some ⟨oc__law_case_right, od__law_case_right, .func (PySem.W.fnOf ("_law_case_right" : Str) ("_law_case_right" : Str) (defArgs s__law_case_right) (defBody s__law_case_right) (defScope s__law_case_right) .none kV__law_case_right dc__law_case_right pm__law_case_right an__law_case_right cd__law_case_right ct__law_case_right), sl__law_case_right⟩)
    (c__law_case_right : PySem.W.codeIn K cd__law_case_right ("_law_case_right" : Str) = true)
    (k__law_case_right : PySem.W.keepIn K (.ref f__law_case_right) = true)
    {f__law_by_hand_right : Addr}
    {od__law_by_hand_right an__law_by_hand_right : Option Addr}
    {sl__law_by_hand_right : Array (Option Value)}
    {oc__law_by_hand_right kV__law_by_hand_right dc__law_by_hand_right pm__law_by_hand_right cd__law_by_hand_right ct__law_by_hand_right : Value}
    (a__law_by_hand_right : PySem.W.nsIn K mainGlobals ("_law_by_hand_right" : Str) = some (some (.ref f__law_by_hand_right)))
    (l__law_by_hand_right : K.lookup f__law_by_hand_right = some ⟨oc__law_by_hand_right, od__law_by_hand_right, .func (PySem.W.fnOf ("_law_by_hand_right" : Str) ("_law_by_hand_right" : Str) (defArgs s__law_by_hand_right) (defBody s__law_by_hand_right) (defScope s__law_by_hand_right) .none kV__law_by_hand_right dc__law_by_hand_right pm__law_by_hand_right an__law_by_hand_right cd__law_by_hand_right ct__law_by_hand_right), sl__law_by_hand_right⟩)
    (c__law_by_hand_right : PySem.W.codeIn K cd__law_by_hand_right ("_law_by_hand_right" : Str) = true)
    (k__law_by_hand_right : PySem.W.keepIn K (.ref f__law_by_hand_right) = true)
    {f__law_right : Addr}
    {od__law_right an__law_right : Option Addr}
    {sl__law_right : Array (Option Value)}
    {oc__law_right kV__law_right dc__law_right pm__law_right cd__law_right ct__law_right : Value}
    (a__law_right : PySem.W.nsIn K mainGlobals ("_law_right" : Str) = some (some (.ref f__law_right)))
    (l__law_right : K.lookup f__law_right = some ⟨oc__law_right, od__law_right, .func (PySem.W.fnOf ("_law_right" : Str) ("_law_right" : Str) (defArgs s__law_right) (defBody s__law_right) (defScope s__law_right) .none kV__law_right dc__law_right pm__law_right an__law_right cd__law_right ct__law_right), sl__law_right⟩)
    (c__law_right : PySem.W.codeIn K cd__law_right ("_law_right" : Str) = true)
    (k__law_right : PySem.W.keepIn K (.ref f__law_right) = true)
    {f_numbered : Addr}
    {od_numbered an_numbered : Option Addr}
    {sl_numbered : Array (Option Value)}
    {oc_numbered kV_numbered dc_numbered pm_numbered cd_numbered ct_numbered : Value}
    (a_numbered : PySem.W.nsIn K mainGlobals ("numbered" : Str) = some (some (.ref f_numbered)))
    (l_numbered : K.lookup f_numbered = some ⟨oc_numbered, od_numbered, .func (PySem.W.fnOf ("numbered" : Str) ("numbered" : Str) (defArgs s_numbered) (defBody s_numbered) (defScope s_numbered) .none kV_numbered dc_numbered pm_numbered an_numbered cd_numbered ct_numbered), sl_numbered⟩)
    (c_numbered : PySem.W.codeIn K cd_numbered ("numbered" : Str) = true)
    (k_numbered : PySem.W.keepIn K (.ref f_numbered) = true)
    {f__law_cells : Addr}
    {od__law_cells an__law_cells : Option Addr}
    {sl__law_cells : Array (Option Value)}
    {oc__law_cells kV__law_cells dc__law_cells pm__law_cells cd__law_cells ct__law_cells : Value}
    (a__law_cells : PySem.W.nsIn K mainGlobals ("_law_cells" : Str) = some (some (.ref f__law_cells)))
    (l__law_cells : K.lookup f__law_cells = some ⟨oc__law_cells, od__law_cells, .func (PySem.W.fnOf ("_law_cells" : Str) ("_law_cells" : Str) (defArgs s__law_cells) (defBody s__law_cells) (defScope s__law_cells) .none kV__law_cells dc__law_cells pm__law_cells an__law_cells cd__law_cells ct__law_cells), sl__law_cells⟩)
    (c__law_cells : PySem.W.codeIn K cd__law_cells ("_law_cells" : Str) = true)
    (k__law_cells : PySem.W.keepIn K (.ref f__law_cells) = true)
    {od_law an_law : Option Addr}
    {sl_law : Array (Option Value)}
    {oc_law kV_law dc_law pm_law cd_law ct_law : Value}
    {f_law : Addr}
    (a_law : PySem.W.nsIn K mainGlobals ("law" : Str) = some (some (.ref f_law)))
    (l_law : K.lookup f_law = some ⟨oc_law, od_law, .func (PySem.W.fnOf "law" "law" (defArgs s_law) (defBody s_law) (defScope s_law) .none kV_law dc_law pm_law an_law cd_law ct_law), sl_law⟩)
    (c_law : PySem.W.codeIn K cd_law "law" = true)
    (k_law : PySem.W.keepIn K (.ref f_law) = true)
    {C Tt e0 : Addr}
    {odT odE : Option Addr}
    {slT slE : Array (Option Value)}
    {ocT : Value}
    {nT nE : Nat}
    {f_i : Addr}
    {od_i an_i : Option Addr}
    {sl_i : Array (Option Value)}
    {oc_i kV_i dc_i pm_i cd_i ct_i : Value}
    (a_C : PySem.W.nsIn K mainGlobals ("Program" : Str) = some (some (.ref C)))
    (a_i : PySem.W.findIn K (.ref C) "__init__" = some (some (.ref f_i)))
    (i_i : PySem.W.isFn K (.ref f_i) = true)
    (l_i : K.lookup f_i = some ⟨oc_i, od_i, .func (PySem.W.fnOf ("__init__" : Str) ("Program.__init__" : Str) (defArgs s_init) (defBody s_init) (defScope s_init) (.ref Tt) kV_i dc_i pm_i an_i cd_i ct_i), sl_i⟩)
    (c_i : PySem.W.codeIn K cd_i ("Program.__init__" : Str) = true)
    (k_i : PySem.W.keepIn K (.ref f_i) = true)
    (l_T : K.lookup Tt = some ⟨ocT, odT, .seq #[.ref e0] nT, slT⟩)
    (l_E : K.lookup e0 = some ⟨.type "tuple", odE, .seq #[] nE, slE⟩)
    (pg : PySem.W.plainGet K C Str.empty = true)
    (hd : PySem.W.hasDictIn K C = true)
    (po : PySem.W.plainOver K C = true)
    (sa : PySem.W.findIn K (.ref C) "__setattr__" = some (some (.builtin "object.__setattr__")))
    (mk : PySem.W.makesIn K C = true)
    (kc : PySem.W.keepIn K (.ref C) = true)
    (n_1 : PySem.W.findIn K (.ref C) "_deeds" = some none)
    (n_2 : PySem.W.findIn K (.ref C) "_writes" = some none)
    (n_3 : PySem.W.findIn K (.ref C) "_lines" = some none)
    (ha : PySem.W.findIn K (.ref C) "__class__" = some (some (.builtin "object.__class__")))
    (hn : PySem.W.specialIn K (.builtin "object.__class__") "__get__" = some (some (.builtin "getset_descriptor.__get__")))
    (htk : PySem.W.takesIn K (.builtin "object.__class__") = some true)
    (hm : PySem.W.mroIn K C (.type "object") = some true)
    (q_str : PySem.W.subIn K (.ref C) (.type "str") = some false)
    (q_int : PySem.W.subIn K (.ref C) (.type "int") = some false)
    (q_bool : PySem.W.subIn K (.ref C) (.type "bool") = some false)
    (q_list : PySem.W.subIn K (.ref C) (.type "list") = some false)
    (q_tuple : PySem.W.subIn K (.ref C) (.type "tuple") = some false)
    (ne_C : PySem.W.findIn K (.ref C) "__ne__" = some (some (.builtin "object.__ne__")))
    (nf_C : PySem.W.notFirst K C (.ref C) = true)
    (is_C : PySem.W.isClsIn K C = true)
    (ty_C : PySem.W.typeIn K (.ref C) = some (.type "type"))
    {f_mlen : Addr}
    {od_mlen an_mlen : Option Addr}
    {sl_mlen : Array (Option Value)}
    {oc_mlen kV_mlen dc_mlen pm_mlen cd_mlen ct_mlen : Value}
    (a_mlen : PySem.W.findIn K (.ref C) "__len__" = some (some (.ref f_mlen)))
    (i_mlen : PySem.W.isFn K (.ref f_mlen) = true)
    (f_mlen_ : PySem.W.fnIn K f_mlen = true)
    (l_mlen : K.lookup f_mlen = some ⟨oc_mlen, od_mlen, .func (PySem.W.fnOf ("__len__" : Str) ("Program.__len__" : Str) (defArgs s_Program___len__) (defBody s_Program___len__) (defScope s_Program___len__) .none kV_mlen dc_mlen pm_mlen an_mlen cd_mlen ct_mlen), sl_mlen⟩)
    (c_mlen : PySem.W.codeIn K cd_mlen ("Program.__len__" : Str) = true)
    (k_mlen : PySem.W.keepIn K (.ref f_mlen) = true)
    {f_sof : Addr}
    {od_sof an_sof : Option Addr}
    {sl_sof : Array (Option Value)}
    {oc_sof kV_sof dc_sof pm_sof cd_sof ct_sof : Value}
    {p_of : Addr}
    {rs_of : List Value}
    (tg_C : PySem.W.specialIn K (.ref C) "__getattribute__" = some (some (.builtin "type.__getattribute__")))
    (rd_C : PySem.W.readsIn K C (.type "type") = true)
    (fc_of : PySem.W.findCls K (.ref C) (.type "type") "of" = some (.get (.builtin "staticmethod.__get__") (.ref p_of) .none (.ref C)))
    (r_sof : PySem.W.recIn K p_of "staticmethod" = some (.ref f_sof :: rs_of))
    (l_sof : K.lookup f_sof = some ⟨oc_sof, od_sof, .func (PySem.W.fnOf ("of" : Str) ("Program.of" : Str) (defArgs s_Program_of) (defBody s_Program_of) (defScope s_Program_of) .none kV_sof dc_sof pm_sof an_sof cd_sof ct_sof), sl_sof⟩)
    (c_sof : PySem.W.codeIn K cd_sof ("Program.of" : Str) = true)
    (k_sof : PySem.W.keepIn K (.ref f_sof) = true)
    {f_pdeeds : Addr}
    {od_pdeeds an_pdeeds : Option Addr}
    {sl_pdeeds : Array (Option Value)}
    {oc_pdeeds kV_pdeeds dc_pdeeds pm_pdeeds cd_pdeeds ct_pdeeds : Value}
    {p_deeds : Addr}
    {rs_deeds : List Value}
    (a_pdeeds : PySem.W.findIn K (.ref C) "deeds" = some (some (.ref p_deeds)))
    (g_pdeeds : PySem.W.specialIn K (.ref p_deeds) "__get__" = some (some (.builtin "property.__get__")))
    (t_pdeeds : PySem.W.takesIn K (.ref p_deeds) = some true)
    (r_pdeeds : PySem.W.recIn K p_deeds "property" = some (.ref f_pdeeds :: rs_deeds))
    (l_pdeeds : K.lookup f_pdeeds = some ⟨oc_pdeeds, od_pdeeds, .func (PySem.W.fnOf ("deeds" : Str) ("Program.deeds" : Str) (defArgs s_Program_deeds) (defBody s_Program_deeds) (defScope s_Program_deeds) .none kV_pdeeds dc_pdeeds pm_pdeeds an_pdeeds cd_pdeeds ct_pdeeds), sl_pdeeds⟩)
    (c_pdeeds : PySem.W.codeIn K cd_pdeeds ("Program.deeds" : Str) = true)
    (k_pdeeds : PySem.W.keepIn K (.ref f_pdeeds) = true)
    {f_eNoPlace : Addr}
    {od_eNoPlace an_eNoPlace : Option Addr}
    {sl_eNoPlace : Array (Option Value)}
    {oc_eNoPlace kV_eNoPlace dc_eNoPlace pm_eNoPlace cd_eNoPlace ct_eNoPlace : Value}
    {C_NoPlace N_NoPlace : Addr}
    {nm_NoPlace qn_NoPlace : Str}
    {bs_NoPlace sb_NoPlace : List Value}
    {sn_NoPlace : List Str}
    {ab_NoPlace : Bool}
    {co_NoPlace : Option Bool}
    {dd_NoPlace : Option Addr}
    {m0_NoPlace m1_NoPlace m2_NoPlace m3_NoPlace m5_NoPlace : Option Value}
    (a_NoPlace : PySem.W.nsIn K mainGlobals "NoPlace" = some (some (.ref C_NoPlace)))
    (x_NoPlace : K.lookup C_NoPlace = some (excClassObj nm_NoPlace qn_NoPlace C_NoPlace N_NoPlace bs_NoPlace [.type "LookupError", .type "Exception", .type "BaseException", .type "object"] true sn_NoPlace sb_NoPlace ab_NoPlace co_NoPlace dd_NoPlace m0_NoPlace m1_NoPlace m2_NoPlace m3_NoPlace m5_NoPlace "LookupError.__new__"))
    (sa_NoPlace : PySem.W.findIn K (.ref C_NoPlace) "__setattr__" = some (some (.builtin "object.__setattr__")))
    (ga_NoPlace : PySem.W.findIn K (.ref C_NoPlace) "__getattribute__" = some (some (.builtin "BaseException.__getattribute__")))
    (gg_NoPlace : PySem.W.findIn K (.ref C_NoPlace) "__getattr__" = some none)
    (no_NoPlace : PySem.W.findIn K (.ref C_NoPlace) "place" = some none)
    (a_eNoPlace : PySem.W.findIn K (.ref C_NoPlace) "__init__" = some (some (.ref f_eNoPlace)))
    (t_eNoPlace : PySem.W.typeIn K (.ref f_eNoPlace) = some (.type "function"))
    (l_eNoPlace : K.lookup f_eNoPlace = some ⟨oc_eNoPlace, od_eNoPlace, .func (PySem.W.fnOf ("__init__" : Str) ("NoPlace.__init__" : Str) (defArgs s_NoPlace___init__) (defBody s_NoPlace___init__) (defScope s_NoPlace___init__) .none kV_eNoPlace dc_eNoPlace pm_eNoPlace an_eNoPlace cd_eNoPlace ct_eNoPlace), sl_eNoPlace⟩)
    (c_eNoPlace : PySem.W.codeIn K cd_eNoPlace ("NoPlace.__init__" : Str) = true)
    (k_eNoPlace : PySem.W.keepIn K (.ref f_eNoPlace) = true)
    (kk_NoPlace : PySem.W.keepIn K (.ref C_NoPlace) = true)
    (eb_NoPlace : PySem.W.subIn K (.ref C_NoPlace) (.type "BaseException") = some true)
    (ty_NoPlace : PySem.W.typeIn K (.ref C_NoPlace) = some (.type "type"))
    (hd_NoPlace : PySem.W.hasDictIn K C_NoPlace = true)
    (is_NoPlace : PySem.W.isClsIn K C_NoPlace = true)
    (ss_NoPlace : PySem.W.subIn K (.ref C_NoPlace) (.ref C_NoPlace) = some true)
    (cl_NoPlace : PySem.W.findIn K (.ref C_NoPlace) "__class__" = some (some (.builtin "object.__class__")))
    (ob_NoPlace : PySem.W.mroIn K C_NoPlace (.type "object") = some true)
    (lu_NoPlace : PySem.W.subIn K (.ref C_NoPlace) (.type "LookupError") = some true)
    {t_FLUSH : Tok}
    (g_FLUSH : PySem.W.nsIn K mainGlobals ("FLUSH" : Str) = some (some (.str ("flush" : Str) t_FLUSH)))
    {t_LETTERS : Tok}
    (g_LETTERS : PySem.W.nsIn K mainGlobals ("LETTERS" : Str) = some (some (.str ("abcdefghijklmnopqrstuvwxyz" : Str) t_LETTERS)))
    {t_WRITE : Tok}
    (g_WRITE : PySem.W.nsIn K mainGlobals ("WRITE" : Str) = some (some (.str ("write" : Str) t_WRITE)))
    (z_abs : PySem.W.nsIn K mainGlobals ("abs" : Str) = some none)
    (z_all : PySem.W.nsIn K mainGlobals ("all" : Str) = some none)
    (z_bool : PySem.W.nsIn K mainGlobals ("bool" : Str) = some none)
    (z_enumerate : PySem.W.nsIn K mainGlobals ("enumerate" : Str) = some none)
    (z_int : PySem.W.nsIn K mainGlobals ("int" : Str) = some none)
    (z_isinstance : PySem.W.nsIn K mainGlobals ("isinstance" : Str) = some none)
    (z_len : PySem.W.nsIn K mainGlobals ("len" : Str) = some none)
    (z_list : PySem.W.nsIn K mainGlobals ("list" : Str) = some none)
    (z_range : PySem.W.nsIn K mainGlobals ("range" : Str) = some none)
    (z_sorted : PySem.W.nsIn K mainGlobals ("sorted" : Str) = some none)
    (z_str : PySem.W.nsIn K mainGlobals ("str" : Str) = some none)
    (z_tuple : PySem.W.nsIn K mainGlobals ("tuple" : Str) = some none)
    (z_zip : PySem.W.nsIn K mainGlobals ("zip" : Str) = some none)
    : ∃ fd : FuncData, (∀ (s : Shared) (v : Value), BindsTo s fd ⟨[v], []⟩ [("_law_script", v)]) ∧ ∀ base : Heap, K.In base → base.Ns mainGlobals mg → FnOk l.prog w K mg base CX0 13 fa fd ["_law_script"] (spLaw K) := by
  have e := hfa.symm.trans (PySem.W.mg_of X G0 a_law)
  cases e
  have T : Tx mg := ⟨PySem.W.mg_none_of X G0 z_abs, PySem.W.mg_none_of X G0 z_all, PySem.W.mg_none_of X G0 z_bool, PySem.W.mg_none_of X G0 z_enumerate, PySem.W.mg_none_of X G0 z_int, PySem.W.mg_none_of X G0 z_isinstance, PySem.W.mg_none_of X G0 z_len, PySem.W.mg_none_of X G0 z_list, PySem.W.mg_none_of X G0 z_range, PySem.W.mg_none_of X G0 z_sorted, PySem.W.mg_none_of X G0 z_str, PySem.W.mg_none_of X G0 z_tuple, PySem.W.mg_none_of X G0 z_zip, ⟨_, PySem.W.mg_of X G0 g_FLUSH⟩, ⟨_, PySem.W.mg_of X G0 g_LETTERS⟩, ⟨_, PySem.W.mg_of X G0 g_WRITE⟩⟩
  have F_is_number_ := fun_mk (st := s_is_number) l_is_number c_is_number k_is_number
  have b_is_number := F_is_number_.binds (ps := [("thing" : Str)]) fun _ _ _ _ _ _ us hl => match us, hl with | [_], _ => rfl
  have F_is_pair_ := fun_mk (st := s_is_pair) l_is_pair c_is_pair k_is_pair
  have b_is_pair := F_is_pair_.binds (ps := [("thing" : Str)]) fun _ _ _ _ _ _ us hl => match us, hl with | [_], _ => rfl
  have F_is_name_ := fun_mk (st := s_is_name) l_is_name c_is_name k_is_name
  have b_is_name := F_is_name_.binds (ps := [("thing" : Str)]) fun _ _ _ _ _ _ us hl => match us, hl with | [_], _ => rfl
  have F_is_line_ := fun_mk (st := s_is_line) l_is_line c_is_line k_is_line
  have b_is_line := F_is_line_.binds (ps := [("thing" : Str)]) fun _ _ _ _ _ _ us hl => match us, hl with | [_], _ => rfl
  have F_tupled_ := fun_mk (st := s_tupled) l_tupled c_tupled k_tupled
  have b_tupled := F_tupled_.binds (ps := [("worth" : Str)]) fun _ _ _ _ _ _ us hl => match us, hl with | [_], _ => rfl
  have F_deed_in_ := fun_mk (st := s_deed_in) l_deed_in c_deed_in k_deed_in
  have b_deed_in := F_deed_in_.binds (ps := [("text" : Str)]) fun _ _ _ _ _ _ us hl => match us, hl with | [_], _ => rfl
  have F_check_place_ := fun_mk (st := s_check_place) l_check_place c_check_place k_check_place
  have b_check_place := F_check_place_.binds (ps := [("place" : Str), ("last" : Str)]) fun _ _ _ _ _ _ us hl => match us, hl with | [_, _], _ => rfl
  have F_counted_ := fun_mk (st := s_counted) l_counted c_counted k_counted
  have b_counted := F_counted_.binds (ps := [("many" : Str)]) fun _ _ _ _ _ _ us hl => match us, hl with | [_], _ => rfl
  have F_without_deed_ := fun_mk (st := s_without_deed) l_without_deed c_without_deed k_without_deed
  have b_without_deed := F_without_deed_.binds (ps := [("program" : Str), ("place" : Str)]) fun _ _ _ _ _ _ us hl => match us, hl with | [_, _], _ => rfl
  have F_table_of_ := fun_mk (st := s_table_of) l_table_of c_table_of k_table_of
  have b_table_of := F_table_of_.binds (ps := [("program" : Str)]) fun _ _ _ _ _ _ us hl => match us, hl with | [_], _ => rfl
  have F_flush_places_ := fun_mk (st := s_flush_places) l_flush_places c_flush_places k_flush_places
  have b_flush_places := F_flush_places_.binds (ps := [("program" : Str)]) fun _ _ _ _ _ _ us hl => match us, hl with | [_], _ => rfl
  have F_idle_flushes_ := fun_mk (st := s_idle_flushes) l_idle_flushes c_idle_flushes k_idle_flushes
  have b_idle_flushes := F_idle_flushes_.binds (ps := [("program" : Str)]) fun _ _ _ _ _ _ us hl => match us, hl with | [_], _ => rfl
  have F__law_box_ := fun_mk (st := s__law_box) l__law_box c__law_box k__law_box
  have b__law_box := F__law_box_.binds (ps := [("_law_script" : Str), ("_law_k" : Str)]) fun _ _ _ _ _ _ us hl => match us, hl with | [_, _], _ => rfl
  have F__law_take_ := fun_mk (st := s__law_take) l__law_take c__law_take k__law_take
  have b__law_take := F__law_take_.binds (ps := [("_law_urn" : Str), ("_law_low_so" : Str)]) fun _ _ _ _ _ _ us hl => match us, hl with | [_, _], _ => rfl
  have F__law_of_ := fun_mk (st := s__law_of) l__law_of c__law_of k__law_of
  have b__law_of := F__law_of_.binds (ps := [("_law_urn" : Str), ("_law_some_so" : Str)]) fun _ _ _ _ _ _ us hl => match us, hl with | [_, _], _ => rfl
  have F__law_same_ := fun_mk (st := s__law_same) l__law_same c__law_same k__law_same
  have b__law_same := F__law_same_.binds (ps := [("_law_got" : Str), ("_law_goal" : Str)]) fun _ _ _ _ _ _ us hl => match us, hl with | [_, _], _ => rfl
  have F__law_pick_ := fun_mk (st := s__law_pick) l__law_pick c__law_pick k__law_pick
  have b__law_pick := F__law_pick_.binds (ps := [("_law_urn" : Str), ("_law_goods_so" : Str), ("_law_many_so" : Str)]) fun _ _ _ _ _ _ us hl => match us, hl with | [_, _, _], _ => rfl
  have F__law_tags_ := fun_mk (st := s__law_tags) l__law_tags c__law_tags k__law_tags
  have b__law_tags := F__law_tags_.binds (ps := [("_law_urn" : Str), ("_law_many_so" : Str)]) fun _ _ _ _ _ _ us hl => match us, hl with | [_, _], _ => rfl
  have F__law_sure_ := fun_mk (st := s__law_sure) l__law_sure c__law_sure k__law_sure
  have b__law_sure := F__law_sure_.binds (ps := [("_law_deeds_so" : Str)]) fun _ _ _ _ _ _ us hl => match us, hl with | [_], _ => rfl
  have F__law_less_ := fun_mk (st := s__law_less) l__law_less c__law_less k__law_less
  have b__law_less := F__law_less_.binds (ps := [("_law_deeds_so" : Str), ("_law_places_so" : Str)]) fun _ _ _ _ _ _ us hl => match us, hl with | [_, _], _ => rfl
  have F__law_busy_ := fun_mk (st := s__law_busy) l__law_busy c__law_busy k__law_busy
  have b__law_busy := F__law_busy_.binds (ps := [("_law_urn" : Str), ("_law_tags_here" : Str), ("_law_size_so" : Str)]) fun _ _ _ _ _ _ us hl => match us, hl with | [_, _, _], _ => rfl
  have F__law_due_ := fun_mk (st := s__law_due) l__law_due c__law_due k__law_due
  have b__law_due := F__law_due_.binds (ps := [("_law_deeds_so" : Str)]) fun _ _ _ _ _ _ us hl => match us, hl with | [_], _ => rfl
  have F__law_case_right_ := fun_mk (st := s__law_case_right) l__law_case_right c__law_case_right k__law_case_right
  have b__law_case_right := F__law_case_right_.binds (ps := [("_law_deeds_so" : Str)]) fun _ _ _ _ _ _ us hl => match us, hl with | [_], _ => rfl
  have F__law_by_hand_right_ := fun_mk (st := s__law_by_hand_right) l__law_by_hand_right c__law_by_hand_right k__law_by_hand_right
  have b__law_by_hand_right := F__law_by_hand_right_.binds (ps := []) fun _ _ _ _ _ _ us hl => match us, hl with | [], _ => rfl
  have F__law_right_ := fun_mk (st := s__law_right) l__law_right c__law_right k__law_right
  have b__law_right := F__law_right_.binds (ps := [("_law_urn" : Str)]) fun _ _ _ _ _ _ us hl => match us, hl with | [_], _ => rfl
  have F_numbered_ := fun_mk (st := s_numbered) l_numbered c_numbered k_numbered
  have b_numbered := F_numbered_.binds (ps := [("writes" : Str)]) fun _ _ _ _ _ _ us hl => match us, hl with | [_], _ => rfl
  have F__law_cells_ := fun_mk (st := s__law_cells) l__law_cells c__law_cells k__law_cells
  have b__law_cells := F__law_cells_.binds (ps := [("_law_script" : Str), ("_law_top" : Str)]) fun _ _ _ _ _ _ us hl => match us, hl with | [_, _], _ => rfl
  have F_law_ := fun_mk (st := s_law) l_law c_law k_law
  have F_mlen_ := fun_mk (st := s_Program___len__) l_mlen c_mlen k_mlen
  have b_mlen := F_mlen_.binds (ps := [("self" : Str)]) fun _ _ _ _ _ _ us hl => match us, hl with | [_], _ => rfl
  have F_sof_ := fun_mk (st := s_Program_of) l_sof c_sof k_sof
  have b_sof := F_sof_.binds (ps := [("text" : Str)]) fun _ _ _ _ _ _ us hl => match us, hl with | [_], _ => rfl
  have F_pdeeds_ := fun_mk (st := s_Program_deeds) l_pdeeds c_pdeeds k_pdeeds
  have b_pdeeds := F_pdeeds_.binds (ps := [("self" : Str)]) fun _ _ _ _ _ _ us hl => match us, hl with | [_], _ => rfl
  have F_eNoPlace_ := fun_mk (st := s_NoPlace___init__) l_eNoPlace c_eNoPlace k_eNoPlace
  have b_eNoPlace := F_eNoPlace_.binds (ps := [("self" : Str), ("place" : Str)]) fun _ _ _ _ _ _ us hl => match us, hl with | [_, _], _ => rfl
  have cl : Cls K C := ⟨pg, hd, po, sa⟩
  have IO : InsOk K C := ⟨cl, ha, hn, htk, hm, kit_sub q_str (by decide +kernel), kit_sub q_int (by decide +kernel), kit_sub q_bool (by decide +kernel), kit_sub q_list (by decide +kernel), kit_sub q_tuple (by decide +kernel)⟩
  have EO_NoPlace : ErOk K C_NoPlace := ⟨⟨ga_NoPlace, gg_NoPlace, eb_NoPlace, hd_NoPlace, cl_NoPlace, hn, htk, ob_NoPlace⟩, ⟨ga_NoPlace, gg_NoPlace, eb_NoPlace, hd_NoPlace⟩, exm_self eb_NoPlace is_NoPlace ty_NoPlace ss_NoPlace⟩
  have OX_NoPlace : OxC K C_NoPlace "LookupError" "LookupError.__new__" "LookupError.__init__" [.type "LookupError", .type "Exception", .type "BaseException", .type "object"] := ⟨PySem.F.excBase_LookupError, PySem.F.store_LookupError, ⟨_, _, _, _, _, _, _, _, _, _, _, _, _, _, x_NoPlace⟩, sa_NoPlace, eb_NoPlace, ty_NoPlace, kk_NoPlace⟩
  let G : Gx K := ⟨fun c => if c = "Program" then some C else none, fun c C2 h2 => (by
    split at h2
    · cases h2; exact IO
    · cases h2), fun c => if c = ("NoPlace" : Str) then some C_NoPlace else none, fun c C2 h2 => (by
    split at h2
    · cases h2; exact EO_NoPlace
    · cases h2), fun y => none⟩
  have hGC : G.cls "Program" = some C := by
    show (if ("Program" : Str) = "Program" then some C else none) = some C
    exact if_pos rfl
  have hGA : ∀ c C2, G.cls c = some C2 → C2 = C := fun c C2 h2 => by
    have h2 : (if c = ("Program" : Str) then some C else none) = some C2 := h2
    split at h2
    · cases h2; rfl
    · cases h2
  have hGE_NoPlace : G.exc "NoPlace" = some C_NoPlace := by
    show (if ("NoPlace" : Str) = ("NoPlace" : Str) then some C_NoPlace else none) = some C_NoPlace
    rw [if_pos rfl]
  have mgo : ∀ {x : Str} {f : Addr}, PySem.W.nsIn K mainGlobals x = some (some (.ref f)) → mg x = some (.ref f) := fun h => PySem.W.mg_of X G0 h
  have TIx : TI K mg C := ⟨cl, n_1, n_2, n_3⟩
  have FI : FunD K ("__init__" : Str) ("Program.__init__" : Str) (defArgs s_init) (defBody s_init) (defScope s_init) [.ref e0] [] f_i _ := ⟨⟨oc_i, od_i, .ref Tt, kV_i, dc_i, pm_i, an_i, cd_i, ct_i, sl_i, rfl, l_i, c_i, .inr ⟨List.cons_ne_nil _ _, Tt, _, [.ref e0], nT, rfl, l_T, rfl, .cons rfl .nil⟩, .inl rfl⟩, k_i⟩
  obtain ⟨dsI, vI, bI⟩ := FI.binds1 (ps := [("self" : Str), ("deeds" : Str)]) 2 1 (List.cons_ne_nil _ _) rfl (fun _ _ _ _ _ _ _ us its hu hi => match us, its, hu, hi with | [_, _], [_], _, _ => ⟨_, rfl, rfl⟩)
  cases vI
  obtain ⟨ds0, vI0, bI0⟩ := FI.binds1 (ps := [("self" : Str), ("deeds" : Str)]) 1 0 (List.cons_ne_nil _ _) rfl (fun _ _ _ _ _ _ _ us its hu hi => match us, its, hu, hi with | [_], [_], _, _ => ⟨_, rfl, rfl⟩)
  have eI0 : ds0 = [.ref e0] := by
    cases vI0 with
    | cons a b => cases b; cases a; rfl
  rw [eI0] at bI0
  have FO__deeds : FldOk G ("Program" : Str) ("_deeds" : Str) := fun C2 h2 => by rw [hGA _ _ h2]; exact ⟨cl, n_1⟩
  have FO__writes : FldOk G ("Program" : Str) ("_writes" : Str) := fun C2 h2 => by rw [hGA _ _ h2]; exact ⟨cl, n_2⟩
  have FO__lines : FldOk G ("Program" : Str) ("_lines" : Str) := fun C2 h2 => by rw [hGA _ _ h2]; exact ⟨cl, n_3⟩
  have HC : ∃ C, G.cls ("Program" : Str) = some C ∧ mg ("Program" : Str) = some (.ref C) := ⟨C, hGC, mgo a_C⟩
  have TK : TyC G ("Program" : Str) := fun C2 h2 => by rw [hGA _ _ h2]; exact ⟨is_C, ty_C⟩
  have CN : ClsNF G ("Program" : Str) := fun C2 h2 c3 C3 h3 => by rw [hGA _ _ h2, hGA _ _ h3]; exact nf_C
  have NO : NeObj G ("Program" : Str) := fun C2 h2 => by rw [hGA _ _ h2]; exact ne_C
  have SL : SubL G ("Program" : Str) := fun C2 h2 => by rw [hGA _ _ h2]; exact q_list
  have HE_NoPlace : ∃ C, G.exc ("NoPlace" : Str) = some C ∧ mg ("NoPlace" : Str) = some (.ref C) := ⟨C_NoPlace, hGE_NoPlace, mgo a_NoPlace⟩
  have XF_NoPlace_place : ∀ C, G.exc ("NoPlace" : Str) = some C → PySem.W.findIn K (.ref C) ("place" : Str) = some none := fun C2 h2 => by cases hGE_NoPlace.symm.trans h2; exact no_NoPlace
  have KI_NoPlace_LookupError : ∀ C, G.exc ("NoPlace" : Str) = some C → PySem.W.kitOne K (.ref C) (.type "LookupError") = some true := fun C2 h2 => by cases hGE_NoPlace.symm.trans h2; exact kit_sub lu_NoPlace (by decide +kernel)
  refine ⟨PySem.W.fnOf "law" "law" (defArgs s_law) (defBody s_law) (defScope s_law) .none kV_law dc_law pm_law an_law cd_law ct_law, fun s v => .of_eq rfl, fun base _ _ => ?_⟩
  have D_is_number : DefOk l.prog w mg base G "is_number" 1 1 F_is_number := ⟨_, _, _, ok_is_number T F_is_number_, mgo a_is_number, k_is_number, b_is_number⟩
  have D_is_pair : DefOk l.prog w mg base G "is_pair" 1 1 F_is_pair := ⟨_, _, _, ok_is_pair T F_is_pair_, mgo a_is_pair, k_is_pair, b_is_pair⟩
  have D_is_name : DefOk l.prog w mg base G "is_name" 1 1 F_is_name := ⟨_, _, _, ok_is_name T F_is_name_, mgo a_is_name, k_is_name, b_is_name⟩
  have D_is_line : DefOk l.prog w mg base G "is_line" 2 1 F_is_line := ⟨_, _, _, ok_is_line T F_is_line_ D_is_name D_is_number D_is_pair, mgo a_is_line, k_is_line, b_is_line⟩
  have D_tupled : DefOk l.prog w mg base G "tupled" 6 1 (FR_tupled 6) := ⟨_, _, _, okR_tupled T F_tupled_ (mgo a_tupled) b_tupled 6, mgo a_tupled, k_tupled, b_tupled⟩
  have D_numbered : DefOk l.prog w mg base G "numbered" 1 1 F_numbered := ⟨_, _, _, ok_numbered T F_numbered_, mgo a_numbered, k_numbered, b_numbered⟩
  have U_tupled := fn_or (okR_tupled (P := l.prog) (w := w) (base := base) (G := G) T F_tupled_ (mgo a_tupled) b_tupled 6) ((ok_tupled0 (P := l.prog) (w := w) (base := base) T F_tupled_ (mgo a_tupled)).mono (by decide))
  have hInit := ok_init (G := G) T TIx FI U_tupled (mgo a_tupled) k_tupled b_tupled D_numbered
  have D_Program : MakeOk l.prog w mg base G "Program" 7 1 F_Program := make_ok ⟨mk, a_i, i_i, kc⟩ hInit (mgo a_C) bI hGC
  have M0_Program : MakeOk l.prog w mg base G "Program" 7 0 F_Program0 := make0_ok ⟨mk, a_i, i_i, kc⟩ hInit (mgo a_C) l_E rfl (fun H => .inr ⟨_, _, _, l_E, rfl, rfl, by decide, .nil⟩) bI0 hGC
  have MK_Program : MakeK l.prog w mg base G "Program" [("deeds" : Str)] 7 F_Program := makeK_ok ⟨mk, a_i, i_i, kc⟩ hInit (mgo a_C) (kb_init FI) hGC
  have E_NoPlace : ErMk l.prog w mg base G "NoPlace" "place" 1 F_NoPlace := ⟨C_NoPlace, f_eNoPlace, _, _, _, _, _, _, OX_NoPlace, a_eNoPlace, t_eNoPlace, ok_NoPlace___init__ T OX_NoPlace no_NoPlace F_eNoPlace_, b_eNoPlace, mgo a_NoPlace, hGE_NoPlace⟩
  have D_deed_in : DefOk l.prog w mg base G "deed_in" 2 1 F_deed_in := ⟨_, _, _, ok_deed_in T F_deed_in_ D_is_name, mgo a_deed_in, k_deed_in, b_deed_in⟩
  have P_deeds : PrpOk l.prog w mg base G "Program" "deeds" 1 F_Program_deeds := ⟨C, p_deeds, f_pdeeds, _, _, hGC, cl, ⟨a_pdeeds, g_pdeeds, t_pdeeds, ⟨_, r_pdeeds⟩⟩, ok_Program_deeds T F_pdeeds_ FO__deeds, b_pdeeds⟩
  have ST_of : StOk l.prog w mg base G "Program" "of" 9 1 F_Program_of := ⟨C, p_of, f_sof, _, _, mgo a_C, tg_C, rd_C, fc_of, ⟨_, r_sof⟩, ok_Program_of T F_sof_ D_Program M0_Program D_deed_in, k_sof, b_sof⟩
  have S___len__ : SpcOk l.prog w mg base G "Program" "__len__" 1 1 F_Program___len__ := ⟨C, f_mlen, _, _, hGC, a_mlen, i_mlen, f_mlen_, ok_Program___len__ T F_mlen_ FO__deeds, b_mlen⟩
  have DX_check_place : DefOkX l.prog w mg base G "check_place" 3 2 F_check_place := ⟨_, _, _, ok_check_place T F_check_place_ E_NoPlace, mgo a_check_place, k_check_place, b_check_place⟩
  have D_counted : DefOk l.prog w mg base G "counted" 1 1 F_counted := ⟨_, _, _, ok_counted T F_counted_, mgo a_counted, k_counted, b_counted⟩
  have DX_without_deed : DefOkX l.prog w mg base G "without_deed" 9 2 F_without_deed := ⟨_, _, _, ok_without_deed T F_without_deed_ P_deeds S___len__ D_Program DX_check_place, mgo a_without_deed, k_without_deed, b_without_deed⟩
  have D_table_of : DefOk l.prog w mg base G "table_of" 3 1 F_table_of := ⟨_, _, _, ok_table_of T F_table_of_ P_deeds D_counted, mgo a_table_of, k_table_of, b_table_of⟩
  have D_flush_places : DefOk l.prog w mg base G "flush_places" 3 1 F_flush_places := ⟨_, _, _, ok_flush_places T F_flush_places_ P_deeds, mgo a_flush_places, k_flush_places, b_flush_places⟩
  have D_idle_flushes : DefOk l.prog w mg base G "idle_flushes" 10 1 F_idle_flushes := ⟨_, _, _, ok_idle_flushes T F_idle_flushes_ DX_without_deed D_flush_places D_table_of, mgo a_idle_flushes, k_idle_flushes, b_idle_flushes⟩
  have KP_idle_flushes_0 : DefKp l.prog w mg base G "idle_flushes" [("program" : Str)] [0] 10 F_idle_flushes := ⟨_, _, _, ok_idle_flushes T F_idle_flushes_ DX_without_deed D_flush_places D_table_of, mgo a_idle_flushes, k_idle_flushes, fun s ws _ hl => match ws, hl with | [_], _ => .of_eq rfl⟩
  have DO_idle_flushes : DefOkO l.prog w mg base G "idle_flushes" 10 1 FO_idle_flushes := ⟨_, _, _, okO_idle_flushes T F_idle_flushes_ DX_without_deed D_flush_places D_table_of, mgo a_idle_flushes, k_idle_flushes, b_idle_flushes⟩
  have D__law_box : DefOk l.prog w mg base G "_law_box" 1 2 F__law_box := ⟨_, _, _, ok__law_box T F__law_box_, mgo a__law_box, k__law_box, b__law_box⟩
  have D__law_take : DefOk l.prog w mg base G "_law_take" 1 2 F__law_take := ⟨_, _, _, ok__law_take T F__law_take_, mgo a__law_take, k__law_take, b__law_take⟩
  have D__law_of : DefOk l.prog w mg base G "_law_of" 2 2 F__law_of := ⟨_, _, _, ok__law_of T F__law_of_ D__law_take, mgo a__law_of, k__law_of, b__law_of⟩
  have D__law_same : DefOk l.prog w mg base G "_law_same" 6 2 (FR__law_same 6) := ⟨_, _, _, okR__law_same T F__law_same_ (mgo a__law_same) b__law_same 6, mgo a__law_same, k__law_same, b__law_same⟩
  have D__law_pick : DefOk l.prog w mg base G "_law_pick" 2 3 F__law_pick := ⟨_, _, _, ok__law_pick T F__law_pick_ D__law_take, mgo a__law_pick, k__law_pick, b__law_pick⟩
  have D__law_tags : DefOk l.prog w mg base G "_law_tags" 3 2 F__law_tags := ⟨_, _, _, ok__law_tags T F__law_tags_ D__law_pick, mgo a__law_tags, k__law_tags, b__law_tags⟩
  have D__law_sure : DefOk l.prog w mg base G "_law_sure" 1 1 F__law_sure := ⟨_, _, _, ok__law_sure T F__law_sure_, mgo a__law_sure, k__law_sure, b__law_sure⟩
  have D__law_less : DefOk l.prog w mg base G "_law_less" 1 2 F__law_less := ⟨_, _, _, ok__law_less T F__law_less_, mgo a__law_less, k__law_less, b__law_less⟩
  have D__law_busy : DefOk l.prog w mg base G "_law_busy" 3 3 F__law_busy := ⟨_, _, _, ok__law_busy T F__law_busy_ D__law_of, mgo a__law_busy, k__law_busy, b__law_busy⟩
  have D__law_due : DefOk l.prog w mg base G "_law_due" 2 1 F__law_due := ⟨_, _, _, ok__law_due T F__law_due_ D__law_less D__law_sure, mgo a__law_due, k__law_due, b__law_due⟩
  have D__law_case_right : DefOk l.prog w mg base G "_law_case_right" 11 1 F__law_case_right := ⟨_, _, _, ok__law_case_right T F__law_case_right_ P_deeds D_Program D__law_due D__law_same D_idle_flushes KP_idle_flushes_0 DO_idle_flushes, mgo a__law_case_right, k__law_case_right, b__law_case_right⟩
  have D__law_by_hand_right : DefOk l.prog w mg base G "_law_by_hand_right" 11 0 F__law_by_hand_right := ⟨_, _, _, ok__law_by_hand_right T F__law_by_hand_right_ D__law_same D_idle_flushes ST_of, mgo a__law_by_hand_right, k__law_by_hand_right, b__law_by_hand_right⟩
  have D__law_right : DefOk l.prog w mg base G "_law_right" 12 1 F__law_right := ⟨_, _, _, ok__law_right T F__law_right_ D__law_busy D__law_case_right D__law_tags D__law_take, mgo a__law_right, k__law_right, b__law_right⟩
  exact ok_law T F_law_ (ok__law_cells F__law_cells_ T.n_list T.n_enumerate T.n_int) (mgo a__law_cells) k__law_cells b__law_cells (D__law_by_hand_right.mono (by decide)) (D__law_right.mono (by decide)) (D__law_box.mono (by decide))
end Lw76
open PySem PySem.W PyProof.Rows
set_option maxHeartbeats 0 in
theorem PySem.Challenge.cw_lateshown_k76_flushes_that_can_be_left_o_holds : PySem.Challenge.rw_lateshown_k76_flushes_that_can_be_left_o.Holds := by
  w_on; o_law; k_head; (case hw => w_witness2)
  k_fill
  refine L2.walk_of (l := PySem.Challenge.rw_lateshown_k76_flushes_that_can_be_left_o) (n := 63) (k := 13) (x := "_law_script") (CX := fun _ => L2.CX0) (sp := fun w => Lw76.spLaw _) rfl (by decide) rfl ⟨rfl, by decide, by decide⟩ (fun w h Y => PySem.W.kIn_of Y) ?F (fun _ _ a ns hl _ hS => ⟨a, ns, rfl, hS, hl, fun _ => rfl⟩) (fun _ _ _ _ _ h => h)
  case F =>
    intro w mg fa h KX G hmg
    refine' Lw76.all_mk KX G hmg ?a_is_number ?l_is_number ?c_is_number ?k_is_number ?a_is_pair ?l_is_pair ?c_is_pair ?k_is_pair ?a_is_name ?l_is_name ?c_is_name ?k_is_name ?a_is_line ?l_is_line ?c_is_line ?k_is_line ?a_tupled ?l_tupled ?c_tupled ?k_tupled ?a_deed_in ?l_deed_in ?c_deed_in ?k_deed_in ?a_check_place ?l_check_place ?c_check_place ?k_check_place ?a_counted ?l_counted ?c_counted ?k_counted ?a_without_deed ?l_without_deed ?c_without_deed ?k_without_deed ?a_table_of ?l_table_of ?c_table_of ?k_table_of ?a_flush_places ?l_flush_places ?c_flush_places ?k_flush_places ?a_idle_flushes ?l_idle_flushes ?c_idle_flushes ?k_idle_flushes ?a__law_box ?l__law_box ?c__law_box ?k__law_box ?a__law_take ?l__law_take ?c__law_take ?k__law_take ?a__law_of ?l__law_of ?c__law_of ?k__law_of ?a__law_same ?l__law_same ?c__law_same ?k__law_same ?a__law_pick ?l__law_pick ?c__law_pick ?k__law_pick ?a__law_tags ?l__law_tags ?c__law_tags ?k__law_tags ?a__law_sure ?l__law_sure ?c__law_sure ?k__law_sure ?a__law_less ?l__law_less ?c__law_less ?k__law_less ?a__law_busy ?l__law_busy ?c__law_busy ?k__law_busy ?a__law_due ?l__law_due ?c__law_due ?k__law_due ?a__law_case_right ?l__law_case_right ?c__law_case_right ?k__law_case_right ?a__law_by_hand_right ?l__law_by_hand_right ?c__law_by_hand_right ?k__law_by_hand_right ?a__law_right ?l__law_right ?c__law_right ?k__law_right ?a_numbered ?l_numbered ?c_numbered ?k_numbered ?a__law_cells ?l__law_cells ?c__law_cells ?k__law_cells ?a_law ?l_law ?c_law ?k_law ?a_C ?a_i ?i_i ?l_i ?c_i ?k_i ?l_T ?l_E ?pg ?hd ?po ?sa ?mk ?kc ?n_1 ?n_2 ?n_3 ?ha ?hn ?htk ?hm ?q_str ?q_int ?q_bool ?q_list ?q_tuple ?ne_C ?nf_C ?is_C ?ty_C ?a_mlen ?i_mlen ?f_mlen_ ?l_mlen ?c_mlen ?k_mlen ?tg_C ?rd_C ?fc_of ?r_sof ?l_sof ?c_sof ?k_sof ?a_pdeeds ?g_pdeeds ?t_pdeeds ?r_pdeeds ?l_pdeeds ?c_pdeeds ?k_pdeeds ?a_NoPlace ?x_NoPlace ?sa_NoPlace ?ga_NoPlace ?gg_NoPlace ?no_NoPlace ?a_eNoPlace ?t_eNoPlace ?l_eNoPlace ?c_eNoPlace ?k_eNoPlace ?kk_NoPlace ?eb_NoPlace ?ty_NoPlace ?hd_NoPlace ?is_NoPlace ?ss_NoPlace ?cl_NoPlace ?ob_NoPlace ?lu_NoPlace ?g_FLUSH ?g_LETTERS ?g_WRITE ?z_abs ?z_all ?z_bool ?z_enumerate ?z_int ?z_isinstance ?z_len ?z_list ?z_range ?z_sorted ?z_str ?z_tuple ?z_zip
    (case a_is_number => k_is)
    (case l_is_number => k_is)
    (case c_is_number => k_is)
    (case k_is_number => k_is)
    (case a_is_pair => k_is)
    (case l_is_pair => k_is)
    (case c_is_pair => k_is)
    (case k_is_pair => k_is)
    (case a_is_name => k_is)
    (case l_is_name => k_is)
    (case c_is_name => k_is)
    (case k_is_name => k_is)
    (case a_is_line => k_is)
    (case l_is_line => k_is)
    (case c_is_line => k_is)
    (case k_is_line => k_is)
    (case a_tupled => k_is)
    (case l_tupled => k_is)
    (case c_tupled => k_is)
    (case k_tupled => k_is)
    (case a_deed_in => k_is)
    (case l_deed_in => k_is)
    (case c_deed_in => k_is)
    (case k_deed_in => k_is)
    (case a_check_place => k_is)
    (case l_check_place => k_is)
    (case c_check_place => k_is)
    (case k_check_place => k_is)
    (case a_counted => k_is)
    (case l_counted => k_is)
    (case c_counted => k_is)
    (case k_counted => k_is)
    (case a_without_deed => k_is)
    (case l_without_deed => k_is)
    (case c_without_deed => k_is)
    (case k_without_deed => k_is)
    (case a_table_of => k_is)
    (case l_table_of => k_is)
    (case c_table_of => k_is)
    (case k_table_of => k_is)
    (case a_flush_places => k_is)
    (case l_flush_places => k_is)
    (case c_flush_places => k_is)
    (case k_flush_places => k_is)
    (case a_idle_flushes => k_is)
    (case l_idle_flushes => k_is)
    (case c_idle_flushes => k_is)
    (case k_idle_flushes => k_is)
    (case a__law_box => k_is)
    (case l__law_box => k_is)
    (case c__law_box => k_is)
    (case k__law_box => k_is)
    (case a__law_take => k_is)
    (case l__law_take => k_is)
    (case c__law_take => k_is)
    (case k__law_take => k_is)
    (case a__law_of => k_is)
    (case l__law_of => k_is)
    (case c__law_of => k_is)
    (case k__law_of => k_is)
    (case a__law_same => k_is)
    (case l__law_same => k_is)
    (case c__law_same => k_is)
    (case k__law_same => k_is)
    (case a__law_pick => k_is)
    (case l__law_pick => k_is)
    (case c__law_pick => k_is)
    (case k__law_pick => k_is)
    (case a__law_tags => k_is)
    (case l__law_tags => k_is)
    (case c__law_tags => k_is)
    (case k__law_tags => k_is)
    (case a__law_sure => k_is)
    (case l__law_sure => k_is)
    (case c__law_sure => k_is)
    (case k__law_sure => k_is)
    (case a__law_less => k_is)
    (case l__law_less => k_is)
    (case c__law_less => k_is)
    (case k__law_less => k_is)
    (case a__law_busy => k_is)
    (case l__law_busy => k_is)
    (case c__law_busy => k_is)
    (case k__law_busy => k_is)
    (case a__law_due => k_is)
    (case l__law_due => k_is)
    (case c__law_due => k_is)
    (case k__law_due => k_is)
    (case a__law_case_right => k_is)
    (case l__law_case_right => k_is)
    (case c__law_case_right => k_is)
    (case k__law_case_right => k_is)
    (case a__law_by_hand_right => k_is)
    (case l__law_by_hand_right => k_is)
    (case c__law_by_hand_right => k_is)
    (case k__law_by_hand_right => k_is)
    (case a__law_right => k_is)
    (case l__law_right => k_is)
    (case c__law_right => k_is)
    (case k__law_right => k_is)
    (case a_numbered => k_is)
    (case l_numbered => k_is)
    (case c_numbered => k_is)
    (case k_numbered => k_is)
    (case a__law_cells => k_is)
    (case l__law_cells => k_is)
    (case c__law_cells => k_is)
    (case k__law_cells => k_is)
    (case a_law => k_is)
    (case l_law => k_is)
    (case c_law => k_is)
    (case k_law => k_is)
    (case a_C => k_is)
    (case a_i => k_is)
    (case i_i => k_is)
    (case l_i => k_is)
    (case c_i => k_is)
    (case k_i => k_is)
    (case l_T => k_is)
    (case l_E => k_is)
    (case pg => k_is)
    (case hd => k_is)
    (case po => k_is)
    (case sa => k_is)
    (case mk => k_is)
    (case kc => k_is)
    (case n_1 => k_is)
    (case n_2 => k_is)
    (case n_3 => k_is)
    (case ha => k_is)
    (case hn => k_is)
    (case htk => k_is)
    (case hm => k_is)
    (case q_str => k_is)
    (case q_int => k_is)
    (case q_bool => k_is)
    (case q_list => k_is)
    (case q_tuple => k_is)
    (case ne_C => k_is)
    (case nf_C => k_is)
    (case is_C => k_is)
    (case ty_C => k_is)
    (case a_mlen => k_is)
    (case i_mlen => k_is)
    (case f_mlen_ => k_is)
    (case l_mlen => k_is)
    (case c_mlen => k_is)
    (case k_mlen => k_is)
    (case tg_C => k_is)
    (case rd_C => k_is)
    (case fc_of => k_is)
    (case r_sof => k_is)
    (case l_sof => k_is)
    (case c_sof => k_is)
    (case k_sof => k_is)
    (case a_pdeeds => k_is)
    (case g_pdeeds => k_is)
    (case t_pdeeds => k_is)
    (case r_pdeeds => k_is)
    (case l_pdeeds => k_is)
    (case c_pdeeds => k_is)
    (case k_pdeeds => k_is)
    (case a_NoPlace => k_is)
    (case x_NoPlace => k_is)
    (case sa_NoPlace => k_is)
    (case ga_NoPlace => k_is)
    (case gg_NoPlace => k_is)
    (case no_NoPlace => k_is)
    (case a_eNoPlace => k_is)
    (case t_eNoPlace => k_is)
    (case l_eNoPlace => k_is)
    (case c_eNoPlace => k_is)
    (case k_eNoPlace => k_is)
    (case kk_NoPlace => k_is)
    (case eb_NoPlace => k_is)
    (case ty_NoPlace => k_is)
    (case hd_NoPlace => k_is)
    (case is_NoPlace => k_is)
    (case ss_NoPlace => first | rfl | k_is)
    (case cl_NoPlace => k_is)
    (case ob_NoPlace => k_is)
    (case lu_NoPlace => k_is)
    (case g_FLUSH => k_is)
    (case g_LETTERS => k_is)
    (case g_WRITE => k_is)
    (case z_abs => k_is)
    (case z_all => k_is)
    (case z_bool => k_is)
    (case z_enumerate => k_is)
    (case z_int => k_is)
    (case z_isinstance => k_is)
    (case z_len => k_is)
    (case z_list => k_is)
    (case z_range => k_is)
    (case z_sorted => k_is)
    (case z_str => k_is)
    (case z_tuple => k_is)
    (case z_zip => k_is)
